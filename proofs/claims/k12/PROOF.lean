import PyProof.Rows.All
import KE.KIsAll
import PyProof.ExcAttrAll.ValueError
import KE.KTryMore
import PyProof.ReprStr
import PyProof.StrLawsRepr
import PyProof.StrWalks
import PyProof.PureStr
import Open.Head
import PyProof.Rows.StrWeight2
import KE.RegKIsAll
import Wide.All
import OpenK.AllK
import Wide.FinOn
import Lean
import PyProof.EqAt
import PyProof.EqKinds
import PyProof.TupleCall
import PyProof.NeKinds
import PyProof.EnumFor
import PyProof.EnumMake
import PyProof.CompFree
import PyProof.CompUse
import PyProof.CompMap
import KE.KMinKey
import KE.KIntText
import PyProof.ToksMono
import PyProof.StrLawsReplace
import PyProof.StrLawsTight
import PyProof.StrLawsIdx
import PyProof.StrBlockI
import PyProof.Rows.StrNews2
import PySem.Challenge.RW_zerofence_k12_lines_read_or_refused
set_option Elab.async false
set_option linter.all false
set_option maxRecDepth 100000
set_option maxHeartbeats 4000000
local macro_rules | `(tactic| omega) => `(tactic| lia)
namespace Zf

noncomputable def Bd (n : Nat) (x : Int) : Prop := x.natAbs < 2 ^ n
theorem Bd.mono {m n : Nat} {x : Int} (h : Bd m x) (l : m ≤ n) : Bd n x := Nat.lt_of_lt_of_le h (Nat.pow_le_pow_right (by decide) l)
theorem Bd.mul {m n : Nat} {x y : Int} (h : Bd m x) (k : Bd n y) : Bd (m + n) (x * y) := by
  unfold Bd at *
  rw [Int.natAbs_mul, Nat.pow_add]
  exact Nat.mul_lt_mul'' h k
theorem Bd.zero (n : Nat) : Bd n 0 := Nat.two_pow_pos n
theorem Bd.of_le {n : Nat} {x : Int} (m : Nat) (h : x.natAbs ≤ m) (k : m < 2 ^ n) : Bd n x := Nat.lt_of_le_of_lt h k

noncomputable def sumTo (f : Nat → Int) : Nat → Int
  | 0 => 0
  | n + 1 => sumTo f n + f n
theorem sumTo_succ (f : Nat → Int) (n : Nat) : sumTo f (n + 1) = sumTo f n + f n := rfl
theorem sumTo_congr {f g : Nat → Int} : ∀ {n : Nat}, (∀ k, k < n → f k = g k) → sumTo f n = sumTo g n
  | 0, _ => rfl
  | n + 1, h => by
    unfold sumTo
    rw [sumTo_congr fun k hk => h k (Nat.lt_succ_of_lt hk), h n (Nat.lt_succ_self n)]
theorem sumTo_left (f : Nat → Int) : ∀ n : Nat, sumTo f (n + 1) = f 0 + sumTo (fun k => f (k + 1)) n
  | 0 => by simp [sumTo]
  | n + 1 => by
    have := sumTo_left f n
    rw [sumTo, this]
    show _ = f 0 + (sumTo (fun k => f (k + 1)) n + f (n + 1))
    rw [Int.add_assoc]
theorem sumTo_add (f g : Nat → Int) : ∀ n : Nat, sumTo (fun k => f k + g k) n = sumTo f n + sumTo g n
  | 0 => rfl
  | n + 1 => by
    unfold sumTo
    rw [sumTo_add f g n]
    omega
theorem sumTo_mul (c : Int) (f : Nat → Int) : ∀ n : Nat, sumTo (fun k => c * f k) n = c * sumTo f n
  | 0 => by simp [sumTo]
  | n + 1 => by
    unfold sumTo
    rw [sumTo_mul c f n, Int.mul_add]
theorem sumTo_zero {f : Nat → Int} : ∀ {n : Nat}, (∀ k, k < n → f k = 0) → sumTo f n = 0
  | 0, _ => rfl
  | n + 1, h => by
    unfold sumTo
    rw [sumTo_zero fun k hk => h k (Nat.lt_succ_of_lt hk), h n (Nat.lt_succ_self n)]
    rfl

noncomputable def hv (p q : Int) : List Int → Int
  | [] => 0
  | c :: cs => hv p q cs * p + c * q ^ cs.length
end Zf

namespace Zf

noncomputable def ct (c : List Int) : Int := c.foldl (fun d x => ((Int.gcd d x : Nat) : Int)) 0

theorem getD_out' {c : List Int} {i : Nat} (h : c.length ≤ i) : c.getD i 0 = 0 := by
  rw [List.getD_eq_getElem?_getD, List.getElem?_eq_none h]
  rfl
theorem sumTo_rev (f : Nat → Int) : ∀ n : Nat, sumTo f n = sumTo (fun k => f (n - 1 - k)) n
  | 0 => rfl
  | n + 1 => by
    rw [sumTo_succ, sumTo_rev f n, sumTo_left]
    have : sumTo (fun k => f (n + 1 - 1 - (k + 1))) n = sumTo (fun k => f (n - 1 - k)) n := sumTo_congr fun k hk => by
      congr 1
      omega
    rw [this, Int.add_comm]
    rfl
end Zf

namespace Zf

noncomputable def PS := Nat → Int
namespace PS
@[ext] theorem ext {f g : PS} (h : ∀ t, f t = g t) : f = g := funext h
noncomputable def conv (f g : PS) : PS := fun t => sumTo (fun a => f a * g (t - a)) (t + 1)
noncomputable def C (k : Int) : PS := fun t => if t = 0 then k else 0
noncomputable instance : Add PS := ⟨fun f g t => f t + g t⟩
noncomputable instance : Neg PS := ⟨fun f t => - f t⟩
noncomputable instance : Sub PS := ⟨fun f g t => f t - g t⟩
noncomputable instance : Mul PS := ⟨conv⟩
noncomputable instance : NatCast PS := ⟨fun n => C n⟩
noncomputable instance : IntCast PS := ⟨fun n => C n⟩
noncomputable instance (n : Nat) : OfNat PS n := ⟨C n⟩
noncomputable instance : SMul Nat PS := ⟨fun n f => (n : PS) * f⟩
noncomputable instance : SMul Int PS := ⟨fun n f => (n : PS) * f⟩
noncomputable def pw (f : PS) : Nat → PS
  | 0 => 1
  | n + 1 => pw f n * f
noncomputable instance : HPow PS Nat PS := ⟨pw⟩
theorem add_at (f g : PS) (t : Nat) : (f + g) t = f t + g t := rfl
theorem sub_at (f g : PS) (t : Nat) : (f - g) t = f t - g t := rfl
theorem neg_at (f : PS) (t : Nat) : (-f) t = - f t := rfl
theorem mul_at (f g : PS) (t : Nat) : (f * g) t = sumTo (fun a => f a * g (t - a)) (t + 1) := rfl
theorem ofNat_at (n t : Nat) : (OfNat.ofNat n : PS) t = if t = 0 then (n : Int) else 0 := rfl
theorem zero_at (t : Nat) : (0 : PS) t = 0 := by
  rw [ofNat_at]
  split <;> rfl
theorem C_mul (k : Int) (f : PS) (t : Nat) : (C k * f) t = k * f t := by
  rw [mul_at, sumTo_left, sumTo_zero]
  · show (if (0 : Nat) = 0 then k else 0) * f (t - 0) + 0 = k * f t
    rw [if_pos rfl, Nat.sub_zero, Int.add_zero]
  · intro i _
    show (if i + 1 = 0 then k else 0) * _ = 0
    rw [if_neg (by omega), Int.zero_mul]
theorem mul_comm (f g : PS) : f * g = g * f := by
  ext t
  rw [mul_at, mul_at, sumTo_rev]
  refine sumTo_congr fun k hk => ?_
  have e1 : t + 1 - 1 - k = t - k := by omega
  have e2 : t - (t - k) = k := by omega
  rw [e1, e2, Int.mul_comm]
theorem mul_add (f g h : PS) : f * (g + h) = f * g + f * h := by
  ext t
  rw [add_at, mul_at, mul_at, mul_at, ← sumTo_add]
  exact sumTo_congr fun k _ => Int.mul_add ..
theorem tri (G : Nat → Nat → Int) : ∀ n : Nat, sumTo (fun a => sumTo (fun b => G a b) (a + 1)) n = sumTo (fun b => sumTo (fun c => G (b + c) b) (n - b)) n
  | 0 => rfl
  | n + 1 => by
    rw [sumTo_succ, tri G n]
    have e : sumTo (fun b => sumTo (fun c => G (b + c) b) (n + 1 - b)) (n + 1) = sumTo (fun b => sumTo (fun c => G (b + c) b) (n - b) + G n b) (n + 1) := sumTo_congr fun b hb => by
      have e1 : n + 1 - b = (n - b) + 1 := by omega
      rw [e1, sumTo_succ]
      have e2 : b + (n - b) = n := by omega
      rw [e2]
    rw [e, sumTo_add, sumTo_succ (fun b => sumTo (fun c => G (b + c) b) (n - b)) n, Nat.sub_self]
    rw [show (sumTo (fun c => G (n + c) n) 0) = 0 from rfl, Int.add_zero]
theorem mul_assoc (f g h : PS) : f * g * h = f * (g * h) := by
  ext t
  rw [mul_at, mul_at]
  have e1 : sumTo (fun a => (f * g) a * h (t - a)) (t + 1) = sumTo (fun a => sumTo (fun b => f b * g (a - b) * h (t - a)) (a + 1)) (t + 1) := sumTo_congr fun a _ => by
    rw [mul_at, Int.mul_comm, ← sumTo_mul]
    exact sumTo_congr fun b _ => Int.mul_comm ..
  have e2 : sumTo (fun b => f b * (g * h) (t - b)) (t + 1) = sumTo (fun b => sumTo (fun c => f b * g (b + c - b) * h (t - (b + c))) (t + 1 - b)) (t + 1) := sumTo_congr fun b hb => by
    rw [mul_at, ← sumTo_mul]
    have e : t + 1 - b = t - b + 1 := by omega
    rw [e]
    refine sumTo_congr fun c hc => ?_
    have e3 : b + c - b = c := by omega
    have e4 : t - (b + c) = t - b - c := by omega
    rw [e3, e4, Int.mul_assoc]
  rw [e1, e2]
  exact tri (fun a b => f b * g (a - b) * h (t - a)) (t + 1)
theorem C_add (a b : Int) : C (a + b) = C a + C b := by
  ext t
  show (if t = 0 then a + b else 0) = (if t = 0 then a else 0) + (if t = 0 then b else 0)
  split <;> rfl
theorem C_neg (a : Int) : C (-a) = - C a := by
  ext t
  show (if t = 0 then -a else 0) = -(if t = 0 then a else 0)
  split <;> rfl
noncomputable instance : Lean.Grind.CommRing PS where
  add_zero f := by ext t; rw [add_at, zero_at, Int.add_zero]
  add_comm f g := by ext t; rw [add_at, add_at, Int.add_comm]
  add_assoc f g h := by ext t; simp only [add_at]; omega
  mul_assoc := mul_assoc
  mul_one f := by ext t; rw [mul_comm]; exact (C_mul 1 f t).trans (Int.one_mul _)
  left_distrib := mul_add
  zero_mul f := by ext t; rw [zero_at]; exact (C_mul 0 f t).trans (Int.zero_mul _)
  mul_comm := mul_comm
  one_mul f := by ext t; exact (C_mul 1 f t).trans (Int.one_mul _)
  right_distrib f g h := by rw [mul_comm, mul_add, mul_comm h, mul_comm h]
  mul_zero f := by ext t; rw [mul_comm, zero_at]; exact (C_mul 0 f t).trans (Int.zero_mul _)
  pow_zero f := rfl
  pow_succ f n := rfl
  ofNat_succ n := by
    show C ((n + 1 : Nat) : Int) = C (n : Int) + C 1
    rw [← C_add]
    rfl
  ofNat_eq_natCast n := rfl
  nsmul_eq_natCast_mul n f := rfl
  neg_add_cancel f := by ext t; rw [add_at, neg_at, zero_at]; omega
  sub_eq_add_neg f g := by ext t; rw [add_at, neg_at, sub_at]; omega
  neg_zsmul n f := by
    show C (-n) * f = -(C n * f)
    ext t
    rw [C_mul, neg_at, C_mul, Int.neg_mul]
  zsmul_natCast_eq_nsmul n f := rfl
  intCast_ofNat n := rfl
  intCast_neg n := C_neg n
example (f g : PS) : (f + g) * (f - g) = f * f - g * g := by grind
end PS
end Zf

namespace Zf
open PS

noncomputable def co (c : List Int) : PS := fun t => c.getD t 0
theorem co_out {c : List Int} {t : Nat} (h : c.length ≤ t) : co c t = 0 := getD_out' h

noncomputable def GoodL (c : List Int) : Prop := c ≠ [] → c.getD (c.length - 1) 0 ≠ 0
theorem co_inj {c o : List Int} (hc : GoodL c) (ho : GoodL o) (h : co c = co o) : c = o := by
  have key : ∀ {c o : List Int}, GoodL c → co c = co o → c.length ≤ o.length := by
    intro c o hc h
    rcases Nat.lt_or_ge o.length c.length with hl | hl
    · have hne : c ≠ [] := fun z => by rw [z] at hl; exact absurd hl (by simp)
      have := congrFun h (c.length - 1)
      rw [co_out (c := o) (by omega)] at this
      exact absurd this (hc hne)
    · exact hl
  have hl : c.length = o.length := Nat.le_antisymm (key hc h) (key ho h.symm)
  refine List.ext_getElem hl fun i h1 h2 => ?_
  have := congrFun h i
  unfold co at this
  simpa [List.getD_eq_getElem?_getD, h1, h2] using this

noncomputable def Dg (n : Nat) (f : PS) : Prop := ∀ t, n ≤ t → f t = 0
theorem Dg.mono {m n : Nat} {f : PS} (h : Dg m f) (l : m ≤ n) : Dg n f := fun t ht => h t (by omega)
theorem Dg.C (k : Int) : Dg 1 (C k) := fun t ht => by
  show (if t = 0 then k else 0) = 0
  rw [if_neg (by omega)]

end Zf

namespace Zf
open PS

noncomputable def Trim (xs : List Int) (e : Nat) : Prop := e ≤ xs.length ∧ (∀ t, e ≤ t → xs.getD t 0 = 0) ∧ (e ≠ 0 → xs.getD (e - 1) 0 ≠ 0)
theorem take_getD (xs : List Int) (e t : Nat) : (xs.take e).getD t 0 = if t < e then xs.getD t 0 else 0 := by
  by_cases h : t < e
  · rw [if_pos h, List.getD_eq_getElem?_getD, List.getD_eq_getElem?_getD, List.getElem?_take_of_lt h]
  · rw [if_neg h, getD_out' (by rw [List.length_take]; omega)]
theorem Trim.co {xs : List Int} {e : Nat} (h : Trim xs e) : co (xs.take e) = co xs := by
  ext t
  show (xs.take e).getD t 0 = xs.getD t 0
  rw [take_getD]
  by_cases ht : t < e
  · rw [if_pos ht]
  · rw [if_neg ht, h.2.1 t (by omega)]
theorem Trim.length {xs : List Int} {e : Nat} (h : Trim xs e) : (xs.take e).length = e := by rw [List.length_take]; have := h.1; omega
theorem Trim.good {xs : List Int} {e : Nat} (h : Trim xs e) : GoodL (xs.take e) := by
  intro hne
  have he : e ≠ 0 := fun z => hne (by rw [z]; rfl)
  rw [h.length, take_getD, if_pos (by omega)]
  exact h.2.2 he
end Zf

namespace PySem

theorem wpT {α : Type} {M : Model} {A : Around} {t : Sem α} {Q : α → Shared → Prop} {E : Value → Shared → Prop} {s : Shared} (hn : 0 < s.toks)
    (h : wpAny M A t (fun a s' => 0 < s'.toks → Q a s') (fun e s' => 0 < s'.toks → E e s') s) : wpAny M A t Q E s :=
  wpAny_mono (wpAny_toks_of hn h) (fun _ _ z => z.2 z.1) fun _ _ z => z.2 z.1
theorem codeT {M : Model} {A : Around} {c : Code} {R : Result → Shared → Prop} {s : Shared} (hn : 0 < s.toks) (h : codeAny M A c (fun r s' => 0 < s'.toks → R r s') s) : codeAny M A c R s := fun Γ p e b => by
  obtain ⟨r, s', h1, h2⟩ := h Γ p e b
  exact ⟨r, s', h1, h2 (Nat.lt_of_lt_of_le hn (Returns.toks_le h1))⟩
end PySem


namespace L2
open PySem PySem.Spec PyProof.Rows

noncomputable abbrev Key := Sum Int Str
noncomputable def keyIs : Key → Value → Bool
  | .inl k, v => Value.isInt k v
  | .inr x, v => Value.isStrOf x v
noncomputable def keyH (w : World) : Key → Int
  | .inl k => hashInt k
  | .inr x => hashStr w x
theorem keyIs_shape : ∀ {k : Key} {v : Value}, keyIs k v = true → (∃ i t, k = Sum.inl i ∧ v = Value.int i t) ∨ (∃ x t, k = Sum.inr x ∧ v = Value.str x t)
  | .inl i, v, h => by
    obtain ⟨t, e⟩ := Value.isInt_shape (k := i) (v := v) h
    exact .inl ⟨i, t, rfl, e⟩
  | .inr x, v, h => by
    obtain ⟨t, e⟩ := Value.isStrOf_shape (x := x) (v := v) h
    exact .inr ⟨x, t, rfl, e⟩
theorem key_ll (a b : Int) : decide ((Sum.inl a : Key) = Sum.inl b) = (a == b) := by
  by_cases e : a = b
  · subst e; simp
  · have h : ¬ (Sum.inl a : Key) = Sum.inl b := fun q => e (Sum.inl.inj q)
    rw [decide_eq_false h]
    exact (beq_eq_false_iff_ne.mpr e).symm
theorem key_rr (a b : Str) : decide ((Sum.inr a : Key) = Sum.inr b) = decide (a = b) := by
  by_cases e : a = b
  · subst e; simp
  · have h : ¬ (Sum.inr a : Key) = Sum.inr b := fun q => e (Sum.inr.inj q)
    rw [decide_eq_false h, decide_eq_false e]
theorem key_lr (a : Int) (b : Str) : decide ((Sum.inl a : Key) = Sum.inr b) = false := decide_eq_false (fun q => nomatch q)
theorem key_rl (a : Str) (b : Int) : decide ((Sum.inr a : Key) = Sum.inl b) = false := decide_eq_false (fun q => nomatch q)

noncomputable def mixKind (prog : Program) (w : World) : PySem.KeyKind prog w Key where
  is := keyIs
  hash := keyH w
  inj := fun v a b ha hb => by
    rcases keyIs_shape ha with ⟨i, t, rfl, rfl⟩ | ⟨x, t, rfl, rfl⟩
    · rcases keyIs_shape hb with ⟨j, u, rfl, e⟩ | ⟨y, u, rfl, e⟩
      · injection e with e1 _; rw [e1]
      · exact nomatch e
    · rcases keyIs_shape hb with ⟨j, u, rfl, e⟩ | ⟨y, u, rfl, e⟩
      · exact nomatch e
      · injection e with e1 _; rw [e1]
  byValue := fun k v h => by
    rcases keyIs_shape h with ⟨i, t, rfl, rfl⟩ | ⟨x, t, rfl, rfl⟩ <;> rfl
  pyHash := fun hv h => by
    rcases keyIs_shape hv with ⟨i, t, rfl, rfl⟩ | ⟨x, t, rfl, rfl⟩
    · exact wpAny_pyHash_int h
    · exact wpAny_pyHash_str h
  eqBool := fun hu hv h => by
    rcases keyIs_shape hu with ⟨i, t, rfl, rfl⟩ | ⟨x, t, rfl, rfl⟩
    · rcases keyIs_shape hv with ⟨j, u, rfl, rfl⟩ | ⟨y, u, rfl, rfl⟩
      · rw [key_ll] at h; exact wpAny_eqBool_int h
      · rw [key_lr] at h; exact SeqAt.EqAt.int_str i t y u _ _ _ _ h
    · rcases keyIs_shape hv with ⟨j, u, rfl, rfl⟩ | ⟨y, u, rfl, rfl⟩
      · rw [key_rl] at h; exact SeqAt.EqAt.str_int x t j u _ _ _ _ h
      · rw [key_rr] at h; exact wpAny_eqBool_str h
  «strs» := fun k x t v h => by
    rcases keyIs_shape h with ⟨i, u, rfl, e⟩ | ⟨y, u, rfl, e⟩
    · exact nomatch e
    · injection e with e1 _
      subst e1
      cases v <;> rfl

end L2

namespace L2
open PySem PySem.Spec PyProof.Rows

inductive V where
  | non | bl (b : Bool) | int (i : Int) | str (x : Str) | byt (b : Array UInt8) | flt (b : UInt64) | ref (a : Addr) | ty (n : String)
  deriving DecidableEq

noncomputable def RelV : V → Value → Prop
  | .non, u => u = Value.none
  | .bl b, u => u = Value.bool b
  | .int i, u => ∃ t, u = Value.int i t
  | .str x, u => ∃ t, u = Value.str x t
  | .byt b, u => ∃ t, u = Value.bytes b t
  | .flt b, u => ∃ t, u = Value.float b t
  | .ref a, u => u = Value.ref a
  | .ty n, u => u = Value.type n

noncomputable abbrev Vals : List V → List Value → Prop := Paired RelV
theorem Vals.length {xs : List V} {us : List Value} (r : Vals xs us) : xs.length = us.length := Paired.length r
theorem Vals.get : ∀ {xs : List V} {us : List Value} {i : Nat} {x : V}, Vals xs us → xs[i]? = some x → ∃ u, us[i]? = some u ∧ RelV x u
  | _, _, _, _, .nil, e => by simp at e
  | _, _, 0, _, .cons r _, e => by simp at e; subst e; exact ⟨_, rfl, r⟩
  | _, _, i + 1, x, .cons _ t, e => by
    obtain ⟨u, h1, h2⟩ := Vals.get (i := i) (x := x) t (by simpa using e)
    exact ⟨u, by simpa using h1, h2⟩
theorem Vals.set {x : V} {u : Value} (r : RelV x u) : ∀ {xs : List V} {us : List Value} (i : Nat), Vals xs us → Vals (xs.set i x) (us.set i u)
  | _, _, _, .nil => .nil
  | _, _, 0, .cons _ t => .cons r t
  | _, _, i + 1, .cons q t => .cons q (Vals.set r i t)
theorem Vals.append : ∀ {xs ys : List V} {us ws : List Value}, Vals xs us → Vals ys ws → Vals (xs ++ ys) (us ++ ws)
  | _, _, _, _, .nil, s => s
  | _, _, _, _, .cons r t, s => .cons r (Vals.append t s)
theorem Vals.take : ∀ {xs : List V} {us : List Value} (n : Nat), Vals xs us → Vals (xs.take n) (us.take n)
  | _, _, 0, _ => .nil
  | _, _, _ + 1, .nil => .nil
  | _, _, n + 1, .cons r t => .cons r (Vals.take n t)
theorem Vals.drop : ∀ {xs : List V} {us : List Value} (n : Nat), Vals xs us → Vals (xs.drop n) (us.drop n)
  | _, _, 0, r => r
  | _, _, _ + 1, .nil => .nil
  | _, _, n + 1, .cons _ t => Vals.drop n t

noncomputable def RelO : Option V → Option Value → Prop
  | some v, some u => RelV v u
  | none, none => True
  | _, _ => False
noncomputable def KV {κ : Type} : List (κ × V) → List (κ × Value) → Prop := Paired fun (p : κ × V) (q : κ × Value) => p.1 = q.1 ∧ RelV p.2 q.2

noncomputable def kV : Key → V
  | .inl i => .int i
  | .inr x => .str x

inductive HO where

  | lst (xs : List V)

  | tup (xs : List V)

  | dK (kvs : List (Key × V)) | dT (kvs : List (List Key × V))

  | set (S : Int → Bool) (n : Nat)

  | ins (C dx : Addr) (fs : List (Str × V))

  | own (x : Addr)

  | xd (fs : List (Str × V))

  | met (f x : Addr)

  | rng (lo hi : Int)

  | frz (o : Obj) (u : HO)

  | tbl (ps : Array Value)

  | ext (φ : Heap → Prop)

noncomputable abbrev Hp := Addr → Option HO
noncomputable def upd (H : Hp) (a : Addr) (o : HO) : Hp := fun b => if b = a then some o else H b
theorem upd_same {H : Hp} {a : Addr} {o : HO} : upd H a o a = some o := by unfold upd; rw [if_pos rfl]
theorem upd_ne {H : Hp} {a b : Addr} {o : HO} (h : b ≠ a) : upd H a o b = H b := by unfold upd; rw [if_neg h]
theorem ne_of_none {H : Hp} {a b : Addr} {o : HO} (h : H a = some o) (h' : H b = none) : a ≠ b := by
  intro e; subst e; rw [h] at h'; cases h'

section
variable (P : Program) (w : World)
noncomputable def ObjOk (H : Hp) (h : Heap) (a : Addr) : HO → Prop
  | .lst xs => xs.length ≤ sizeLine ∧ ∃ (its : List Value) (n : Nat), Vals xs its ∧ h.get? a = some { cls := .type "list", data := .seq its.toArray n }
  | .tup xs => xs.length ≤ sizeLine ∧ ∃ its : List Value, Vals xs its ∧ IsTup h a its.toArray
  | .dK kvs => kvs.length ≤ sizeLine ∧ (a == sysModules) = false ∧ ∃ vs, KV kvs vs ∧ h.DictOf (mixKind P w) a vs
  | .dT kvs => kvs.length ≤ sizeLine ∧ (a == sysModules) = false ∧ ∃ xs : List (List Key × Addr × Value),
      Paired (fun (p : List Key × V) (q : List Key × Addr × Value) => p.1 = q.1 ∧ H q.2.1 = some (.tup (p.1.map kV)) ∧ RelV p.2 q.2.2) kvs xs ∧
      ∃ o es ep, h.get? a = some o ∧ o.ExactDict ∧ o.data = .dict es ep ∧ es.toList = xs.map (entryOfKey (tupleKind (mixKind P w))) ∧ (xs.map (·.1)).Nodup
  | .set S n => h.SetOf (intKind P w) a S n
  | .ins C dx fs => H dx = some (.own a) ∧ fs.length ≤ 1000 ∧ dx ≠ a ∧ h.get? a = some (PySem.W.instObj C dx) ∧
      ∃ mA, h.Ns1 dx mA ∧ (∀ f, RelO (fs.lookup f) (mA f)) ∧ PySem.Within mA (fs.map (·.1))
  | .own _ => ∃ o, h.get? a = some o
  | .xd fs => ∃ mA, h.Ns1 a mA ∧ ∀ f, RelO (fs.lookup f) (mA f)
  | .rng lo hi => ∃ t u v, h.get? a = some { cls := .type "range", data := .fields #[.int lo t, .int hi u, .int 1 v] }
  | .frz o u => h.get? a = some o ∧ ObjOk H h a u
  | .tbl ps => h.get? a = some { cls := .none, data := .fields ps }
  | .met f x => h.get? a = some (PySem.W.methodObj (.ref f) (.ref x))
  | .ext φ => φ h ∧ (∃ o, h.get? a = some o) ∧ ∀ h1 h2 : Heap, φ h1 → (∀ o, h1.get? a = some o → h2.get? a = some o) → φ h2

noncomputable def HOk (H : Hp) (h : Heap) : Prop := ∀ a o, H a = some o → ObjOk P w H h a o
end

section
variable {P : Program} {w : World} {H H' : Hp} {h h' : Heap} {a : Addr} {o : HO}
theorem ObjOk.lt (x : ObjOk P w H h a o) : a < h.objs.size := by
  cases o with
  | lst xs => obtain ⟨_, _, _, _, e⟩ := x; exact Heap.lt_size e
  | tup xs => obtain ⟨_, _, _, p⟩ := x; exact p.lt
  | dK kvs => obtain ⟨_, _, _, _, o, _, _, e, _⟩ := x; exact Heap.lt_size e
  | dT kvs => obtain ⟨_, _, _, _, o, _, _, e, _⟩ := x; exact Heap.lt_size e
  | set S n => obtain ⟨o, _, _, _, e, _⟩ := x; exact Heap.lt_size e
  | ins C dx fs => obtain ⟨_, _, _, e, _⟩ := x; exact Heap.lt_size e
  | own y => obtain ⟨_, e⟩ := x; exact Heap.lt_size e
  | xd fs => obtain ⟨_, ⟨_, _, _, e, _⟩, _⟩ := x; exact Heap.lt_size e
  | rng lo hi => obtain ⟨_, _, _, e⟩ := x; exact Heap.lt_size e
  | frz ob u => obtain ⟨e, _⟩ := x; exact Heap.lt_size e
  | tbl ps => exact Heap.lt_size (show h.get? a = some _ from x)
  | met f y => exact Heap.lt_size (show h.get? a = some _ from x)
  | ext φ => obtain ⟨_, ⟨_, e⟩, _⟩ := x; exact Heap.lt_size e
theorem Paired.mapP {α β : Type} {F G : α → β → Prop} : ∀ {l₁ : List α} {l₂ : List β}, Paired F l₁ l₂ → (∀ a b, F a b → G a b) → Paired G l₁ l₂
  | _, _, .nil, _ => .nil
  | _, _, .cons r t, f => .cons (f _ _ r) (Paired.mapP t f)

theorem ObjOk.stay (x : ObjOk P w H h a o) (k : ∀ b u, (b = a ∨ H b = some (.own a)) → h.get? b = some u → h'.get? b = some u)
    (ho : ∀ b, H b = some (.own a) → H' b = some (.own a)) (ht : ∀ b xs, H b = some (.tup xs) → H' b = some (.tup xs)) : ObjOk P w H' h' a o := by
  induction o with
  | lst xs => obtain ⟨z, its, n, r, e⟩ := x; exact ⟨z, its, n, r, k _ _ (.inl rfl) e⟩
  | tup xs => obtain ⟨z, its, r, ob, e, c⟩ := x; exact ⟨z, its, r, ob, k _ _ (.inl rfl) e, c⟩
  | dK kvs => obtain ⟨z, y, vs, r, ob, es, ep, e, c⟩ := x; exact ⟨z, y, vs, r, ob, es, ep, k _ _ (.inl rfl) e, c⟩
  | dT kvs =>
    obtain ⟨z, y, xs, r, ob, es, ep, e, c⟩ := x
    exact ⟨z, y, xs, Paired.mapP r fun p q z => ⟨z.1, ht _ _ z.2.1, z.2.2⟩, ob, es, ep, k _ _ (.inl rfl) e, c⟩
  | set S n => obtain ⟨ob, es, ep, t, e, c⟩ := x; exact ⟨ob, es, ep, t, k _ _ (.inl rfl) e, c⟩
  | ins C dx fs =>
    obtain ⟨d, z, ne, e, mA, ⟨od, es, ep, e2, c⟩, r⟩ := x
    exact ⟨ho _ d, z, ne, k _ _ (.inl rfl) e, mA, ⟨od, es, ep, k _ _ (.inr d) e2, c⟩, r⟩
  | own y => obtain ⟨ob, e⟩ := x; exact ⟨ob, k _ _ (.inl rfl) e⟩
  | xd fs => obtain ⟨mA, ⟨od, es, ep, e, c⟩, r⟩ := x; exact ⟨mA, ⟨od, es, ep, k _ _ (.inl rfl) e, c⟩, r⟩
  | rng lo hi => obtain ⟨t, u, v, e⟩ := x; exact ⟨t, u, v, k _ _ (.inl rfl) e⟩
  | frz ob u ih => obtain ⟨e, q⟩ := x; exact ⟨k _ _ (.inl rfl) e, ih q⟩
  | tbl ps =>
    have e : h.get? a = some { cls := .none, data := .fields ps } := x
    show h'.get? a = some { cls := .none, data := .fields ps }
    exact k a _ (.inl rfl) e
  | met f y =>
    have e : h.get? a = some (PySem.W.methodObj (.ref f) (.ref y)) := x
    show h'.get? a = some (PySem.W.methodObj (.ref f) (.ref y))
    exact k a _ (.inl rfl) e
  | ext φ => obtain ⟨p, ⟨o, e⟩, st⟩ := x; exact ⟨st _ _ p fun o q => k _ _ (.inl rfl) q, ⟨o, k _ _ (.inl rfl) e⟩, st⟩
theorem HOk.lt (x : HOk P w H h) (e : H a = some o) : a < h.objs.size := (x a o e).lt
theorem HOk.fresh (x : HOk P w H h) (e : h.objs.size ≤ a) : H a = none := by
  cases q : H a with
  | none => rfl
  | some u => exact absurd (Nat.lt_of_lt_of_le (x.lt q) e) (Nat.lt_irrefl _)

theorem HOk.kept (x : HOk P w H h) (k : ∀ b u, h.get? b = some u → h'.get? b = some u) : HOk P w H h' := fun a o e =>
  (x a o e).stay (fun b u _ q => k b u q) (fun _ q => q) fun _ _ q => q

theorem HOk.laid (x : HOk P w H h) (k : ∀ b u, h.get? b = some u → h'.get? b = some u) (hp : h.objs.size ≤ a) (new : ObjOk P w (upd H a o) h' a o) : HOk P w (upd H a o) h' := fun b u e => by
  have hn := x.fresh hp
  by_cases hb : b = a
  · subst hb; rw [upd_same] at e; cases e; exact new
  · rw [upd_ne hb] at e
    exact (x b u e).stay (fun c v _ q => k c v q) (fun c q => by rw [upd_ne (ne_of_none q hn)]; exact q) fun c xs q => by rw [upd_ne (ne_of_none q hn)]; exact q
end

noncomputable def Rd (H : Hp) (a : Addr) (u : HO) : Prop := H a = some u ∨ ∃ o, H a = some (.frz o u)
theorem Rd.ok {P : Program} {w : World} {H : Hp} {h : Heap} {a : Addr} {u : HO} (r : Rd H a u) (x : HOk P w H h) : ObjOk P w H h a u := by
  rcases r with r | ⟨o, r⟩
  · exact x a u r
  · obtain ⟨_, q⟩ := x a _ r
    exact q

noncomputable def Mut : Option HO → Prop
  | some (.lst _) => True
  | some (.dK _) => True
  | some (.dT _) => True
  | some (.set _ _) => True
  | some (.ins _ _ _) => True
  | some (.ext _) => True
  | _ => False
section
variable {P : Program} {w : World} {H : Hp} {h h' : Heap} {x e : Addr} {o' : HO}

theorem HOk.write (ok : HOk P w H h) (mu : Mut (H x)) (he : e = x ∨ H e = some (.own x)) (k : ∀ b u, b ≠ e → h.get? b = some u → h'.get? b = some u) (heo : ∃ u, h'.get? e = some u)
    (new : ObjOk P w (upd H x o') h' x o') : HOk P w (upd H x o') h' := fun b u q => by
  have nown : ∀ c y, H c = some (.own y) → c ≠ x := fun c y r z => by subst z; rw [r] at mu; exact mu
  have ntup : ∀ c xs, H c = some (.tup xs) → c ≠ x := fun c xs r z => by subst z; rw [r] at mu; exact mu
  by_cases hb : b = x
  · subst hb; rw [upd_same] at q; cases q; exact new
  · rw [upd_ne hb] at q
    by_cases hbe : b = e
    · have q' : H b = some (.own x) := by
        rcases he with z | z
        · exact absurd (hbe.trans z) hb
        · rw [hbe]; exact z
      rw [q] at q'; cases q'
      obtain ⟨v, hv⟩ := heo
      exact ⟨v, by rw [hbe]; exact hv⟩
    · refine (ok b u q).stay (fun c v hc r => k c v ?_ r) (fun c r => by rw [upd_ne (nown c b r)]; exact r) fun c xs r => by rw [upd_ne (ntup c xs r)]; exact r
      rcases hc with rfl | hc
      · exact hbe
      · rintro rfl
        rcases he with z | z
        · exact nown c b hc z
        · rw [hc] at z; cases z; exact hb rfl
end

structure Un (fs ex : List Addr) (H H' : Hp) (h h' : Heap) : Prop where
  keep : ∀ b o, h.get? b = some o → H b = none → b ∉ fs → b ∉ ex → h'.get? b = some o
  slot : ∀ b o, h.get? b = some o → H b = none → b ∈ fs → b ∉ ex → ∃ sl, h'.get? b = some { o with slots := sl }
  free : ∀ b o, h.get? b = some o → H b = none → b ∉ ex → H' b = none
  there : ∀ b o, h.get? b = some o → b ∉ ex → ∃ o', h'.get? b = some o'
  tups : ∀ b xs, H b = some (.tup xs) → H' b = some (.tup xs)
  frzs : ∀ b o u, H b = some (.frz o u) → H' b = some (.frz o u)
  tbls : ∀ b ps, H b = some (.tbl ps) → ∃ more, H' b = some (.tbl (ps ++ more))
section
variable {fs fs' ex ex' : List Addr} {H H1 H2 : Hp} {h h1 h2 h' : Heap} {a x e : Addr} {o : HO}
theorem Un.any (u : Un fs ex H H1 h h1) {b : Addr} {ob : Obj} (q : h.get? b = some ob) (n : H b = none) (hx : b ∉ ex) : ∃ sl, h1.get? b = some { ob with slots := sl } := by
  by_cases hb : b ∈ fs
  · exact u.slot b ob q n hb hx
  · exact ⟨ob.slots, u.keep b ob q n hb hx⟩
theorem Un.trans (a : Un fs ex H H1 h h1) (b : Un fs ex H1 H2 h1 h2) : Un fs ex H H2 h h2 where
  keep := fun c ob q n hc hx => b.keep c ob (a.keep c ob q n hc hx) (a.free c ob q n hx) hc hx
  slot := fun c ob q n hc hx => by
    obtain ⟨sl, e1⟩ := a.slot c ob q n hc hx
    obtain ⟨sl', e2⟩ := b.slot c _ e1 (a.free c ob q n hx) hc hx
    exact ⟨sl', e2⟩
  free := fun c ob q n hx => by
    obtain ⟨o', e1⟩ := a.there c ob q hx
    exact b.free c o' e1 (a.free c ob q n hx) hx
  there := fun c ob q hx => by
    obtain ⟨o', e1⟩ := a.there c ob q hx
    exact b.there c o' e1 hx
  tups := fun c xs q => b.tups c xs (a.tups c xs q)
  frzs := fun c ob xs q => b.frzs c ob xs (a.frzs c ob xs q)
  tbls := fun c ps q => by
    obtain ⟨m1, e1⟩ := a.tbls c ps q
    obtain ⟨m2, e2⟩ := b.tbls c _ e1
    exact ⟨m1 ++ m2, by rw [e2, Array.append_assoc]⟩
theorem Un.kept (k : ∀ b u, h.get? b = some u → h'.get? b = some u) : Un fs ex H H h h' :=
  ⟨fun b ob q _ _ _ => k b ob q, fun b ob q _ _ _ => ⟨ob.slots, k b ob q⟩, fun _ _ _ n _ => n, fun b ob q _ => ⟨ob, k b ob q⟩, fun _ _ q => q, fun _ _ _ q => q, fun _ ps q => ⟨#[], by rw [q]; simp⟩⟩
theorem Un.refl : Un fs ex H H h h := Un.kept fun _ _ q => q
theorem Un.laid (k : ∀ b u, h.get? b = some u → h'.get? b = some u) (hp : h.objs.size ≤ a) (hn : H a = none) : Un fs ex H (upd H a o) h h' where
  keep := fun b u q _ _ _ => k b u q
  slot := fun b u q _ _ _ => ⟨u.slots, k b u q⟩
  free := fun b u q n _ => by rw [upd_ne (Nat.ne_of_lt (Nat.lt_of_lt_of_le (Heap.lt_size q) hp))]; exact n
  there := fun b u q _ => ⟨u, k b u q⟩
  tups := fun b xs q => by rw [upd_ne (ne_of_none q hn)]; exact q
  frzs := fun b u xs q => by rw [upd_ne (ne_of_none q hn)]; exact q
  tbls := fun b ps q => ⟨#[], by rw [upd_ne (ne_of_none q hn), q]; simp⟩
theorem Un.write (mu : Mut (H x)) (he : e = x ∨ H e = some (.own x)) (k : ∀ b u, b ≠ e → h.get? b = some u → h'.get? b = some u) (heo : ∃ u, h'.get? e = some u) : Un fs ex H (upd H x o) h h' := by
  have hx : ∀ b, H b = none → b ≠ x := fun b n z => by subst z; rw [n] at mu; exact mu
  have hb : ∀ b, H b = none → b ≠ e := fun b n z => by
    subst z
    rcases he with r | r
    · exact hx b n r
    · rw [n] at r; cases r
  have hm : ∀ b u, H b = some u → ¬ Mut (some u) → b ≠ x := fun b u q nm z => by subst z; rw [q] at mu; exact nm mu
  refine ⟨fun b u q n _ _ => k b u (hb b n) q, fun b u q n _ _ => ⟨u.slots, k b u (hb b n) q⟩, fun b u q n _ => by rw [upd_ne (hx b n)]; exact n, fun b u q _ => ?_,
    fun b xs q => by rw [upd_ne (hm b _ q fun z => z)]; exact q, fun b u xs q => by rw [upd_ne (hm b _ q fun z => z)]; exact q, fun b ps q => ⟨#[], by rw [upd_ne (hm b _ q fun z => z), q]; simp⟩⟩
  by_cases hbe : b = e
  · subst hbe; exact heo
  · exact ⟨u, k b u hbe q⟩
theorem Un.mono (u : Un fs ex H H1 h h1) (hs : ∀ b ∈ fs, b ∈ fs') (hx : ∀ b ∈ ex, b ∈ ex') : Un fs' ex' H H1 h h1 :=
  ⟨fun b ob q n hb he => u.keep b ob q n (fun z => hb (hs b z)) fun z => he (hx b z), fun _ _ q n _ he => u.any q n fun z => he (hx _ z), fun b ob q n he => u.free b ob q n fun z => he (hx b z), fun b ob q he => u.there b ob q fun z => he (hx b z), u.tups, u.frzs, u.tbls⟩
end

noncomputable def trk (h : Heap) (H : Hp) : List Addr := (List.range h.objs.size).filter fun a => (H a).isSome
noncomputable def hidT (h : Heap) (H : Hp) : Heap := PySem.W.hideAll h (trk h H)
theorem hidT_size (h : Heap) (H : Hp) : (hidT h H).objs.size = h.objs.size := PySem.W.hideAll_size _ _
theorem hidT_get {h : Heap} {H : Hp} {b : Addr} {o : Obj} (e : h.get? b = some o) (n : H b = none) : (hidT h H).get? b = some o :=
  PySem.W.hideAll_get _ e fun hm => by
    have q : (H b).isSome = true := (List.mem_filter.mp hm).2
    rw [n] at q; simp at q
theorem of_hidT {h : Heap} {H : Hp} {b : Addr} {o : Obj} (e : (hidT h H).get? b = some o) : h.get? b = some o ∧ H b = none := by
  have e' : h.get? b = some o := PySem.W.of_hideAll (trk h H) e
  refine ⟨e', ?_⟩
  cases q : H b with
  | none => rfl
  | some x =>
    have hm : b ∈ trk h H := List.mem_filter.mpr ⟨List.mem_range.mpr (Heap.lt_size e'), by simp [q]⟩
    have z : (hidT h H).get? b = none := PySem.W.hideAll_none (trk h H) hm
    rw [z] at e; cases e

noncomputable def allNews (g h : Heap) (L : Addr) : List (Addr × Obj) := (List.range h.objs.size).filterMap fun a => if a = L ∨ (g.get? a).isSome = true then none else (h.get? a).map fun o => (a, o)
noncomputable def rest (g h : Heap) (L d : Addr) : List (Addr × Obj) := (allNews g h L).filter fun p => decide (p.1 ≠ d)
end L2

namespace L2
open PySem PySem.Spec PyProof.Rows

structure Mod (K : PySem.W.Frag) (mg : Str → Option Value) (base : Heap) : Prop where
  kin : K.In base
  glob : base.Ns mainGlobals mg
  blt : ∃ mb, base.Ns builtinsNs mb ∧ ∀ x : Str, x ≠ "__name__" → mb x = bootBuiltins x
  nolimit : base.NoLimit

structure Cx where
  prog : Program
  w : World
  K : PySem.W.Frag
  mg : Str → Option Value
  base : Heap
  A : Around
  N : List Str
  s₀ : Shared
  H₀ : Hp
  env : Env
  outer : List Env
  stack : List Env
  ex : List Addr
  fn : Str → Bool
  calm : Bool
  pn : List (Addr × Obj)
  xe : Value → Shared → Prop

noncomputable def frs (l : List Env) : List Addr := l.filterMap (·.frame)
noncomputable abbrev Cx.fs (X : Cx) : List Addr := frs X.outer

noncomputable def Vis (sc : Scope) (x : Str) : Prop := sc.names.lookup x = some .local ∨ sc.names.lookup x = some .cell ∨ sc.names.lookup x = some .free
noncomputable def Loc (sc : Scope) (x : Str) : Prop := sc.names.lookup x = some .local ∨ sc.names.lookup x = some .cell
noncomputable def Look (env : Env) (h : Heap) (m : Str → Option Value) (x : Str) (u : Value) : Prop :=
  (env.kindOf x = some .local ∧ m x = some u) ∨ ((env.kindOf x = some .cell ∨ env.kindOf x = some .free) ∧ ∃ c, env.cells.lookup x = some c ∧ h.IsCell c (some u))

structure Cx.Ok (X : Cx) : Prop where
  mod : Mod X.K X.mg X.base
  kind : X.env.scope.kind = .function
  glob : X.env.globals = mainGlobals
  blt : X.env.builtins = builtinsNs
  above : X.s₀.heap.objs.size ≤ X.env.locals
  inj : ∀ x y c, X.env.cells.lookup x = some c → X.env.cells.lookup y = some c → x = y
  has : ∀ x, (X.env.kindOf x = some .cell ∨ X.env.kindOf x = some .free) → ∃ c, X.env.cells.lookup x = some c
  cab : ∀ x c, X.fn x = true → X.env.cells.lookup x = some c → X.s₀.heap.objs.size ≤ c
  hd : X.calm = true → X.A.handled = none
  frames : X.A.frames = some X.stack
  stk : X.stack = X.outer ∨ (X.stack = X.env :: X.outer ∧ X.env.frame = some X.env.locals)
  exf : ∀ b ∈ X.ex, b ≠ X.env.locals ∧ ∀ x c, X.env.cells.lookup x = some c → c ≠ b
  bs : ∀ b o, X.base.get? b = some o → X.s₀.heap.get? b = some o ∧ X.H₀ b = none
  bsz : X.base.objs.size ≤ X.s₀.heap.objs.size
  noex : ∀ b o, X.base.get? b = some o → b ∉ X.ex
  exfs : ∀ b ∈ X.ex, b ∉ X.fs
  funs : X.s₀.heap.FunFrames X.base X.outer
  frf : ∀ b ∈ X.fs, X.H₀ b = none

structure Inv (X : Cx) (pins : List (Addr × Obj)) (σ : List (Option V)) (H : Hp) (s : Shared) : Prop where
  ok : X.Ok
  os : s.os = X.s₀.os
  bare : AllBare s.gens
  base : Un X.fs X.ex X.H₀ H X.s₀.heap s.heap
  loc : ∃ m, s.heap.Ns X.env.locals m ∧ ∀ (i : Nat) (x : Str) (v : V), X.N[i]? = some x → σ[i]? = some (some v) → Vis X.env.scope x → ∃ u, RelV v u ∧ Look X.env s.heap m x u
  cell : ∀ x c, X.env.cells.lookup x = some c → ∃ v, s.heap.IsCell c v
  free : H X.env.locals = none
  freeC : ∀ x c, X.env.cells.lookup x = some c → H c = none
  pin : ∀ p ∈ X.pn ++ pins, s.heap.get? p.1 = some p.2 ∧ H p.1 = none ∧ p.1 ≠ X.env.locals ∧ p.1 ∉ X.fs ∧ ∀ v, p.2.data ≠ .cell v
  hok : HOk X.prog X.w H s.heap
  len : σ.length = X.N.length
  tk : 0 < s.toks

section
variable {X : Cx} {pins : List (Addr × Obj)} {σ : List (Option V)} {H H' : Hp} {s : Shared} {h' : Heap}

theorem Cx.Ok.nofr (ok : X.Ok) {b : Addr} {o : Obj} (e : X.base.get? b = some o) : b ∉ X.fs := fun hb => by
  have := (ok.funs.mem hb).1
  rw [e] at this; cases this
theorem Inv.bs (I : Inv X pins σ H s) : ∀ b o, X.base.get? b = some o → s.heap.get? b = some o ∧ H b = none := fun b o e =>
  ⟨I.base.keep b o (I.ok.bs b o e).1 (I.ok.bs b o e).2 (I.ok.nofr e) (I.ok.noex b o e), I.base.free b o (I.ok.bs b o e).1 (I.ok.bs b o e).2 (I.ok.noex b o e)⟩
theorem Inv.bk (I : Inv X pins σ H s) : ∀ b o, X.base.get? b = some o → s.heap.get? b = some o := fun b o e => (I.bs b o e).1
theorem Inv.mod (I : Inv X pins σ H s) : Mod X.K X.mg X.base := I.ok.mod
theorem Inv.kIn (I : Inv X pins σ H s) : X.K.In s.heap := I.ok.mod.kin.keeps I.bk
theorem Inv.nolimit (I : Inv X pins σ H s) : s.heap.NoLimit := I.ok.mod.nolimit.keeps I.bk

theorem Inv.fr (I : Inv X pins σ H s) : ∃ m, Fr X.base X.env.locals s.heap m :=
  let ⟨m, hn, _⟩ := I.loc
  ⟨m, hn, I.bk, Nat.le_trans I.ok.bsz I.ok.above⟩
theorem Inv.lt (I : Inv X pins σ H s) : X.env.locals < s.heap.objs.size := let ⟨_, hn, _⟩ := I.loc; hn.lt
theorem Inv.sz (I : Inv X pins σ H s) : X.s₀.heap.objs.size ≤ s.heap.objs.size := Nat.le_trans I.ok.above (Nat.le_of_lt I.lt)
theorem Inv.nofs (I : Inv X pins σ H s) {a : Addr} (h : s.heap.objs.size ≤ a) : a ∉ X.fs := fun hb => by
  obtain ⟨_, o, ho, _⟩ := I.ok.funs.mem hb
  exact absurd (Nat.lt_of_lt_of_le (Heap.lt_size ho) (Nat.le_trans I.sz h)) (Nat.lt_irrefl _)
theorem Inv.cne (I : Inv X pins σ H s) : ∀ x c, X.env.cells.lookup x = some c → c ≠ X.env.locals := fun x c e z => by
  obtain ⟨v, o, ho, hd⟩ := I.cell x c e
  obtain ⟨m, ⟨o', es, ep, ho', hd', _⟩, _⟩ := I.loc
  rw [z, ho'] at ho; cases ho; rw [hd'] at hd; cases hd
theorem Inv.funs (I : Inv X pins σ H s) : s.heap.FunFrames X.base X.outer := by
  have all : ∀ (l : List Env), (∀ b ∈ frs l, b ∈ X.fs) → X.s₀.heap.FunFrames X.base l → s.heap.FunFrames X.base l := by
    intro l
    induction l with
    | nil => intro _ _; trivial
    | cons env r ih =>
      intro hs hl
      obtain ⟨hk, ⟨L, o, hf, hn, ho, hd⟩, hr⟩ := hl
      have hL : L ∈ X.fs := hs L (by unfold frs; rw [List.filterMap_cons, hf]; exact List.mem_cons_self)
      obtain ⟨sl, e⟩ := I.base.slot L o ho (I.ok.frf L hL) hL fun z => I.ok.exfs L z hL
      exact ⟨hk, ⟨L, _, hf, hn, e, hd⟩, ih (fun b hb => hs b (by unfold frs; rw [List.filterMap_cons, hf]; exact List.mem_cons_of_mem _ hb)) hr⟩
  exact all X.outer (fun _ hb => hb) I.ok.funs

theorem Inv.stack (I : Inv X pins σ H s) : s.heap.FunFrames X.base X.stack := by
  rcases I.ok.stk with e | ⟨e, hf⟩
  · rw [e]; exact I.funs
  · rw [e]
    obtain ⟨m, hn, _⟩ := I.loc
    refine .cons (by rw [I.ok.kind]; decide) hf hn ?_ I.funs
    exact Heap.get?_none_of_le (Nat.le_trans I.ok.bsz I.ok.above)
theorem Inv.stkSub (I : Inv X pins σ H s) : ∀ b ∈ frs X.stack, b ∈ X.env.locals :: X.fs := fun b hb => by
  rcases I.ok.stk with e | ⟨e, hf⟩
  · rw [e] at hb; exact List.mem_cons_of_mem _ hb
  · rw [e] at hb
    unfold frs at hb
    rw [List.filterMap_cons, hf] at hb
    exact hb
theorem Inv.stkFree (I : Inv X pins σ H s) : ∀ b ∈ frs X.stack, H b = none := fun b hb => by
  rcases List.mem_cons.mp (I.stkSub b hb) with e | hb
  · rw [e]; exact I.free
  · obtain ⟨_, o, ho, _⟩ := I.ok.funs.mem hb
    exact I.base.free b o ho (I.ok.frf b hb) fun z => I.ok.exfs b z hb

theorem Inv.step {g' : Array GenState} {t' : Nat} {d' : Drawn} {ch : List Addr} (I : Inv X pins σ H s)
    (hch : ∀ b ∈ ch, (b ∈ X.ex ∨ X.s₀.heap.objs.size ≤ b) ∧ b ≠ X.env.locals ∧ (∀ x c, X.env.cells.lookup x = some c → c ≠ b) ∧ ∀ p ∈ X.pn ++ pins, p.1 ≠ b)
    (keep : ∀ b o, b ≠ X.env.locals → b ∉ X.fs → b ∉ ch → s.heap.get? b = some o → H b = none → h'.get? b = some o)
    (slot : ∀ b o, b ≠ X.env.locals → b ∈ X.fs → b ∉ ch → s.heap.get? b = some o → H b = none → ∃ sl, h'.get? b = some { o with slots := sl }) (free : ∀ b o, b ∉ ch → s.heap.get? b = some o → H b = none → H' b = none)
    (there : ∀ b o, b ∉ ch → s.heap.get? b = some o → ∃ o', h'.get? b = some o')
    (tups : ∀ b xs, H b = some (.tup xs) → H' b = some (.tup xs)) (frzs : ∀ b o u, H b = some (.frz o u) → H' b = some (.frz o u)) (tbls : ∀ b ps, H b = some (.tbl ps) → ∃ more, H' b = some (.tbl (ps ++ more)))
    (ns : ∀ m, s.heap.Ns X.env.locals m → h'.Ns X.env.locals m) (hok : HOk X.prog X.w H' h') (hg : AllBare g') (ht : 0 < t') :
    Inv X pins σ H' { s with heap := h', gens := g', drawn := d', toks := t' } := by
  have neL : ∀ b o, X.s₀.heap.get? b = some o → b ≠ X.env.locals := fun b o e => Nat.ne_of_lt (Nat.lt_of_lt_of_le (Heap.lt_size e) I.ok.above)
  have neC : ∀ b o, X.s₀.heap.get? b = some o → b ∉ X.ex → b ∉ ch := fun b o e hx hb => by
    rcases (hch b hb).1 with z | z
    · exact hx z
    · exact absurd (Nat.lt_of_lt_of_le (Heap.lt_size e) z) (Nat.lt_irrefl _)
  have cellK : ∀ x c, X.env.cells.lookup x = some c → ∀ v, s.heap.IsCell c v → h'.IsCell c v := fun x c e v ⟨o, ho, hd⟩ => by
    have nch : c ∉ ch := fun z => (hch c z).2.2.1 x c e rfl
    by_cases hc : c ∈ X.fs
    · obtain ⟨sl, q⟩ := slot c o (I.cne x c e) hc nch ho (I.freeC x c e)
      exact ⟨_, q, hd⟩
    · exact ⟨o, keep c o (I.cne x c e) hc nch ho (I.freeC x c e), hd⟩
  refine ⟨I.ok, I.os, hg, ⟨fun b o e n hb hx => ?_, fun b o e n hb hx => ?_, fun b o e n hx => ?_, fun b o e hx => ?_, fun b xs e => tups b xs (I.base.tups b xs e), fun b o xs e => frzs b o xs (I.base.frzs b o xs e), fun b ps e => ?_⟩, ?_, fun x c e => ?_, ?_, fun x c e => ?_, fun p hp => ?_, hok, I.len, ht⟩
  · exact keep b o (neL b o e) hb (neC b o e hx) (I.base.keep b o e n hb hx) (I.base.free b o e n hx)
  · obtain ⟨sl, e1⟩ := I.base.slot b o e n hb hx
    obtain ⟨sl', e2⟩ := slot b _ (neL b o e) hb (neC b o e hx) e1 (I.base.free b o e n hx)
    exact ⟨sl', e2⟩
  · obtain ⟨o', e1⟩ := I.base.there b o e hx
    exact free b o' (neC b o e hx) e1 (I.base.free b o e n hx)
  · obtain ⟨o', e1⟩ := I.base.there b o e hx
    exact there b o' (neC b o e hx) e1
  · obtain ⟨m1, e1⟩ := I.base.tbls b ps e
    obtain ⟨m2, e2⟩ := tbls b _ e1
    exact ⟨m1 ++ m2, by rw [e2, Array.append_assoc]⟩
  · obtain ⟨m, hn, hl⟩ := I.loc
    refine ⟨m, ns m hn, fun i x v e1 e2 e3 => ?_⟩
    obtain ⟨u, r, l⟩ := hl i x v e1 e2 e3
    refine ⟨u, r, ?_⟩
    rcases l with l | ⟨k, c, e, z⟩
    · exact .inl l
    · exact .inr ⟨k, c, e, cellK x c e _ z⟩
  · obtain ⟨v, z⟩ := I.cell x c e
    exact ⟨v, cellK x c e v z⟩
  · obtain ⟨m, ⟨o, _, _, ho, _⟩, _⟩ := I.loc
    exact free _ o (fun z => (hch _ z).2.1 rfl) ho I.free
  · obtain ⟨v, o, ho, hd⟩ := I.cell x c e
    exact free c o (fun z => (hch c z).2.2.1 x c e rfl) ho (I.freeC x c e)
  · obtain ⟨e, n, ne, nf, d⟩ := I.pin p hp
    have nch : p.1 ∉ ch := fun z => (hch p.1 z).2.2.2 p hp rfl
    exact ⟨keep p.1 p.2 ne nf nch e n, free p.1 p.2 nch e n, ne, nf, d⟩

theorem Inv.un {t' : Nat} (I : Inv X pins σ H s) (u : Un X.fs [] H H' s.heap h') (hok : HOk X.prog X.w H' h') (ht : 0 < t' := by first | assumption | exact Nat.succ_pos _ | exact L2.Inv.tk (by assumption) | (refine Nat.lt_of_lt_of_le (L2.Inv.tk (by assumption)) ?_; first | assumption | omega)) : Inv X pins σ H' { s with heap := h', toks := t' } := by
  obtain ⟨m, ⟨o, es, ep, ho, r⟩, _⟩ := id I.loc
  obtain ⟨sl, hL⟩ := u.any ho I.free (by simp)
  exact I.step (g' := s.gens) (d' := s.drawn) (ch := []) (fun _ z => nomatch z) (fun b o _ hb _ e n => u.keep b o e n hb (by simp)) (fun b o _ hb _ e n => u.slot b o e n hb (by simp)) (fun b o _ e n => u.free b o e n (by simp)) (fun b o _ e => u.there b o e (by simp)) u.tups u.frzs u.tbls (fun m' hm => by
    obtain ⟨o', es', ep', ho', r'⟩ := hm
    rw [ho] at ho'; cases ho'
    exact ⟨_, es', ep', hL, r'⟩) hok I.bare ht

theorem Inv.call {g' : Array GenState} {t' : Nat} {d' : Drawn} {ch : List Addr} (I : Inv X pins σ H s) (u : Un (frs X.stack) ch H H' s.heap h') (hok : HOk X.prog X.w H' h') (hg : AllBare g')
    (hch : ∀ b ∈ ch, (b ∈ X.ex ∨ X.s₀.heap.objs.size ≤ b) ∧ b ≠ X.env.locals ∧ (∀ x c, X.env.cells.lookup x = some c → c ≠ b) ∧ ∀ p ∈ X.pn ++ pins, p.1 ≠ b) (ht : 0 < t' := by first | assumption | exact Nat.succ_pos _ | exact L2.Inv.tk (by assumption) | (refine Nat.lt_of_lt_of_le (L2.Inv.tk (by assumption)) ?_; first | assumption | omega)) :
    Inv X pins σ H' { s with heap := h', gens := g', drawn := d', toks := t' } := by
  obtain ⟨m, ⟨o, es, ep, ho, r⟩, _⟩ := id I.loc
  obtain ⟨sl, hL⟩ := u.any ho I.free fun z => (hch _ z).2.1 rfl
  exact I.step (ch := ch) hch (fun b o hL hb hc e n => u.keep b o e n (fun z => (List.mem_cons.mp (I.stkSub b z)).elim hL hb) hc) (fun b o _ _ hc e n => u.any e n hc) (fun b o hc e n => u.free b o e n hc) (fun b o hc e => u.there b o e hc) u.tups u.frzs u.tbls (fun m' hm => by
    obtain ⟨o', es', ep', ho', r'⟩ := hm
    rw [ho] at ho'; cases ho'
    exact ⟨_, es', ep', hL, r'⟩) hok hg ht

theorem Inv.turned {t' : Nat} {it : Addr} (I : Inv X pins σ H s) (k : ∀ b o, b ≠ it → s.heap.get? b = some o → h'.get? b = some o) (hn : H it = none) (hL : it ≠ X.env.locals)
    (h1 : it ∈ X.ex ∨ X.s₀.heap.objs.size ≤ it) (h2 : ∀ x c, X.env.cells.lookup x = some c → c ≠ it) (h3 : ∀ p ∈ X.pn ++ pins, p.1 ≠ it) (ht : 0 < t' := by first | assumption | exact Nat.succ_pos _ | exact L2.Inv.tk (by assumption) | (refine Nat.lt_of_lt_of_le (L2.Inv.tk (by assumption)) ?_; first | assumption | omega)) : Inv X pins σ H { s with heap := h', toks := t' } := by
  have nit : ∀ b u, H b = some u → b ≠ it := fun b u e z => by rw [z, hn] at e; cases e
  refine I.step (g' := s.gens) (d' := s.drawn) (ch := [it]) (fun b hb => ?_) (fun b o _ _ hc e _ => k b o (fun z => hc (by simp [z])) e) (fun b o _ _ hc e _ => ⟨o.slots, k b o (fun z => hc (by simp [z])) e⟩) (fun _ _ _ _ n => n)
    (fun b o hc e => ⟨o, k b o (fun z => hc (by simp [z])) e⟩) (fun _ _ e => e) (fun _ _ _ e => e) (fun b ps e => ⟨#[], by rw [e]; simp⟩) (fun m hm => ?_) (fun b u e => ?_) I.bare ht
  · have e : b = it := by simpa using hb
    subst e
    exact ⟨h1, hL, h2, h3⟩
  · obtain ⟨o, es, ep, ho, r⟩ := hm
    exact ⟨o, es, ep, k _ o (Ne.symm hL) ho, r⟩
  · refine (I.hok b u e).stay (fun c v hc q => k c v ?_ q) (fun _ q => q) fun _ _ q => q
    rcases hc with z | z
    · rw [z]; exact nit b u e
    · exact nit c _ z
theorem Inv.tok (I : Inv X pins σ H s) (t' : Nat) (ht : 0 < t' := by first | assumption | exact Nat.succ_pos _ | exact L2.Inv.tk (by assumption) | (refine Nat.lt_of_lt_of_le (L2.Inv.tk (by assumption)) ?_; first | assumption | omega)) : Inv X pins σ H { s with toks := t' } := I.un (h' := s.heap) (t' := t') Un.refl I.hok ht

theorem Inv.kept {t' : Nat} (I : Inv X pins σ H s) (k : ∀ b u, s.heap.get? b = some u → h'.get? b = some u) (ht : 0 < t' := by first | assumption | exact Nat.succ_pos _ | exact L2.Inv.tk (by assumption) | (refine Nat.lt_of_lt_of_le (L2.Inv.tk (by assumption)) ?_; first | assumption | omega)) : Inv X pins σ H { s with heap := h', toks := t' } := I.un (Un.kept k) (I.hok.kept k) ht

theorem Inv.laid {a : Addr} {o : HO} {t' : Nat} (I : Inv X pins σ H s) (k : ∀ b u, s.heap.get? b = some u → h'.get? b = some u) (hp : s.heap.objs.size ≤ a) (new : ObjOk X.prog X.w (upd H a o) h' a o) (ht : 0 < t' := by first | assumption | exact Nat.succ_pos _ | exact L2.Inv.tk (by assumption) | (refine Nat.lt_of_lt_of_le (L2.Inv.tk (by assumption)) ?_; first | assumption | omega)) :
    Inv X pins σ (upd H a o) { s with heap := h', toks := t' } := I.un (Un.laid k hp (I.hok.fresh hp)) (I.hok.laid k hp new) ht

theorem Inv.write {x e : Addr} {o : HO} {t' : Nat} (I : Inv X pins σ H s) (mu : Mut (H x)) (he : e = x ∨ H e = some (.own x)) (k : ∀ b u, b ≠ e → s.heap.get? b = some u → h'.get? b = some u) (heo : ∃ u, h'.get? e = some u)
    (new : ObjOk X.prog X.w (upd H x o) h' x o) (ht : 0 < t' := by first | assumption | exact Nat.succ_pos _ | exact L2.Inv.tk (by assumption) | (refine Nat.lt_of_lt_of_le (L2.Inv.tk (by assumption)) ?_; first | assumption | omega)) : Inv X pins σ (upd H x o) { s with heap := h', toks := t' } := I.un (Un.write mu he k heo) (I.hok.write mu he k heo new) ht
theorem Inv.pins_of {pins' : List (Addr × Obj)} (I : Inv X pins σ H s) (h : ∀ p ∈ pins', s.heap.get? p.1 = some p.2 ∧ H p.1 = none ∧ p.1 ≠ X.env.locals ∧ p.1 ∉ X.fs ∧ ∀ v, p.2.data ≠ .cell v) : Inv X pins' σ H s :=
  ⟨I.ok, I.os, I.bare, I.base, I.loc, I.cell, I.free, I.freeC, fun p hp => (List.mem_append.mp hp).elim (fun z => I.pin p (List.mem_append_left _ z)) (h p), I.hok, I.len, I.tk⟩

theorem nodup_ix {N : List Str} (hN : N.Nodup) {i j : Nat} {x : Str} (a : N[i]? = some x) (b : N[j]? = some x) : i = j := by
  obtain ⟨h1, e1⟩ := List.getElem?_eq_some_iff.mp a
  obtain ⟨h2, e2⟩ := List.getElem?_eq_some_iff.mp b
  exact (List.getElem_inj hN).mp (e1.trans e2.symm)

theorem store_ok2 {M : Model} {A : Around} {E : Value → Shared → Prop} {i : Nat} {x : Str} {v : V} {u : Value} {Q : Unit → Shared → Prop} (I : Inv X pins σ H s) (hN : X.N.Nodup) (hi : X.N[i]? = some x) (hx : Loc X.env.scope x) (r : RelV v u)
    (h : ∀ s', Inv X pins (σ.set i (some v)) H s' → (∃ a, Heap.SameBut a s.heap s'.heap ∧ (a = X.env.locals ∨ X.env.cells.lookup x = some a)) → Q () s') (hf : X.fn x = true ∨ X.env.scope.names.lookup x = some .local := by first | exact .inl rfl | exact .inr rfl | assumption) : wpAny M A (storeName X.env x u) Q E s := by
  obtain ⟨m, hn, hl⟩ := id I.loc
  have hcls : (X.env.scope.kind == .class || (X.env.scope.kind == .module && X.env.locals != X.env.globals)) = false := by rw [I.ok.kind]; rfl
  have hiσ : i < σ.length := by rw [I.len]; exact (List.getElem?_eq_some_iff.mp hi).1
  have cne := I.cne
  have tracked : ∀ {a : Addr} {h' : Heap}, (∃ o, s.heap.get? a = some o ∧ H a = none) → Heap.SameBut a s.heap h' → HOk X.prog X.w H h' := fun {a h'} ha hs b ob e => by
    obtain ⟨_, _, hfree⟩ := ha
    refine (I.hok b ob e).stay (fun c w' hc q => (hs.2 c ?_).trans q) (fun _ q => q) fun _ _ q => q
    rintro rfl
    rcases hc with rfl | hc
    · rw [hfree] at e; cases e
    · rw [hfree] at hc; cases hc
  rcases hx with hk | hk
  · refine wpAny_storeName_local hk hn (fun h' hn' hs => ?_) hcls
    obtain ⟨oL, _, _, hoL, _⟩ := id hn
    refine h _ ⟨I.ok, I.os, I.bare, ⟨fun b o e n hb hx => ?_, fun b o e n hb hx => ?_, I.base.free, fun b o e hx => ?_, I.base.tups, I.base.frzs, I.base.tbls⟩, ⟨_, hn', fun j y v' e1 e2 e3 => ?_⟩, fun y c e => ?_, I.free, I.freeC, fun p hp => ?_, tracked ⟨oL, hoL, I.free⟩ hs, by simpa using I.len, by first | exact I.tk | exact Nat.succ_pos _⟩ ⟨_, hs, .inl rfl⟩
    · exact (hs.2 b (Nat.ne_of_lt (Nat.lt_of_lt_of_le (Heap.lt_size e) I.ok.above))).trans (I.base.keep b o e n hb hx)
    · obtain ⟨sl, e1⟩ := I.base.slot b o e n hb hx
      exact ⟨sl, (hs.2 b (Nat.ne_of_lt (Nat.lt_of_lt_of_le (Heap.lt_size e) I.ok.above))).trans e1⟩
    · obtain ⟨o', e1⟩ := I.base.there b o e hx
      exact ⟨o', (hs.2 b (Nat.ne_of_lt (Nat.lt_of_lt_of_le (Heap.lt_size e) I.ok.above))).trans e1⟩
    · by_cases hj : j = i
      · subst hj
        rw [hi] at e1; cases e1
        rw [List.getElem?_set_self hiσ] at e2
        cases e2
        exact ⟨u, r, .inl ⟨hk, by simp⟩⟩
      · rw [List.getElem?_set_ne (Ne.symm hj)] at e2
        obtain ⟨u', r', q⟩ := hl j y v' e1 e2 e3
        refine ⟨u', r', ?_⟩
        rcases q with ⟨k, e⟩ | ⟨k, c, e, z⟩
        · refine .inl ⟨k, ?_⟩
          have : y ≠ x := fun e => hj (nodup_ix hN e1 (e ▸ hi))
          simp [this, e]
        · exact .inr ⟨k, c, e, z.sameBut hs (cne y c e)⟩
    · obtain ⟨w', z⟩ := I.cell y c e
      exact ⟨w', z.sameBut hs (cne y c e)⟩
    · obtain ⟨e, n, ne, nf, d⟩ := I.pin p hp
      exact ⟨(hs.2 p.1 ne).trans e, n, ne, nf, d⟩
  · have hfn : X.fn x = true := by
      rcases hf with z | z
      · exact z
      · rw [z] at hk; cases hk
    obtain ⟨c, hc⟩ := I.ok.has x (.inl hk)
    obtain ⟨w', z⟩ := I.cell x c hc
    refine wpAny_storeName_cell I.ok.kind hk hc z (fun h' hc' hs => ?_)
    obtain ⟨oc, hoc, hocd⟩ := id z
    refine h { s with heap := h' } ⟨I.ok, I.os, I.bare, ⟨fun b o e n hb hx => ?_, fun b o e n hb hx => ?_, I.base.free, fun b o e hx => ?_, I.base.tups, I.base.frzs, I.base.tbls⟩, ⟨m, hn.sameBut hs (Ne.symm (cne x c hc)), fun j y v' e1 e2 e3 => ?_⟩, fun y c' e => ?_, I.free, I.freeC, fun p hp => ?_, tracked ⟨oc, hoc, I.freeC x c hc⟩ hs, by simpa using I.len, by first | exact I.tk | exact Nat.succ_pos _⟩ ⟨c, hs, .inr hc⟩
    · exact (hs.2 b (Nat.ne_of_lt (Nat.lt_of_lt_of_le (Heap.lt_size e) (I.ok.cab x c hfn hc)))).trans (I.base.keep b o e n hb hx)
    · obtain ⟨sl, e1⟩ := I.base.slot b o e n hb hx
      exact ⟨sl, (hs.2 b (Nat.ne_of_lt (Nat.lt_of_lt_of_le (Heap.lt_size e) (I.ok.cab x c hfn hc)))).trans e1⟩
    · obtain ⟨o', e1⟩ := I.base.there b o e hx
      exact ⟨o', (hs.2 b (Nat.ne_of_lt (Nat.lt_of_lt_of_le (Heap.lt_size e) (I.ok.cab x c hfn hc)))).trans e1⟩
    · by_cases hj : j = i
      · subst hj
        rw [hi] at e1; cases e1
        rw [List.getElem?_set_self hiσ] at e2
        cases e2
        exact ⟨u, r, .inr ⟨.inl hk, c, hc, hc'⟩⟩
      · rw [List.getElem?_set_ne (Ne.symm hj)] at e2
        obtain ⟨u', r', q⟩ := hl j y v' e1 e2 e3
        refine ⟨u', r', ?_⟩
        rcases q with q | ⟨k, c', e, z'⟩
        · exact .inl q
        · refine .inr ⟨k, c', e, z'.sameBut hs ?_⟩
          rintro rfl
          exact hj (nodup_ix hN e1 (I.ok.inj _ _ _ e hc ▸ hi))
    · by_cases hcc : c' = c
      · subst hcc; exact ⟨_, hc'⟩
      · obtain ⟨w2, z2⟩ := I.cell y c' e
        exact ⟨w2, z2.sameBut hs hcc⟩
    · obtain ⟨e, n, ne, nf, d⟩ := I.pin p hp
      refine ⟨(hs.2 p.1 ?_).trans e, n, ne, nf, d⟩
      intro q
      rw [q, hoc] at e
      have q' : oc = p.2 := Option.some.inj e
      exact d w' (by rw [← q']; exact hocd)
theorem store_ok {M : Model} {A : Around} {E : Value → Shared → Prop} {i : Nat} {x : Str} {v : V} {u : Value} {Q : Unit → Shared → Prop} (I : Inv X pins σ H s) (hN : X.N.Nodup) (hi : X.N[i]? = some x) (hx : Loc X.env.scope x) (r : RelV v u)
    (h : ∀ s', Inv X pins (σ.set i (some v)) H s' → Q () s') (hf : X.fn x = true ∨ X.env.scope.names.lookup x = some .local := by first | exact .inl rfl | exact .inr rfl | assumption) : wpAny M A (storeName X.env x u) Q E s :=
  store_ok2 I hN hi hx r (fun s' I' _ => h s' I') hf

theorem Inv.call' {s' : Shared} {ch : List Addr} (I : Inv X pins σ H s) (ho : s'.os = s.os) (u : Un (frs X.stack) ch H H' s.heap s'.heap) (hok : HOk X.prog X.w H' s'.heap) (hg : AllBare s'.gens)
    (hch : ∀ b ∈ ch, (b ∈ X.ex ∨ X.s₀.heap.objs.size ≤ b) ∧ b ≠ X.env.locals ∧ (∀ x c, X.env.cells.lookup x = some c → c ≠ b) ∧ ∀ p ∈ X.pn ++ pins, p.1 ≠ b) (ht : 0 < s'.toks := by first | assumption | exact Nat.succ_pos _ | exact L2.Inv.tk (by assumption) | (refine Nat.lt_of_lt_of_le (L2.Inv.tk (by assumption)) ?_; first | assumption | omega)) : Inv X pins σ H' s' := by
  obtain ⟨h', g', d', t', o'⟩ := s'
  have e : o' = s.os := ho
  subst e
  exact I.call (g' := g') (t' := t') (d' := d') u hok hg hch ht
end

noncomputable abbrev XK := Value → Option Addr → Hp → Prop
noncomputable abbrev St := List (Option V)
noncomputable abbrev VK := V → Hp → Prop

noncomputable abbrev TE := St → Hp → VK → Prop
noncomputable abbrev TT := St → Hp → (Bool → Hp → Prop) → Prop
noncomputable abbrev TA := St → Hp → (List V → Hp → Prop) → Prop

structure Ends where
  nx : St → Hp → Prop
  rt : VK
  bk : St → Hp → Prop := fun _ _ => False
  ct : St → Hp → Prop := fun _ _ => False
noncomputable abbrev TS := Ends → St → Hp → Prop

noncomputable def EP (X : Cx) (pins : List (Addr × Obj)) (σ : St) (Q : VK) (u : Value) (s' : Shared) : Prop := ∃ v H', Inv X pins σ H' s' ∧ RelV v u ∧ Q v H'
noncomputable def TP (X : Cx) (pins : List (Addr × Obj)) (σ : St) (Q : Bool → Hp → Prop) (b : Bool) (s' : Shared) : Prop := ∃ H', Inv X pins σ H' s' ∧ Q b H'
noncomputable def AP (X : Cx) (pins : List (Addr × Obj)) (σ : St) (Q : List V → Hp → Prop) (us : List Value) (s' : Shared) : Prop := ∃ vs H', Inv X pins σ H' s' ∧ Vals vs us ∧ Q vs H'
noncomputable def SP (X : Cx) (pins : List (Addr × Obj)) (D : Ends) (f : Flow) (s' : Shared) : Prop :=
  match f with
  | .next => ∃ σ' H', Inv X pins σ' H' s' ∧ D.nx σ' H'
  | .brk => ∃ σ' H', Inv X pins σ' H' s' ∧ D.bk σ' H'
  | .cont => ∃ σ' H', Inv X pins σ' H' s' ∧ D.ct σ' H'
  | .ret u => ∃ v σ' H', Inv X pins σ' H' s' ∧ RelV v u ∧ D.rt v H'

noncomputable def PE (X : Cx) (e : Expr) (t : TE) : Prop :=
  ∀ (pins : List (Addr × Obj)) (s : Shared) (σ : St) (H : Hp) (Q : VK), Inv X pins σ H s → t σ H Q → wpAny (model X.prog X.w) X.A (eval e X.env) (EP X pins σ Q) X.xe s
noncomputable def PT (X : Cx) (e : Expr) (t : TT) : Prop :=
  ∀ (pins : List (Addr × Obj)) (s : Shared) (σ : St) (H : Hp) (Q : Bool → Hp → Prop), Inv X pins σ H s → t σ H Q → wpAny (model X.prog X.w) X.A (isTrue e X.env (eval e X.env)) (TP X pins σ Q) X.xe s

noncomputable def PW (X : Cx) (e : Expr) (t : TT) : Prop :=
  ∀ (whole : Sem Value) (pins : List (Addr × Obj)) (s : Shared) (σ : St) (H : Hp) (Q : Bool → Hp → Prop), Inv X pins σ H s → t σ H Q → wpAny (model X.prog X.w) X.A (isTrue e X.env whole) (TP X pins σ Q) X.xe s
theorem PW.pt {X : Cx} {e : Expr} {t : TT} (h : PW X e t) : PT X e t := h _

noncomputable def PA (X : Cx) (es : List Expr) (t : TA) : Prop :=
  ∀ (pos : Pos) (pins : List (Addr × Obj)) (s : Shared) (σ : St) (H : Hp) (Q : List V → Hp → Prop), Inv X pins σ H s → t σ H Q → wpAny (model X.prog X.w) X.A (spliced (backTo pos (starEach es X.env))) (AP X pins σ Q) X.xe s
noncomputable def PS (X : Cx) (st : Stmt) (t : TS) : Prop :=
  ∀ (pins : List (Addr × Obj)) (s : Shared) (σ : St) (H : Hp) (D : Ends), Inv X pins σ H s → t D σ H → wpAny (model X.prog X.w) X.A (exec st X.env) (SP X pins D) X.xe s
noncomputable def PSs (X : Cx) (st : List Stmt) (t : TS) : Prop :=
  ∀ (pins : List (Addr × Obj)) (s : Shared) (σ : St) (H : Hp) (D : Ends), Inv X pins σ H s → t D σ H → wpAny (model X.prog X.w) X.A (execs st X.env) (SP X pins D) X.xe s

theorem thn {α : Type} {t : Sem α} {Q Q' : α → Shared → Prop} {M : Model} {A : Around} {E : Value → Shared → Prop} {s : Shared} (h : wpAny M A t Q E s) (hQ : ∀ a s, Q a s → Q' a s) : wpAny M A t Q' E s := wpAny_mono h hQ fun _ _ x => x
end L2

namespace L2
open PySem PySem.Spec PyProof.Rows
section
variable {X : Cx}

theorem bin {a b : Expr} {ta tb : TE} (ha : PE X a ta) (hb : PE X b tb) {pins : List (Addr × Obj)} {s : Shared} {σ : St} {H : Hp} {R : V → V → Hp → Prop} (I : Inv X pins σ H s) (h : ta σ H fun x H1 => tb σ H1 fun y H2 => R x y H2)
    {α : Type} {Q : α → Shared → Prop} {f : Value → Value → Sem α}
    (hf : ∀ v u s2 x y H2, Inv X pins σ H2 s2 → RelV x v → RelV y u → R x y H2 → wpAny (model X.prog X.w) X.A (f v u) Q X.xe s2) :
    wpAny (model X.prog X.w) X.A (eval a X.env) (fun v s₁ => wpAny (model X.prog X.w) X.A (eval b X.env) (fun u s₂ => wpAny (model X.prog X.w) X.A (f v u) Q X.xe s₂) X.xe s₁) X.xe s := by
  refine thn (ha pins s σ H _ I h) fun v s1 ⟨x, H1, I1, r1, q1⟩ => ?_
  refine thn (hb pins s1 σ H1 _ I1 q1) fun u s2 ⟨y, H2, I2, r2, q2⟩ => ?_
  exact hf v u s2 x y H2 I2 r1 r2 q2

inductive XVar (i : Nat) (σ : St) (H : Hp) (Q : VK) : Prop
  | mk (v : V) (e : σ[i]? = some (some v)) (q : Q v H) : XVar i σ H Q
noncomputable def tVar (i : Nat) : TE := fun σ H Q => XVar i σ H Q
noncomputable def tC (v : V) : TE := fun _ H Q => Q v H
theorem pe_var {i : Nat} {x : Str} {pos : Pos} (hN : X.N[i]? = some x) (hv : Vis X.env.scope x) (hd : (x == ("__debug__" : Str)) = false := by decide) (hcd : (x == ("__classdict__" : Str)) = false := by decide) : PE X (.Name x pos) (tVar i) := by
  intro pins s σ H Q I h
  obtain ⟨v, e, h⟩ := h
  obtain ⟨m, hn, hl⟩ := I.loc
  obtain ⟨u, r, l⟩ := hl i x v hN e hv
  have fin : EP X pins σ Q u s := ⟨v, H, I, r, h⟩
  rcases l with ⟨hk, hm⟩ | ⟨hk, c, hc, hcell⟩
  · exact wpAny_Name (wpAny_loadName_local I.ok.kind hk hn hm fin) hd
  · rcases hk with hk | hk
    · exact wpAny_Name (wpAny_loadName_cell I.ok.kind hk hc hcell fin) hd
    · exact wpAny_Name (wpAny_loadName_free I.ok.kind hk hc hcell fin hcd) hd
theorem pe_int {i j pos} : PE X (.Constant (.int i) j pos) (tC (.int i)) := fun _ _ _ H _ I h => wpAny_Constant_int ⟨.int i, H, I.tok _, ⟨_, rfl⟩, h⟩
theorem pe_bl {b j pos} : PE X (.Constant (.bool b) j pos) (tC (.bl b)) := fun _ _ _ H _ I h => Constant_bool ⟨.bl b, H, I, rfl, h⟩
theorem pe_non {j pos} : PE X (.Constant .none j pos) (tC .non) := fun _ _ _ H _ I h => Constant_none ⟨.non, H, I, rfl, h⟩
theorem pe_str {x j pos} : PE X (.Constant (.str x) j pos) (tC (.str x)) := fun _ _ _ H _ I h => Calls.Constant_str ⟨.str x, H, I.tok _, ⟨_, rfl⟩, h⟩

noncomputable def Gl (X : Cx) (x : Str) : Prop := X.env.kindOf x = some .globalImplicit
theorem ld_glob {E : Value → Shared → Prop} {pins : List (Addr × Obj)} {s : Shared} {σ : St} {H : Hp} {x : Str} {u : Value} {pos : Pos} {Q : Value → Shared → Prop} (I : Inv X pins σ H s) (hg : Gl X x) (hm : X.mg x = some u) (h : Q u s)
    (hd : (x == ("__debug__" : Str)) = false := by decide) : wpAny (model X.prog X.w) X.A (eval (.Name x pos) X.env) Q E s :=
  Calls.Name_function_global I.ok.kind hg (Calls.loadGlobal_global (by rw [I.ok.glob]; exact I.mod.glob.keeps I.bk) hm h) hd
theorem ld_blt {E : Value → Shared → Prop} {pins : List (Addr × Obj)} {s : Shared} {σ : St} {H : Hp} {x : Str} {u : Value} {pos : Pos} {Q : Value → Shared → Prop} (I : Inv X pins σ H s) (hg : Gl X x) (hm : X.mg x = none) (hv : bootBuiltins x = some u) (h : Q u s)
    (hn : x ≠ "__name__" := by decide) (hd : (x == ("__debug__" : Str)) = false := by decide) : wpAny (model X.prog X.w) X.A (eval (.Name x pos) X.env) Q E s := by
  obtain ⟨mb, h1, h2⟩ := I.mod.blt
  exact Calls.Name_function_global I.ok.kind hg (Calls.loadGlobal_builtin (by rw [I.ok.glob]; exact I.mod.glob.keeps I.bk) hm (by rw [I.ok.blt]; exact h1.keeps I.bk) ((h2 x hn).trans hv) h) hd

theorem pe_glob {x : Str} {v : V} {u : Value} {pos : Pos} (hg : Gl X x) (hm : X.mg x = some u) (r : RelV v u) (hd : (x == ("__debug__" : Str)) = false := by decide) : PE X (.Name x pos) (tC v) :=
  fun _ _ _ H _ I h => ld_glob I hg hm ⟨v, H, I, r, h⟩ hd
theorem pe_bltn {x : Str} {v : V} {u : Value} {pos : Pos} (hg : Gl X x) (hm : X.mg x = none) (hv : bootBuiltins x = some u) (r : RelV v u) (hn : x ≠ "__name__" := by decide) (hd : (x == ("__debug__" : Str)) = false := by decide) : PE X (.Name x pos) (tC v) :=
  fun _ _ _ H _ I h => ld_blt I hg hm hv ⟨v, H, I, r, h⟩ hn hd

variable {a b : Expr} {ta tb : TE} {pos : Pos}

noncomputable def PC (X : Cx) (op : CmpOp) (a b : Expr) (t : TE) : Prop :=
  ∀ (pins : List (Addr × Obj)) (s : Shared) (σ : St) (H : Hp) (Q : VK), Inv X pins σ H s → t σ H Q →
    wpAny (model X.prog X.w) X.A (eval a X.env) (fun v s₁ => wpAny (model X.prog X.w) X.A (eval b X.env) (fun u s₂ => wpAny (model X.prog X.w) X.A (compareOp op v u) (EP X pins σ Q) X.xe s₂) X.xe s₁) X.xe s
theorem nobehind (b : Expr) {op : CmpOp} (h : op ≠ .In) (h2 : op ≠ .NotIn) : behindInMarks op b = false := by
  have e1 : (op == CmpOp.In) = false := by cases op <;> first | rfl | exact absurd rfl h
  have e2 : (op == CmpOp.NotIn) = false := by cases op <;> first | rfl | exact absurd rfl h2
  cases b <;> simp [behindInMarks, e1, e2]

inductive XB (x : V) (H : Hp) (Q : Bool → Hp → Prop) : Prop
  | mk (c : Bool) (e : x = .bl c) (q : Q c H) : XB x H Q
noncomputable def tB (t : TE) : TT := fun σ H Q => t σ H fun x H1 => XB x H1 Q
theorem pt_cmp {op : CmpOp} {t : TE} (h : PC X op a b t) (h1 : behindInMarks op b = false := by first | exact nobehind _ (by decide) (by decide) | rfl) : PT X (.Compare a [op] [b] pos) (tB t) := by
  intro pins s σ H Q I hw
  refine wpAny_isTrue_Compare1 (thn (h pins s σ H _ I hw) fun v s1 h1 => thn h1 fun u s2 h2 => thn h2 fun c s3 ⟨x, H1, I1, r1, q1⟩ => ?_) h1
  obtain ⟨d, rfl, q⟩ := q1
  cases r1
  exact wpAny_truthy_bool ⟨H1, I1, q⟩

theorem pt_val {e : Expr} {t : TE} (h : PE X e t) (he : ∀ whole, isTrue e X.env whole = (do let v ← whole; standAt e.pos; holding [v] (truthy v)) := by intro _; rfl) : PT X e (tB t) := by
  intro pins s σ H Q I hw
  refine isTrue_plain (thn (h pins s σ H _ I hw) fun v s1 ⟨x, H1, I1, r1, q1⟩ => ?_) (he _)
  obtain ⟨d, rfl, q⟩ := q1
  cases r1
  exact wpAny_truthy_bool ⟨H1, I1, q⟩

variable {tA tB' : TT} {rest : List Expr}
noncomputable def tAnd (t u : TT) : TT := fun σ H Q => t σ H fun c H1 => if c = true then u σ H1 Q else Q false H1
noncomputable def tOr (t u : TT) : TT := fun σ H Q => t σ H fun c H1 => if c = true then Q true H1 else u σ H1 Q
noncomputable def tNot (t : TT) : TT := fun σ H Q => t σ H fun c H1 => Q (!c) H1
theorem pw_and1 (ha : PT X a tA) : PW X (.BoolOp .And [a] pos) tA := by
  intro wh pins s σ H Q I h
  refine isTrue_and (thn (ha pins s σ H Q I h) fun c s1 e => ?_)
  cases c with
  | true => exact isTrue_and_nil e
  | false => exact e
theorem pw_or1 (ha : PT X a tA) : PW X (.BoolOp .Or [a] pos) tA := by
  intro wh pins s σ H Q I h
  refine isTrue_or (thn (ha pins s σ H Q I h) fun c s1 e => ?_)
  cases c with
  | false => exact isTrue_or_nil e
  | true => exact e
theorem pw_and (ha : PT X a tA) (hb : PW X (.BoolOp .And (b :: rest) pos) tB') : PW X (.BoolOp .And (a :: b :: rest) pos) (tAnd tA tB') := by
  intro wh pins s σ H Q I h
  refine isTrue_and (thn (ha pins s σ H _ I h) fun c s1 ⟨H1, I1, q1⟩ => ?_)
  cases c with
  | true => exact hb wh pins s1 σ H1 Q I1 q1
  | false => exact ⟨H1, I1, q1⟩
theorem pw_or (ha : PT X a tA) (hb : PW X (.BoolOp .Or (b :: rest) pos) tB') : PW X (.BoolOp .Or (a :: b :: rest) pos) (tOr tA tB') := by
  intro wh pins s σ H Q I h
  refine isTrue_or (thn (ha pins s σ H _ I h) fun c s1 ⟨H1, I1, q1⟩ => ?_)
  cases c with
  | true => exact ⟨H1, I1, q1⟩
  | false => exact hb wh pins s1 σ H1 Q I1 q1
theorem pt_not (ha : PT X a tA) : PT X (.UnaryOp .Not a pos) (tNot tA) := by
  intro pins s σ H Q I h
  exact isTrue_not (ha pins s σ H (fun c H1 => Q (!c) H1) I h)

noncomputable def tAndV (ta tb : TE) : TE := fun σ H Q => ta σ H fun x H1 => ∃ c, x = .bl c ∧ if c = true then tb σ H1 Q else Q (.bl false) H1
noncomputable def tNotV (ta : TE) : TE := fun σ H Q => ta σ H fun x H1 => ∃ c, x = .bl c ∧ Q (.bl (!c)) H1
theorem pe_one {op} {t : TE} (h : PE X a t) : PE X (.BoolOp op [a] pos) t := fun pins s σ H Q I hw => BoolOp_one (h pins s σ H Q I hw)
theorem pe_and (ha : PE X a ta) (hb : PE X (.BoolOp .And (b :: rest) pos) tb) : PE X (.BoolOp .And (a :: b :: rest) pos) (tAndV ta tb) := by
  intro pins s σ H Q I h
  refine BoolOp_and (thn (ha pins s σ H _ I h) fun v s1 ⟨x, H1, I1, r1, q1⟩ => ?_)
  obtain ⟨c, rfl, q1⟩ := q1
  cases r1
  refine wpAny_truthy_bool ?_
  cases c with
  | true => exact hb pins s1 σ H1 Q I1 q1
  | false => exact ⟨.bl false, H1, I1, rfl, q1⟩
theorem pe_not (ha : PE X a ta) : PE X (.UnaryOp .Not a pos) (tNotV ta) := by
  intro pins s σ H Q I h
  refine UnaryOp_ (thn (ha pins s σ H _ I h) fun v s1 ⟨x, H1, I1, r1, q1⟩ => ?_)
  obtain ⟨c, rfl, q1⟩ := q1
  cases r1
  exact not_of (wpAny_truthy_bool ⟨.bl (!c), H1, I1, rfl, q1⟩)

noncomputable def tIf (t : TT) (ta tb : TE) : TE := fun σ H Q => t σ H fun c H1 => if c = true then ta σ H1 Q else tb σ H1 Q
theorem pe_ifExp {c : Expr} (hc : PT X c tA) (ha : PE X a ta) (hb : PE X b tb) : PE X (.IfExp c a b pos) (tIf tA ta tb) := by
  intro pins s σ H Q I h
  refine wpAny_IfExp (thn (hc pins s σ H _ I h) fun d s1 ⟨H1, I1, q1⟩ => ?_)
  cases d with
  | true => exact ha pins s1 σ H1 Q I1 q1
  | false => exact hb pins s1 σ H1 Q I1 q1
end
end L2

namespace L2
open PySem PySem.Spec PyProof.Rows

noncomputable def SqL (K : PySem.W.Frag) (H : Hp) (a : Addr) (xs : List V) : Prop :=
  Rd H a (.lst xs) ∨
    ∃ (o : Obj) (its : Array Value) (n : Nat), K.lookup a = some o ∧ o.cls = .type "list" ∧ o.dict = none ∧ o.data = .seq its n ∧ its.size ≤ sizeLine ∧ Vals xs its.toList
noncomputable def SqT (K : PySem.W.Frag) (H : Hp) (a : Addr) (xs : List V) : Prop :=
  Rd H a (.tup xs) ∨
    ∃ (o : Obj) (its : Array Value) (n : Nat), K.lookup a = some o ∧ o.cls = .type "tuple" ∧ o.data = .seq its n ∧ its.size ≤ sizeLine ∧ Vals xs its.toList
noncomputable def absV : Value → Option V
  | .none => some .non
  | .bool b => some (.bl b)
  | .int i _ => some (.int i)
  | .str x _ => some (.str x)
  | .bytes b _ => some (.byt b)
  | .float b _ => some (.flt b)
  | .ref a => some (.ref a)
  | .type n => some (.ty n)
  | _ => none
theorem RelV.abs {x : V} {u : Value} (r : RelV x u) : absV u = some x := by
  cases x with
  | non => cases r; rfl
  | bl _ => cases r; rfl
  | int _ => obtain ⟨t, rfl⟩ := r; rfl
  | str _ => obtain ⟨t, rfl⟩ := r; rfl
  | byt _ => obtain ⟨t, rfl⟩ := r; rfl
  | flt _ => obtain ⟨t, rfl⟩ := r; rfl
  | ref _ => cases r; rfl
  | ty _ => cases r; rfl
theorem RelV.inj {x y : V} {u : Value} (r : RelV x u) (q : RelV y u) : x = y := Option.some.inj (r.abs.symm.trans q.abs)
theorem Vals.inj : ∀ {xs ys : List V} {us : List Value}, Vals xs us → Vals ys us → xs = ys
  | _, _, _, .nil, .nil => rfl
  | _, _, _, .cons r t, .cons r' t' => by rw [r.inj r', Vals.inj t t']
section
variable {X : Cx} {pins : List (Addr × Obj)} {σ : St} {H : Hp} {s : Shared} {a : Addr} {xs ys : List V}
theorem SqL.of {K : PySem.W.Frag} (h : H a = some (.lst xs)) : SqL K H a xs := .inl (.inl h)
theorem SqT.of {K : PySem.W.Frag} (h : H a = some (.tup xs)) : SqT K H a xs := .inl (.inl h)
theorem Inv.list (I : Inv X pins σ H s) (h : SqL X.K H a xs) : ∃ its : List Value, Vals xs its ∧ PlainL s.heap a its.toArray ∧ xs.length ≤ sizeLine := by
  rcases h with h | ⟨o, its, n, hk, hc, hd, hs, hz, r⟩
  · obtain ⟨z, its, n, r, e⟩ := h.ok I.hok
    exact ⟨its, r, ⟨_, n, e, rfl, rfl, rfl⟩, z⟩
  · refine ⟨its.toList, r, ⟨o, n, I.kIn a o hk, hc, hd, by simpa using hs⟩, ?_⟩
    have e := r.length
    simp only [Array.length_toList] at e
    omega
theorem Inv.tuple (I : Inv X pins σ H s) (h : SqT X.K H a xs) : ∃ its : List Value, Vals xs its ∧ IsTup s.heap a its.toArray ∧ xs.length ≤ sizeLine := by
  rcases h with h | ⟨o, its, n, hk, hc, hs, hz, r⟩
  · obtain ⟨z, its, r, p⟩ := h.ok I.hok
    exact ⟨its, r, p, z⟩
  · refine ⟨its.toList, r, ⟨o, I.kIn a o hk, hc, n, by simpa using hs⟩, ?_⟩
    have e := r.length
    simp only [Array.length_toList] at e
    omega
theorem Inv.list_inj (I : Inv X pins σ H s) (h : SqL X.K H a xs) (h' : SqL X.K H a ys) : xs = ys := by
  obtain ⟨its, r, ⟨o, n, e, _, _, d⟩, _⟩ := I.list h
  obtain ⟨its', r', ⟨o', n', e', _, _, d'⟩, _⟩ := I.list h'
  rw [e] at e'; cases e'
  rw [d] at d'
  injection d' with d1 _
  have : its = its' := by simpa using congrArg Array.toList d1
  subst this
  exact r.inj r'
end

noncomputable abbrev Cx.wish (X : Cx) (E : Value → Shared → Prop) : Cx := { X with xe := E }

noncomputable abbrev Cx.nox (X : Cx) : Cx := X.wish fun _ _ => False
theorem Cx.Ok.wish {X : Cx} (ok : X.Ok) (E : Value → Shared → Prop) : (X.wish E).Ok :=
  ⟨ok.mod, ok.kind, ok.glob, ok.blt, ok.above, ok.inj, ok.has, ok.cab, ok.hd, ok.frames, ok.stk, ok.exf, ok.bs, ok.bsz, ok.noex, ok.exfs, ok.funs, ok.frf⟩
theorem Cx.Ok.unwish {X : Cx} {E : Value → Shared → Prop} (ok : (X.wish E).Ok) : X.Ok :=
  ⟨ok.mod, ok.kind, ok.glob, ok.blt, ok.above, ok.inj, ok.has, ok.cab, ok.hd, ok.frames, ok.stk, ok.exf, ok.bs, ok.bsz, ok.noex, ok.exfs, ok.funs, ok.frf⟩
section
variable {X : Cx} {pins : List (Addr × Obj)} {σ : St} {H : Hp} {s : Shared} {E : Value → Shared → Prop}
theorem Inv.wish (I : Inv X pins σ H s) (E : Value → Shared → Prop) : Inv (X.wish E) pins σ H s := ⟨I.ok.wish E, I.os, I.bare, I.base, I.loc, I.cell, I.free, I.freeC, I.pin, I.hok, I.len, I.tk⟩
theorem Inv.unwish (I : Inv (X.wish E) pins σ H s) : Inv X pins σ H s := ⟨I.ok.unwish, I.os, I.bare, I.base, I.loc, I.cell, I.free, I.freeC, I.pin, I.hok, I.len, I.tk⟩
theorem SP.unwish {D : Ends} {f : Flow} {s' : Shared} (h : SP (X.wish E) pins D f s') : SP X pins D f s' := by
  cases f with
  | next => obtain ⟨σ', H', I, q⟩ := h; exact ⟨σ', H', I.unwish, q⟩
  | brk => obtain ⟨σ', H', I, q⟩ := h; exact ⟨σ', H', I.unwish, q⟩
  | cont => obtain ⟨σ', H', I, q⟩ := h; exact ⟨σ', H', I.unwish, q⟩
  | ret u => obtain ⟨v, σ', H', I, r, q⟩ := h; exact ⟨v, σ', H', I.unwish, r, q⟩
theorem PSs.nox {st : List Stmt} {t : TS} (h : PSs X.nox st t) : PSs X st t := fun pins s σ H D I hw =>
  wpAny_mono (h pins s σ H D (I.wish _) hw) (fun _ _ q => q.unwish) fun _ _ z => False.elim z
end

section
variable {X : Cx} {st : Stmt} {rest : List Stmt} {t u : TS} {e : Expr} {te : TE} {pos : Pos}
noncomputable def tNext : TS := fun D σ H => D.nx σ H
noncomputable def tSeq (t u : TS) : TS := fun D σ H => t { D with nx := u D } σ H
theorem pss_nil : PSs X [] tNext := fun _ _ σ H _ I h => wpAny_execs_nil ⟨σ, H, I, h⟩
theorem pss_cons (h1 : PS X st t) (h2 : PSs X rest u) : PSs X (st :: rest) (tSeq t u) := by
  intro pins s σ H D I h
  refine wpAny_execs_cons (thn (h1 pins s σ H { D with nx := u D } I h) fun f s1 q => ?_)
  cases f with
  | next =>
    obtain ⟨σ', H', I', q⟩ := q
    exact h2 pins s1 σ' H' D I' q
  | ret v => exact q
  | brk => exact q
  | cont => exact q
theorem pss_one (h1 : PS X st t) : PSs X [st] t := by
  intro pins s σ H D I h
  refine wpAny_execs_cons (thn (h1 pins s σ H D I h) fun f s1 q => ?_)
  cases f with
  | next => exact wpAny_execs_nil q
  | ret v => exact q
  | brk => exact q
  | cont => exact q

theorem Inv.quiet {pins : List (Addr × Obj)} {σ : St} {H : Hp} {s : Shared} (I : Inv X pins σ H s) : interactive X.env = false := by simp [interactive, I.ok.kind]

noncomputable def tDrop (te : TE) : TS := fun D σ H => te σ H fun _ H1 => D.nx σ H1
theorem ps_expr (he : PE X e te) (hs : swapsWith e none pos.line X.env = pure false := by rfl) : PS X (.Expr e pos) (tDrop te) := by
  intro pins s σ H D I h
  exact wpAny_Expr_any (thn (he pins s σ H _ I h) fun v s1 ⟨x, H1, I1, r1, q1⟩ => ⟨σ, H1, I1, q1⟩) I.quiet hs
noncomputable def tRet (te : TE) : TS := fun D σ H => te σ H D.rt
theorem ps_ret (he : PE X e te) : PS X (.Return (some e) pos) (tRet te) := by
  intro pins s σ H D I h
  exact wpAny_Return_some (thn (he pins s σ H _ I h) fun v s1 ⟨x, H1, I1, r1, q1⟩ => ⟨x, σ, H1, I1, r1, q1⟩)
noncomputable def tIfS (c : TT) (t u : TS) : TS := fun D σ H => c σ H fun b H1 => if b = true then t D σ H1 else u D σ H1
theorem ps_if {c : Expr} {a b : List Stmt} {tc : TT} (hc : PT X c tc) (ha : PSs X a t) (hb : PSs X b u) : PS X (.If c a b pos) (tIfS tc t u) := by
  intro pins s σ H D I h
  refine wpAny_If (thn (hc pins s σ H _ I h) fun d s1 ⟨H1, I1, q1⟩ => ?_)
  cases d with
  | true => exact ha pins s1 σ H1 D I1 q1
  | false => exact hb pins s1 σ H1 D I1 q1

noncomputable def tNever : TS := fun _ _ _ => False
theorem ps_never : PS X st tNever := fun _ _ _ _ _ _ h => h.elim
end

noncomputable abbrev TG := V → St → Hp → (St → Hp → Prop) → Prop
noncomputable def PG (X : Cx) (target : Expr) (t : TG) : Prop :=
  ∀ (pins : List (Addr × Obj)) (s : Shared) (σ : St) (H : Hp) (v : V) (u : Value) (Q : St → Hp → Prop), Inv X pins σ H s → RelV v u → t v σ H Q →
    wpAny (model X.prog X.w) X.A (assign target X.env u) (fun _ s' => ∃ σ' H', Inv X pins σ' H' s' ∧ Q σ' H') X.xe s

noncomputable abbrev TSet := V → V → V → Hp → (Hp → Prop) → Prop
noncomputable def PSet (X : Cx) (t : TSet) : Prop :=
  ∀ (pins : List (Addr × Obj)) (s : Shared) (σ : St) (H : Hp) (o i v : V) (ov iv u : Value) (Q : Hp → Prop), Inv X pins σ H s → RelV o ov → RelV i iv → RelV v u → t o i v H Q →
    wpAny (model X.prog X.w) X.A (setItem ov iv u) (fun _ s' => ∃ H', Inv X pins σ H' s' ∧ Q H') X.xe s
section
variable {X : Cx} {pos : Pos}
noncomputable def gName (i : Nat) : TG := fun v σ H Q => Q (σ.set i (some v)) H
theorem pg_name {i : Nat} {x : Str} (hN : X.N.Nodup) (hi : X.N[i]? = some x) (hx : Loc X.env.scope x) (hf : X.fn x = true ∨ X.env.scope.names.lookup x = some .local := by first | exact .inl rfl | exact .inr rfl | assumption) : PG X (.Name x pos) (gName i) := by
  intro pins s σ H v u Q I r h
  exact wpAny_assign_Name (store_ok I hN hi hx r (fun s' I' => ⟨_, H, I', h⟩) hf)

noncomputable def gSub (to ti : TE) (t : TSet) : TG := fun v σ H Q => to σ H fun o H1 => ti σ H1 fun i H2 => t o i v H2 fun H3 => Q σ H3
theorem pg_sub {o i : Expr} {to ti : TE} {t : TSet} (ho : PE X o to) (hi : PE X i ti) (hs : PSet X t)
    (ha : ∀ v, assign (.Subscript o i pos) X.env v = (do
      let ov ← holding [v] (eval o X.env)
      let iv ← holding [v, ov] (eval i X.env)
      standAt pos
      holding [v, ov, iv] (setItem ov iv v)
      release [v, ov, iv] []) := by intro _; rfl) : PG X (.Subscript o i pos) (gSub to ti t) := by
  intro pins s σ H v u Q I r h
  rw [ha]
  refine wpAny_bind (wpAny_holding (thn (ho pins s σ H _ I h) fun ov s1 ⟨x, H1, I1, r1, q1⟩ => ?_))
  refine wpAny_bind (wpAny_holding (thn (hi pins s1 σ H1 _ I1 q1) fun iv s2 ⟨y, H2, I2, r2, q2⟩ => ?_))
  refine wpAny_bind (wpAny_standAt (wpAny_bind (wpAny_holding (thn (hs pins s2 σ H2 x y v ov iv u _ I2 r1 r2 r q2) fun _ s3 ⟨H3, I3, q3⟩ => ?_))))
  exact wpAny_release ⟨σ, H3, I3, q3⟩

noncomputable def tAsg (te : TE) (g : TG) : TS := fun D σ H => te σ H fun x H1 => g x σ H1 D.nx
theorem ps_asg {tg e : Expr} {te : TE} {g : TG} (he : PE X e te) (hg : PG X tg g) (hs : swapsWithSole [tg] e pos.line X.env = pure false := by rfl) (hw : swappedStores [tg] e X.env = pure none := by rfl)
    (h1 : (assignEach [tg] X.env).map (·.2) = [assign tg X.env] := by rfl) : PS X (.Assign [tg] e pos) (tAsg te g) := by
  intro pins s σ H D I h
  refine wpAny_Assign_stores (thn (he pins s σ H _ I h) fun v s1 ⟨x, H1, I1, r1, q1⟩ => ?_) hs hw
  rw [h1]
  exact thn (hg pins s1 σ H1 x v _ I1 r1 q1) fun _ s2 q => q

theorem ps_set {i : Nat} {x : Str} {e : Expr} {te : TE} {pos' : Pos} (hN : X.N.Nodup) (hi : X.N[i]? = some x) (hx : Loc X.env.scope x) (he : PE X e te) (hs : swapsWith e (some (.Name x pos')) pos.line X.env = pure false := by rfl) (hf : X.fn x = true ∨ X.env.scope.names.lookup x = some .local := by first | exact .inl rfl | exact .inr rfl | assumption) :
    PS X (.Assign [.Name x pos'] e pos) (tAsg te (gName i)) := by
  intro pins s σ H D I h
  refine wpAny_Assign_Name (thn (he pins s σ H _ I h) fun v s1 ⟨y, H1, I1, r1, q1⟩ => ?_) hs
  exact store_ok I1 hN hi hx r1 (fun s2 I2 => ⟨_, H1, I2, q1⟩) hf
end

section
variable {X : Cx} {pos : Pos}

noncomputable def tWhile (c : TT) (tb : TS) : TS := fun D σ H => ∃ W : Nat → St → Hp → Prop, (∃ m, W m σ H) ∧ ∀ m σ H, W m σ H →
  c σ H fun b H1 => if b = true then ∃ N : St → Hp → Prop, (∀ σ' H', N σ' H' → ∃ m', m' < m ∧ W m' σ' H') ∧ tb { D with nx := N, ct := N, bk := D.nx } σ H1 else D.nx σ H1
theorem ps_while {c : Expr} {body : List Stmt} {tc : TT} {tb : TS} (hp : PassesOwn (model X.prog X.w) X.A X.env X.xe) (hc : PT X c tc) (hb : PSs X body tb) : PS X (.While c body [] pos) (tWhile tc tb) := by
  intro pins s σ H D I h
  obtain ⟨W, ⟨m0, w0⟩, turn⟩ := h
  refine wpAny_While (codeAny_whileLoop (fun n s' => ∃ σ' H', Inv X pins σ' H' s' ∧ W n σ' H') ?_ m0 ⟨σ, H, I, w0⟩)
  rintro n s1 ⟨σ1, H1, I1, w1⟩
  refine wpAny_passesOwn hp (thn (hc pins s1 σ1 H1 _ I1 (turn n σ1 H1 w1)) fun b s2 ⟨H2, I2, q2⟩ => ?_)
  cases b with
  | true =>
    obtain ⟨N, hN, q2⟩ := q2
    rw [if_pos rfl]
    refine wpAny_passesOwn hp (thn (hb pins s2 σ1 H2 _ I2 q2) fun f s3 q3 => ?_)
    cases f with
    | next =>
      obtain ⟨σ3, H3, I3, n3⟩ := q3
      obtain ⟨m', hm, w3⟩ := hN σ3 H3 n3
      exact ⟨m', hm, σ3, H3, I3, w3⟩
    | cont =>
      obtain ⟨σ3, H3, I3, n3⟩ := q3
      obtain ⟨m', hm, w3⟩ := hN σ3 H3 n3
      exact ⟨m', hm, σ3, H3, I3, w3⟩
    | brk => exact q3
    | ret v => exact q3
  | false =>
    rw [if_neg Bool.false_ne_true]
    exact wpAny_execs_nil ⟨σ1, H2, I2, q2⟩
end

structure It where
  go : Nat → Hp → Prop
  yld : Nat → Hp → V → Hp → Prop
  stop : Nat → Hp → Prop

noncomputable def FpOk (X : Cx) (pins : List (Addr × Obj)) (H : Hp) (b : Addr) : Prop :=
  H b = none ∧ b ≠ X.env.locals ∧ b ∉ X.fs ∧ (b ∈ X.ex ∨ X.s₀.heap.objs.size ≤ b) ∧ (∀ x c, X.env.cells.lookup x = some c → c ≠ b) ∧ ∀ p ∈ X.pn ++ pins, p.1 ≠ b
theorem Inv.fpOk {X : Cx} {pins : List (Addr × Obj)} {σ : St} {H H' : Hp} {s : Shared} {b : Addr} (I : Inv X pins σ H s) (hb : s.heap.objs.size ≤ b) (hn : H' b = none) : FpOk X pins H' b := by
  refine ⟨hn, Nat.ne_of_gt (Nat.lt_of_lt_of_le I.lt hb), I.nofs hb, .inr (Nat.le_trans I.sz hb), fun x c e z => ?_, fun p hp z => ?_⟩
  · obtain ⟨v, q⟩ := I.cell x c e
    exact absurd (Nat.lt_of_lt_of_le q.lt (by rw [z]; exact hb)) (Nat.lt_irrefl _)
  · exact absurd (Nat.lt_of_lt_of_le (Heap.lt_size (I.pin p hp).1) (by rw [z]; exact hb)) (Nat.lt_irrefl _)
structure Turn (P : Program) (w : World) (K : PySem.W.Frag) (tg : Expr) (J : It) (fp : List Addr) (it : Addr) (tn : Nat → Heap → Prop) : Prop where
  mem : it ∈ fp
  obj : ∀ i h, tn i h → ∀ b ∈ fp, ∃ o, h.get? b = some o ∧ ∀ v, o.data ≠ .cell v
  keep : ∀ i h h', tn i h → (∀ b ∈ fp, ∀ o, h.get? b = some o → h'.get? b = some o) → tn i h'
  item : ∀ (X : Cx), X.prog = P → X.w = w → X.K = K → X.calm = true → ∀ (i : Nat) (pins : List (Addr × Obj)) (s : Shared) (σ : St) (H : Hp) (E : Value → Shared → Prop), Inv X pins σ H s → (∀ b ∈ fp, FpOk X pins H b) → tn i s.heap → J.go i H →
    wpAny (model P w) X.A (pyNext (.ref it)) (fun r s1 => ∃ u, r = some u ∧
      wpAny (model P w) X.A (letOwnedTupleGo tg (.ref it) u) (fun _ s2 => ∃ x H', Inv X pins σ H' s2 ∧ RelV x u ∧ J.yld i H x H' ∧ tn (i + 1) s2.heap ∧ ∀ b ∈ fp, H' b = none) E s1) E s
  done : ∀ (X : Cx), X.prog = P → X.w = w → X.K = K → X.calm = true → ∀ (i : Nat) (pins : List (Addr × Obj)) (s : Shared) (σ : St) (H : Hp) (E : Value → Shared → Prop), Inv X pins σ H s → (∀ b ∈ fp, FpOk X pins H b) → tn i s.heap → J.stop i H →
    wpAny (model P w) X.A (pyNext (.ref it)) (fun r s1 => r = none ∧ Inv X pins σ H s1) E s
  self : ∀ (A : Around) (i : Nat) (s : Shared) (Q : Value → Shared → Prop) (E : Value → Shared → Prop), tn i s.heap → Q (.ref it) s → wpAny (model P w) A (pyIter (.ref it)) Q E s
noncomputable abbrev TI := St → Hp → (It → Hp → Prop) → Prop

noncomputable def PIE (X : Cx) (pins : List (Addr × Obj)) (σ : St) (tg : Expr) (R : It → Hp → Prop) (itv : Value) (s2 : Shared) : Prop :=
  ∃ (it : Addr) (fp : List Addr) (tn : Nat → Heap → Prop) (J : It) (H' : Hp), itv = .ref it ∧ Inv X pins σ H' s2 ∧ Turn X.prog X.w X.K tg J fp it tn ∧ tn 0 s2.heap ∧ (∀ b ∈ fp, FpOk X pins H' b) ∧ R J H'
noncomputable def PI (X : Cx) (tg iter : Expr) (wi : TI) : Prop :=
  ∀ (pins : List (Addr × Obj)) (s : Shared) (σ : St) (H : Hp) (R : It → Hp → Prop), Inv X pins σ H s → wi σ H R →
    wpAny (model X.prog X.w) X.A (eval iter X.env) (fun v s1 => wpAny (model X.prog X.w) X.A (pyIter v) (PIE X pins σ tg R) X.xe s1) X.xe s

theorem go_of {M : Model} {A : Around} {E : Value → Shared → Prop} {s : Shared} {tg : Expr} {it : Addr} {u : Value} {o : Obj} {n : String} {vs : Array Value} {Q : Unit → Shared → Prop} (ho : s.heap.get? it = some o) (hc : o.cls = .type n) (hd : o.data = .fields vs)
    (hn : ["enumerate", "zip", "dict_itemiterator", "dict_reverseitemiterator", "odict_iterator", "itertools.zip_longest", "itertools.pairwise"].contains n = false) (hQ : Q () s) : wpAny M A (letOwnedTupleGo tg (.ref it) u) Q E s := by
  unfold letOwnedTupleGo
  cases tg <;> first
    | exact wpAny_pure hQ
    | (cases u <;> first
        | exact wpAny_pure hQ
        | (refine wpAny_bind (wpAny_load ho ?_)
           rw [hc, hd]
           show wpAny M A (if (["enumerate", "zip", "dict_itemiterator", "dict_reverseitemiterator", "odict_iterator", "itertools.zip_longest", "itertools.pairwise"].contains n && vs[0]? == some (rawInt _)) = true then _ else _) Q E s
           rw [if_neg (by intro h; rw [hn, Bool.false_and] at h; cases h)]
           exact wpAny_pure hQ))

noncomputable def Itl (K : PySem.W.Frag) (a : Addr) : It :=
  ⟨fun i H => ∃ xs x, SqL K H a xs ∧ xs[i]? = some x, fun i H x H' => H' = H ∧ ∀ xs, SqL K H a xs → xs[i]? = some x, fun i H => ∃ xs, SqL K H a xs ∧ xs.length ≤ i⟩

noncomputable def Itr (lo : Int) (n : Nat) : It := ⟨fun i _ => i < n, fun i H x H' => H' = H ∧ x = .int (lo + i), fun i _ => n ≤ i⟩
theorem turn_list {P : Program} {w : World} {K : PySem.W.Frag} {tg : Expr} (a it : Addr) : Turn P w K tg (Itl K a) [it] it (fun i h => h.IsListIter it a i) where
  mem := by simp
  obj := fun i h st b hb => by
    have e : b = it := by simpa using hb
    subst e
    obtain ⟨o, e, c, d⟩ := st
    exact ⟨o, e, fun v z => by rw [d] at z; cases z⟩
  keep := fun i h h' st k => st.at fun o e => k it (by simp) o e
  item := by
    intro X hP hw hK hc i pins s σ H E I hf st hg
    subst hP hw hK
    obtain ⟨xs, x, hq, hx⟩ := hg
    obtain ⟨its, rv, p, hz⟩ := I.list hq
    obtain ⟨u, hu, ru⟩ := rv.get hx
    obtain ⟨f0, f1, f2, f3, f4, f5⟩ := hf it (by simp)
    refine wpAny_pyNext_list_item st p.isList (x := u) (by simpa using hu) fun h' st' sb => ?_
    have I1 : Inv X pins σ H { s with heap := h' } := I.turned (t' := s.toks) (fun b o hb e => (sb.2 b hb).trans e) f0 f1 f3 f4 f5
    obtain ⟨o, e, c, d⟩ := id st'
    exact ⟨u, rfl, go_of (s := { s with heap := h' }) e c d (by decide) ⟨x, H, I1, ru, ⟨rfl, fun ys hy => by rw [I.list_inj hy hq]; exact hx⟩, st', fun b hb => (hf b hb).1⟩⟩
  done := by
    intro X hP hw hK hc i pins s σ H E I hf st hg
    subst hP hw hK
    obtain ⟨xs, hq, hx⟩ := hg
    obtain ⟨its, rv, p, hz⟩ := I.list hq
    obtain ⟨f0, f1, f2, f3, f4, f5⟩ := hf it (by simp)
    have hl := rv.length
    exact wpAny_pyNext_list_end (I.ok.hd hc) st p.isList (by simp; omega) fun h' eb => ⟨rfl, I.turned (t' := s.toks) (fun b o hb e => eb b o hb e) f0 f1 f3 f4 f5⟩
  self := fun _ _ _ _ _ st h => wpAny_pyIter_listiter st h
theorem turn_range {P : Program} {w : World} {K : PySem.W.Frag} {tg : Expr} (it : Addr) (lo : Int) (n : Nat) : Turn P w K tg (Itr lo n) [it] it (fun i h => IsRangeIter h it (lo + (i : Nat) * 1) ((n : Int) - (i : Nat)) 1) where
  mem := by simp
  obj := fun i h st b hb => by
    have e : b = it := by simpa using hb
    subst e
    exact ⟨_, st, fun v z => by
      have z' : Data.fields _ = Data.cell v := z
      cases z'⟩
  keep := fun i h h' st k => k it (by simp) _ st
  item := by
    intro X hP hw hK hc i pins s σ H E I hf st hg
    subst hP hw hK
    obtain ⟨f0, f1, f2, f3, f4, f5⟩ := hf it (by simp)
    have W := Walks.range (prog := X.prog) (w := X.w) (I.ok.hd hc) it lo 1 n
    refine wpT I.tk (W.item i s _ _ hg st fun v h' tk hv st' kk ht => ?_)
    obtain ⟨t, rfl⟩ := hv
    have I1 : Inv X pins σ H { s with heap := h', toks := tk } := I.turned (fun b o hb e => kk b o (by simpa using hb) e) f0 f1 f3 f4 f5 ht
    refine ⟨_, rfl, go_of (s := { s with heap := h', toks := tk }) (n := "range_iterator") st' rfl rfl (by decide) ⟨.int (lo + i), H, I1, ⟨t, ?_⟩, ⟨rfl, rfl⟩, st', fun b hb => (hf b hb).1⟩⟩
    rw [Int.mul_one]
  done := by
    intro X hP hw hK hc i pins s σ H E I hf st hg
    subst hP hw hK
    obtain ⟨f0, f1, f2, f3, f4, f5⟩ := hf it (by simp)
    exact wpAny_pyNext_range_end (I.ok.hd hc) st (by have : n ≤ i := hg; omega) fun h' eb => ⟨rfl, I.turned (t' := s.toks) (fun b o hb e => eb b o hb e) f0 f1 f3 f4 f5⟩
  self := fun _ _ _ _ _ st h => wpAny_pyIter_rangeiter st h
end L2

namespace L2
open PySem PySem.Spec PyProof.Rows
section
variable {X : Cx} {tg : Expr}
inductive XItl (K : PySem.W.Frag) (x : V) (H : Hp) (R : It → Hp → Prop) : Prop
  | mk (a : Addr) (e : x = .ref a) (s : ∃ xs, SqL K H a xs) (q : R (Itl K a) H) : XItl K x H R
noncomputable def iList (K : PySem.W.Frag) (tl : TE) : TI := fun σ H R => tl σ H fun x H1 => XItl K x H1 R
theorem pi_list {l : Expr} {tl : TE} (hl : PE X l tl) : PI X tg l (iList X.K tl) := by
  intro pins s σ H R I h
  refine thn (hl pins s σ H _ I h) fun v s1 ⟨x, H1, I1, r1, q1⟩ => ?_
  obtain ⟨a, e, ⟨xs, hq⟩, q⟩ := q1
  subst e
  cases r1
  obtain ⟨its, rv, p, hz⟩ := I1.list hq
  refine wpAny_pyIter_list p.isList ?_
  refine ⟨s1.heap.objs.size, [s1.heap.objs.size], _, _, H1, rfl, I1.kept (t' := s1.toks) fun b o e => Heap.get?_push_of_some _ e, turn_list a _, ⟨_, Heap.get?_push_size _ rfl, rfl, rfl⟩, fun b hb => ?_, q⟩
  have e : b = s1.heap.objs.size := by simpa using hb
  subst e
  exact I1.fpOk (Nat.le_refl _) (I1.hok.fresh (Nat.le_refl _))

theorem range_it {pins : List (Addr × Obj)} {σ : St} {H : Hp} {s : Shared} {R : It → Hp → Prop} {E : Value → Shared → Prop} {lo hi : Int} {t u v : Tok} {tk : Nat} (I : Inv X pins σ H s) (ht : 0 < tk) (h1 : -(2 ^ 62) ≤ lo) (h2 : lo < 2 ^ 62) (h3 : -(2 ^ 62) ≤ hi) (h4 : hi < 2 ^ 62)
    (q : R (Itr lo (hi - lo).toNat) H) : wpAny (model X.prog X.w) X.A (pyIter (.ref s.heap.objs.size)) (PIE X pins σ tg R) E { s with heap := s.heap.push { cls := .type "range", data := .fields #[.int lo t, .int hi u, .int 1 v] }, toks := tk } := by
  refine wpAny_pyIter_range (IsRange.new ..) (small_one h1 h2 h3 h4) ?_
  have I1 : Inv X pins σ H { s with heap := s.heap.push { cls := .type "range", data := .fields #[.int lo t, .int hi u, .int 1 v] }, toks := tk } := I.kept (fun b o e => Heap.get?_push_of_some _ e) ht
  refine ⟨(s.heap.push { cls := .type "range", data := .fields #[.int lo t, .int hi u, .int 1 v] }).objs.size, [(s.heap.push { cls := .type "range", data := .fields #[.int lo t, .int hi u, .int 1 v] }).objs.size], _, _, H, rfl,
    I1.kept (t' := tk) (fun b o e => Heap.get?_push_of_some _ e) ht, turn_range _ lo (hi - lo).toNat, ?_, fun b hb => ?_, q⟩
  · have e1 : lo + ((0 : Nat) : Int) * 1 = lo := by simp
    have e2 : (((hi - lo).toNat : Nat) : Int) - ((0 : Nat) : Int) = Builtin.Range.rangeSize lo hi 1 := by rw [rangeSize_one]; split <;> omega
    show IsRangeIter _ _ (lo + ((0 : Nat) : Int) * 1) ((((hi - lo).toNat : Nat) : Int) - ((0 : Nat) : Int)) 1
    rw [e1, e2]
    exact Heap.get?_push_size _ rfl
  · have e : b = (s.heap.push { cls := .type "range", data := .fields #[.int lo t, .int hi u, .int 1 v] }).objs.size := by simpa using hb
    subst e
    exact I1.fpOk (Nat.le_refl _) (I1.hok.fresh (Nat.le_refl _))
inductive XRng1 (vs : List V) (H : Hp) (R : It → Hp → Prop) : Prop
  | mk (j : Int) (e : vs = [.int j]) (l : -(2 ^ 62) ≤ j) (m : j < 2 ^ 62) (q : R (Itr 0 j.toNat) H) : XRng1 vs H R
noncomputable def iRng1 (ta : TA) : TI := fun σ H R => ta σ H fun vs H1 => XRng1 vs H1 R
theorem pi_range1 {a : Expr} {ta : TA} {p pos : Pos} (hg : Gl X "range") (hm : X.mg "range" = none) (ha : PA X [a] ta) (hs : starEach [a] X.env = [(false, eval a X.env)] := by rfl) : PI X tg (.Call (.Name "range" p) [a] [] pos) (iRng1 ta) := by
  intro pins s σ H R I h
  refine Call_ (ld_blt I hg hm boot_range (PyProof.Rows.callWith_type1 (thn (ha pos pins s σ H _ I h) fun us s1 ⟨vs, H1, I1, r1, q1⟩ => ?_) hs rfl))
  obtain ⟨j, e, q1, q2, q⟩ := q1
  subst e
  cases r1 with
  | cons r rr =>
    cases rr
    obtain ⟨t, rfl⟩ := r
    exact call_range_1 (range_it I1 (by first | exact I1.tk | exact Nat.succ_pos _ | (have := I1.tk; omega)) (by omega) (by omega) q1 q2 (by simpa using q))

noncomputable def tFor (wi : TI) (g : TG) (tb : TS) : TS := fun D σ H => wi σ H fun J H1 => ∃ W : Nat → Nat → St → Hp → Prop, (∃ m, W 0 m σ H1) ∧ ∀ i m σ H, W i m σ H →
  (J.stop i H ∧ D.nx σ H) ∨ (J.go i H ∧ ∃ N : St → Hp → Prop, (∀ σ' H', N σ' H' → ∃ m', m' < m ∧ W (i + 1) m' σ' H') ∧ ∀ x H', J.yld i H x H' → g x σ H' fun σ2 H2 => tb { D with nx := N, ct := N, bk := D.nx } σ2 H2)

noncomputable def pinsAt (fp : List Addr) (h : Heap) : List (Addr × Obj) := fp.filterMap fun b => (h.get? b).map fun o => (b, o)
theorem mem_pinsAt {fp : List Addr} {h : Heap} {b : Addr} {o : Obj} (hb : b ∈ fp) (e : h.get? b = some o) : (b, o) ∈ pinsAt fp h := List.mem_filterMap.mpr ⟨b, hb, by rw [e]; rfl⟩
theorem of_pinsAt {fp : List Addr} {h : Heap} {p : Addr × Obj} (hp : p ∈ pinsAt fp h) : p.1 ∈ fp ∧ h.get? p.1 = some p.2 := by
  obtain ⟨b, hb, e⟩ := List.mem_filterMap.mp hp
  cases q : h.get? b with
  | none => rw [q] at e; cases e
  | some o =>
    rw [q] at e
    have e' : (b, o) = p := Option.some.inj e
    subst e'
    exact ⟨hb, q⟩
theorem Inv.pinned {pins : List (Addr × Obj)} {σ : St} {H : Hp} {s : Shared} {fp : List Addr} (I : Inv X pins σ H s) (hf : ∀ b ∈ fp, FpOk X pins H b) (ho : ∀ b ∈ fp, ∃ o, s.heap.get? b = some o ∧ ∀ v, o.data ≠ .cell v) : Inv X (pins ++ pinsAt fp s.heap) σ H s :=
  I.pins_of fun p hp => (List.mem_append.mp hp).elim (fun z => I.pin p (List.mem_append_right _ z)) fun z => by
    obtain ⟨hb, e⟩ := of_pinsAt z
    obtain ⟨f0, f1, f2, _⟩ := hf p.1 hb
    obtain ⟨o, e', d⟩ := ho p.1 hb
    rw [e] at e'; cases e'
    exact ⟨e, f0, f1, f2, d⟩
theorem Inv.unpinned {pins pl : List (Addr × Obj)} {σ : St} {H : Hp} {s : Shared} (I : Inv X (pins ++ pl) σ H s) : Inv X pins σ H s := I.pins_of fun p hp => I.pin p (List.mem_append_right _ (List.mem_append_left _ hp))
theorem ps_for {iter : Expr} {body : List Stmt} {wi : TI} {g : TG} {tb : TS} {pos : Pos} (hp : PassesOwn (model X.prog X.w) X.A X.env X.xe) (hc : X.calm = true) (hi : PI X tg iter wi) (hg : PG X tg g) (hb : PSs X body tb)
    (hs : ∀ x, foldedSetIterable iter X.env x = pure x := by intro _; rfl) : PS X (.For tg iter body [] pos) (tFor wi g tb) := by
  intro pins s σ H D I h
  refine wpAny_For (thn (hi pins s σ H _ I h) fun v s1 h1 => thn h1 fun itv s2 h2 => ?_) hs
  obtain ⟨it, fp, tn, J, H2, e, I2, T, st2, f2, W, ⟨m0, w0⟩, turn⟩ := h2
  subst e

  have stat : ∀ {H' : Hp}, (∀ b ∈ fp, H' b = none) → ∀ b ∈ fp, FpOk X pins H' b := fun hn b hb => ⟨hn b hb, (f2 b hb).2⟩
  refine codeAny_forLoop_any (fun n s' => ∃ i σ' H', Inv X pins σ' H' s' ∧ tn i s'.heap ∧ (∀ b ∈ fp, H' b = none) ∧ W i n σ' H') ?_ m0 ⟨0, σ, H2, I2, st2, fun b hb => (f2 b hb).1, w0⟩
  rintro n s3 ⟨i, σ3, H3, I3, st3, fr3, w3⟩
  rcases turn i n σ3 H3 w3 with ⟨stop, qn⟩ | ⟨go, N, hN, step⟩
  · refine wpAny_passesOwn hp (thn (T.done X rfl rfl rfl hc i pins s3 σ3 H3 X.xe I3 (stat fr3) st3 stop) fun r s4 ⟨hr, I4⟩ => ?_)
    subst hr
    exact wpAny_execs_nil ⟨σ3, H3, I4, qn⟩
  · refine wpAny_passesOwn hp (thn (T.item X rfl rfl rfl hc i pins s3 σ3 H3 X.xe I3 (stat fr3) st3 go) fun r s4 ⟨u, hr, h4⟩ => ?_)
    subst hr
    refine wpAny_passesOwn hp (thn h4 fun _ s5 ⟨x, H5, I5, r5, y5, st5, fr5⟩ => ?_)
    have I5' := I5.pinned (stat fr5) (T.obj _ _ st5)
    refine wpAny_passesOwn hp (thn (hg _ s5 σ3 H5 x u _ I5' r5 (step x H5 y5)) fun _ s6 ⟨σ6, H6, I6, q6⟩ => ?_)
    refine wpAny_passesOwn hp (thn (hb _ s6 σ6 H6 _ I6 q6) fun f s7 q7 => ?_)
    have again : ∀ {σ7 : St} {H7 : Hp}, Inv X (pins ++ pinsAt fp s5.heap) σ7 H7 s7 → N σ7 H7 → ∃ m, m < n ∧ ∃ i σ' H', Inv X pins σ' H' s7 ∧ tn i s7.heap ∧ (∀ b ∈ fp, H' b = none) ∧ W i m σ' H' := fun {σ7 H7} I7 n7 => by
      obtain ⟨m', hm, w7⟩ := hN σ7 H7 n7
      refine ⟨m', hm, i + 1, σ7, H7, I7.unpinned, T.keep _ _ _ st5 fun b hb o e => (I7.pin (b, o) (List.mem_append_right _ (List.mem_append_right _ (mem_pinsAt hb e)))).1, fun b hb => ?_, w7⟩
      obtain ⟨o, e, d⟩ := T.obj _ _ st5 b hb
      exact (I7.pin (b, o) (List.mem_append_right _ (List.mem_append_right _ (mem_pinsAt hb e)))).2.1
    cases f with
    | next => obtain ⟨σ7, H7, I7, n7⟩ := q7; exact again I7 n7
    | cont => obtain ⟨σ7, H7, I7, n7⟩ := q7; exact again I7 n7
    | brk => obtain ⟨σ7, H7, I7, q7⟩ := q7; exact ⟨σ7, H7, I7.unpinned, q7⟩
    | ret v => obtain ⟨x7, σ7, H7, I7, r7, q7⟩ := q7; exact ⟨x7, σ7, H7, I7.unpinned, r7, q7⟩
end

theorem for_list {K : PySem.W.Frag} {a : Addr} {xs : List V} {g : TG} {tb : TS} {D : Ends} {σ : St} {H : Hp} (Pv : Nat → St → Hp → Prop) (h0 : Pv 0 σ H) (hl : ∀ i σ H, i ≤ xs.length → Pv i σ H → SqL K H a xs)
    (hs : ∀ i x σ H, xs[i]? = some x → Pv i σ H → g x σ H fun σ2 H2 => tb { D with nx := Pv (i + 1), ct := Pv (i + 1), bk := D.nx } σ2 H2) (hd : ∀ σ H, Pv xs.length σ H → D.nx σ H) :
    ∃ W : Nat → Nat → St → Hp → Prop, (∃ m, W 0 m σ H) ∧ ∀ i m σ H, W i m σ H →
      ((Itl K a).stop i H ∧ D.nx σ H) ∨ ((Itl K a).go i H ∧ ∃ N : St → Hp → Prop, (∀ σ' H', N σ' H' → ∃ m', m' < m ∧ W (i + 1) m' σ' H') ∧ ∀ x H', (Itl K a).yld i H x H' → g x σ H' fun σ2 H2 => tb { D with nx := N, ct := N, bk := D.nx } σ2 H2) := by
  refine ⟨fun i m σ H => m = xs.length - i ∧ i ≤ xs.length ∧ Pv i σ H, ⟨xs.length, by simp, Nat.zero_le _, h0⟩, ?_⟩
  rintro i m σ H ⟨rfl, hi, p⟩
  have q := hl i σ H hi p
  by_cases hlt : i < xs.length
  · refine .inr ⟨⟨xs, xs[i], q, by simp [hlt]⟩, Pv (i + 1), fun σ' H' p' => ⟨xs.length - (i + 1), by omega, rfl, hlt, p'⟩, fun x H' y => ?_⟩
    obtain ⟨e, y⟩ := y
    subst e
    exact hs i x σ _ (y xs q) p
  · have e : i = xs.length := by omega
    subst e
    exact .inl ⟨⟨xs, q, Nat.le_refl _⟩, hd σ H p⟩
theorem for_range {lo : Int} {n : Nat} {g : TG} {tb : TS} {D : Ends} {σ : St} {H : Hp} (Pv : Nat → St → Hp → Prop) (h0 : Pv 0 σ H)
    (hs : ∀ i σ H, i < n → Pv i σ H → g (.int (lo + i)) σ H fun σ2 H2 => tb { D with nx := Pv (i + 1), ct := Pv (i + 1), bk := D.nx } σ2 H2) (hd : ∀ σ H, Pv n σ H → D.nx σ H) :
    ∃ W : Nat → Nat → St → Hp → Prop, (∃ m, W 0 m σ H) ∧ ∀ i m σ H, W i m σ H →
      ((Itr lo n).stop i H ∧ D.nx σ H) ∨ ((Itr lo n).go i H ∧ ∃ N : St → Hp → Prop, (∀ σ' H', N σ' H' → ∃ m', m' < m ∧ W (i + 1) m' σ' H') ∧ ∀ x H', (Itr lo n).yld i H x H' → g x σ H' fun σ2 H2 => tb { D with nx := N, ct := N, bk := D.nx } σ2 H2) := by
  refine ⟨fun i m σ H => m = n - i ∧ i ≤ n ∧ Pv i σ H, ⟨n, by simp, Nat.zero_le _, h0⟩, ?_⟩
  rintro i m σ H ⟨rfl, hi, p⟩
  by_cases hlt : i < n
  · refine .inr ⟨hlt, Pv (i + 1), fun σ' H' p' => ⟨n - (i + 1), by omega, rfl, hlt, p'⟩, fun x H' y => ?_⟩
    obtain ⟨e, y⟩ := y
    subst e y
    exact hs i σ _ hlt p
  · have e : i = n := by omega
    subst e
    exact .inl ⟨Nat.le_refl _, hd σ H p⟩
end L2

namespace L2
open PySem PySem.Spec PyProof.Rows

noncomputable abbrev R2 := V → V → Hp → VK → Prop

noncomputable def OpR (X : Cx) (f : Value → Value → Sem Value) (r : R2) : Prop :=
  ∀ (pins : List (Addr × Obj)) (s : Shared) (σ : St) (H : Hp) (x y : V) (v u : Value) (Q : VK), Inv X pins σ H s → RelV x v → RelV y u → r x y H Q →
    wpAny (model X.prog X.w) X.A (f v u) (EP X pins σ Q) X.xe s

noncomputable def UnR (X : Cx) (f : Value → Sem Value) (r : V → Hp → VK → Prop) : Prop :=
  ∀ (pins : List (Addr × Obj)) (s : Shared) (σ : St) (H : Hp) (x : V) (v : Value) (Q : VK), Inv X pins σ H s → RelV x v → r x H Q →
    wpAny (model X.prog X.w) X.A (f v) (EP X pins σ Q) X.xe s

noncomputable def CallR (X : Cx) (f : Value) (r : List V → Hp → VK → Prop) : Prop :=
  ∀ (pins : List (Addr × Obj)) (s : Shared) (σ : St) (H : Hp) (xs : List V) (us : List Value) (Q : VK), Inv X pins σ H s → Vals xs us → r xs H Q →
    wpAny (model X.prog X.w) X.A (call f us) (EP X pins σ Q) X.xe s

noncomputable def tOp (r : R2) (ta tb : TE) : TE := fun σ H Q => ta σ H fun x H1 => tb σ H1 fun y H2 => r x y H2 Q
noncomputable def tUn (r : V → Hp → VK → Prop) (ta : TE) : TE := fun σ H Q => ta σ H fun x H1 => r x H1 Q

inductive XI (C : Int → Int → Prop) (g : Int → Int → V) (x y : V) (H : Hp) (Q : VK) : Prop
  | mk (i j : Int) (e : x = .int i) (e2 : y = .int j) (c : C i j) (q : Q (g i j) H) : XI C g x y H Q
noncomputable def rI (C : Int → Int → Prop) (g : Int → Int → V) : R2 := fun x y H Q => XI C g x y H Q
inductive XI0 (g : Int → Int → V) (x y : V) (H : Hp) (Q : VK) : Prop
  | mk (i j : Int) (e : x = .int i) (e2 : y = .int j) (q : Q (g i j) H) : XI0 g x y H Q
noncomputable def rI0 (g : Int → Int → V) : R2 := fun x y H Q => XI0 g x y H Q
inductive XU (g : Int → V) (x : V) (H : Hp) (Q : VK) : Prop
  | mk (i : Int) (e : x = .int i) (q : Q (g i) H) : XU g x H Q
noncomputable def rU (g : Int → V) : V → Hp → VK → Prop := fun x H Q => XU g x H Q

section
variable {X : Cx} {a b c : Expr} {ta tb tc : TE} {pos : Pos}

theorem binT (ha : PE X a ta) (hb : PE X b tb) {pins : List (Addr × Obj)} {s : Shared} {σ : St} {H : Hp} {R : V → V → Hp → Prop} (I : Inv X pins σ H s)
    (h : ta σ H fun x H1 => tb σ H1 fun y H2 => R x y H2) {Q : Value → Shared → Prop} {f : Value → Value → Sem Value}
    (hf : ∀ v u s2 x y H2, Inv X pins σ H2 s2 → RelV x v → RelV y u → R x y H2 → wpAny (model X.prog X.w) X.A (f v u) Q X.xe s2) :
    wpAny (model X.prog X.w) X.A (eval a X.env) (fun v s₁ => wpAny (model X.prog X.w) X.A (eval b X.env) (fun u s₂ => wpAny (model X.prog X.w) X.A (f v u) Q X.xe s₂) X.xe s₁) X.xe s := by
  refine thn (ha pins s σ H _ I h) fun v s1 ⟨x, H1, I1, r1, q1⟩ => ?_
  refine thn (hb pins s1 σ H1 _ I1 q1) fun u s2 ⟨y, H2, I2, r2, q2⟩ => ?_
  exact hf v u s2 x y H2 I2 r1 r2 q2

theorem pe_op {op : Operator} {r : R2} (ho : OpR X (binaryOp op) r) (ha : PE X a ta) (hb : PE X b tb) : PE X (.BinOp a op b pos) (tOp r ta tb) := by
  intro pins s σ H Q I h
  exact wpAny_BinOp (binT ha hb I h fun v u s2 x y H2 I2 rx ry q => ho pins s2 σ H2 x y v u Q I2 rx ry q)
theorem pe_un {op : UnaryOp} {r : V → Hp → VK → Prop} (ho : UnR X (unaryOp op) r) (ha : PE X a ta) : PE X (.UnaryOp op a pos) (tUn r ta) := by
  intro pins s σ H Q I h
  exact UnaryOp_ (thn (ha pins s σ H _ I h) fun v s1 ⟨x, H1, I1, r1, q1⟩ => ho pins s1 σ H1 x v Q I1 r1 q1)

theorem opI {f : Value → Value → Sem Value} {C : Int → Int → Prop} {g : Int → Int → Int}
    (rule : ∀ (i j : Int) (t u : Tok) (s : Shared) (Q : Value → Shared → Prop) (E : Value → Shared → Prop), C i j → Q (.int (g i j) s.toks) { s with toks := s.toks + 1 } → wpAny (model X.prog X.w) X.A (f (.int i t) (.int j u)) Q E s) :
    OpR X f (rI C fun i j => .int (g i j)) := by
  intro pins s σ H x y v u Q I rx ry h
  obtain ⟨i, j, rfl, rfl, hc, q⟩ := h
  obtain ⟨t, rfl⟩ := rx
  obtain ⟨t', rfl⟩ := ry
  exact rule i j t t' s _ _ hc ⟨.int (g i j), H, I.tok _, ⟨_, rfl⟩, q⟩
theorem opI0 {f : Value → Value → Sem Value} {g : Int → Int → Int}
    (rule : ∀ (i j : Int) (t u : Tok) (s : Shared) (Q : Value → Shared → Prop) (E : Value → Shared → Prop), Q (.int (g i j) s.toks) { s with toks := s.toks + 1 } → wpAny (model X.prog X.w) X.A (f (.int i t) (.int j u)) Q E s) :
    OpR X f (rI0 fun i j => .int (g i j)) := by
  intro pins s σ H x y v u Q I rx ry h
  obtain ⟨i, j, rfl, rfl, q⟩ := h
  obtain ⟨t, rfl⟩ := rx
  obtain ⟨t', rfl⟩ := ry
  exact rule i j t t' s _ _ ⟨.int (g i j), H, I.tok _, ⟨_, rfl⟩, q⟩
theorem opB0 {f : Value → Value → Sem Value} {g : Int → Int → Bool}
    (rule : ∀ (i j : Int) (t u : Tok) (s : Shared) (Q : Value → Shared → Prop) (E : Value → Shared → Prop), Q (.bool (g i j)) s → wpAny (model X.prog X.w) X.A (f (.int i t) (.int j u)) Q E s) :
    OpR X f (rI0 fun i j => .bl (g i j)) := by
  intro pins s σ H x y v u Q I rx ry h
  obtain ⟨i, j, rfl, rfl, q⟩ := h
  obtain ⟨t, rfl⟩ := rx
  obtain ⟨t', rfl⟩ := ry
  exact rule i j t t' s _ _ ⟨.bl (g i j), H, I, rfl, q⟩

noncomputable def CPow (i j : Int) : Prop := 0 ≤ j ∧ j ≤ 1000000 ∧ i.natAbs < 2 ^ 64
noncomputable def CMul (i j : Int) : Prop := (-(2 ^ 64) < i ∧ i < 2 ^ 64) ∨ (-(2 ^ 64) < j ∧ j < 2 ^ 64)
theorem CMul.ok {i j : Int} (h : CMul i j) : IntMulOk i j := by
  rcases h with ⟨h1, h2⟩ | ⟨h1, h2⟩
  · exact .of_left (intBits_le_64 h1 h2)
  · exact .of_right (intBits_le_64 h1 h2)

theorem op_add : OpR X (binaryOp .Add) (rI0 fun i j => .int (i + j)) := opI0 fun _ _ _ _ _ _ _ q => add_int q
theorem op_sub : OpR X (binaryOp .Sub) (rI0 fun i j => .int (i - j)) := opI0 fun _ _ _ _ _ _ _ q => sub_int q

theorem op_mod : OpR X (binaryOp .Mod) (rI (fun _ j => 0 < j) fun i j => .int (i % j)) := opI fun i j _ _ _ _ _ hc q => by
  have h1 : (0 : Int) < j := hc
  exact mod_int' (by omega) (by rw [Int.fmod_eq_emod_of_nonneg i (by omega)]; exact q)
theorem op_pow : OpR X (binaryOp .Pow) (rI CPow fun i j => .int (i ^ j.toNat)) := opI fun _ _ _ _ _ _ _ hc q => pow_int_small hc.1 hc.2.1 hc.2.2 q

theorem unI {f : Value → Sem Value} {g : Int → Int}
    (rule : ∀ (i : Int) (t : Tok) (s : Shared) (Q : Value → Shared → Prop) (E : Value → Shared → Prop), Q (.int (g i) s.toks) { s with toks := s.toks + 1 } → wpAny (model X.prog X.w) X.A (f (.int i t)) Q E s) :
    UnR X f (rU fun i => .int (g i)) := by
  intro pins s σ H x v Q I rx h
  obtain ⟨i, rfl, q⟩ := h
  obtain ⟨t, rfl⟩ := rx
  exact rule i t s _ _ ⟨.int (g i), H, I.tok _, ⟨_, rfl⟩, q⟩
theorem un_neg : UnR X (unaryOp .USub) (rU fun i => .int (-i)) := unI fun _ _ _ _ _ q => neg_int q

end

noncomputable def scal : V → V → Bool
  | .non, .non => true | .non, .int _ => true | .int _, .non => true | .non, .bl _ => true | .bl _, .non => true | .non, .str _ => true | .str _, .non => true
  | .int _, .int _ => true | .bl _, .bl _ => true | .str _, .str _ => true | .byt _, .byt _ => true
  | .int _, .str _ => true | .str _, .int _ => true | .bl _, .str _ => true | .str _, .bl _ => true
  | _, _ => false
noncomputable def rEq : R2 := fun x y H Q => scal x y = true ∧ Q (.bl (decide (x = y))) H
noncomputable def rNe : R2 := fun x y H Q => scal x y = true ∧ Q (.bl (!decide (x = y))) H

theorem dec_int {i j : Int} : decide (V.int i = V.int j) = (i == j) := by
  rw [Bool.eq_iff_iff]
  simp
theorem dec_bl {i j : Bool} : decide (V.bl i = V.bl j) = (i == j) := by
  rw [Bool.eq_iff_iff]
  simp
theorem dec_str {i j : Str} : decide (V.str i = V.str j) = (i == j) := by
  rw [Bool.eq_iff_iff]
  simp
theorem dec_byt {i j : Array UInt8} : decide (V.byt i = V.byt j) = (i.toList == j.toList) := by
  rw [Bool.eq_iff_iff]
  cases i
  cases j
  simp

section
variable {X : Cx} {a b c : Expr} {ta tb tc : TE} {pos : Pos}
theorem fin_bl {pins : List (Addr × Obj)} {σ : St} {H : Hp} {s : Shared} {Q : VK} {k k' : Bool} (I : Inv X pins σ H s) (q : Q (.bl k) H) (e : k = k') : EP X pins σ Q (.bool k') s := by
  subst e
  exact ⟨.bl k, H, I, rfl, q⟩
theorem op_eq : OpR X (compareOp .Eq) rEq := by
  intro pins s σ H x y v u Q I rx ry h
  obtain ⟨hs, q⟩ := h
  cases x with
  | non =>
    cases rx
    cases y with
    | non => cases ry; exact PySem.EqNone.eq_none_none (fin_bl I q (by simp))
    | bl j => cases ry; exact PySem.EqNone.eq_none_bool (fin_bl I q (by simp))
    | int j => obtain ⟨t', rfl⟩ := ry; exact PySem.EqNone.eq_none_int (fin_bl I q (by simp))
    | str j => obtain ⟨t', rfl⟩ := ry; exact PySem.EqNone.eq_none_str (fin_bl I q (by simp))
    | _ => exact absurd (show false = true from hs) Bool.false_ne_true
  | bl i =>
    cases rx
    cases y with
    | non => cases ry; exact PySem.EqNone.eq_bool_none (fin_bl I q (by simp))
    | bl j => cases ry; exact eq_bool (fin_bl I q dec_bl)
    | str j => obtain ⟨t', rfl⟩ := ry; exact PySem.EqMixed.eq_bool_str (fin_bl I q (by simp))
    | _ => exact absurd (show false = true from hs) Bool.false_ne_true
  | int i =>
    obtain ⟨t, rfl⟩ := rx
    cases y with
    | non => cases ry; exact PySem.EqNone.eq_int_none (fin_bl I q (by simp))
    | int j => obtain ⟨t', rfl⟩ := ry; exact eq_int (fin_bl I q dec_int)
    | str j => obtain ⟨t', rfl⟩ := ry; exact PySem.EqMixed.eq_int_str (fin_bl I q (by simp))
    | _ => exact absurd (show false = true from hs) Bool.false_ne_true
  | str i =>
    obtain ⟨t, rfl⟩ := rx
    cases y with
    | non => cases ry; exact PySem.EqNone.eq_str_none (fin_bl I q (by simp))
    | bl j => cases ry; exact PySem.EqMixed.eq_str_bool (fin_bl I q (by simp))
    | int j => obtain ⟨t', rfl⟩ := ry; exact PySem.EqMixed.eq_str_int (fin_bl I q (by simp))
    | str j => obtain ⟨t', rfl⟩ := ry; exact eq_str (fin_bl I q dec_str)
    | _ => exact absurd (show false = true from hs) Bool.false_ne_true
  | byt i =>
    obtain ⟨t, rfl⟩ := rx
    cases y with
    | byt j => obtain ⟨t', rfl⟩ := ry; exact PySem.W.eq_bytes (fin_bl I q dec_byt)
    | _ => exact absurd (show false = true from hs) Bool.false_ne_true
  | _ => cases y <;> exact absurd (show false = true from hs) Bool.false_ne_true
theorem op_ne : OpR X (compareOp .NotEq) rNe := by
  intro pins s σ H x y v u Q I rx ry h
  obtain ⟨hs, q⟩ := h
  cases x with
  | non =>
    cases rx
    cases y with
    | non => cases ry; exact PySem.EqNone.ne_none_none (fin_bl I q (by simp))
    | bl j => cases ry; exact PySem.EqNone.ne_none_bool (fin_bl I q (by simp))
    | int j => obtain ⟨t', rfl⟩ := ry; exact PySem.EqNone.ne_none_int (fin_bl I q (by simp))
    | str j => obtain ⟨t', rfl⟩ := ry; exact PySem.EqNone.ne_none_str (fin_bl I q (by simp))
    | _ => exact absurd (show false = true from hs) Bool.false_ne_true
  | bl i =>
    cases rx
    cases y with
    | non => cases ry; exact PySem.EqNone.ne_bool_none (fin_bl I q (by simp))
    | bl j => cases ry; exact ne_bool (fin_bl I q (congrArg not dec_bl))
    | str j => obtain ⟨t', rfl⟩ := ry; exact PySem.EqMixed.ne_bool_str (fin_bl I q (by simp))
    | _ => exact absurd (show false = true from hs) Bool.false_ne_true
  | int i =>
    obtain ⟨t, rfl⟩ := rx
    cases y with
    | non => cases ry; exact PySem.EqNone.ne_int_none (fin_bl I q (by simp))
    | int j => obtain ⟨t', rfl⟩ := ry; exact ne_int (fin_bl I q (congrArg not dec_int))
    | str j => obtain ⟨t', rfl⟩ := ry; exact PySem.EqMixed.ne_int_str (fin_bl I q (by simp))
    | _ => exact absurd (show false = true from hs) Bool.false_ne_true
  | str i =>
    obtain ⟨t, rfl⟩ := rx
    cases y with
    | non => cases ry; exact PySem.EqNone.ne_str_none (fin_bl I q (by simp))
    | bl j => cases ry; exact PySem.EqMixed.ne_str_bool (fin_bl I q (by simp))
    | int j => obtain ⟨t', rfl⟩ := ry; exact PySem.EqMixed.ne_str_int (fin_bl I q (by simp))
    | str j => obtain ⟨t', rfl⟩ := ry; exact ne_str (fin_bl I q (congrArg not dec_str))
    | _ => exact absurd (show false = true from hs) Bool.false_ne_true
  | byt i =>
    obtain ⟨t, rfl⟩ := rx
    cases y with
    | byt j => obtain ⟨t', rfl⟩ := ry; exact PySem.W.ne_bytes (fin_bl I q (congrArg not dec_byt))
    | _ => exact absurd (show false = true from hs) Bool.false_ne_true
  | _ => cases y <;> exact absurd (show false = true from hs) Bool.false_ne_true

theorem op_lt : OpR X (compareOp .Lt) (rI0 fun i j => .bl (decide (i < j))) := opB0 fun _ _ _ _ _ _ _ q => lt_int q
theorem op_gt : OpR X (compareOp .Gt) (rI0 fun i j => .bl (decide (j < i))) := opB0 fun _ _ _ _ _ _ _ q => gt_int q
theorem op_ge : OpR X (compareOp .GtE) (rI0 fun i j => .bl (decide (j ≤ i))) := opB0 fun _ _ _ _ _ _ _ q => ge_int q

theorem op_in_str : OpR X (compareOp .In) (fun x y H Q => ∃ i j, x = .str i ∧ y = .str j ∧ Q (.bl (!(Builtin.Str.occurrences j i 0 j.length 1).isEmpty)) H) := by
  intro pins s σ H x y v u Q I rx ry h
  obtain ⟨i, j, rfl, rfl, q⟩ := h
  obtain ⟨t, rfl⟩ := rx
  obtain ⟨t', rfl⟩ := ry
  exact in_str (fin_bl I q rfl)

theorem op_isN : OpR X (compareOp .Is) (fun x y H Q => y = .non ∧ Q (.bl (decide (x = .non))) H) := by
  intro pins s σ H x y v u Q I rx ry h
  obtain ⟨rfl, q⟩ := h
  cases ry
  refine is_none_gen (fin_bl I q ?_)
  cases x <;> first
    | (cases rx; rfl)
    | (obtain ⟨t, rfl⟩ := rx; rfl)

theorem op_notin_str : OpR X (compareOp .NotIn) (fun x y H Q => ∃ i j, x = .str i ∧ y = .str j ∧ Q (.bl (!(!(Builtin.Str.occurrences j i 0 j.length 1).isEmpty))) H) := by
  intro pins s σ H x y v u Q I rx ry h
  obtain ⟨i, j, rfl, rfl, q⟩ := h
  obtain ⟨t, rfl⟩ := rx
  obtain ⟨t', rfl⟩ := ry
  exact notIn_str (fin_bl I q rfl)

theorem nomark (b : Expr) {op : CmpOp} (h : op ≠ .In := by decide) (h2 : op ≠ .NotIn := by decide) : behindInMarks op b = false := by
  have e1 : (op == CmpOp.In) = false := by cases op <;> first | rfl | exact absurd rfl h
  have e2 : (op == CmpOp.NotIn) = false := by cases op <;> first | rfl | exact absurd rfl h2
  cases b <;> simp [behindInMarks, e1, e2]

theorem pe_cmpR {op : CmpOp} {r : R2} (ho : OpR X (compareOp op) r) (ha : PE X a ta) (hb : PE X b tb) (hm : behindInMarks op b = false) : PE X (.Compare a [op] [b] pos) (tOp r ta tb) := by
  intro pins s σ H Q I h
  exact wpAny_Compare1 (binT ha hb I h fun v u s2 x y H2 I2 rx ry q => ho pins s2 σ H2 x y v u Q I2 rx ry q) hm

noncomputable def tTest (t : TE) : TT := fun σ H Q => t σ H fun x H' => XB x H' Q
theorem pt_cmpR {op : CmpOp} {r : R2} (ho : OpR X (compareOp op) r) (ha : PE X a ta) (hb : PE X b tb) (hm : behindInMarks op b = false) : PT X (.Compare a [op] [b] pos) (tTest (tOp r ta tb)) := by
  intro pins s σ H Q I h
  refine wpAny_isTrue_Compare1 (thn (ha pins s σ H _ I h) fun v s1 ⟨x, H1, I1, r1, q1⟩ => thn (hb pins s1 σ H1 _ I1 q1) fun u s2 ⟨y, H2, I2, r2, q2⟩ =>
    thn (ho pins s2 σ H2 x y v u _ I2 r1 r2 q2) fun c s3 ⟨z, H3, I3, r3, k, e, q3⟩ => ?_) hm
  subst e
  cases r3
  exact wpAny_truthy_bool ⟨H3, I3, q3⟩

theorem line63 : (sizeLine : Nat) < 2 ^ 63 := by rw [sizeLine_eq]; decide

theorem op_add_str : OpR X (binaryOp .Add) (fun x y H Q => ∃ i j, x = .str i ∧ y = .str j ∧ i.length + j.length ≤ sizeLine ∧ Q (.str (i ++ j)) H) := by
  intro pins s σ H x y v u Q I rx ry h
  obtain ⟨i, j, rfl, rfl, hz, q⟩ := h
  obtain ⟨t, rfl⟩ := rx
  obtain ⟨t', rfl⟩ := ry
  exact wpT I.tk (add_str (fun t' tk ht => ⟨.str (i ++ j), H, I.tok _ ht, ⟨_, rfl⟩, q⟩) hz)

theorem vals1 {x : V} {us : List Value} (r : Vals [x] us) : ∃ u, us = [u] ∧ RelV x u := by
  cases r with
  | cons r1 r2 => cases r2; exact ⟨_, rfl, r1⟩
theorem vals2 {x y : V} {us : List Value} (r : Vals [x, y] us) : ∃ u w', us = [u, w'] ∧ RelV x u ∧ RelV y w' := by
  cases r with
  | cons r1 r2 =>
    cases r2 with
    | cons r3 r4 => cases r4; exact ⟨_, _, rfl, r1, r3⟩
inductive XAbs (xs : List V) (H : Hp) (Q : VK) : Prop
  | mk (i : Int) (e : xs = [.int i]) (q : Q (.int (if i < 0 then -i else i)) H) : XAbs xs H Q
theorem call_abs : CallR X (.builtin "abs") (fun xs H Q => XAbs xs H Q) := by
  intro pins s σ H xs us Q I r h
  obtain ⟨i, rfl, q⟩ := h
  obtain ⟨u, rfl, t, rfl⟩ := vals1 r
  exact wpT I.tk (call_abs_int fun u tk ht => ⟨.int (if i < 0 then -i else i), H, I.tok _ ht, ⟨_, rfl⟩, q⟩)
inductive XMin (xs : List V) (H : Hp) (Q : VK) : Prop
  | mk (i j : Int) (e : xs = [.int i, .int j]) (q : Q (.int (if j < i then j else i)) H) : XMin xs H Q
theorem call_min2 (hc : X.calm = true) : CallR X (.builtin "min") (fun xs H Q => XMin xs H Q) := by
  intro pins s σ H xs us Q I r h
  obtain ⟨i, j, rfl, q⟩ := h
  obtain ⟨u, w', rfl, ⟨t, rfl⟩, ⟨t', rfl⟩⟩ := vals2 r
  refine wpT I.tk (min_two_ints (I.ok.hd hc) fun h' tk k ht => ⟨_, H, I.kept k ht, ?_, q⟩)
  by_cases hj : j < i
  · rw [if_pos hj, if_pos hj]; exact ⟨_, rfl⟩
  · rw [if_neg hj, if_neg hj]; exact ⟨_, rfl⟩
theorem call_int1 : CallR X (.type "int") (fun xs H Q => (∃ i, xs = [.int i] ∧ Q (.int i) H) ∨ ∃ k, xs = [.bl k] ∧ Q (.int (if k then 1 else 0)) H) := by
  intro pins s σ H xs us Q I r h
  rcases h with ⟨i, rfl, q⟩ | ⟨k, rfl, q⟩
  · obtain ⟨u, rfl, t, rfl⟩ := vals1 r
    exact call_int_int ⟨.int i, H, I, ⟨_, rfl⟩, q⟩
  · obtain ⟨u, rfl, r1⟩ := vals1 r
    cases r1
    exact call_int_bool ⟨.int (if k then 1 else 0), H, I.tok _, ⟨_, rfl⟩, q⟩
theorem call_str_int : CallR X (.type "str") (fun xs H Q => ∃ i, xs = [.int i] ∧ i.natAbs.log2 < 1920 ∧ Q (.str (toString i)) H) := by
  intro pins s σ H xs us Q I r h
  obtain ⟨i, rfl, hz, q⟩ := h
  obtain ⟨u, rfl, t, rfl⟩ := vals1 r
  exact PySem.P.str_of_int hz ⟨.str _, H, I.tok _, ⟨_, rfl⟩, q⟩
end
end L2

namespace L2
open PySem PySem.Spec PyProof.Rows

structure ObjM (h : Heap) (x dx C : Addr) (mA : Str → Option Value) : Prop where
  obj : h.get? x = some (PySem.W.instObj C dx)
  ns : h.Ns1 dx mA
  ne : dx ≠ x

section
variable {prog : Program} {w : World} {A : Around} {E : Value → Shared → Prop} {s : Shared} {K : PySem.W.Frag} {x dx C f : Addr} {mA : Str → Option Value} {name : Str} {v : Value}

end

section
variable {P : Program} {w : World} {H H' : Hp} {h h' : Heap} {a C dx : Addr} {fs fs' : List (Str × V)}
end

structure Cls (K : PySem.W.Frag) (C : Addr) : Prop where
  pg : PySem.W.plainGet K C Str.empty = true
  hd : PySem.W.hasDictIn K C = true
  po : PySem.W.plainOver K C = true
  sa : PySem.W.findIn K (.ref C) "__setattr__" = some (some (.builtin "object.__setattr__"))

section
variable {X : Cx} {pins : List (Addr × Obj)} {σ : St} {H : Hp} {s : Shared} {a C dx : Addr} {fs : List (Str × V)} {f : Str} {v : V} {A : Around} {E : Value → Shared → Prop}

theorem Inv.made (I : Inv X pins σ H s) : Inv X pins σ (upd (upd H s.heap.objs.size (.own (s.heap.objs.size + 1))) (s.heap.objs.size + 1) (.ins C s.heap.objs.size []))
    { s with heap := (s.heap.push PySem.W.emptyDict).push (PySem.W.instObj C s.heap.objs.size) } := by
  have e1 : (s.heap.push PySem.W.emptyDict).get? s.heap.objs.size = some PySem.W.emptyDict := Heap.get?_push_size s.heap rfl
  have e2 : ((s.heap.push PySem.W.emptyDict).push (PySem.W.instObj C s.heap.objs.size)).get? (s.heap.objs.size + 1) = some (PySem.W.instObj C s.heap.objs.size) := by
    have := Heap.get?_push_size (s.heap.push PySem.W.emptyDict) (o := PySem.W.instObj C s.heap.objs.size) rfl
    rwa [Heap.size_push] at this
  have e3 : (s.heap.push PySem.W.emptyDict).Ns s.heap.objs.size (fun _ => none) := ⟨PySem.W.emptyDict, #[], _, e1, rfl, (fun e he => absurd he (by simp)), fun _ => rfl⟩
  have I1 := I.laid (a := s.heap.objs.size) (o := .own (s.heap.objs.size + 1)) (h' := s.heap.push PySem.W.emptyDict) (t' := s.toks) (fun b u q => Heap.get?_push_of_some _ q) (Nat.le_refl _) ⟨_, e1⟩
  refine I1.laid (a := s.heap.objs.size + 1) (o := .ins C s.heap.objs.size []) (t' := s.toks) (fun b u q => Heap.get?_push_of_some _ q) (Nat.le_of_eq (Heap.size_push _ _)) ?_
  have ne : s.heap.objs.size ≠ s.heap.objs.size + 1 := Nat.ne_of_lt (Nat.lt_succ_self _)
  refine ⟨by rw [upd_ne ne, upd_same], Nat.zero_le _, ne, e2, fun _ => none, (Heap.Ns1.of_empty e3).at fun o q => Heap.get?_push_of_some _ q, fun _ => True.intro, fun y hy => absurd rfl hy⟩

end

section
variable {X : Cx} {o e value : Expr} {f : Str} {pos pos' tpos : Pos} {ta tv : TE}

end

section
variable {X : Cx} {pins : List (Addr × Obj)} {σ : St} {H : Hp} {s : Shared} {A : Around} {E : Value → Shared → Prop} {Q : Value → Shared → Prop} {c : Value} {b : Bool}

inductive TyOf (K : PySem.W.Frag) (H : Hp) : V → Value → Prop where
  | non : TyOf K H .non (.type "NoneType")
  | bl (x : Bool) : TyOf K H (.bl x) (.type "bool")
  | int (i : Int) : TyOf K H (.int i) (.type "int")
  | str (x : Str) : TyOf K H (.str x) (.type "str")
  | flt (x : UInt64) : TyOf K H (.flt x) (.type "float")
  | lst {a : Addr} {xs : List V} (e : H a = some (.lst xs)) : TyOf K H (.ref a) (.type "list")
  | frz {a : Addr} {o : Obj} {xs : List V} (e : H a = some (.frz o (.lst xs))) : TyOf K H (.ref a) (.type "list")
  | tup {a : Addr} {xs : List V} (e : H a = some (.tup xs)) : TyOf K H (.ref a) (.type "tuple")
  | dK {a : Addr} {kvs : List (Key × V)} (e : H a = some (.dK kvs)) : TyOf K H (.ref a) (.type "dict")
  | dT {a : Addr} {kvs : List (List Key × V)} (e : H a = some (.dT kvs)) : TyOf K H (.ref a) (.type "dict")
  | ins {a C dx : Addr} {fs : List (Str × V)} (e : H a = some (.ins C dx fs)) (cl : Cls K C) (ha : PySem.W.findIn K (.ref C) "__class__" = some (some (.builtin "object.__class__")))
      (hn : PySem.W.specialIn K (.builtin "object.__class__") "__get__" = some (some (.builtin "getset_descriptor.__get__"))) (htk : PySem.W.takesIn K (.builtin "object.__class__") = some true)
      (hm : PySem.W.mroIn K C (.type "object") = some true) : TyOf K H (.ref a) (.ref C)
end
end L2

namespace L2
open PySem PySem.Spec PyProof.Rows

structure Room (k : Nat) (A : Around) : Prop where
  hd : A.handled = none
  dp : A.depth + 3 * k + 5 < recursionLimit
  un : A.units + 16 * k + 200 < cLine
theorem Room.mono {j k : Nat} {A : Around} (r : Room k A) (h : j ≤ k) : Room j A := ⟨r.hd, by have := r.dp; omega, by have := r.un; omega⟩
theorem Room.deeper {k : Nat} {A : Around} (r : Room (k + 1) A) (env : Env) : Room k (A.deeper env) :=
  ⟨r.hd, by have := r.dp; show A.depth + 1 + 3 * k + 5 < _; omega, by have := r.un; show A.units + 3 + 16 * k + 200 < _; omega⟩
theorem Room.depth {k : Nat} {A : Around} (r : Room k A) : A.depth < recursionLimit := by have := r.dp; omega
theorem Room.units {k : Nat} {A : Around} (r : Room k A) : A.units + 64 < cLine := by have := r.un; omega
theorem Room.units0 {k : Nat} {A : Around} (r : Room k A) : A.units < cLine := by have := r.un; omega

noncomputable def tNil : TA := fun _ H Q => Q [] H
noncomputable def tCons (ta : TE) (tr : TA) : TA := fun σ H Q => ta σ H fun x H1 => tr σ H1 fun xs H2 => Q (x :: xs) H2
section
variable {X : Cx} {e : Expr} {es : List Expr} {te : TE} {t : TA} {pos : Pos}
theorem pa_nil : PA X [] tNil := fun _ _ _ _ H Q I h => Calls.spliced_nil ⟨[], H, I, .nil, h⟩
theorem pa_cons (ha : PE X e te) (hr : PA X es t) (hs : starEach (e :: es) X.env = (false, eval e X.env) :: starEach es X.env := by rfl) : PA X (e :: es) (tCons te t) := by
  intro pos pins s σ H Q I h
  rw [hs]
  show wpAny _ _ (spliced ((false, eval e X.env) :: backTo pos (starEach es X.env))) _ _ s
  refine Calls.spliced_cons (thn (ha pins s σ H _ I h) fun u s1 ⟨x, H1, I1, r1, q1⟩ => ?_)
  exact thn (hr pos pins s1 σ H1 _ I1 q1) fun us s2 ⟨xs, H2, I2, r2, q2⟩ => ⟨x :: xs, H2, I2, .cons r1 r2, q2⟩

noncomputable def tTup (t : TA) : TE := fun σ H Q => t σ H fun xs H1 => xs.length ≤ sizeLine ∧ ∀ p, H1 p = none → Q (.ref p) (upd H1 p (.tup xs))
noncomputable def tLst (t : TA) : TE := fun σ H Q => t σ H fun xs H1 => xs.length ≤ sizeLine ∧ ∀ p, H1 p = none → Q (.ref p) (upd H1 p (.lst xs))
theorem pe_tup {x1} (h : PA X es t) : PE X (.Tuple es x1 pos) (tTup t) := by
  intro pins s σ H Q I hq
  refine wpAny_Tuple_spliced (thn (h pos pins s σ H _ I hq) fun us s1 ⟨xs, H1, I1, r, z, q⟩ => ⟨by rw [← r.length]; exact z, ?_⟩)
  have hf : H1 s1.heap.objs.size = none := I1.hok.fresh (Nat.le_refl _)
  refine ⟨.ref s1.heap.objs.size, upd H1 s1.heap.objs.size (.tup xs), I1.laid (t' := s1.toks) (fun b u e => Heap.get?_push_of_some _ e) (Nat.le_refl _) ?_, rfl, q _ hf⟩
  exact ⟨z, us, r, ⟨_, Heap.get?_push_size _ rfl, rfl, _, rfl⟩⟩
theorem pe_lst (h : PA X es t) : PE X (.List es pos) (tLst t) := by
  intro pins s σ H Q I hq
  refine wpAny_List_spliced (thn (h pos pins s σ H _ I hq) fun us s1 ⟨xs, H1, I1, r, z, q⟩ => ⟨by rw [← r.length]; exact z, ?_⟩)
  have hf : H1 s1.heap.objs.size = none := I1.hok.fresh (Nat.le_refl _)
  refine ⟨.ref s1.heap.objs.size, upd H1 s1.heap.objs.size (.lst xs), I1.laid (t' := s1.toks) (fun b u e => Heap.get?_push_of_some _ e) (Nat.le_refl _) ?_, rfl, q _ hf⟩
  exact ⟨z, us, 0, r, Heap.get?_push_size _ rfl⟩
end

noncomputable abbrev Sp := List V → Hp → VK → XK → Prop

noncomputable abbrev CXT := List Env → Hp → Shared → XK → Value → Shared → Prop

structure Env0 (P : Program) (w : World) (K : PySem.W.Frag) (mg : Str → Option Value) (base : Heap) (A : Around) (outer : List Env) (s : Shared) (H : Hp) : Prop where
  frames : A.frames = some outer
  mod : Mod K mg base
  bs : ∀ b o, base.get? b = some o → s.heap.get? b = some o ∧ H b = none
  bsz : base.objs.size ≤ s.heap.objs.size
  funs : s.heap.FunFrames base outer
  frf : ∀ b ∈ frs outer, H b = none
  hok : HOk P w H s.heap
  bare : AllBare s.gens
  tk : 0 < s.toks

noncomputable def CE (outer : List Env) (P : Program) (w : World) (H : Hp) (s : Shared) (Q : VK) (u : Value) (s' : Shared) : Prop :=
  ∃ v H', s'.os = s.os ∧ AllBare s'.gens ∧ Un (frs outer) [] H H' s.heap s'.heap ∧ HOk P w H' s'.heap ∧ RelV v u ∧ Q v H'
noncomputable def CR (CX : CXT) (outer : List Env) (P : Program) (w : World) (H : Hp) (s : Shared) (Q : VK) (E : XK) (r : Result) (s' : Shared) : Prop :=
  match r with
  | .ok (.ret u) => CE outer P w H s Q u s'
  | .ok _ => False
  | .error e => CX outer H s E e s'
structure FnOk (P : Program) (w : World) (K : PySem.W.Frag) (mg : Str → Option Value) (base : Heap) (CX : CXT) (k : Nat) (f : Addr) (fd : FuncData) (ps : List Str) (sp : Sp) : Prop where
  len : ∀ vs H Q E, sp vs H Q E → vs.length = ps.length
  run : ∀ (A : Around) (outer : List Env) (s : Shared) (H : Hp) (args : Args) (us : List Value) (vs : List V) (Q : VK) (E : XK), Room k A → Env0 P w K mg base A outer s H → BindsTo s fd args (ps.zip us) → Vals vs us → sp vs H Q E →
    codeAny (model P w) A (.call (.ref f) args) (CR CX outer P w H s Q E) s
theorem FnOk.mono {P : Program} {w : World} {K : PySem.W.Frag} {mg : Str → Option Value} {base : Heap} {CX : CXT} {j k : Nat} {f : Addr} {fd : FuncData} {ps : List Str} {sp : Sp} (F : FnOk P w K mg base CX j f fd ps sp) (h : j ≤ k) :
    FnOk P w K mg base CX k f fd ps sp := ⟨F.len, fun A outer s H args us vs Q E hr => F.run A outer s H args us vs Q E (hr.mono h)⟩

section
variable {X : Cx} {pins : List (Addr × Obj)} {σ : St} {H : Hp} {s s' : Shared}

theorem Inv.env0 (I : Inv X pins σ H s) : Env0 X.prog X.w X.K X.mg X.base X.A X.stack s H :=
  ⟨I.ok.frames, I.ok.mod, I.bs, Nat.le_trans I.ok.bsz I.sz, I.stack, I.stkFree, I.hok, I.bare, I.tk⟩

theorem Inv.after {Q : VK} {u : Value} (I : Inv X pins σ H s) (h : CE X.stack X.prog X.w H s Q u s') (ht : 0 < s'.toks) : EP X pins σ Q u s' := by
  obtain ⟨v, H', os, bare, un, hok, r, q⟩ := h
  obtain ⟨hh, g, d, t, os'⟩ := s'
  obtain rfl : os' = s.os := os
  exact ⟨v, H', I.call (h' := hh) (g' := g) (d' := d) (t' := t) (ch := []) un hok bare (fun b z => absurd z (by simp)) ht, r, q⟩
end

noncomputable def tCall (sp : Sp) (dvs : List V) (E : XK) (t : TA) : TE := fun σ H Q => t σ H fun vs H1 => sp (vs ++ dvs) H1 Q E

noncomputable def Binds (K : PySem.W.Frag) (fd : FuncData) (ps : List Str) (ds : List Value) : Prop :=
  ∀ (s : Shared) (us : List Value), K.In s.heap → (us ++ ds).length = ps.length → BindsTo s fd ⟨us, []⟩ (ps.zip (us ++ ds))

theorem Binds.all {K : PySem.W.Frag} {fd : FuncData} {ps : List Str} (h : ∀ us : List Value, us.length = ps.length → bindArgs fd ⟨us, []⟩ = pure (ps.zip us)) : Binds K fd ps [] := fun s us _ hl => by
  rw [List.append_nil] at hl ⊢
  exact .of_eq (h us hl)

noncomputable def Passes (CX : CXT) (X : Cx) (E : XK) : Prop := ∀ (pins : List (Addr × Obj)) (σ : St) (H : Hp) (s : Shared) (e : Value) (s' : Shared), Inv X pins σ H s → CX X.stack H s E e s' → X.xe e s'

section
variable {X : Cx} {CX : CXT} {k : Nat} {f C : Addr} {fd : FuncData} {ps : List Str} {sp : Sp} {dvs : List V} {ds : List Value} {E : XK} {x m : Str} {p pos apos : Pos} {e o : Expr} {es : List Expr} {ta : TE} {t : TA}

theorem run_fn {pins : List (Addr × Obj)} {σ : St} {H : Hp} {s : Shared} {Q : VK} {us : List Value} {vs : List V} (F : FnOk X.prog X.w X.K X.mg X.base CX k f fd ps sp) (hr : Room k X.A) (hb : Binds X.K fd ps ds) (hd : Vals dvs ds) (hx : Passes CX X E)
    (I : Inv X pins σ H s) (r : Vals vs us) (h : sp (vs ++ dvs) H Q E) : wpAny (model X.prog X.w) X.A (call (.ref f) us) (EP X pins σ Q) X.xe s := by
  have r2 : Vals (vs ++ dvs) (us ++ ds) := r.append hd
  have hl : (us ++ ds).length = ps.length := by rw [← r2.length]; exact F.len _ _ _ _ h
  refine wpAny_call (codeT I.tk (codeAny_mono (F.run X.A X.stack s H ⟨us, []⟩ (us ++ ds) (vs ++ dvs) Q E hr I.env0 (hb s us I.kIn hl) r2 h) fun r s' hq ht => ?_))
  cases r with
  | error e => exact hx pins σ H s e s' I hq
  | ok fl =>
    cases fl with
    | ret u => exact I.after hq ht
    | next => exact False.elim hq
    | brk => exact False.elim hq
    | cont => exact False.elim hq

theorem pe_call (F : FnOk X.prog X.w X.K X.mg X.base CX k f fd ps sp) (hr : Room k X.A) (hg : Gl X x) (hm : X.mg x = some (.ref f)) (hk : PySem.W.keepIn X.K (.ref f) = true) (hb : Binds X.K fd ps ds) (hd : Vals dvs ds) (hx : Passes CX X E)
    (ha : PA X (e :: es) t) (hdb : (x == ("__debug__" : Str)) = false := by decide) (he : starEach (e :: es) X.env = (false, eval e X.env) :: starEach es X.env := by rfl) (hpl : (backTo pos (starEach es X.env)).any (·.1) = false := by rfl) :
    PE X (.Call (.Name x p) (e :: es) [] pos) (tCall sp dvs E t) := by
  intro pins s σ H Q I h
  refine wpAny_Call_Name_kw (ld_glob I hg hm ?_ hdb)
  refine PySem.W.callWith_K (h₀ := X.base) I.ok.mod.kin hk (thn (ha pos pins s σ H _ I h) fun us s1 ⟨vs, H1, I1, r, q⟩ => ⟨I1.kIn, ?_⟩) he hpl
  exact run_fn F hr hb hd hx I1 r q

end

section
variable {X : Cx} {CX : CXT} {k : Nat} {f C : Addr} {fd : FuncData} {ps ks : List Str} {sp : Sp} {E : XK} {x m : Str} {p pos apos kpos : Pos} {e o : Expr} {es : List Expr} {kws : List Keyword} {te ta : TE} {t tk : TA} {nm : Option Str}

variable {g : List Value → List Value → List Value} {gV : List V → List V → List V}
end

structure FnScope (N P : List Str) (sc : Scope) : Prop where
  kind : sc.kind = .function
  co : sc.isCoroutine = false
  gen : sc.isGenerator = false
  nd : N.Nodup
  pre : N.take P.length = P
  par : ∀ x ∈ P, sc.names.lookup x = some .local ∨ sc.names.lookup x = some .cell
  nofree : ∀ y ∈ sc.names, y.2 ≠ .free

theorem bindL_out {kindOf : Str → Option NameKind} {x : Str} : ∀ {binds : List (Str × Value)} {m : Str → Option Value}, (∀ v, (x, v) ∉ binds) → bindL kindOf binds m x = m x
  | [], _, _ => rfl
  | (n, v) :: r, m, h => by
    unfold bindL
    rw [bindL_out fun w hw => h w (List.mem_cons_of_mem _ hw)]
    split
    · have : x ≠ n := by rintro rfl; exact h v List.mem_cons_self
      simp [this]
    · rfl
theorem bindC_out {kindOf : Str → Option NameKind} {x : Str} : ∀ {binds : List (Str × Value)} {m : Str → Option Value}, (∀ v, (x, v) ∉ binds) → bindC kindOf binds m x = m x
  | [], _, _ => rfl
  | (n, v) :: r, m, h => by
    unfold bindC
    rw [bindC_out fun w hw => h w (List.mem_cons_of_mem _ hw)]
    split
    · rfl
    · have : x ≠ n := by rintro rfl; exact h v List.mem_cons_self
      simp [this]
theorem bindL_get {kindOf : Str → Option NameKind} {x : Str} {v : Value} : ∀ {P : List Str} {vs : List Value} {i : Nat} {m : Str → Option Value}, P.Nodup → P[i]? = some x → vs[i]? = some v → kindOf x = some .local →
    bindL kindOf (P.zip vs) m x = some v
  | [], _, _, _, _, h, _, _ => by simp at h
  | _ :: _, [], _, _, _, _, h, _ => by simp at h
  | p :: P, w :: vs, 0, m, nd, h1, h2, hk => by
    simp at h1 h2; subst h1; subst h2
    show bindL kindOf ((p, w) :: P.zip vs) m p = _
    unfold bindL
    rw [bindL_out fun v hv => (List.nodup_cons.mp nd).1 (List.of_mem_zip hv).1, if_pos hk]
    simp
  | p :: P, w :: vs, i + 1, m, nd, h1, h2, hk => by
    show bindL kindOf ((p, w) :: P.zip vs) m x = _
    unfold bindL
    exact bindL_get (i := i) (List.nodup_cons.mp nd).2 (by simpa using h1) (by simpa using h2) hk
theorem bindC_get {kindOf : Str → Option NameKind} {x : Str} {v : Value} : ∀ {P : List Str} {vs : List Value} {i : Nat} {m : Str → Option Value}, P.Nodup → P[i]? = some x → vs[i]? = some v → kindOf x ≠ some .local →
    bindC kindOf (P.zip vs) m x = some v
  | [], _, _, _, _, h, _, _ => by simp at h
  | _ :: _, [], _, _, _, _, h, _ => by simp at h
  | p :: P, w :: vs, 0, m, nd, h1, h2, hk => by
    simp at h1 h2; subst h1; subst h2
    show bindC kindOf ((p, w) :: P.zip vs) m p = _
    unfold bindC
    rw [bindC_out fun v hv => (List.nodup_cons.mp nd).1 (List.of_mem_zip hv).1, if_neg hk]
    simp
  | p :: P, w :: vs, i + 1, m, nd, h1, h2, hk => by
    show bindC kindOf ((p, w) :: P.zip vs) m x = _
    unfold bindC
    exact bindC_get (i := i) (List.nodup_cons.mp nd).2 (by simpa using h1) (by simpa using h2) hk

noncomputable def start (N : List Str) (vs : List V) : St := vs.map some ++ List.replicate (N.length - vs.length) none

noncomputable def cxOf (CX : CXT) (P : Program) (w : World) (K : PySem.W.Frag) (mg : Str → Option Value) (base : Heap) (N : List Str) (qual : Str) (scope : Scope) (f : Addr) (cd : Value) (A : Around) (outer : List Env) (s : Shared) (H : Hp) (E : XK) : Cx where
  prog := P
  w := w
  K := K
  mg := mg
  base := base
  A := A.deeper (envOfC qual scope s.heap.objs.size f cd)
  N := N
  s₀ := s
  H₀ := H
  env := envOfC qual scope s.heap.objs.size f cd
  outer := outer
  stack := envOfC qual scope s.heap.objs.size f cd :: outer
  ex := []
  calm := true
  fn := fun _ => true
  pn := []
  xe := fun e s' => wpAny (model P w) (A.deeper (envOfC qual scope s.heap.objs.size f cd)) (leaving (envOfC qual scope s.heap.objs.size f cd) e) (fun _ s'' => CX outer H s E e s'') (fun e' s'' => CX outer H s E e' s'') s'

theorem cell_has {sc : Scope} {n : Nat} {x : Str} (h : sc.names.lookup x = some .cell) : ∃ c, (cellsFrom n sc.names []).lookup x = some c := by
  have q := PySem.W.cellsFrom_some sc.names n [] (.inl h)
  exact Option.isSome_iff_exists.mp q

theorem inv_start {CX : CXT} {P : Program} {w : World} {K : PySem.W.Frag} {mg : Str → Option Value} {base : Heap} {N ps : List Str} {qual : Str} {scope : Scope} {f : Addr} {cd : Value} {A : Around} {outer : List Env} {s s1 : Shared} {H : Hp} {E : XK} {us : List Value} {vs : List V}
    (S : FnScope N ps scope) (hd : A.handled = none) {t0 t1 : Nat} (e0 : Env0 P w K mg base A outer { s with toks := t0 } H) (ht : 0 < t1) (hl : vs.length = ps.length) (r : Vals vs us)
    (x : InCallC s s.heap.objs.size (bindL (envOfC qual scope s.heap.objs.size f cd).kindOf (ps.zip us) fun _ => none) (cellsFrom (s.heap.objs.size + 1) scope.names []) (bindC (envOfC qual scope s.heap.objs.size f cd).kindOf (ps.zip us) fun _ => none) s1) :
    Inv (cxOf CX P w K mg base N qual scope f cd A outer s H E) [] (start N vs) H { s1 with toks := t1 } := by
  have hpl : ps.length ≤ N.length := by have := congrArg List.length S.pre; rw [List.length_take] at this; omega
  obtain ⟨h1, tk, rfl, hk⟩ := x.done
  have noA : ∀ b : Addr, b ∉ (cxOf CX P w K mg base N qual scope f cd A outer s H E).ex := fun b z => absurd (show b ∈ ([] : List Addr) from z) (by simp)
  refine ⟨⟨e0.mod, S.kind, rfl, rfl, Nat.le_refl _, fun y z c h1 h2 => ?_, fun y hy => ?_, fun y c _ h => ?_, fun _ => hd, Around.frames_deeper e0.frames, .inr ⟨rfl, rfl⟩, fun b z => absurd z (noA b), e0.bs, e0.bsz, fun b _ _ => noA b, fun b z => absurd z (noA b), e0.funs, e0.frf⟩,
    rfl, e0.bare, Un.kept hk, ⟨_, x.toInCall.ns, fun i y v h1 h2 h3 => ?_⟩, fun y c h => ⟨_, x.cell y c h⟩, e0.hok.fresh (Nat.le_refl _), fun y c h => ?_, fun p hp => absurd (show p ∈ ([] : List (Addr × Obj)) from hp) (by simp), e0.hok.kept hk, ?_, ht⟩
  · exact name_of_addr x.apart (PySem.mem_of_lookup h1) (PySem.mem_of_lookup h2)
  · have hy : scope.names.lookup y = some .cell ∨ scope.names.lookup y = some .free := hy
    rcases hy with hy | hy
    · exact cell_has hy
    · exact absurd rfl (S.nofree _ (PySem.mem_of_lookup hy))
  · exact Nat.le_of_lt (x.above y c (PySem.mem_of_lookup h))
  · have hi : i < vs.length := by
      unfold start at h2
      by_cases hi : i < vs.length
      · exact hi
      · rw [List.getElem?_append_right (by simpa using hi)] at h2
        rw [List.getElem?_replicate] at h2
        split at h2 <;> cases h2
    have ha : vs[i]? = some v := by
      unfold start at h2
      rw [List.getElem?_append_left (by simpa using hi), List.getElem?_map] at h2
      cases e : vs[i]? with
      | none => rw [e] at h2; cases h2
      | some a => rw [e] at h2; cases h2; rfl
    obtain ⟨u, hu, rv⟩ := r.get ha
    have hp : ps[i]? = some y := by
      rw [← S.pre, List.getElem?_take_of_lt (by omega)]; exact h1
    have ndP : ps.Nodup := by rw [← S.pre]; exact S.nd.sublist (List.take_sublist _ _)
    refine ⟨u, rv, ?_⟩
    rcases S.par y (List.mem_of_getElem? hp) with k | k
    · exact .inl ⟨k, bindL_get ndP hp hu k⟩
    · obtain ⟨c, e⟩ := cell_has (n := s.heap.objs.size + 1) k
      refine .inr ⟨.inl k, c, e, ?_⟩
      have q := x.cell y c e
      rw [bindC_get ndP hp hu (by show scope.names.lookup y ≠ _; rw [k]; decide)] at q
      exact q
  · exact e0.hok.fresh (Nat.le_of_lt (x.above y c (PySem.mem_of_lookup h)))
  · unfold start
    show _ = N.length
    rw [List.length_append, List.length_map, List.length_replicate]
    omega

theorem fn_of {CX : CXT} {P : Program} {w : World} {K : PySem.W.Frag} {mg : Str → Option Value} {base : Heap} {k : Nat} {f : Addr} {name qual : Str} {params : Arguments} {body : List Stmt} {scope : Scope} {dV kV doc pm cdv ct oc : Value} {an od : Option Addr}
    {osl : Array (Option Value)} {N ps : List Str} {sp : Sp} (lk : K.lookup f = some ⟨oc, od, .func (PySem.W.fnOf name qual params body scope dV kV doc pm an cdv ct), osl⟩) (hcd : PySem.W.codeIn K cdv qual = true) (S : FnScope N ps scope)
    (len : ∀ vs H Q E, sp vs H Q E → vs.length = ps.length)
    (hbody : ∀ (A : Around) (outer : List Env) (s : Shared) (H : Hp) (vs : List V) (Q : VK) (E : XK), Room k (A.deeper (envOfC qual scope s.heap.objs.size f cdv)) → sp vs H Q E →
      ∃ t, PSs (cxOf CX P w K mg base N qual scope f cdv A outer s H E) body t ∧ t { nx := fun _ H' => Q .non H', rt := Q } (start N vs) H) :
    FnOk P w K mg base CX (k + 1) f (PySem.W.fnOf name qual params body scope dV kV doc pm an cdv ct) ps sp := by
  refine ⟨len, fun A outer s H args us vs Q E hr e0 hb r hsp => ?_⟩
  have hl := len _ _ _ _ hsp
  have KX : K.In s.heap := e0.mod.kin.keeps fun b o e => (e0.bs b o e).1
  have lim : s.heap.NoLimit := e0.mod.nolimit.keeps fun b o e => (e0.bs b o e).1
  have hkind : ∀ y ∈ ps.zip us, scope.names.lookup y.1 = some .local ∨ (scope.names.lookup y.1 = some .cell ∧ ((cellsFrom (s.heap.objs.size + 1) scope.names []).lookup y.1).isSome = true) := fun ⟨n, v⟩ hy => by
    rcases S.par n (List.of_mem_zip hy).1 with q | q
    · exact .inl q
    · exact .inr ⟨q, PySem.W.cellsFrom_some _ _ _ (.inl q)⟩
  refine codeAny_call_function hr.depth (KX _ _ lk) rfl S.co S.gen rfl (PySem.W.codeRec_of KX hcd) (hb _ _ _ _ ?_)
  refine wpT e0.tk (wpAny_newFunctionEnv_cells S.kind hkind fun env he s1 x htk => ?_)
  subst he
  refine ⟨lim.keeps x.toInCall.keep, codeAny_func ?_⟩
  obtain ⟨t, ht, hq⟩ := hbody A outer s H vs Q E (hr.deeper _) hsp
  have I : Inv (cxOf CX P w K mg base N qual scope f cdv A outer s H E) [] (start N vs) H s1 := inv_start (t0 := s.toks) (t1 := s1.toks) S hr.hd e0 htk hl r x
  refine wpAny_mono (ht [] s1 (start N vs) H _ I hq) (fun fl s' hs => ?_) fun e s' hs => hs
  have fin : ∀ {σ' : St} {H' : Hp} {v : V} {u : Value}, Inv (cxOf CX P w K mg base N qual scope f cdv A outer s H E) [] σ' H' s' → RelV v u → Q v H' → CE outer P w H s Q u s' :=
    fun {σ' H' v u} J rv q => ⟨v, H', J.os, J.bare, J.base, J.hok, rv, q⟩
  cases fl with
  | ret u =>
    obtain ⟨v, σ', H', J, rv, q⟩ := hs
    exact fin J rv q
  | next =>
    obtain ⟨σ', H', J, q⟩ := hs
    exact fin (v := V.non) (u := Value.none) J rfl q
  | brk =>
    obtain ⟨_, _, _, q⟩ := hs
    exact False.elim q
  | cont =>
    obtain ⟨_, _, _, q⟩ := hs
    exact False.elim q
end L2

namespace L2
open PySem PySem.Spec PyProof.Rows
section
variable {X : Cx} {x : Str} {p pos : Pos} {e : Expr} {es : List Expr} {t : TA} {id T : String} {r : List V → Hp → VK → Prop}

noncomputable def tCB (r : List V → Hp → VK → Prop) (t : TA) : TE := fun σ H Q => t σ H fun vs H1 => r vs H1 Q

theorem pe_callB (hc : CallR X (.builtin id) r) (hg : Gl X x) (hm : X.mg x = none) (hv : bootBuiltins x = some (.builtin id)) (ha : PA X (e :: es) t) (hn : x ≠ "__name__" := by decide) (hdb : (x == ("__debug__" : Str)) = false := by decide)
    (he : starEach (e :: es) X.env = (false, eval e X.env) :: starEach es X.env := by rfl) (hpl : (backTo pos (starEach es X.env)).any (·.1) = false := by rfl) : PE X (.Call (.Name x p) (e :: es) [] pos) (tCB r t) := by
  intro pins s σ H Q I h
  refine wpAny_Call_Name_kw (ld_blt I hg hm hv ?_ hn hdb)
  exact PyProof.Rows.callWith_builtin1 (thn (ha pos pins s σ H _ I h) fun us s1 ⟨vs, H1, I1, r1, q1⟩ => hc pins s1 σ H1 vs us Q I1 r1 q1) he hpl

theorem pe_callTy (hc : CallR X (.type T) r) (hg : Gl X x) (hm : X.mg x = none) (hv : bootBuiltins x = some (.type T)) (ha : PA X (e :: es) t) (hn : x ≠ "__name__" := by decide) (hdb : (x == ("__debug__" : Str)) = false := by decide)
    (he : starEach (e :: es) X.env = (false, eval e X.env) :: starEach es X.env := by rfl) (hpl : (backTo pos (starEach es X.env)).any (·.1) = false := by rfl) : PE X (.Call (.Name x p) (e :: es) [] pos) (tCB r t) := by
  intro pins s σ H Q I h
  refine wpAny_Call_Name_kw (ld_blt I hg hm hv ?_ hn hdb)
  exact PyProof.Rows.callWith_type1 (thn (ha pos pins s σ H _ I h) fun us s1 ⟨vs, H1, I1, r1, q1⟩ => hc pins s1 σ H1 vs us Q I1 r1 q1) he hpl
end
end L2

namespace HT
open PySem PyProof.Rows

section
open PySem.SeqAt
open PySem.AutoSeq1 (wpAny_loadPart')
open PySem.MeetsSeq PySem.MeetsSeq2 PySem.MeetsSeq3

end

section
variable {prog : Program} {w : World} {A : Around} {E : Value → Shared → Prop} {s : Shared}

noncomputable def sIx (n d : Nat) : Option Int → Nat
  | none => d
  | some v => if v < 0 then (v + (n : Int)).toNat else min v.toNat n
theorem sIx_none (n d : Nat) : sIx n d none = d := rfl
theorem sIx_nat (n d k : Nat) : sIx n d (some (k : Int)) = min k n := by
  show (if (k : Int) < 0 then ((k : Int) + (n : Int)).toNat else min (k : Int).toNat n) = min k n
  rw [if_neg (by omega), Int.toNat_natCast]

end
end HT

namespace L2
open PySem PySem.Spec PyProof.Rows

noncomputable abbrev TO := St → Hp → (Option Int → Hp → Prop) → Prop

noncomputable def PO (X : Cx) (e : Option Expr) (t : TO) : Prop :=
  ∀ (pins : List (Addr × Obj)) (s : Shared) (σ : St) (H : Hp) (Q : Option Int → Hp → Prop), Inv X pins σ H s → t σ H Q →
    wpAny (model X.prog X.w) X.A (evalPart e X.env) (fun u s' => ∃ o H', Inv X pins σ H' s' ∧ IsPart u o ∧ Q o H') X.xe s
noncomputable def tNoPart : TO := fun _ H Q => Q none H
inductive XPart (x : V) (H : Hp) (Q : Option Int → Hp → Prop) : Prop
  | mk (i : Int) (e : x = .int i) (q : Q (some i) H) : XPart x H Q
noncomputable def tPart (t : TE) : TO := fun σ H Q => t σ H fun x H1 => XPart x H1 Q

theorem intsAre_of {ns : List Int} : ∀ {us : List Value}, Vals (ns.map V.int) us → IntsAre us ns := by
  induction ns with
  | nil => intro us r; rw [List.map_nil] at r; cases r; exact .nil
  | cons n ns ih =>
    intro us r
    rw [List.map_cons] at r
    cases r with
    | cons r1 r2 =>
      obtain ⟨t, e⟩ := r1
      subst e
      exact .cons n t (ih r2)

section
variable {X : Cx} {e : Expr} {te : TE} {lo hi : Option Expr} {tl th : TO} {pos p2 : Pos}

theorem po_none : PO X none tNoPart := by
  intro pins s σ H Q I h
  rw [evalPart_none]
  exact wpAny_pure ⟨none, H, I, .none, h⟩
theorem po_some (h : PE X e te) : PO X (some e) (tPart te) := by
  intro pins s σ H Q I hw
  rw [evalPart_some]
  refine thn (h pins s σ H _ I hw) fun u s1 ⟨x, H1, I1, r1, q1⟩ => ?_
  obtain ⟨i, rfl, q⟩ := q1
  obtain ⟨t, rfl⟩ := r1
  exact ⟨some i, H1, I1, .int i t, q⟩

noncomputable def SlR (X : Cx) (r : V → Option Int → Option Int → Hp → VK → Prop) : Prop :=
  ∀ (pins : List (Addr × Obj)) (s : Shared) (σ : St) (H : Hp) (x : V) (v vl vu : Value) (lo hi : Option Int) (sl : Addr) (Q : VK), Inv X pins σ H s → RelV x v → s.heap.IsSliceOf sl vl vu .none → IsPart vl lo → IsPart vu hi → r x lo hi H Q →
    ∃ T id, typeLookup (.type T) "__getitem__" = pure (some (.builtin id)) ∧ s.TypeIs v T ∧ wpAny (model X.prog X.w) X.A (getItem v (.ref sl)) (EP X pins σ Q) X.xe s
noncomputable def tSl (r : V → Option Int → Option Int → Hp → VK → Prop) (te : TE) (tl th : TO) : TE := fun σ H Q => te σ H fun x H1 => tl σ H1 fun l H2 => th σ H2 fun u H3 => r x l u H3 Q

theorem pe_slice {r : V → Option Int → Option Int → Hp → VK → Prop} (hr : SlR X r) (he : PE X e te) (hl : PO X lo tl) (hu : PO X hi th) : PE X (.Subscript e (.Slice lo hi none p2) pos) (tSl r te tl th) := by
  intro pins s σ H Q I h
  refine Subscript_ (thn (he pins s σ H _ I h) fun v s1 ⟨x, H1, I1, r1, q1⟩ => ?_)
  refine wpAny_Slice (thn (hl pins s1 σ H1 _ I1 q1) fun vl s2 ⟨l, H2, I2, pl, q2⟩ => thn (hu pins s2 σ H2 _ I2 q2) fun vu s3 ⟨u, H3, I3, pu, q3⟩ => ?_)
  rw [evalPart_none]
  refine wpAny_pure ?_
  have I4 : Inv X pins σ H3 { s3 with heap := s3.heap.push { cls := .type "slice", data := .fields #[vl, vu, .none] } } := I3.kept (t' := s3.toks) fun b ob q => Heap.get?_push_of_some _ q
  obtain ⟨T, id, hT, ht, hg⟩ := hr pins { s3 with heap := s3.heap.push { cls := .type "slice", data := .fields #[vl, vu, .none] } } σ H3 x v vl vu l u s3.heap.objs.size Q I4 r1 (Heap.IsSliceOf.new ..) pl pu q3
  show wpAny (model X.prog X.w) X.A (subscriptTail e (.Slice lo hi none p2) v (.ref s3.heap.objs.size)) (EP X pins σ Q) X.xe { s3 with heap := s3.heap.push { cls := .type "slice", data := .fields #[vl, vu, .none] } }
  exact tail_any (ops := [.ref s3.heap.objs.size, v]) ht hT hg (by with_unfolding_all rfl)

noncomputable def cutV (xs : List V) (lo hi : Option Int) : List V := (xs.drop (HT.sIx xs.length 0 lo)).take (HT.sIx xs.length xs.length hi - HT.sIx xs.length 0 lo)
theorem cutV_length (xs : List V) (lo hi : Option Int) : (cutV xs lo hi).length ≤ xs.length := by
  unfold cutV
  rw [List.length_take, List.length_drop]
  omega

end
end L2

namespace L2
open PySem PySem.Spec PyProof.Rows

noncomputable def ixN (n : Nat) (i : Int) : Option Nat := if 0 ≤ i then (if i < n then some i.toNat else none) else if -(n : Int) ≤ i then some (i + n).toNat else none
noncomputable def atI {α : Type} (xs : List α) (i : Int) : Option α := (ixN xs.length i).bind fun j => xs[j]?
theorem ixN_seq {n : Nat} {i : Int} {j : Nat} (h : ixN n i = some j) : seqIndex? i n = some j ∧ j < n ∧ -(n : Int) ≤ i ∧ i < n := by
  unfold ixN at h
  by_cases h0 : 0 ≤ i
  · rw [if_pos h0] at h
    by_cases h1 : i < n
    · rw [if_pos h1] at h
      have e : i.toNat = j := Option.some.inj h
      exact ⟨by rw [seqIndex_of h0 h1, e], by omega, by omega, h1⟩
    · rw [if_neg h1] at h; cases h
  · rw [if_neg h0] at h
    by_cases h1 : -(n : Int) ≤ i
    · rw [if_pos h1] at h
      have e : (i + n).toNat = j := Option.some.inj h
      exact ⟨by rw [seqIndex_neg (by omega) h1, e], by omega, h1, by omega⟩
    · rw [if_neg h1] at h; cases h
theorem atI_get {α : Type} {xs : List α} {i : Int} {v : α} (h : atI xs i = some v) : ∃ j, seqIndex? i xs.length = some j ∧ xs[j]? = some v ∧ j < xs.length ∧ -(xs.length : Int) ≤ i ∧ i < xs.length := by
  unfold atI at h
  cases e : ixN xs.length i with
  | none => rw [e] at h; cases h
  | some j =>
    rw [e] at h
    obtain ⟨h1, h2, h3, h4⟩ := ixN_seq e
    exact ⟨j, h1, h, h2, h3, h4⟩
theorem atI_nat {α : Type} {xs : List α} {j : Nat} {v : α} (h : xs[j]? = some v) : atI xs (j : Int) = some v := by
  have hj : j < xs.length := (List.getElem?_eq_some_iff.mp h).1
  have e : ixN xs.length (j : Int) = some j := by
    unfold ixN
    rw [if_pos (by omega), if_pos (by omega)]; simp
  unfold atI; rw [e]; exact h
theorem atI_last {α : Type} (xs : List α) (v : α) : atI (xs ++ [v]) (-1) = some v := by
  have hl : (xs ++ [v]).length = xs.length + 1 := by simp
  have e : ixN (xs ++ [v]).length (-1) = some xs.length := by
    unfold ixN
    rw [hl, if_neg (by decide), if_pos (by omega)]
    congr 1
    omega
  unfold atI
  rw [e]
  show (xs ++ [v])[xs.length]? = some v
  simp

noncomputable def PlainIx (b : Expr) : Prop := ∀ o i, subscripted b false o i = operate [o, i] (getItem o i)

noncomputable def IxR (X : Cx) (r : R2) : Prop :=
  ∀ (value slice : Expr) (pins : List (Addr × Obj)) (s : Shared) (σ : St) (H : Hp) (x y : V) (v u : Value) (Q : VK), Inv X pins σ H s → RelV x v → RelV y u → r x y H Q →
    subscripted slice false v u = operate [v, u] (getItem v u) → wpAny (model X.prog X.w) X.A (subscriptTail value slice v u) (EP X pins σ Q) X.xe s

noncomputable def MtR (X : Cx) (id : String) (r : V → List V → Hp → VK → Prop) : Prop :=
  ∀ (pins : List (Addr × Obj)) (s : Shared) (σ : St) (H : Hp) (x : V) (xs : List V) (v : Value) (us : List Value) (Q : VK), Inv X pins σ H s → RelV x v → Vals xs us → r x xs H Q →
    wpAny (model X.prog X.w) X.A (call (.builtin id) (v :: us)) (EP X pins σ Q) X.xe s
section
variable {X : Cx} {a b : Expr} {ta tb : TE} {pos : Pos}

theorem pe_ix {r : R2} (hr : IxR X r) (ha : PE X a ta) (hb : PE X b tb) (hs : PlainIx b) : PE X (.Subscript a b pos) (tOp r ta tb) := by
  intro pins s σ H Q I h
  exact Subscript_ (binT ha hb I h fun v u s2 x y H2 I2 rx ry q => hr a b pins s2 σ H2 x y v u Q I2 rx ry q (hs _ _))

inductive XIxL (K : PySem.W.Frag) (x y : V) (H : Hp) (Q : VK) : Prop
  | mk (p : Addr) (xs : List V) (i : Int) (v : V) (e : x = .ref p) (e2 : y = .int i) (s : SqL K H p xs) (a : atI xs i = some v) (q : Q v H) : XIxL K x y H Q
noncomputable def rIxL (K : PySem.W.Frag) : R2 := fun x y H Q => XIxL K x y H Q
inductive XIxT (K : PySem.W.Frag) (x y : V) (H : Hp) (Q : VK) : Prop
  | mk (p : Addr) (xs : List V) (i : Int) (v : V) (e : x = .ref p) (e2 : y = .int i) (s : SqT K H p xs) (a : atI xs i = some v) (q : Q v H) : XIxT K x y H Q
noncomputable def rIxT (K : PySem.W.Frag) : R2 := fun x y H Q => XIxT K x y H Q
noncomputable def rIxS : R2 := fun x y H Q => ∃ z i c, x = .str z ∧ y = .int i ∧ z.length ≤ sizeLine ∧ atI z.cps.toList i = some c ∧ Q (.str ⟨#[c]⟩) H
theorem ix_list : IxR X (rIxL X.K) := by
  intro value slice pins s σ H x y v u Q I rx ry h hs
  obtain ⟨p, xs, i, z, rfl, rfl, hq, he, q⟩ := h
  cases rx
  obtain ⟨t, rfl⟩ := ry
  obtain ⟨its, r, pl, hz⟩ := I.list hq
  obtain ⟨j, h1, h2, h3, h4, h5⟩ := atI_get he
  obtain ⟨w, ew, rw'⟩ := r.get h2
  have hl := r.length
  have hn := line63
  have fin : EP X pins σ Q w s := ⟨z, H, I, rw', q⟩
  by_cases h0 : 0 ≤ i
  · have hj : i.toNat = j := by
      rw [seqIndex_of h0 h5] at h1
      exact Option.some.inj h1
    exact item_listR pl.isList h0 (by omega) (by rw [hj]; simpa using ew) fin hs
  · have hj : (i + (its.toArray.size : Int)).toNat = j := by
      rw [seqIndex_neg (by omega) h4] at h1
      rw [List.size_toArray, ← hl]
      exact Option.some.inj h1
    exact subscriptTail_builtinR (x := w) pl.isList.typeIs slot_list_getitem.lookup
      (wpAny_getItem_list_neg (Q := fun r s' => r = w ∧ EP X pins σ Q r s') pl.isList (by omega) (by rw [List.size_toArray] <;> omega) (by omega) (by rw [hj]; simpa using ew) ⟨rfl, fin⟩) hs
theorem ix_tup : IxR X (rIxT X.K) := by
  intro value slice pins s σ H x y v u Q I rx ry h hs
  obtain ⟨p, xs, i, z, rfl, rfl, hq, he, q⟩ := h
  cases rx
  obtain ⟨t, rfl⟩ := ry
  obtain ⟨its, r, pl, hz⟩ := I.tuple hq
  obtain ⟨j, h1, h2, h3, h4, h5⟩ := atI_get he
  obtain ⟨w, ew, rw'⟩ := r.get h2
  have hl := r.length
  have hn := line63
  have fin : EP X pins σ Q w s := ⟨z, H, I, rw', q⟩
  exact subscriptTail_builtinR (x := w) pl.typeIs slot_tuple_getitem.lookup
    (getItem_tuple (j := j) (Q := fun r s' => r = w ∧ EP X pins σ Q r s') pl (by omega) (by omega) (by rw [List.size_toArray, ← hl]; exact h1) (by simpa using ew) ⟨rfl, fin⟩) hs
theorem ix_str : IxR X rIxS := by
  intro value slice pins s σ H x y v u Q I rx ry h hs
  obtain ⟨z, i, c, rfl, rfl, hz, he, q⟩ := h
  obtain ⟨t, rfl⟩ := rx
  obtain ⟨t', rfl⟩ := ry
  obtain ⟨j, h1, h2, h3, h4, h5⟩ := atI_get he
  have hl : z.cps.toList.length = z.length := by simp [Str.length]
  rw [hl] at h1 h4 h5
  have hn := line63
  exact tail_any (typeIs_str s z t) slot_str_getitem.lookup (getItem_str (c := c) (by
    have e1 : decide (i < -(2 ^ 63 : Int)) = false := decide_eq_false (by omega)
    have e2 : decide (i ≥ 2 ^ 63) = false := decide_eq_false (by omega)
    rw [e1, e2, Bool.or_false]) (by rw [h1]; simpa using h2) ⟨.str ⟨#[c]⟩, H, I.tok _, ⟨_, rfl⟩, q⟩) hs

theorem mapSeq_set (its : List Value) (n j : Nat) (u : Value) : Obj.mapSeq (·.setIfInBounds j u) { cls := .type "list", data := .seq its.toArray n } = { cls := .type "list", data := .seq (its.set j u).toArray n } := by
  simp [Obj.mapSeq]
theorem Inv.lst {pins : List (Addr × Obj)} {σ : St} {H : Hp} {s : Shared} {p : Addr} {xs : List V} (I : Inv X pins σ H s) (h : H p = some (.lst xs)) :
    ∃ (its : List Value) (n : Nat), Vals xs its ∧ s.heap.get? p = some { cls := .type "list", data := .seq its.toArray n } ∧ xs.length ≤ sizeLine := by
  obtain ⟨z, its, n, r, e⟩ := I.hok p _ h
  exact ⟨its, n, r, e, z⟩

theorem Inv.lstUpd {pins : List (Addr × Obj)} {σ : St} {H : Hp} {s : Shared} {p : Addr} {xs ys : List V} {its its' : List Value} {n n' : Nat} {f : Obj → Obj} (I : Inv X pins σ H s) (h : H p = some (.lst xs))
    (ho : s.heap.get? p = some { cls := .type "list", data := .seq its.toArray n }) (hf : f { cls := .type "list", data := .seq its.toArray n } = { cls := .type "list", data := .seq its'.toArray n' }) (r : Vals ys its') (hz : ys.length ≤ sizeLine) (t : Nat) (ht : 0 < t := by first | assumption | exact Nat.succ_pos _ | exact L2.Inv.tk (by assumption) | (refine Nat.lt_of_lt_of_le (L2.Inv.tk (by assumption)) ?_; first | assumption | omega)) :
    Inv X pins σ (upd H p (.lst ys)) { s with heap := s.heap.update p f, toks := t } := by
  have e : (s.heap.update p f).get? p = some { cls := .type "list", data := .seq its'.toArray n' } := by
    rw [Heap.get?_update_self f ho (by rw [hf] <;> rfl), hf]
  refine I.write (x := p) (e := p) (by rw [h]; trivial) (.inl rfl) (fun b u hb q => (Heap.get?_update_other _ _ (Ne.symm hb)).trans q) ⟨_, e⟩ ?_
  exact ⟨hz, its', n', r, e⟩
inductive XSetL (o i v : V) (H : Hp) (Q : Hp → Prop) : Prop
  | mk (p : Addr) (xs : List V) (k : Int) (j : Nat) (e : o = .ref p) (e2 : i = .int k) (a : H p = some (.lst xs)) (b : ixN xs.length k = some j) (q : Q (upd H p (.lst (xs.set j v)))) : XSetL o i v H Q
noncomputable def rSetL : V → V → V → Hp → (Hp → Prop) → Prop := fun o i v H Q => XSetL o i v H Q
theorem set_list : PSet X rSetL := by
  intro pins s σ H o i v ov iv u Q I ro ri rv h
  obtain ⟨p, xs, k, j, rfl, rfl, hp, hj, q⟩ := h
  cases ro
  obtain ⟨t, rfl⟩ := ri
  obtain ⟨its, n, r, ho, hz⟩ := I.lst hp
  obtain ⟨h1, h2, h3, h4⟩ := ixN_seq hj
  have hl := r.length
  have hn := line63
  have I' : Inv X pins σ (upd H p (.lst (xs.set j v))) { s with heap := s.heap.update p (Obj.mapSeq (·.setIfInBounds j u)) } :=
    I.lstUpd hp ho (mapSeq_set its n j u) (r.set rv j) (by rw [List.length_set]; exact hz) s.toks
  by_cases h0 : 0 ≤ k
  · have hk : k.toNat = j := by
      rw [seqIndex_of h0 h4] at h1
      exact Option.some.inj h1
    exact PySem.W.ki_setAt ho h0 (by omega) (by rw [List.size_toArray, ← hl]; exact h4) (by rw [hk]; exact ⟨_, I', q⟩)
  · have hk : (k + (its.toArray.size : Int)).toNat = j := by
      rw [seqIndex_neg (by omega) h3] at h1
      rw [List.size_toArray, ← hl]
      exact Option.some.inj h1
    exact PySem.W.ki_setBack ho (by omega) (by rw [List.size_toArray, ← hl]; exact h3) (by omega) (by rw [hk]; exact ⟨_, I', q⟩)

theorem slice_bounds (lo hi : Option Int) (n : Nat) : (sliceBounds lo hi none n).1 = ((HT.sIx n 0 lo : Nat) : Int) ∧ (sliceBounds lo hi none n).2.1 = ((HT.sIx n n hi : Nat) : Int) ∧ (sliceBounds lo hi none n).2.2 = 1 := by
  refine ⟨?_, ?_, rfl⟩
  · cases lo with
    | none => simp [sliceBounds, HT.sIx]
    | some i =>
      simp only [sliceBounds, HT.sIx, Option.getD_none, show (1 : Int) > 0 by decide, if_true]
      by_cases h : i < 0
      · simp only [h, if_true] <;> omega
      · simp only [h, if_false] <;> omega
  · cases hi with
    | none => simp [sliceBounds, HT.sIx]
    | some i =>
      simp only [sliceBounds, HT.sIx, Option.getD_none, show (1 : Int) > 0 by decide, if_true]
      by_cases h : i < 0
      · simp only [h, if_true] <;> omega
      · simp only [h, if_false] <;> omega
theorem slicePick_cut (its : List Value) (lo hi : Option Int) : slicePick its.toArray lo hi none = ((its.drop (HT.sIx its.length 0 lo)).take (HT.sIx its.length its.length hi - HT.sIx its.length 0 lo)).toArray := by
  obtain ⟨h1, h2, h3⟩ := slice_bounds lo hi its.toArray.size
  unfold slicePick
  rw [h1, h2, h3]
  simp only [sliceRange_one, pick_run, List.size_toArray] <;> rfl

inductive XSlL (K : PySem.W.Frag) (x : V) (lo hi : Option Int) (H : Hp) (Q : VK) : Prop
  | mk (a : Addr) (xs : List V) (e : x = .ref a) (s : SqL K H a xs) (q : ∀ p, H p = none → Q (.ref p) (upd H p (.lst (cutV xs lo hi)))) : XSlL K x lo hi H Q
noncomputable def rSlL (K : PySem.W.Frag) : V → Option Int → Option Int → Hp → VK → Prop := fun x lo hi H Q => XSlL K x lo hi H Q
theorem sl_list : SlR X (rSlL X.K) := by
  intro pins s σ H x v vl vu lo hi sl Q I rx hs pl pu h
  obtain ⟨a, xs, rfl, hx, q⟩ := h
  cases rx
  obtain ⟨its, r, ht, hz⟩ := I.list hx
  have hlen := r.length
  refine ⟨"list", _, slot_list_getitem.lookup, ht.isList.typeIs, ?_⟩
  refine wpAny_getItem_list_slice ht.isList hs pl pu .none (by simp) ?_ (by rw [List.size_toArray] <;> omega)
  rw [slicePick_cut, ← hlen]
  refine ⟨.ref s.heap.objs.size, _, I.laid (t' := s.toks) (o := .lst (cutV xs lo hi)) (fun b ob q => Heap.get?_push_of_some _ q) (Nat.le_refl _) ?_, rfl, q _ (I.hok.fresh (Nat.le_refl _))⟩
  exact ⟨Nat.le_trans (cutV_length xs lo hi) hz, _, 0, (r.drop (HT.sIx xs.length 0 lo)).take (HT.sIx xs.length xs.length hi - HT.sIx xs.length 0 lo), Heap.get?_push_size _ rfl⟩

noncomputable def flatV : V → Bool
  | .non => true
  | .bl _ => true
  | .int _ => true
  | .str _ => true
  | _ => false

noncomputable def eqV : V → V → Bool
  | .non, .non => true
  | .bl a, .bl b => a == b
  | .bl a, .int b => (if a then 1 else 0) == b
  | .int a, .bl b => a == (if b then 1 else 0)
  | .int a, .int b => a == b
  | .str a, .str b => a == b
  | _, _ => false
theorem eqAt_V {A : Around} {s : Shared} {y x : V} {u v : Value} (ry : RelV y u) (rx : RelV x v) (fy : flatV y = true) (fx : flatV x = true) : SeqAt.EqAt A s u v (eqV y x) := by
  cases y with
  | non =>
    cases ry
    cases x with
    | non => cases rx; exact SeqAt.EqAt.same _
    | bl b => cases rx; exact SeqAt.EqAt.none_bool b
    | int b => obtain ⟨t, rfl⟩ := rx; exact SeqAt.EqAt.none_int b t
    | str b => obtain ⟨t, rfl⟩ := rx; exact SeqAt.EqAt.none_str b t
    | _ => exact absurd (show false = true from fx) Bool.false_ne_true
  | bl a =>
    cases ry
    cases x with
    | non => cases rx; exact SeqAt.EqAt.bool_none a
    | bl b => cases rx; exact SeqAt.EqAt.bool_bool a b
    | int b => obtain ⟨t, rfl⟩ := rx; exact SeqAt.EqAt.bool_int a b t
    | str b => obtain ⟨t, rfl⟩ := rx; exact SeqAt.EqAt.bool_str a b t
    | _ => exact absurd (show false = true from fx) Bool.false_ne_true
  | int a =>
    obtain ⟨t', rfl⟩ := ry
    cases x with
    | non => cases rx; exact SeqAt.EqAt.int_none a t'
    | bl b => cases rx; exact SeqAt.EqAt.int_bool a t' b
    | int b => obtain ⟨t, rfl⟩ := rx; exact SeqAt.EqAt.int_int a t' b t
    | str b => obtain ⟨t, rfl⟩ := rx; exact SeqAt.EqAt.int_str a t' b t
    | _ => exact absurd (show false = true from fx) Bool.false_ne_true
  | str a =>
    obtain ⟨t', rfl⟩ := ry
    cases x with
    | non => cases rx; exact SeqAt.EqAt.str_none a t'
    | bl b => cases rx; exact SeqAt.EqAt.str_bool a t' b
    | int b => obtain ⟨t, rfl⟩ := rx; exact SeqAt.EqAt.str_int a t' b t
    | str b => obtain ⟨t, rfl⟩ := rx; exact SeqAt.EqAt.str_str a t' b t
    | _ => exact absurd (show false = true from fx) Bool.false_ne_true
  | _ => exact absurd (show false = true from fy) Bool.false_ne_true

noncomputable def eqU (x : V) (u : Value) : Bool := match u with
  | .none => eqV .non x
  | .bool b => eqV (.bl b) x
  | .int i _ => eqV (.int i) x
  | .str z _ => eqV (.str z) x
  | _ => false
theorem eqU_of {x y : V} {u : Value} (r : RelV y u) (f : flatV y = true) : eqU x u = eqV y x := by
  cases y with
  | non => cases r; rfl
  | bl b => cases r; rfl
  | int i => obtain ⟨t, rfl⟩ := r; rfl
  | str z => obtain ⟨t, rfl⟩ := r; rfl
  | _ => exact absurd (show false = true from f) Bool.false_ne_true
theorem any_eqU {x : V} : ∀ {xs : List V} {us : List Value}, Vals xs us → xs.all flatV = true → us.any (eqU x) = xs.any fun y => eqV y x
  | _, _, .nil, _ => rfl
  | y :: xs, u :: us, .cons r t, f => by
    rw [List.all_cons, Bool.and_eq_true] at f
    rw [List.any_cons, List.any_cons, eqU_of r f.1, any_eqU t f.2]
theorem mem_eqAt {A : Around} {s : Shared} {x : V} {v : Value} (rx : RelV x v) (fx : flatV x = true) : ∀ {xs : List V} {us : List Value}, Vals xs us → xs.all flatV = true → ∀ u ∈ us, SeqAt.EqAt A s u v (eqU x u)
  | _, _, .nil, _ => fun u hu => by cases hu
  | y :: xs, u :: us, .cons r t, f => fun u' hu => by
    rw [List.all_cons, Bool.and_eq_true] at f
    rcases List.mem_cons.mp hu with rfl | hu
    · rw [eqU_of r f.1]; exact eqAt_V r rx f.1 fx
    · exact mem_eqAt rx fx t f.2 u' hu
noncomputable def inV (x : V) (xs : List V) : Bool := xs.any fun y => eqV y x

noncomputable def rIn (K : PySem.W.Frag) (neg : Bool) : R2 := fun x y H Q => ∃ p xs, y = .ref p ∧ (SqL K H p xs ∨ SqT K H p xs) ∧ flatV x = true ∧ xs.all flatV = true ∧ Q (.bl (if neg then !inV x xs else inV x xs)) H
theorem op_in_seq : OpR X (compareOp .In) (rIn X.K false) := by
  intro pins s σ H x y v u Q I rx ry h
  obtain ⟨p, xs, rfl, hq, fx, fs, q⟩ := h
  cases ry
  rcases hq with hq | hq
  · obtain ⟨its, r, pl, hz⟩ := I.list hq
    refine SeqAt.in_listAt (eqU x) pl.isList (fun w hw => mem_eqAt rx fx r fs w (by simpa using hw)) ⟨.bl _, H, I, rfl, ?_⟩
    rw [show its.toArray.any (eqU x) = its.any (eqU x) by simp, any_eqU r fs]
    exact q
  · obtain ⟨its, r, pl, hz⟩ := I.tuple hq
    refine SeqAt.in_tupleAt (eqU x) pl (fun w hw => mem_eqAt rx fx r fs w (by simpa using hw)) ⟨.bl _, H, I, rfl, ?_⟩
    rw [show its.toArray.any (eqU x) = its.any (eqU x) by simp, any_eqU r fs]
    exact q

inductive XLen (K : PySem.W.Frag) (xs : List V) (H : Hp) (Q : VK) : Prop
  | mk (p : Addr) (ys : List V) (e : xs = [.ref p]) (s : SqL K H p ys ∨ SqT K H p ys) (q : Q (.int ys.length) H) : XLen K xs H Q
theorem call_len_seq : CallR X (.builtin "len") (fun xs H Q => XLen X.K xs H Q) := by
  intro pins s σ H xs us Q I r h
  obtain ⟨p, ys, rfl, hq, q⟩ := h
  obtain ⟨u, rfl, rx⟩ := vals1 r
  cases rx
  have hn := line63
  rcases hq with hq | hq
  · obtain ⟨its, r', pl, hz⟩ := I.list hq
    have hlen := r'.length
    exact Calls.call_len_list pl.isList (by simp only [List.size_toArray] <;> omega) ⟨.int ys.length, H, I.tok _, ⟨s.toks + 1, by rw [List.size_toArray, hlen]⟩, q⟩
  · obtain ⟨its, r', pl, hz⟩ := I.tuple hq
    have hlen := r'.length
    exact len_tuple pl (by simp only [List.size_toArray] <;> omega) ⟨.int ys.length, H, I.tok _, ⟨s.toks + 1, by rw [List.size_toArray, hlen]⟩, q⟩
theorem call_len_str : CallR X (.builtin "len") (fun xs H Q => ∃ z, xs = [.str z] ∧ z.length ≤ sizeLine ∧ Q (.int z.length) H) := by
  intro pins s σ H xs us Q I r h
  obtain ⟨z, rfl, hz, q⟩ := h
  obtain ⟨u, rfl, t, rfl⟩ := vals1 r
  have hn := line63
  exact len_str (by omega) ⟨.int z.length, H, I.tok _, ⟨_, rfl⟩, q⟩

noncomputable def tyV (K : PySem.W.Frag) (T : String) (x : V) (H : Hp) : Prop := match x with
  | .str _ => T = "str"
  | .int _ => T = "int"
  | .ref p => (T = "list" ∧ ∃ xs, SqL K H p xs) ∨ (T = "tuple" ∧ ∃ o, K.lookup p = some o ∧ o.cls = .type "tuple" ∧ o.dict = none) ∨
      (T = "dict" ∧ ((∃ kvs, H p = some (.dK kvs)) ∨ ∃ kvs, H p = some (.dT kvs))) ∨ (T = "set" ∧ ∃ S n, H p = some (.set S n))
  | _ => False
theorem tyV_is {pins : List (Addr × Obj)} {σ : St} {H : Hp} {s : Shared} {T : String} {x : V} {v : Value} (I : Inv X pins σ H s) (r : RelV x v) (ty : tyV X.K T x H) :
    s.TypeIs v T ∧ ∀ a, v = .ref a → ∃ ob, s.heap.get? a = some ob ∧ ob.dict = none := by
  cases x with
  | str z =>
    obtain ⟨t, rfl⟩ := r
    cases (show T = "str" from ty)
    exact ⟨typeIs_str s z t, fun _ e => nomatch e⟩
  | int i =>
    obtain ⟨t, rfl⟩ := r
    cases (show T = "int" from ty)
    exact ⟨typeIs_int s i t, fun _ e => nomatch e⟩
  | ref p =>
    cases r
    rcases ty with ⟨rfl, xs, hq⟩ | ⟨rfl, o, hk, hc, hd⟩ | ⟨rfl, hk⟩ | ⟨rfl, S, n, hk⟩
    · obtain ⟨its, _, pl, _⟩ := I.list hq
      refine ⟨pl.isList.typeIs, fun a e => ?_⟩
      cases e
      obtain ⟨o, n, e, c, hd, _⟩ := pl
      exact ⟨o, e, hd⟩
    · refine ⟨⟨o, I.kIn p o hk, hc⟩, fun a e => ?_⟩
      cases e
      exact ⟨o, I.kIn _ o hk, hd⟩
    · have z : ∃ o, s.heap.get? p = some o ∧ o.ExactDict := by
        rcases hk with ⟨kvs, hk⟩ | ⟨kvs, hk⟩
        · obtain ⟨_, _, _, _, o, _, _, e, ex, _⟩ := I.hok p _ hk
          exact ⟨o, e, ex⟩
        · obtain ⟨_, _, _, _, o, _, _, e, ex, _⟩ := I.hok p _ hk
          exact ⟨o, e, ex⟩
      obtain ⟨o, e, ex⟩ := z
      refine ⟨⟨o, e, ex.1⟩, fun a e2 => ?_⟩
      cases e2
      exact ⟨o, e, ex.2.1⟩
    · obtain ⟨o, _, _, _, e, ex, _⟩ := I.hok p _ hk
      refine ⟨⟨o, e, ex.1⟩, fun a e2 => ?_⟩
      cases e2
      exact ⟨o, e, ex.2.1⟩
  | _ => exact False.elim ty
noncomputable def tBM (K : PySem.W.Frag) (T : String) (r : V → List V → Hp → VK → Prop) (to : TE) (t : TA) : TE := fun σ H Q => to σ H fun x H1 => tyV K T x H1 ∧ t σ H1 fun xs H2 => r x xs H2 Q
variable {o e : Expr} {es : List Expr} {to : TE} {t : TA} {name : Str} {apos cpos : Pos} {T id : String} {r : V → List V → Hp → VK → Prop}
theorem pe_bm (pa : PlainAttrs T) (slot : Slot T name id) (hty : typeOf (.builtin id) = pure (.type "method_descriptor")) (hm : MtR X id r) (ho : PE X o to) (ha : PA X (e :: es) t)
    (hbase : attributeBase o name X.env (eval o X.env) = eval o X.env := by rfl)
    (hfew : ((backTo cpos (starEach (e :: es) X.env)).all (fun x => !x.1) && (backToKw cpos (keywordEach [] X.env)).all (fun x => x.1.isSome)
      && decide ((e :: es).length + ([] : List Keyword).length + (if ([] : List Keyword).isEmpty then 0 else 1) < 30)) = true := by rfl)
    (hline : (apos.endLine == cpos.line) = true := by rfl) (hs : starEach (e :: es) X.env = (false, eval e X.env) :: starEach es X.env := by rfl) (hplain : (backTo cpos (starEach es X.env)).any (·.1) = false := by rfl) :
    PE X (.Call (.Attribute o name apos) (e :: es) [] cpos) (tBM X.K T r to t) := by
  intro pins s σ H Q I h
  refine wpAny_Call_method_late hbase hfew hline rfl (thn (ho pins s σ H _ I h) fun v s1 ⟨x, H1, I1, r1, ty, q1⟩ => ?_)
  obtain ⟨h1, h2⟩ := tyV_is I1 r1 ty
  refine ⟨T, id, pa, slot, hty, h1, h2, ?_⟩
  have hA := ha cpos pins s1 σ H1 _ I1 q1
  rw [hs] at hA ⊢
  refine Calls.callWith_builtin (by show (false || (backTo cpos (starEach es X.env)).any (·.1)) = false; rw [hplain] <;> rfl) (Calls.evalArgs_plain ?_)
  exact thn hA fun us s2 ⟨vs, H2, I2, r2, q2⟩ => hm pins s2 σ H2 x vs v us Q I2 r1 r2 q2

end
end L2

namespace L2
open PySem PySem.Spec PyProof.Rows

noncomputable def MtM (X : Cx) (id : String) (r : V → List V → Hp → VK → Prop) : Prop :=
  ∀ (pins : List (Addr × Obj)) (s : Shared) (σ : St) (H : Hp) (x : V) (xs : List V) (v : Value) (us : List Value) (Q : VK), Inv X pins σ H s → RelV x v → Vals xs us → r x xs H Q →
    wpAny (model X.prog X.w) X.A (call (.builtin id) (v :: us)) (EP X pins σ Q) X.xe s

theorem Vals.one : ∀ {x : V} {us : List Value}, Vals [x] us → ∃ u, us = [u] ∧ RelV x u
  | _, _, .cons r .nil => ⟨_, rfl, r⟩
theorem Vals.zero : ∀ {us : List Value}, Vals [] us → us = []
  | _, .nil => rfl
theorem Vals.dropLast {xs : List V} {us : List Value} (h : Vals xs us) : Vals xs.dropLast us.dropLast := by
  induction h with
  | nil => exact .nil
  | cons r t ih =>
    cases t with
    | nil => exact .nil
    | cons q t' => exact .cons r ih
theorem Vals.rep {xs : List V} {us : List Value} (h : Vals xs us) : ∀ k : Nat, Vals (List.replicate k xs).flatten (List.replicate k us).flatten
  | 0 => .nil
  | k + 1 => by
    rw [List.replicate_succ, List.replicate_succ, List.flatten_cons, List.flatten_cons]
    exact Vals.append h (Vals.rep h k)
theorem foldl_rep (its : List Value) : ∀ (k : Nat) (acc : List Value),
    List.foldl (fun x1 x2 => x1 ++ x2) acc.toArray (List.replicate k its.toArray) = (acc ++ (List.replicate k its).flatten).toArray
  | 0, acc => by simp
  | k + 1, acc => by
    have e : acc.toArray ++ its.toArray = (acc ++ its).toArray := by simp
    have e2 : (acc ++ its) ++ (List.replicate k its).flatten = acc ++ (List.replicate (k + 1) its).flatten := by
      rw [List.replicate_succ, List.flatten_cons, List.append_assoc]
    rw [← e2, ← foldl_rep its k (acc ++ its), ← e, List.replicate_succ, List.foldl_cons]

section
variable {X : Cx} {pins : List (Addr × Obj)} {σ : St} {H : Hp} {s : Shared} {l b : Addr} {xs ys zs : List V}

theorem Inv.lset {its its' : List Value} {n : Nat} {f : Array Value → Array Value} {t' : Nat} (I : Inv X pins σ H s) (hH : H l = some (.lst xs))
    (e : s.heap.get? l = some { cls := .type "list", data := .seq its.toArray n }) (hf : f its.toArray = its'.toArray) (hv : Vals ys its') (hz : ys.length ≤ sizeLine) (ht : 0 < t' := by first | assumption | exact Nat.succ_pos _ | exact L2.Inv.tk (by assumption) | (refine Nat.lt_of_lt_of_le (L2.Inv.tk (by assumption)) ?_; first | assumption | omega)) :
    Inv X pins σ (upd H l (.lst ys)) { s with heap := s.heap.update l (Obj.mapSeq f), toks := t' } := by
  have q := PySem.IsL.update e f
  rw [hf] at q
  refine I.write (x := l) (e := l) (by rw [hH]; exact trivial) (.inl rfl) (fun b' u hb hu => (Heap.get?_update_other s.heap (Obj.mapSeq f) (Ne.symm hb)).trans hu) ⟨_, q⟩ ?_
  exact ⟨hz, its', _, hv, q⟩
theorem Inv.lnew {its : List Value} {t' : Nat} (I : Inv X pins σ H s) (hv : Vals ys its) (hz : ys.length ≤ sizeLine) (ht : 0 < t' := by first | assumption | exact Nat.succ_pos _ | exact L2.Inv.tk (by assumption) | (refine Nat.lt_of_lt_of_le (L2.Inv.tk (by assumption)) ?_; first | assumption | omega)) :
    Inv X pins σ (upd H s.heap.objs.size (.lst ys)) { s with heap := s.heap.push { cls := .type "list", data := .seq its.toArray }, toks := t' } :=
  I.laid (fun _ _ q => Heap.get?_push_of_some _ q) (Nat.le_refl _) ⟨hz, its, 0, hv, Heap.get?_push_size _ rfl⟩
theorem Inv.fresh (I : Inv X pins σ H s) : H s.heap.objs.size = none := I.hok.fresh (Nat.le_refl _)
theorem Inv.lstM (I : Inv X pins σ H s) (hH : H l = some (.lst xs)) : xs.length ≤ sizeLine ∧ ∃ (its : List Value) (n : Nat), Vals xs its ∧ xs.length = its.length ∧ s.heap.get? l = some { cls := .type "list", data := .seq its.toArray n } := by
  obtain ⟨z, its, n, r, e⟩ := I.hok l _ hH
  exact ⟨z, its, n, r, r.length, e⟩

theorem notLongL {n : Nat} (h : n ≤ sizeLine) : Builtin.List.listTooLong n = false := by
  unfold Builtin.List.listTooLong
  exact decide_eq_false (by omega)
end

section
variable {X : Cx}

inductive XApp (x : V) (vs : List V) (H : Hp) (Q : VK) : Prop
  | mk (l : Addr) (xs : List V) (y : V) (e : x = .ref l) (e2 : vs = [y]) (a : H l = some (.lst xs)) (b : xs.length < sizeLine) (q : Q .non (upd H l (.lst (xs ++ [y])))) : XApp x vs H Q
noncomputable def rAppend : V → List V → Hp → VK → Prop := fun x vs H Q => XApp x vs H Q
theorem mt_append : MtM X "list.append" rAppend := by
  intro pins s σ H x vs v us Q I rx rv h
  obtain ⟨l, xs, y, rfl, rfl, hH, hz, q⟩ := h
  cases rx
  obtain ⟨u, rfl, ru⟩ := rv.one
  obtain ⟨z, its, n, r, hl, e⟩ := I.lstM hH
  refine call_meets F.slot_list_append ⟨_, e, rfl⟩ F.entry_list_append (F.args_list_append_2 _ _) (PySem.list_append l its.toArray n u (by rw [List.size_toArray]; omega)) ⟨e, ?_⟩
  refine ⟨.non, _, I.lset (its' := its ++ [u]) hH e (by simp) (r.append (.cons ru .nil)) ?_, rfl, q⟩
  rw [List.length_append, List.length_singleton]
  omega

noncomputable def rExtend : V → List V → Hp → VK → Prop := fun x vs H Q => ∃ l b xs zs, x = .ref l ∧ vs = [.ref b] ∧ H l = some (.lst xs) ∧ H b = some (.lst zs) ∧ xs.length + zs.length ≤ sizeLine ∧ Q .non (upd H l (.lst (xs ++ zs)))
theorem mt_extend : MtM X "list.extend" rExtend := by
  intro pins s σ H x vs v us Q I rx rv h
  obtain ⟨l, b, xs, zs, rfl, rfl, hH, hB, hz, q⟩ := h
  cases rx
  obtain ⟨u, rfl, ru⟩ := rv.one
  cases ru
  obtain ⟨z, its, n, r, hl, e⟩ := I.lstM hH
  obtain ⟨z2, its2, n2, r2, hl2, e2⟩ := I.lstM hB
  have hsz : its.toArray.size + its2.toArray.size ≤ sizeLine := by rw [List.size_toArray, List.size_toArray]; omega
  have hlong : ¬ (!its.toArray.isEmpty && Builtin.List.listTooLong (its.toArray.size + its2.toArray.size)) = true := by
    rw [notLongL hsz, Bool.and_false]
    exact Bool.false_ne_true
  refine call_meets F.slot_list_extend ⟨_, e, rfl⟩ F.entry_list_extend (F.args_list_extend_2 _ _)
    (AutoSeq1.list_extend_list_list_0 l its.toArray n b its2.toArray n2 hlong (by rw [List.size_toArray]; omega) (by omega)) ⟨e, e2, ?_⟩
  refine ⟨.non, _, I.lset (its' := its ++ its2) hH e (by simp) (r.append r2) ?_, rfl, q⟩
  rw [List.length_append]
  omega

noncomputable def rCat : R2 := fun x y H Q => ∃ l b xs zs, x = .ref l ∧ y = .ref b ∧ H l = some (.lst xs) ∧ H b = some (.lst zs) ∧ xs.length + zs.length ≤ sizeLine ∧ ∀ p, H p = none → Q (.ref p) (upd H p (.lst (xs ++ zs)))
theorem op_cat : OpR X (binaryOp .Add) rCat := by
  intro pins s σ H x y v u Q I rx ry h
  obtain ⟨l, b, xs, zs, rfl, rfl, hH, hB, hz, q⟩ := h
  cases rx
  cases ry
  obtain ⟨z, its, n, r, hl, e⟩ := I.lstM hH
  obtain ⟨z2, its2, n2, r2, hl2, e2⟩ := I.lstM hB
  refine PySem.P.add_list e e2 ?_ (by rw [List.size_toArray, List.size_toArray]; omega)
  have ea : its.toArray ++ its2.toArray = (its ++ its2).toArray := by simp
  rw [ea]
  exact ⟨.ref _, _, I.lnew (t' := s.toks) (r.append r2) (by rw [List.length_append]; omega), rfl, q _ I.fresh⟩

noncomputable def rRep : R2 := fun x y H Q => ∃ l k xs, x = .ref l ∧ y = .int k ∧ H l = some (.lst xs) ∧ -(2 ^ 63) ≤ k ∧ k < 2 ^ 63 ∧ xs.length * k.toNat ≤ sizeLine ∧
  ∀ p, H p = none → Q (.ref p) (upd H p (.lst (List.replicate k.toNat xs).flatten))
theorem len_rep {α : Type} (xs : List α) (k : Nat) : (List.replicate k xs).flatten.length = k * xs.length := by
  induction k with
  | zero => simp
  | succ k ih => rw [List.replicate_succ, List.flatten_cons, List.length_append, ih, Nat.succ_mul, Nat.add_comm]
theorem op_rep : OpR X (binaryOp .Mult) rRep := by
  intro pins s σ H x y v u Q I rx ry h
  obtain ⟨l, k, xs, rfl, rfl, hH, h1, h2, hz, q⟩ := h
  cases rx
  obtain ⟨t, rfl⟩ := ry
  obtain ⟨z, its, n, r, hl, e⟩ := I.lstM hH
  have hlen : its.toArray.size * k.toNat ≤ sizeLine := by rw [List.size_toArray, ← hl]; exact hz
  have hcap : ¬ its.toArray.size * k.toNat > (2 ^ 63 - 1) / 8 := by
    have : (sizeLine : Nat) ≤ (2 ^ 63 - 1) / 8 := by decide
    omega
  have hfit : ¬ (!Builtin.List.listFitsIndex k) = true := by
    rw [fitsIndex_both h1 h2]
    exact Bool.false_ne_true
  have hlong : ¬ Builtin.List.listTooLong (its.toArray.size * k.toNat) = true := by
    rw [notLongL hlen]
    exact Bool.false_ne_true
  have hnew : List.foldl (fun x1 x2 => x1 ++ x2) #[] (List.replicate (if its.toArray.isEmpty = true then 0 else k.toNat) its.toArray) = (List.replicate k.toNat its).flatten.toArray := by
    have f0 : ∀ m : Nat, List.foldl (fun x1 x2 => x1 ++ x2) #[] (List.replicate m its.toArray) = (List.replicate m its).flatten.toArray := fun m => by
      have := foldl_rep its m []
      rw [List.nil_append] at this
      exact this
    rw [f0]
    cases its with
    | nil => simp
    | cons a r' => rw [if_neg (by simp)]
  refine wpAny_binaryOp_repeat_ref (T := "list") (U := "int") (by decide) ⟨_, e, rfl⟩ (fun s' => typeIs_int s' k t) noFill_list_mul F.fills_int_mul F.slot_int_rmul repeat_list F.slot_int_index.lookup
    (call_meets F.slot_int_rmul (typeIs_int s k t) F.entry_int_rmul (F.args_int_rmul_2 _ _) (int___rmul___int_list k t l its.toArray n)
      ⟨e, rfl, ⟨_, e, rfl⟩, call_meets F.slot_list_mul ⟨_, e, rfl⟩ F.entry_list_mul (F.args_list_mul_2 _ _) (AutoListH.list___mul___list_int_3 l its.toArray n k t hfit hcap hlong) ⟨e, ?_⟩⟩)
  rw [hnew]
  exact ⟨.ref _, _, I.lnew (t' := s.toks) (r.rep k.toNat) (by rw [len_rep, Nat.mul_comm]; exact hz), rfl, q _ I.fresh⟩

end

section
variable {prog : Program} {w : World} {A : Around} {E : Value → Shared → Prop} {s : Shared}
set_option maxRecDepth 100000 in
end

section
variable {X : Cx}
end
end L2

namespace Att
open PySem PySem.W PySem.Calls PyProof.Rows

theorem ints_of_wellAll {P : Params} {h : Heap} : ∀ (ns : List Int) (vs : List Value), WellAll P h vs (ns.map WData.int) → IntsAre vs ns := by
  intro ns
  induction ns with
  | nil =>
    intro vs w
    rw [List.map_nil] at w
    cases w
    exact .nil
  | cons n ns ih =>
    intro vs w
    rw [List.map_cons] at w
    cases w with
    | cons a b =>
      cases a
      exact .cons _ _ (ih _ b)

theorem script_of {l : OpenLaw} {n : Nat} (hn : l.most = some n) {P : Params} {h : Heap} {args : List WData} {vals : List Value}
    (hpre : l.row.toRowW.claim.pre args = true) (hwl : WellAll P h vals args) :
    ∃ a vs ns, vals = [Value.ref a] ∧ args = [WData.list (ns.map WData.int)] ∧ h.get? a = some { cls := .type "list", data := .seq vs.toArray } ∧ IntsAre vs ns ∧ ns.length ≤ n := by
  have hsh : WShape.hasAll [] args [.list .int] = true := (pre_splitW hpre).1
  have hc : l.pre.holds [] { args := args } = true := (pre_splitW hpre).2
  obtain ⟨d, r, rfl, h1, h2⟩ := hasAllW_cons hsh
  obtain rfl := hasAllW_nil h2
  obtain ⟨xs, rfl, h3⟩ := hasW_list h1
  obtain ⟨ns, rfl⟩ := items_int h3
  have hlen : ns.length ≤ n := by
    unfold OpenLaw.pre at hc
    have h4 : (WTm.not (.lt (.lit (.int (n : Int))) (.len (.arg 0)))).holds [] { args := [.list (ns.map .int)] } = true := by
      have h4 := (holds_andW hc).1
      rw [hn] at h4
      exact h4
    have h5 := condW_of h4 (w_not (w_lt w_lit (w_len_list (w_arg rfl))))
    rw [List.length_map] at h5
    refine Nat.le_of_not_lt fun q => ?_
    have q' : (n : Int) < ((ns.length : Nat) : Int) := by omega
    first
      | (rw [decide_eq_true q'] at h5; exact absurd h5 (by decide))
      | (simp at h5; omega)
  cases hwl with
  | cons w1 w2 =>
    cases w2
    cases w1 with
    | list ho hall => exact ⟨_, _, ns, rfl, rfl, ho, ints_of_wellAll ns _ hall, hlen⟩

theorem post_true (l : OpenLaw) (args : List WData) : l.row.toRowW.claim.post args (.bool true) args = true :=
  postW_of (r := l.row.toRowW) (X := (true == true))
    (show WShape.has [] (.bool true) .bool = true by first | rfl | decide | simp [WShape.has, WShape.arms, WShape.armsAll])
    (show (WTm.eq .res (.lit (.bool true))).value [] { args := args, res := some (.bool true), after := args } = some (.bool (true == true)) from w_eq_bool (w_res rfl) w_lit) rfl

section
variable {prog : Program} {w : World} {A : Around} {E : Value → Shared → Prop} {s : Shared} {K : Frag}

theorem call_fn {R : Result → Shared → Prop} {name qual : Str} {params : Arguments} {body : List Stmt} {scope : Scope} {dV kV doc pm cdv ct oc : Value} {an od : Option Addr} {osl : Array (Option Value)} {f : Addr} {args : Args} {binds : List (Str × Value)}
    (X : K.In s.heap) (hlim : s.heap.NoLimit) (ho : K.lookup f = some ⟨oc, od, .func (fnOf name qual params body scope dV kV doc pm an cdv ct), osl⟩) (hcd : codeIn K cdv qual = true) (hroom : A.depth < recursionLimit)
    (hbind : BindsTo s (fnOf name qual params body scope dV kV doc pm an cdv ct) args binds)
    (hkind : (binds.all fun y => scope.names.lookup y.1 == some .local || scope.names.lookup y.1 == some .cell) = true)
    (h : ∀ s₁, InCallC s s.heap.objs.size (bindL (envOfC qual scope s.heap.objs.size f cdv).kindOf binds fun _ => none) (cellsFrom (s.heap.objs.size + 1) scope.names [])
        (bindC (envOfC qual scope s.heap.objs.size f cdv).kindOf binds fun _ => none) s₁ →
      wpAny (model prog w) (A.deeper (envOfC qual scope s.heap.objs.size f cdv)) (execs body (envOfC qual scope s.heap.objs.size f cdv))
        (fun fl s' => R (.ok (.ret (match fl with | .ret v => v | _ => .none))) s')
        (fun e s' => wpAny (model prog w) (A.deeper (envOfC qual scope s.heap.objs.size f cdv)) (leaving (envOfC qual scope s.heap.objs.size f cdv) e) (fun _ s'' => R (.error e) s'') (fun e' s'' => R (.error e') s'') s') s₁)
    (hco : scope.isCoroutine = false) (hgen : scope.isGenerator = false) (hk : scope.kind = .function) : codeAny (model prog w) A (.call (.ref f) args) R s := by
  refine codeAny_call_function hroom (X _ _ ho) rfl hco hgen rfl (codeRec_of X hcd) (hbind _ _ _ _ ?_)
  refine wpAny_newFunctionEnv_cells hk (kindsX hkind _) fun env he s₁ x => ?_
  subst he
  exact ⟨hlim.keeps x.toInCall.keep, codeAny_func (h s₁ x)⟩

end
end Att

namespace L2
open PySem PySem.Spec PyProof.Rows

theorem vals_ints : ∀ {vs : List Value} {ns : List Int}, IntsAre vs ns → Vals (ns.map V.int) vs
  | _, _, .nil => .nil
  | _, _, .cons n t h => .cons ⟨t, rfl⟩ (vals_ints h)

noncomputable def Only (H : Hp) : Prop := ∀ b, H b = none ∨ ∃ o xs, H b = some (.frz o (.lst xs))

end L2

namespace L2
open PySem PySem.Spec PyProof.Rows

end L2

namespace L2
open PySem PySem.Spec PyProof.Rows

noncomputable def defArgs (s : Stmt) : Arguments := match s with
  | .FunctionDef _ a _ _ _ _ _ _ _ _ => a
  | _ => { posonlyargs := [], args := [], vararg := none, kwonlyargs := [], kw_defaults := [], kwarg := none, defaults := [] }
noncomputable def defBody (s : Stmt) : List Stmt := match s with
  | .FunctionDef _ _ b _ _ _ _ _ _ _ => b
  | _ => []
noncomputable def defScope (s : Stmt) : Scope := match s with
  | .FunctionDef _ _ _ _ _ _ sc _ _ _ => sc
  | _ => { kind := .function, names := [], isGenerator := false, isCoroutine := false }

noncomputable abbrev CX0 : CXT := fun _ _ _ _ _ _ => False
noncomputable abbrev E0 : XK := fun _ _ _ => False
theorem pass0 {X : Cx} : Passes CX0 X E0 := fun _ _ _ _ _ _ _ h => h.elim

structure Fun (K : PySem.W.Frag) (x qual : Str) (st : Stmt) (f : Addr) (fd : FuncData) : Prop where
  ex : ∃ (oc : Value) (od : Option Addr) (kV doc pm : Value) (an : Option Addr) (cdv ct : Value) (osl : Array (Option Value)),
    fd = PySem.W.fnOf x qual (defArgs st) (defBody st) (defScope st) .none kV doc pm an cdv ct ∧ K.lookup f = some ⟨oc, od, .func fd, osl⟩ ∧ PySem.W.codeIn K cdv qual = true
  kp : PySem.W.keepIn K (.ref f) = true
section
variable {P : Program} {w : World} {K : PySem.W.Frag} {mg : Str → Option Value} {base : Heap}

theorem Fun.ok {x qual : Str} {st : Stmt} {f : Addr} {fd : FuncData} {N ps : List Str} {k : Nat} {sp : Sp} (F : Fun K x qual st f fd) (S : FnScope N ps (defScope st)) (len : ∀ vs H Q E, sp vs H Q E → vs.length = ps.length)
    (hbody : ∀ (cdv : Value) (A : Around) (outer : List Env) (s : Shared) (H : Hp) (vs : List V) (Q : VK) (E : XK), Room k (A.deeper (envOfC qual (defScope st) s.heap.objs.size f cdv)) → sp vs H Q E →
      ∃ t, PSs (cxOf CX0 P w K mg base N qual (defScope st) f cdv A outer s H E).nox (defBody st) t ∧ t { nx := fun _ H' => Q .non H', rt := Q } (start N vs) H) : FnOk P w K mg base CX0 (k + 1) f fd ps sp := by
  obtain ⟨oc, od, kV, doc, pm, an, cdv, ct, osl, rfl, lk, hcd⟩ := F.ex
  refine fn_of lk hcd S len fun A outer s H vs Q E hr hsp => ?_
  obtain ⟨t, h, q⟩ := hbody cdv A outer s H vs Q E hr hsp
  exact ⟨t, h.nox, q⟩

theorem Fun.binds {x qual : Str} {st : Stmt} {f : Addr} {fd : FuncData} {ps : List Str} (F : Fun K x qual st f fd)
    (h : ∀ (kV doc pm : Value) (an : Option Addr) (cdv ct : Value) (us : List Value), us.length = ps.length → bindArgs (PySem.W.fnOf x qual (defArgs st) (defBody st) (defScope st) .none kV doc pm an cdv ct) ⟨us, []⟩ = pure (ps.zip us)) : Binds K fd ps [] := by
  obtain ⟨oc, od, kV, doc, pm, an, cdv, ct, osl, rfl, lk, hcd⟩ := F.ex
  exact .all (h kV doc pm an cdv ct)
theorem fun_mk {x qual : Str} {st : Stmt} {f : Addr} {oc : Value} {od an : Option Addr} {osl : Array (Option Value)} {kV doc pm cdv ct : Value} (l : K.lookup f = some ⟨oc, od, .func (PySem.W.fnOf x qual (defArgs st) (defBody st) (defScope st) .none kV doc pm an cdv ct), osl⟩)
    (c : PySem.W.codeIn K cdv qual = true) (k : PySem.W.keepIn K (.ref f) = true) : Fun K x qual st f (PySem.W.fnOf x qual (defArgs st) (defBody st) (defScope st) .none kV doc pm an cdv ct) := ⟨⟨oc, od, kV, doc, pm, an, cdv, ct, osl, rfl, l, c⟩, k⟩
end
theorem small1000 {n : Nat} (h : n ≤ 1000) : n < sizeLine := Nat.lt_of_le_of_lt h (by decide)

section
variable {X : Cx}
theorem pv (i : Nat) {x : Str} {pos : Pos} (hN : X.N[i]? = some x := by rfl) (hv : Vis X.env.scope x := by first | exact Or.inl rfl | exact Or.inr (Or.inl rfl) | exact Or.inr (Or.inr rfl)) (hd : (x == ("__debug__" : Str)) = false := by decide)
    (hcd : (x == ("__classdict__" : Str)) = false := by decide) : PE X (.Name x pos) (tVar i) := pe_var hN hv hd hcd
end

theorem iteF {A B : Prop} (h : B) : if false = true then A else B := by
  rw [if_neg Bool.false_ne_true]
  exact h
theorem iteT {A B : Prop} (h : A) : if true = true then A else B := by
  rw [if_pos rfl]
  exact h
theorem ite2 {c A B : Prop} [Decidable c] (h1 : c → A) (h2 : ¬ c → B) : if c then A else B := by
  by_cases h : c
  · rw [if_pos h]
    exact h1 h
  · rw [if_neg h]
    exact h2 h
theorem iteNS {c A B : Prop} [Decidable c] (hc : c) (h : B) : if (!decide c) = true then A else B := by
  rw [decide_eq_true hc]
  exact iteF h

noncomputable def Same (H H' : Hp) : Prop := ∀ b o, H b = some o → H' b = some o
theorem Same.refl (H : Hp) : Same H H := fun _ _ h => h
theorem Same.trans {H H1 H2 : Hp} (a : Same H H1) (b : Same H1 H2) : Same H H2 := fun c o h => b c o (a c o h)
theorem Same.free {H H' : Hp} (e : Same H H') {l : Addr} (h : H' l = Option.none) : H l = Option.none := by
  cases q : H l with
  | none => rfl
  | some o =>
    rw [e l o q] at h
    cases h
theorem Same.seq {K : PySem.W.Frag} {H H' : Hp} {a : Addr} {xs : List V} (e : Same H H') (h : SqL K H a xs) : SqL K H' a xs := by
  rcases h with (h | ⟨o, h⟩) | h
  · exact .inl (.inl (e _ _ h))
  · exact .inl (.inr ⟨o, e _ _ h⟩)
  · exact .inr h

end L2

namespace Zf

noncomputable def digs (n : Nat) : List Nat := (Nat.toDigits 10 n).map Char.toNat
theorem digs_digit {n c : Nat} (h : c ∈ digs n) : 48 ≤ c ∧ c ≤ 57 := by
  obtain ⟨ch, hc, rfl⟩ := List.mem_map.mp h
  have r := Nat.isDigit_of_mem_toDigits (by decide) (by decide) hc
  simp only [Char.isDigit, Bool.and_eq_true, decide_eq_true_eq] at r
  exact ⟨r.1, r.2⟩
theorem digs_len : ∀ (k n : Nat), 1 ≤ k → n < 10 ^ k → (digs n).length ≤ k
  | 0, _, h, _ => absurd h (by decide)
  | 1, n, _, h => by
    rw [digs, Nat.toDigits_of_lt_base (by omega)]; simp
  | k + 2, n, _, h => by
    by_cases hn : n < 10
    · rw [digs, Nat.toDigits_of_lt_base hn]; simp
    · have t : Nat.toDigits 10 (n / 10) ++ Nat.toDigits 10 (n % 10) = Nat.toDigits 10 (10 * (n / 10) + n % 10) := Nat.toDigits_append_toDigits (by decide) (by omega) (Nat.mod_lt n (by decide))
      rw [Nat.div_add_mod] at t
      have ih := digs_len (k + 1) (n / 10) (by omega) (by rw [Nat.pow_succ] at h; omega)
      rw [digs, List.length_map] at ih ⊢
      rw [← t, List.length_append, Nat.toDigits_of_lt_base (Nat.mod_lt n (by decide))]
      simp only [List.length_cons, List.length_nil]; omega
theorem digs_ne (n : Nat) : digs n ≠ [] := by
  unfold digs
  by_cases hn : n < 10
  · rw [Nat.toDigits_of_lt_base hn]; simp
  · have t : Nat.toDigits 10 (n / 10) ++ Nat.toDigits 10 (n % 10) = Nat.toDigits 10 (10 * (n / 10) + n % 10) := Nat.toDigits_append_toDigits (by decide) (by omega) (Nat.mod_lt n (by decide))
    rw [Nat.div_add_mod] at t
    rw [← t, Nat.toDigits_of_lt_base (Nat.mod_lt n (by decide))]; simp

noncomputable def figL (k : Nat) (n : Int) : List Nat := if 0 < k ∧ n.natAbs = 1 then [] else digs n.natAbs
noncomputable def powL (k : Nat) : List Nat := if k = 0 then [] else if k = 1 then [120] else 120 :: digs k
noncomputable def sgL (n : Int) : Nat := if n < 0 then 45 else 43
noncomputable def tmL (k : Nat) (n : Int) : List Nat := if n = 0 then [] else sgL n :: (figL k n ++ powL k)
noncomputable def fullUp (c : List Int) : Nat → List Nat
  | 0 => []
  | m + 1 => tmL m (c.getD m 0) ++ fullUp c m
noncomputable def dnL (c : List Int) (n : Nat) : Nat → List Nat
  | 0 => []
  | i + 1 => dnL c n i ++ tmL (n - 1 - i) (c.getD (n - 1 - i) 0)
theorem full_dn (c : List Int) (n : Nat) : ∀ i, i ≤ n → fullUp c n = dnL c n i ++ fullUp c (n - i)
  | 0, _ => rfl
  | i + 1, h => by
    rw [full_dn c n i (by omega), dnL, List.append_assoc, show n - i = (n - 1 - i) + 1 by omega, fullUp, show n - (i + 1) = n - 1 - i by omega]
theorem dn_full (c : List Int) (n : Nat) : dnL c n n = fullUp c n := by
  rw [full_dn c n n (Nat.le_refl _), Nat.sub_self]; simp [fullUp]
noncomputable def stripP : List Nat → List Nat
  | [] => []
  | x :: r => if x = 43 then r else x :: r
theorem fig_pow_ne (k : Nat) (n : Int) : figL k n ++ powL k ≠ [] := by
  unfold figL powL
  by_cases hk : k = 0
  · subst hk; simp [digs_ne]
  · rw [if_neg hk]; split <;> split <;> simp
theorem tm_ne {k : Nat} {n : Int} (h : n ≠ 0) : tmL k n = sgL n :: (figL k n ++ powL k) := if_neg h

noncomputable def Tms (l : List Nat) : Prop := l = [] ∨ ∃ x y r, l = x :: y :: r
theorem tm_tms (k : Nat) (n : Int) : Tms (tmL k n) := by
  by_cases h : n = 0
  · exact .inl (if_pos h)
  · rw [tm_ne h]
    cases e : figL k n ++ powL k with
    | nil => exact absurd e (fig_pow_ne k n)
    | cons y r => exact .inr ⟨_, y, r, rfl⟩
theorem Tms.app {a b : List Nat} (ha : Tms a) (hb : Tms b) : Tms (a ++ b) := by
  rcases ha with rfl | ⟨x, y, r, rfl⟩
  · exact hb
  · exact .inr ⟨x, y, r ++ b, rfl⟩
theorem dn_tms (c : List Int) (n : Nat) : ∀ i, Tms (dnL c n i)
  | 0 => .inl rfl
  | i + 1 => (dn_tms c n i).app (tm_tms _ _)
theorem strip_nil {l : List Nat} (h : Tms l) : stripP l = [] ↔ l = [] := by
  rcases h with rfl | ⟨x, y, r, rfl⟩
  · simp [stripP]
  · simp only [stripP]; split <;> simp
theorem strip_app {a : List Nat} (b : List Nat) (h : a ≠ []) : stripP (a ++ b) = stripP a ++ b := by
  cases a with
  | nil => exact absurd rfl h
  | cons x r => simp only [List.cons_append, stripP]; split <;> rfl

theorem strip_turn {l : List Nat} {k : Nat} {n : Int} (h : Tms l) (hn : n ≠ 0) :
    stripP (l ++ tmL k n) = stripP l ++ ((if n < 0 then [45] else if stripP l = [] then [] else [43]) ++ figL k n ++ powL k) := by
  rw [tm_ne hn]
  by_cases hl : l = []
  · subst hl
    show stripP (sgL n :: _) = [] ++ _
    have e : sgL n = if n < 0 then 45 else 43 := rfl
    by_cases h0 : n < 0
    · rw [e, if_pos h0, if_pos h0]; simp [stripP]
    · rw [e, if_neg h0, if_neg h0]; simp [stripP]
  · rw [strip_app _ hl]
    congr 1
    have : stripP l ≠ [] := fun z => hl ((strip_nil h).mp z)
    rw [if_neg this]
    unfold sgL
    split <;> simp
noncomputable def lineL (c : List Int) : List Nat := if fullUp c c.length = [] then [48] else stripP (fullUp c c.length)
theorem full_nil {c : List Int} (h : GoodL c) : fullUp c c.length = [] ↔ c = [] := by
  constructor
  · intro e
    by_cases hc : c = []
    · exact hc
    · have hl := List.length_pos_iff.mpr hc
      obtain ⟨m, hm⟩ : ∃ m, c.length = m + 1 := ⟨c.length - 1, by omega⟩
      rw [hm, fullUp] at e
      have := (List.append_eq_nil_iff.mp e).1
      have h0 := h hc
      rw [hm] at h0
      rw [tm_ne (show c.getD m 0 ≠ 0 from h0)] at this
      exact absurd this (by simp)
  · rintro rfl; rfl

noncomputable def tsL (c : List Int) : Nat → List (Nat × Int)
  | 0 => []
  | m + 1 => (if c.getD m 0 = 0 then [] else [(m, c.getD m 0)]) ++ tsL c m
noncomputable def pcL (p : Nat × Int) : List Nat := (if p.2 < 0 then [45] else []) ++ (figL p.1 p.2 ++ powL p.1)
noncomputable def splitL (c : Nat) : List Nat → List (List Nat)
  | [] => [[]]
  | x :: r => if x = c then [] :: splitL c r else match splitL c r with
    | [] => [[x]]
    | h :: t => (x :: h) :: t
noncomputable def ne0 (l : List Nat) : Bool := decide (l ≠ [])
noncomputable def fpL (l : List Nat) : List (List Nat) := (splitL 43 l).filter ne0
theorem split_ne (c : Nat) : ∀ l : List Nat, splitL c l ≠ []
  | [] => by simp [splitL]
  | x :: r => by
    unfold splitL
    split
    · simp
    · split <;> simp
theorem split_app (c : Nat) (r : List Nat) : ∀ a : List Nat, c ∉ a → splitL c (a ++ c :: r) = a :: splitL c r
  | [], _ => by simp [splitL]
  | x :: a, h => by
    have hx : x ≠ c := fun z => h (by simp [z])
    have ih := split_app c r a fun z => h (List.mem_cons_of_mem _ z)
    show splitL c (x :: (a ++ c :: r)) = _
    rw [splitL, if_neg hx, ih]
theorem split_free' (c : Nat) : ∀ a : List Nat, c ∉ a → splitL c a = [a]
  | [], _ => rfl
  | x :: a, h => by
    have hx : x ≠ c := fun z => h (by simp [z])
    rw [splitL, if_neg hx, split_free' c a fun z => h (List.mem_cons_of_mem _ z)]
theorem fp_plus (r : List Nat) : fpL (43 :: r) = fpL r := by
  unfold fpL
  rw [splitL, if_pos rfl, List.filter_cons_of_neg (by simp [ne0])]
theorem fp_app {a : List Nat} (r : List Nat) (h : 43 ∉ a) (h0 : a ≠ []) : fpL (a ++ 43 :: r) = a :: fpL r := by
  unfold fpL
  rw [split_app 43 r a h, List.filter_cons_of_pos (by simpa [ne0] using h0)]
theorem fp_one {a : List Nat} (h : 43 ∉ a) (h0 : a ≠ []) : fpL a = [a] := by
  unfold fpL
  rw [split_free' 43 a h, List.filter_cons_of_pos (by simpa [ne0] using h0)]; rfl
noncomputable def repL (l : List Nat) : List Nat := l.flatMap fun x => if x = 45 then [43, 45] else [x]
theorem rep_app (a b : List Nat) : repL (a ++ b) = repL a ++ repL b := List.flatMap_append
theorem rep_free : ∀ {a : List Nat}, 45 ∉ a → repL a = a
  | [], _ => rfl
  | x :: a, h => by
    have hx : x ≠ 45 := fun z => h (by simp [z])
    have ih := rep_free (a := a) fun z => h (List.mem_cons_of_mem _ z)
    unfold repL at ih ⊢
    rw [List.flatMap_cons, ih, if_neg hx]; rfl

theorem body_sign {k : Nat} {n : Int} {c : Nat} (h : c ∈ figL k n ++ powL k) : (48 ≤ c ∧ c ≤ 57) ∨ c = 120 := by
  rcases List.mem_append.mp h with h | h
  · unfold figL at h
    split at h
    · simp at h
    · exact .inl (digs_digit h)
  · unfold powL at h
    split at h
    · simp at h
    · split at h
      · exact .inr (by simpa using h)
      · rcases List.mem_cons.mp h with h | h
        · exact .inr h
        · exact .inl (digs_digit h)
theorem body_no {k : Nat} {n : Int} {c : Nat} (h1 : c < 48) : c ∉ figL k n ++ powL k := fun z => by
  rcases body_sign z with h | h <;> omega
theorem pc_no (p : Nat × Int) : 43 ∉ pcL p := fun z => by
  rcases List.mem_append.mp z with z | z
  · split at z <;> simp at z
  · exact body_no (by decide) z
theorem pc_ne (p : Nat × Int) : pcL p ≠ [] := fun z => fig_pow_ne p.1 p.2 (List.append_eq_nil_iff.mp z).2
theorem rep_tm {k : Nat} {n : Int} (h : n ≠ 0) : repL (tmL k n) = 43 :: pcL (k, n) := by
  rw [tm_ne h]
  show (if sgL n = 45 then [43, 45] else [sgL n]) ++ repL (figL k n ++ powL k) = _
  rw [rep_free (body_no (by decide))]
  unfold sgL pcL
  split <;> simp_all
theorem rep_full (c : List Int) : ∀ m, repL (fullUp c m) = (tsL c m).flatMap fun p => 43 :: pcL p
  | 0 => rfl
  | m + 1 => by
    rw [fullUp, rep_app, rep_full c m, tsL]
    by_cases h : c.getD m 0 = 0
    · rw [if_pos h, h]; rfl
    · rw [if_neg h, rep_tm h]; rfl
theorem fp_ts : ∀ ts : List (Nat × Int), fpL (ts.flatMap fun p => 43 :: pcL p) = ts.map pcL
  | [] => rfl
  | [p] => by
    rw [List.flatMap_cons, List.flatMap_nil, List.append_nil, fp_plus, fp_one (pc_no p) (pc_ne p)]; rfl
  | p :: q :: ts => by
    have ih := fp_ts (q :: ts)
    rw [List.flatMap_cons] at ih ⊢
    rw [List.flatMap_cons]
    show fpL (43 :: (pcL p ++ 43 :: (pcL q ++ _))) = _
    rw [fp_plus, fp_app _ (pc_no p) (pc_ne p), ← fp_plus, List.map_cons, ← ih]
    rfl
theorem fp_strip (l : List Nat) : fpL (repL (stripP l)) = fpL (repL l) := by
  cases l with
  | nil => rfl
  | cons x r =>
    rw [stripP]
    split
    · rename_i h; subst h
      show _ = fpL ([43] ++ repL r)
      exact (fp_plus _).symm
    · rfl

noncomputable def pcsL (c : List Int) : List (Nat × Int) := if c = [] then [(0, 0)] else tsL c c.length
theorem pieces {c : List Int} (h : GoodL c) : fpL (repL (lineL c)) = (pcsL c).map pcL := by
  unfold lineL pcsL
  by_cases hc : c = []
  · subst hc
    rw [if_pos rfl, if_pos ((full_nil h).mpr rfl)]
    decide +kernel
  · rw [if_neg hc, if_neg fun z => hc ((full_nil h).mp z), fp_strip, rep_full, fp_ts]
theorem ts_mem {c : List Int} {p : Nat × Int} : ∀ {m : Nat}, p ∈ tsL c m → p.1 < m ∧ p.2 = c.getD p.1 0 ∧ p.2 ≠ 0
  | m + 1, h => by
    rcases List.mem_append.mp h with h | h
    · split at h
      · simp at h
      · rename_i hz
        have e : p = (m, c.getD m 0) := by simpa using h
        subst e
        exact ⟨by simp, rfl, hz⟩
    · have := ts_mem h
      exact ⟨by omega, this.2⟩
theorem ts_all {c : List Int} {t : Nat} (h0 : c.getD t 0 ≠ 0) : ∀ {m : Nat}, t < m → (t, c.getD t 0) ∈ tsL c m
  | m + 1, h => by
    by_cases e : t = m
    · subst e
      rw [tsL, if_neg h0]; simp
    · exact List.mem_append_right _ (ts_all h0 (by omega))

noncomputable def setT (z : List Int) (l : List (Nat × Int)) : List Int := l.foldl (fun z p => z.set p.1 p.2) z
theorem setT_length : ∀ (l : List (Nat × Int)) (z : List Int), (setT z l).length = z.length
  | [], _ => rfl
  | p :: l, z => by
    show (setT (z.set p.1 p.2) l).length = _
    rw [setT_length l]; simp
theorem getD_set (z : List Int) (i t : Nat) (v : Int) (h : i < z.length) : (z.set i v).getD t 0 = if t = i then v else z.getD t 0 := by
  by_cases e : t = i
  · subst e; rw [if_pos rfl]; simp [List.getD_eq_getElem?_getD, h]
  · rw [if_neg e]; simp [List.getD_eq_getElem?_getD, List.getElem?_set_ne (Ne.symm e)]
theorem setT_at {c : List Int} (t : Nat) : ∀ (l : List (Nat × Int)) (z : List Int), (∀ p ∈ l, p.1 < z.length ∧ p.2 = c.getD p.1 0) →
    (z.getD t 0 = c.getD t 0 ∨ (z.getD t 0 = 0 ∧ (c.getD t 0 ≠ 0 → ∃ p ∈ l, p.1 = t))) → (setT z l).getD t 0 = c.getD t 0
  | [], z, _, h => by
    rcases h with h | ⟨h, h1⟩
    · exact h
    · show z.getD t 0 = _
      by_cases e : c.getD t 0 = 0
      · rw [h, e]
      · obtain ⟨p, hp, _⟩ := h1 e; simp at hp
  | p :: l, z, hl, h => by
    have hp := hl p (by simp)
    show (setT (z.set p.1 p.2) l).getD t 0 = _
    refine setT_at t l _ (fun q hq => ?_) ?_
    · rw [List.length_set]; exact hl q (List.mem_cons_of_mem _ hq)
    · rw [getD_set z p.1 t p.2 hp.1]
      by_cases e : t = p.1
      · rw [if_pos e]; left; rw [hp.2, e]
      · rw [if_neg e]
        rcases h with h | ⟨h, h1⟩
        · exact .inl h
        · refine .inr ⟨h, fun z => ?_⟩
          obtain ⟨q, hq, hq2⟩ := h1 z
          rcases List.mem_cons.mp hq with rfl | hq
          · exact absurd hq2.symm e
          · exact ⟨q, hq, hq2⟩
theorem rep_getD (n t : Nat) : (List.replicate n (0 : Int)).getD t 0 = 0 := by
  rw [List.getD_eq_getElem?_getD, List.getElem?_replicate]; split <;> rfl
theorem filled {c : List Int} {N : Nat} (hN : c.length ≤ N) (h1 : 0 < N) : co (setT (List.replicate N 0) (pcsL c)) = co c := by
  funext t
  refine setT_at t _ _ (fun p hp => ?_) ?_
  · rw [List.length_replicate]
    unfold pcsL at hp
    split at hp
    · rename_i hc
      have : p = (0, 0) := by simpa using hp
      subst this; subst hc
      exact ⟨h1, rfl⟩
    · have := ts_mem hp
      exact ⟨by omega, this.2.1⟩
  · refine .inr ⟨rep_getD N t, fun z => ?_⟩
    have ht : t < c.length := by
      rcases Nat.lt_or_ge t c.length with h | h
      · exact h
      · exact absurd (getD_out' h) z
    unfold pcsL
    rw [if_neg (by intro e; rw [e] at ht; exact absurd ht (by simp))]
    exact ⟨_, ts_all z ht, rfl⟩
theorem filled_trim {c : List Int} {N e : Nat} (hg : GoodL c) (hN : c.length ≤ N) (h1 : 0 < N) (h : Trim (setT (List.replicate N 0) (pcsL c)) e) : (setT (List.replicate N 0) (pcsL c)).take e = c :=
  co_inj h.good hg (h.co.trans (filled hN h1))

noncomputable def hdL (p : Nat × Int) : List Nat := (if p.2 < 0 then [45] else []) ++ figL p.1 p.2
noncomputable def tlL (k : Nat) : List Nat := if k ≤ 1 then [] else digs k
theorem pc_zero (n : Int) : pcL (0, n) = hdL (0, n) := by simp [pcL, hdL, powL]
theorem pc_pos {k : Nat} (n : Int) (h : 0 < k) : pcL (k, n) = hdL (k, n) ++ 120 :: tlL k := by
  unfold pcL hdL powL tlL
  rw [if_neg (by omega : ¬ k = 0)]
  by_cases h1 : k = 1
  · rw [if_pos h1, if_pos (show k ≤ 1 by omega)]; simp
  · rw [if_neg h1, if_neg (show ¬ k ≤ 1 by omega)]; simp
theorem hd_sign {p : Nat × Int} {c : Nat} (h : c ∈ hdL p) : c = 45 ∨ (48 ≤ c ∧ c ≤ 57) := by
  rcases List.mem_append.mp h with h | h
  · split at h
    · exact .inl (by simpa using h)
    · simp at h
  · unfold figL at h
    split at h
    · simp at h
    · exact .inr (digs_digit h)
theorem hd_no (p : Nat × Int) : 120 ∉ hdL p := fun z => by rcases hd_sign z with h | h <;> omega
end Zf

namespace Zf
open PySem

noncomputable def ofL (l : List Nat) : Str := ⟨l.toArray⟩
theorem ofL_list (l : List Nat) : (ofL l).cps.toList = l := by simp [ofL]
theorem of_toList (x : Str) : ofL x.cps.toList = x := by cases x; simp [ofL]
theorem ofL_append (a b : List Nat) : ofL a ++ ofL b = ofL (a ++ b) := Str.ext' (by rw [Str.cps_append]; simp [ofL])
theorem ofL_length (l : List Nat) : (ofL l).length = l.length := by simp [ofL, Str.length]
theorem ofL_inj {a b : List Nat} (h : ofL a = ofL b) : a = b := by rw [← ofL_list a, h, ofL_list]
noncomputable def joinL (z : List Nat) : List (List Nat) → List Nat
  | [] => []
  | [x] => x
  | x :: r => x ++ z ++ joinL z r
theorem join_ofL (z : List Nat) : ∀ ps : List (List Nat), Str.join (ofL z) (ps.map ofL) = ofL (joinL z ps)
  | [] => rfl
  | [x] => rfl
  | x :: y :: r => by
    have ih := join_ofL z (y :: r)
    show ofL x ++ ofL z ++ Str.join (ofL z) ((y :: r).map ofL) = _
    rw [ih, ofL_append, ofL_append]; rfl
theorem split_join (c : Nat) : ∀ ps : List (List Nat), ps ≠ [] → (∀ p ∈ ps, c ∉ p) → splitL c (joinL [c] ps) = ps
  | [], h, _ => absurd rfl h
  | [p], _, h => split_free' c p (h p (by simp))
  | p :: q :: r, _, h => by
    show splitL c (p ++ [c] ++ joinL [c] (q :: r)) = _
    rw [List.append_assoc]
    show splitL c (p ++ c :: joinL [c] (q :: r)) = _
    rw [split_app c _ p (h p (by simp)), split_join c (q :: r) (by simp) fun s hs => h s (List.mem_cons_of_mem _ hs)]
theorem txt_split_ne (x y : Str) : Txt.split x y ≠ [] := by
  unfold Txt.split
  split
  · simp
  · split
    · simp
    · rw [StrLaws.partsBetween_eq]
      obtain ⟨p, r, e⟩ := StrLaws.partsFrom_ne x y.length 0 (Builtin.Str.occurrences x y 0 x.length (x.length + 1))
      rw [e]; simp
theorem txt_split (l : List Nat) (c : Nat) : Txt.split (ofL l) (ofL [c]) = (splitL c l).map ofL := by
  have h1 := StrLaws.join_split (ofL l) (ofL [c])
  have h2 := StrLaws.split_free (ofL l) c
  have h3 := txt_split_ne (ofL l) (ofL [c])
  have e : Txt.split (ofL l) (ofL [c]) = ((Txt.split (ofL l) (ofL [c])).map fun p => p.cps.toList).map ofL := by
    rw [List.map_map]
    conv => lhs; rw [← List.map_id (Txt.split (ofL l) (ofL [c]))]
    exact List.map_congr_left fun p _ => (of_toList p).symm
  have hf : ∀ p ∈ (Txt.split (ofL l) (ofL [c])).map (fun p => p.cps.toList), c ∉ p := fun p hp => by
    obtain ⟨q, hq, rfl⟩ := List.mem_map.mp hp
    exact h2 q hq
  have hn : (Txt.split (ofL l) (ofL [c])).map (fun p => p.cps.toList) ≠ [] := fun z => h3 (List.map_eq_nil_iff.mp z)
  generalize (Txt.split (ofL l) (ofL [c])).map (fun p => p.cps.toList) = ps at e hf hn
  rw [e] at h1 ⊢
  rw [join_ofL] at h1
  have := ofL_inj h1
  rw [← this, split_join c ps hn hf]
theorem join_split' (z : List Nat) (c : Nat) : ∀ l : List Nat, joinL z (splitL c l) = l.flatMap fun x => if x = c then z else [x]
  | [] => rfl
  | x :: r => by
    have ih := join_split' z c r
    have hn := split_ne c r
    rw [List.flatMap_cons, ← ih, splitL]
    by_cases h : x = c
    · rw [if_pos h, if_pos h]
      cases e : splitL c r with
      | nil => exact absurd e hn
      | cons a b => rfl
    · rw [if_neg h, if_neg h]
      cases e : splitL c r with
      | nil => exact absurd e hn
      | cons a b =>
        cases b with
        | nil => rfl
        | cons b d => rfl
theorem txt_rep (l : List Nat) : Txt.replace (ofL l) (ofL [45]) (ofL [43, 45]) = ofL (repL l) := by
  have := StrLaws.replace_one (ofL l) (ofL [43, 45]) 45
  refine this.trans ?_
  show Str.join (ofL [43, 45]) (Txt.split (ofL l) (ofL [45])) = _
  rw [txt_split, join_ofL, join_split']; rfl
theorem at_one (l : List Nat) (c i : Nat) : StrLaws.At (ofL l) (ofL [c]) (ofL l).length i ↔ l[i]? = some c := by
  have := StrLaws.subAt_one (ofL l) c i
  rw [ofL_list] at this
  exact this
theorem has_one (l : List Nat) (c : Nat) : (!(Builtin.Str.occurrences (ofL l) (ofL [c]) 0 (ofL l).length 1).isEmpty) = decide (c ∈ l) := by
  have := StrLaws.found_one (ofL l) c
  rw [ofL_list] at this
  exact this
theorem txt_part_no {l : List Nat} {c : Nat} (h : c ∉ l) : Txt.partition (ofL l) (ofL [c]) = (ofL l, ofL [], ofL []) := by
  unfold Txt.partition
  rcases StrLaws.occ_head (ofL l) (ofL [c]) 1 (Nat.le_refl _) with ⟨e, _⟩ | ⟨i, r, e, ha, _⟩
  · rw [e]; rfl
  · exact absurd (List.mem_of_getElem? ((at_one l c i).mp ha)) h
theorem txt_part {h t : List Nat} {c : Nat} (hh : c ∉ h) : Txt.partition (ofL (h ++ c :: t)) (ofL [c]) = (ofL h, ofL [c], ofL t) := by
  unfold Txt.partition
  have hat : (h ++ c :: t)[h.length]? = some c := by simp
  rcases StrLaws.occ_head (ofL (h ++ c :: t)) (ofL [c]) 1 (Nat.le_refl _) with ⟨e, hn⟩ | ⟨i, r, e, ha, hk⟩
  · exact absurd ((at_one _ c h.length).mpr hat) (hn _)
  · have hi : i = h.length := by
      have h1 := (at_one _ c i).mp ha
      rcases Nat.lt_trichotomy i h.length with z | z | z
      · rw [List.getElem?_append_left z] at h1
        exact absurd (List.mem_of_getElem? h1) hh
      · exact z
      · exact absurd ((at_one _ c h.length).mpr hat) (hk _ z)
    rw [e]
    subst hi
    show (Builtin.Str.strSub _ 0 h.length, ofL [c], Builtin.Str.strSub _ (h.length + (ofL [c]).length) _) = _
    have s1 : Builtin.Str.strSub (ofL (h ++ c :: t)) 0 h.length = ofL h := by
      rw [← of_toList (Builtin.Str.strSub _ _ _), StrLaws.strSub_toList, ofL_list]; simp
    have s2 : Builtin.Str.strSub (ofL (h ++ c :: t)) (h.length + (ofL [c]).length) (ofL (h ++ c :: t)).length = ofL t := by
      rw [← of_toList (Builtin.Str.strSub _ _ _), StrLaws.strSub_toList, ofL_list, ofL_length, ofL_length]
      congr 1
      have : (h ++ c :: t).drop (h.length + [c].length) = t := by
        rw [show h ++ c :: t = (h ++ [c]) ++ t by simp, show h.length + [c].length = (h ++ [c]).length by simp, List.drop_left]
      rw [this]
      exact List.take_of_length_le (by simp; omega)
    rw [s1, s2]
theorem txt_tail (x : Nat) (r : List Nat) : Txt.slice (ofL (x :: r)) (some 1) none = ofL r := by
  have h : (0 : Int) ≤ 1 ∧ (1 : Int) ≤ (ofL (x :: r)).cps.toList.length := by rw [ofL_list]; simp; omega
  have := StrLaws.sliceText_from h
  refine Eq.trans ?_ (this.trans ?_)
  · rfl
  · rw [ofL_list]
    have : ((x :: r).drop (1 : Int).toNat).take (((x :: r).length : Int) - 1).toNat = r := by
      show r.take _ = r
      exact List.take_of_length_le (by simp only [List.length_cons]; omega)
    rw [this]; rfl
end Zf

namespace L2
open PySem PySem.Spec PyProof.Rows
noncomputable def PSsL (X : Cx) (st : List Stmt) (t : TS) : Prop :=
  ∀ (pins : List (Addr × Obj)) (s : Shared) (σ : St) (H : Hp) (D : Ends), Inv X pins σ H { s with toks := s.toks + 1 } → t D σ H → wpAny (model X.prog X.w) X.A (execs st X.env) (SP X pins D) X.xe s
structure FnOkL (P : Program) (w : World) (K : PySem.W.Frag) (mg : Str → Option Value) (base : Heap) (CX : CXT) (k : Nat) (f : Addr) (fd : FuncData) (ps : List Str) (sp : Sp) : Prop where
  len : ∀ vs H Q E, sp vs H Q E → vs.length = ps.length
  run : ∀ (A : Around) (outer : List Env) (s : Shared) (H : Hp) (args : Args) (us : List Value) (vs : List V) (Q : VK) (E : XK), Room k A → Env0 P w K mg base A outer { s with toks := s.toks + 1 } H → BindsTo s fd args (ps.zip us) → Vals vs us → sp vs H Q E →
    codeAny (model P w) A (.call (.ref f) args) (CR CX outer P w H s Q E) s
section
variable {P : Program} {w : World} {K : PySem.W.Frag} {mg : Str → Option Value} {base : Heap}
end
end L2


namespace Zf
open PySem
theorem Bd.bits {n : Nat} {x : Int} (h : Bd n x) : Builtin.Int.intBits x ≤ n := by
  unfold Builtin.Int.intBits
  split
  · exact Nat.zero_le _
  · rename_i hx
    have hp : x.natAbs ≠ 0 := by
      intro e
      apply hx
      have : x = 0 := by omega
      rw [this]
      rfl
    have : x.natAbs.log2 < n := (Nat.log2_lt hp).mpr h
    omega
theorem Bd.mulOk {m n : Nat} {x y : Int} (h : Bd m x) (k : Bd n y) (hm : m ≤ 1048576 := by omega) (hn : n ≤ 1048576 := by omega) : IntMulOk x y :=
  IntMulOk.of_bits (Nat.le_trans h.bits hm) (Nat.le_trans k.bits hn)
theorem Bd.log {n : Nat} {x : Int} (h : Bd n x) (h0 : x ≠ 0) (hn : n ≤ 9000 := by omega) : x.natAbs.log2 < 9000 :=
  Nat.lt_of_lt_of_le ((Nat.log2_lt (by omega)).mpr h) hn
end Zf
namespace L2
open PySem PySem.Spec PyProof.Rows
section
variable {X : Cx}
theorem op_mulK : OpR X (binaryOp .Mult) (rI IntMulOk fun i j => .int (i * j)) := opI fun _ _ _ _ _ _ _ hc q => mul_int q hc
noncomputable def CDivK (_ j : Int) : Prop := 0 < j ∧ j.natAbs.log2 < 9000
theorem op_fdivK : OpR X (binaryOp .FloorDiv) (rI CDivK fun i j => .int (i / j)) := opI fun i j _ _ _ _ _ hc q => by
  have h1 : (0 : Int) < j := hc.1
  exact floordiv_int (by omega) (by rw [Int.fdiv_eq_ediv_of_nonneg i (by omega)]; exact q) (.inl (PyProof.noPylong_of_log2 hc.2))

theorem intsAre_get : ∀ {us : List Value} {ns : List Int}, IntsAre us ns → ∀ (j : Nat) (h1 : j < us.length) (h2 : j < ns.length), ∃ t, us[j] = Value.int ns[j] t
  | _, _, .nil, _, h1, _ => absurd h1 (Nat.not_lt_zero _)
  | _, _, .cons n t _, 0, _, _ => ⟨t, rfl⟩
  | _, _, .cons n t r, j + 1, h1, h2 => intsAre_get r j (Nat.lt_of_succ_lt_succ h1) (Nat.lt_of_succ_lt_succ h2)
theorem all_eq : ∀ {ns ms : List Int}, ns.length = ms.length → ((List.range ns.length).all fun j => ns.getD j 0 == ms.getD j 0) = decide (ns = ms) := by
  intro ns ms hl
  rw [Bool.eq_iff_iff, List.all_eq_true, decide_eq_true_iff]
  constructor
  · intro h
    refine List.ext_getElem hl fun i h1 h2 => ?_
    have := h i (List.mem_range.mpr h1)
    rw [beq_iff_eq] at this
    simpa [List.getD_eq_getElem?_getD, h1, h2] using this
  · rintro rfl i _
    exact beq_self_eq_true _
noncomputable def rEqL (K : PySem.W.Frag) (g : Bool → Bool) : R2 := fun x y H Q => ∃ (a b : Addr) (ns ms : List Int), x = .ref a ∧ y = .ref b ∧ SqL K H a (ns.map V.int) ∧ SqL K H b (ms.map V.int) ∧ Q (.bl (g (decide (ns = ms)))) H
theorem op_eqL (hu : X.A.units < cLine) : OpR X (compareOp .Eq) (rEqL X.K id) := by
  intro pins s σ H x y v u Q I rx ry h
  obtain ⟨a, b, ns, ms, rfl, rfl, ha, hb, q⟩ := h
  cases rx
  cases ry
  obtain ⟨its, r1, p1, z1⟩ := I.list ha
  obtain ⟨jts, r2, p2, z2⟩ := I.list hb
  have i1 := intsAre_of r1
  have i2 := intsAre_of r2
  have l1 := r1.length
  have l2 := r2.length
  rw [List.length_map] at l1 l2
  by_cases hl : ns.length = ms.length
  · refine SeqAt.eq_listAt (e := fun j => ns.getD j 0 == ms.getD j 0) p1.isList p2.isList (by simp only [List.size_toArray]; omega) hu (fun j h1 h2 => ?_) ⟨.bl _, H, I, rfl, ?_⟩
    · simp only [List.size_toArray] at h1 h2
      obtain ⟨t1, e1⟩ := intsAre_get i1 j h1 (by omega)
      obtain ⟨t2, e2⟩ := intsAre_get i2 j h2 (by omega)
      simp only [List.getElem_toArray]
      rw [e1, e2]
      have g1 : ns.getD j 0 = ns[j]'(by omega) := by simp [List.getD_eq_getElem?_getD, show j < ns.length by omega]
      have g2 : ms.getD j 0 = ms[j]'(by omega) := by simp [List.getD_eq_getElem?_getD, show j < ms.length by omega]
      show SeqAt.EqAt _ _ _ _ (ns.getD j 0 == ms.getD j 0)
      rw [g1, g2]
      exact SeqAt.EqAt.int_int _ _ _ _
    · have e : ((List.range its.toArray.size).all fun j => ns.getD j 0 == ms.getD j 0) = decide (ns = ms) := by
        rw [List.size_toArray, ← l1]; exact all_eq hl
      rw [e]
      exact q
  · refine SeqAt.eq_list_lengthsAt p1.isList p2.isList (by simp only [List.size_toArray, bne_iff_ne]; omega) hu ⟨.bl _, H, I, rfl, ?_⟩
    have e : decide (ns = ms) = false := decide_eq_false fun z => hl (by rw [z])
    rw [e] at q
    exact q
theorem op_neL (hu : X.A.units < cLine) : OpR X (compareOp .NotEq) (rEqL X.K not) := by
  intro pins s σ H x y v u Q I rx ry h
  obtain ⟨a, b, ns, ms, rfl, rfl, ha, hb, q⟩ := h
  cases rx
  cases ry
  obtain ⟨its, r1, p1, z1⟩ := I.list ha
  obtain ⟨jts, r2, p2, z2⟩ := I.list hb
  have i1 := intsAre_of r1
  have i2 := intsAre_of r2
  have l1 := r1.length
  have l2 := r2.length
  rw [List.length_map] at l1 l2
  show wpAny _ _ (richCompare .NotEq _ _) _ _ _
  by_cases hl : ns.length = ms.length
  · refine SeqAt.RcNeAt.lists (e := fun j => ns.getD j 0 == ms.getD j 0) p1.isList p2.isList (by simp only [List.size_toArray]; omega) hu (fun j h1 h2 => ?_) _ _ _ _ ⟨.bl _, H, I, rfl, ?_⟩
    · simp only [List.size_toArray] at h1 h2
      obtain ⟨t1, e1⟩ := intsAre_get i1 j h1 (by omega)
      obtain ⟨t2, e2⟩ := intsAre_get i2 j h2 (by omega)
      simp only [List.getElem_toArray]
      rw [e1, e2]
      have g1 : ns.getD j 0 = ns[j]'(by omega) := by simp [List.getD_eq_getElem?_getD, show j < ns.length by omega]
      have g2 : ms.getD j 0 = ms[j]'(by omega) := by simp [List.getD_eq_getElem?_getD, show j < ms.length by omega]
      show SeqAt.EqAt _ _ _ _ (ns.getD j 0 == ms.getD j 0)
      rw [g1, g2]
      exact SeqAt.EqAt.int_int _ _ _ _
    · have e : ((List.range its.toArray.size).all fun j => ns.getD j 0 == ms.getD j 0) = decide (ns = ms) := by
        rw [List.size_toArray, ← l1]; exact all_eq hl
      rw [e]
      exact q
  · refine SeqAt.RcNeAt.lists_lengths p1.isList p2.isList (by simp only [List.size_toArray, bne_iff_ne]; omega) hu _ _ _ _ ⟨.bl _, H, I, rfl, ?_⟩
    have e : decide (ns = ms) = false := decide_eq_false fun z => hl (by rw [z])
    rw [e] at q
    exact q

noncomputable def rIsi (K : PySem.W.Frag) : List V → Hp → VK → Prop := fun xs H Q =>
  (∃ i, xs = [.int i, .ty "int"] ∧ Q (.bl true) H) ∨ (∃ i, xs = [.int i, .ty "bool"] ∧ Q (.bl false) H) ∨ (∃ p ys, xs = [.ref p, .ty "list"] ∧ SqL K H p ys ∧ Q (.bl true) H) ∨
  (∃ p ys, xs = [.ref p, .ty "tuple"] ∧ SqT K H p ys ∧ Q (.bl true) H) ∨ (∃ z, xs = [.str z, .ty "str"] ∧ Q (.bl true) H)
theorem call_isi : CallR X (.builtin "isinstance") (rIsi X.K) := by
  intro pins s σ H xs us Q I r h
  rcases h with ⟨i, rfl, q⟩ | ⟨i, rfl, q⟩ | ⟨p, ys, rfl, hq, q⟩ | ⟨p, ys, rfl, hq, q⟩ | ⟨z, rfl, q⟩
  · obtain ⟨u, w', rfl, ⟨t, rfl⟩, r2⟩ := vals2 r
    cases r2
    exact IsiPair.int_int ⟨.bl true, H, I, rfl, q⟩
  · obtain ⟨u, w', rfl, ⟨t, rfl⟩, r2⟩ := vals2 r
    cases r2
    exact IsiPair.int_bool ⟨.bl false, H, I.tok _, rfl, q⟩
  · obtain ⟨u, w', rfl, r1, r2⟩ := vals2 r
    cases r1
    cases r2
    obtain ⟨its, r', pl, hz⟩ := I.list hq
    obtain ⟨o, ho, hc, n, hd⟩ := pl.isList
    exact IsiPair.list_list ho hc ⟨.bl true, H, I, rfl, q⟩
  · obtain ⟨u, w', rfl, r1, r2⟩ := vals2 r
    cases r1
    cases r2
    obtain ⟨its, r', pl, hz⟩ := I.tuple hq
    obtain ⟨o, ho, hc, n, hd⟩ := pl
    exact IsiPair.tuple_tuple ho hc ⟨.bl true, H, I, rfl, q⟩
  · obtain ⟨u, w', rfl, ⟨t, rfl⟩, r2⟩ := vals2 r
    cases r2
    exact IsiPair.str_str ⟨.bl true, H, I, rfl, q⟩

noncomputable def Itd (hi : Int) (n : Nat) : It := ⟨fun i _ => i < n, fun i H x H' => H' = H ∧ x = .int (hi - i), fun i _ => n ≤ i⟩
theorem turn_down {P : Program} {w : World} {K : PySem.W.Frag} {tg : Expr} (it : Addr) (hi : Int) (n : Nat) : Turn P w K tg (Itd hi n) [it] it (fun i h => IsRangeIter h it (hi + (i : Nat) * (-1)) ((n : Int) - (i : Nat)) (-1)) where
  mem := by simp
  obj := fun i h st b hb => by
    have e : b = it := by simpa using hb
    subst e
    exact ⟨_, st, fun v z => by
      have z' : Data.fields _ = Data.cell v := z
      cases z'⟩
  keep := fun i h h' st k => k it (by simp) _ st
  item := by
    intro X hP hw hK hc i pins s σ H E I hf st hg
    subst hP hw hK
    obtain ⟨f0, f1, f2, f3, f4, f5⟩ := hf it (by simp)
    have W := Walks.range (prog := X.prog) (w := X.w) (I.ok.hd hc) it hi (-1) n
    refine wpT I.tk (W.item i s _ _ hg st fun v h' tk hv st' kk ht => ?_)
    obtain ⟨t, rfl⟩ := hv
    have I1 : Inv X pins σ H { s with heap := h', toks := tk } := I.turned (fun b o hb e => kk b o (by simpa using hb) e) f0 f1 f3 f4 f5 ht
    refine ⟨_, rfl, go_of (s := { s with heap := h', toks := tk }) (n := "range_iterator") st' rfl rfl (by decide) ⟨.int (hi - i), H, I1, ⟨t, ?_⟩, ⟨rfl, rfl⟩, st', fun b hb => (hf b hb).1⟩⟩
    rw [show hi + (i : Int) * -1 = hi - i by omega]
  done := by
    intro X hP hw hK hc i pins s σ H E I hf st hg
    subst hP hw hK
    obtain ⟨f0, f1, f2, f3, f4, f5⟩ := hf it (by simp)
    exact wpAny_pyNext_range_end (I.ok.hd hc) st (by have : n ≤ i := hg; omega) fun h' eb => ⟨rfl, I.turned (t' := s.toks) (fun b o hb e => eb b o hb e) f0 f1 f3 f4 f5⟩
  self := fun _ _ _ _ _ st h => wpAny_pyIter_rangeiter st h
theorem rangeSize_down (a b : Int) : Builtin.Range.rangeSize a b (-1) = if b < a then a - b else 0 := by
  unfold Builtin.Range.rangeSize
  rw [if_neg (by decide)]
  simp only [Int.neg_neg, Int.ediv_one, gt_iff_lt]
  split <;> omega
theorem small_down {a b : Int} (ha : -(2 ^ 62) ≤ a) (ha' : a < 2 ^ 62) (hb : -(2 ^ 62) ≤ b) (hb' : b < 2 ^ 62) : Builtin.Range.small a b (-1) = true := by
  unfold Builtin.Range.small
  rw [rangeSize_down]
  simp only [Builtin.Range.rangeFitsLong, Bool.and_eq_true, Bool.or_eq_true, decide_eq_true_eq, beq_iff_eq, show ¬ ((-1 : Int) > 0) by decide, if_false]
  split <;> omega
variable {tg : Expr}
theorem down_it {pins : List (Addr × Obj)} {σ : St} {H : Hp} {s : Shared} {R : It → Hp → Prop} {E : Value → Shared → Prop} {lo hi : Int} {t u v : Tok} {tk : Nat} (I : Inv X pins σ H s) (ht : 0 < tk) (h1 : -(2 ^ 62) ≤ lo) (h2 : lo < 2 ^ 62) (h3 : -(2 ^ 62) ≤ hi) (h4 : hi < 2 ^ 62)
    (q : R (Itd hi (hi - lo).toNat) H) : wpAny (model X.prog X.w) X.A (pyIter (.ref s.heap.objs.size)) (PIE X pins σ tg R) E { s with heap := s.heap.push { cls := .type "range", data := .fields #[.int hi t, .int lo u, .int (-1) v] }, toks := tk } := by
  refine wpAny_pyIter_range (IsRange.new ..) (small_down h3 h4 h1 h2) ?_
  have I1 : Inv X pins σ H { s with heap := s.heap.push { cls := .type "range", data := .fields #[.int hi t, .int lo u, .int (-1) v] }, toks := tk } := I.kept (fun b o e => Heap.get?_push_of_some _ e) ht
  refine ⟨(s.heap.push { cls := .type "range", data := .fields #[.int hi t, .int lo u, .int (-1) v] }).objs.size, [(s.heap.push { cls := .type "range", data := .fields #[.int hi t, .int lo u, .int (-1) v] }).objs.size], _, _, H, rfl,
    I1.kept (t' := tk) (fun b o e => Heap.get?_push_of_some _ e) ht, turn_down _ hi (hi - lo).toNat, ?_, fun b hb => ?_, q⟩
  · have e1 : hi + ((0 : Nat) : Int) * (-1) = hi := by simp
    have e2 : (((hi - lo).toNat : Nat) : Int) - ((0 : Nat) : Int) = Builtin.Range.rangeSize hi lo (-1) := by rw [rangeSize_down]; split <;> omega
    show IsRangeIter _ _ (hi + ((0 : Nat) : Int) * (-1)) ((((hi - lo).toNat : Nat) : Int) - ((0 : Nat) : Int)) (-1)
    rw [e1, e2]
    exact Heap.get?_push_size _ rfl
  · have e : b = (s.heap.push { cls := .type "range", data := .fields #[.int hi t, .int lo u, .int (-1) v] }).objs.size := by simpa using hb
    subst e
    exact I1.fpOk (Nat.le_refl _) (I1.hok.fresh (Nat.le_refl _))

noncomputable def iRng3 (ta : TA) : TI := fun σ H R => ta σ H fun vs H1 => ∃ i j : Int, vs = [.int i, .int j, .int (-1)] ∧ (-(2 ^ 62) ≤ i ∧ i < 2 ^ 62 ∧ -(2 ^ 62) ≤ j ∧ j < 2 ^ 62) ∧ R (Itd i (i - j).toNat) H1
theorem pi_range3 {a b c : Expr} {ta : TA} {p pos : Pos} (hg : Gl X "range") (hm : X.mg "range" = none) (ha : PA X [a, b, c] ta) (hs : starEach [a, b, c] X.env = [(false, eval a X.env), (false, eval b X.env), (false, eval c X.env)] := by rfl)
    (hs2 : starEach [b, c] X.env = [(false, eval b X.env), (false, eval c X.env)] := by rfl) : PI X tg (.Call (.Name "range" p) [a, b, c] [] pos) (iRng3 ta) := by
  intro pins s σ H R I h
  refine Call_ (ld_blt I hg hm boot_range (PyProof.Rows.callWith_type1 (thn (ha pos pins s σ H _ I h) fun us s1 ⟨vs, H1, I1, r1, q1⟩ => ?_) (by rw [hs, hs2]) (by rw [hs2]; rfl)))
  obtain ⟨i, j, e, ⟨q1, q2, q3, q4⟩, q⟩ := q1
  subst e
  cases r1 with
  | cons r rr =>
    cases rr with
    | cons r' rr =>
      cases rr with
      | cons r'' rr =>
        cases rr
        obtain ⟨t, rfl⟩ := r
        obtain ⟨t', rfl⟩ := r'
        obtain ⟨t'', rfl⟩ := r''
        exact call_range_3 (by decide) (down_it I1 (by first | exact I1.tk | exact Nat.succ_pos _ | (have := I1.tk; omega)) q3 q4 q1 q2 q) (.inl (PyProof.noPylong_small (by decide)))
theorem for_down {hi : Int} {n : Nat} {g : TG} {tb : TS} {D : Ends} {σ : St} {H : Hp} (Pv : Nat → St → Hp → Prop) (h0 : Pv 0 σ H)
    (hs : ∀ i σ H, i < n → Pv i σ H → g (.int (hi - i)) σ H fun σ2 H2 => tb { D with nx := Pv (i + 1), ct := Pv (i + 1), bk := D.nx } σ2 H2) (hd : ∀ σ H, Pv n σ H → D.nx σ H) :
    ∃ W : Nat → Nat → St → Hp → Prop, (∃ m, W 0 m σ H) ∧ ∀ i m σ H, W i m σ H →
      ((Itd hi n).stop i H ∧ D.nx σ H) ∨ ((Itd hi n).go i H ∧ ∃ N : St → Hp → Prop, (∀ σ' H', N σ' H' → ∃ m', m' < m ∧ W (i + 1) m' σ' H') ∧ ∀ x H', (Itd hi n).yld i H x H' → g x σ H' fun σ2 H2 => tb { D with nx := N, ct := N, bk := D.nx } σ2 H2) := by
  refine ⟨fun i m σ H => m = n - i ∧ i ≤ n ∧ Pv i σ H, ⟨n, by simp, Nat.zero_le _, h0⟩, ?_⟩
  rintro i m σ H ⟨rfl, hi, p⟩
  by_cases hlt : i < n
  · refine .inr ⟨hlt, Pv (i + 1), fun σ' H' p' => ⟨n - (i + 1), by omega, rfl, hlt, p'⟩, fun x H' y => ?_⟩
    obtain ⟨e, y⟩ := y
    subst e y
    exact hs i σ _ hlt p
  · have e : i = n := by omega
    subst e
    exact .inl ⟨Nat.le_refl _, hd σ H p⟩
end

noncomputable def FnAt (P : Program) (w : World) (K : PySem.W.Frag) (mg : Str → Option Value) (base : Heap) (k : Nat) (x : Str) (ps : List Str) (sp : Sp) : Prop :=
  ∃ (f : Addr) (fd : FuncData), FnOk P w K mg base CX0 k f fd ps sp ∧ Binds K fd ps [] ∧ PySem.W.keepIn K (.ref f) = true ∧ mg x = some (.ref f)
theorem pe_callF {X : Cx} {j k : Nat} {x : Str} {ps : List Str} {sp : Sp} {e : Expr} {es : List Expr} {p pos : Pos} {t : TA} (F : FnAt X.prog X.w X.K X.mg X.base j x ps sp) (hr : Room k X.A) (hg : Gl X x) (ha : PA X (e :: es) t) (hj : j ≤ k := by decide)
    (hdb : (x == ("__debug__" : Str)) = false := by decide) (he : starEach (e :: es) X.env = (false, eval e X.env) :: starEach es X.env := by rfl) (hpl : (backTo pos (starEach es X.env)).any (·.1) = false := by rfl) :
    PE X (.Call (.Name x p) (e :: es) [] pos) (tCall sp [] E0 t) := by
  obtain ⟨f, fd, G, b, kp, m⟩ := F
  exact pe_call G (hr.mono hj) hg m kp b .nil pass0 ha hdb he hpl

structure Bl (mg : Str → Option Value) : Prop where
  len_ : mg "len" = none
  abs_ : mg "abs" = none
  range_ : mg "range" = none
  list_ : mg "list" = none
  int_ : mg "int" = none
  bool_ : mg "bool" = none
  isinstance_ : mg "isinstance" = none
  sorted_ : mg "sorted" = none
  min_ : mg "min" = none
  enumerate_ : mg "enumerate" = none
theorem same_new {H : Hp} {p : Addr} (h : H p = none) (o : HO) : Same H (upd H p o) := fun b u q => by rw [upd_ne (ne_of_none q h)]; exact q
theorem Same.tup {K : PySem.W.Frag} {H H' : Hp} {a : Addr} {xs : List V} (e : Same H H') (h : SqT K H a xs) : SqT K H' a xs := by
  rcases h with h | h
  · rcases h with h | ⟨o, h⟩
    · exact .inl (.inl (e _ _ h))
    · exact .inl (.inr ⟨o, e _ _ h⟩)
  · exact .inr h

noncomputable abbrev IL (ns : List Int) : HO := .lst (ns.map V.int)
theorem atI_ints {ns : List Int} {k : Int} (h0 : 0 ≤ k) (h : k < (ns.length : Int)) : atI (ns.map V.int) k = some (.int (ns.getD k.toNat 0)) := by
  have hk : k.toNat < ns.length := by omega
  have ek : k = ((k.toNat : Nat) : Int) := by omega
  rw [ek]
  refine atI_nat ?_
  rw [List.getElem?_map, List.getD_eq_getElem?_getD, show ((k.toNat : Nat) : Int).toNat = k.toNat by omega, List.getElem?_eq_getElem hk]
  all_goals rfl
theorem atI_last_ints {ns : List Int} (h : ns ≠ []) : atI (ns.map V.int) (-1) = some (.int (ns.getD (ns.length - 1) 0)) := by
  have e : ns = ns.dropLast ++ [ns.getLast h] := (List.dropLast_concat_getLast h).symm
  have g : ns.getD (ns.length - 1) 0 = ns.getLast h := by
    rw [List.getLast_eq_getElem, List.getD_eq_getElem?_getD, List.getElem?_eq_getElem (by have := List.length_pos_iff.mpr h; omega)]
    rfl
  rw [g]
  conv => lhs; rw [e]
  rw [List.map_append]
  exact atI_last _ _
end L2
namespace L2
open PySem
theorem bt_len : bootBuiltins "len" = some (.builtin "len") := by decide +kernel
theorem bt_abs : bootBuiltins "abs" = some (.builtin "abs") := by decide +kernel
theorem bt_isinstance : bootBuiltins "isinstance" = some (.builtin "isinstance") := by decide +kernel
theorem bt_min : bootBuiltins "min" = some (.builtin "min") := by decide +kernel
theorem bt_int : bootBuiltins "int" = some (.type "int") := by decide +kernel
theorem bt_bool : bootBuiltins "bool" = some (.type "bool") := by decide +kernel
theorem bt_list : bootBuiltins "list" = some (.type "list") := by decide +kernel
end L2


namespace L2
open PySem PySem.Spec PyProof.Rows

noncomputable def cxComp (X : Cx) (N : List Str) (scope : Scope) (cl : List (Str × Addr)) (C : Addr) (s₀ : Shared) (H₀ : Hp) (ex : List Addr) : Cx :=
  { X with N := N, env := compEnvC scope cl C X.env, outer := X.stack, s₀ := s₀, H₀ := H₀, ex := ex, fn := fun _ => false, pn := [], xe := fun _ _ => False }

structure CompOk (X : Cx) (scope : Scope) (cl : List (Str × Addr)) (x : Str) (N : List Str) (fr : List Nat) : Prop where
  clos : closureFor scope X.env = pure cl
  cell : ∀ y ∈ scope.names, y.2 ≠ .cell
  kind : scope.kind = .function
  names : ∀ y ∈ scope.names, y.2 = .local → scope.names.lookup y.1 = some .local
  var : scope.names.lookup x = some .local
  nd : (x :: N).Nodup
  ins : ∀ p ∈ cl, X.env.cells.lookup p.1 = some p.2
  has : ∀ y, ((relabel scope X.env).names.lookup y = some .cell ∨ (relabel scope X.env).names.lookup y = some .free) → ∃ c, cl.lookup y = some c
  len : fr.length = N.length
  frs : ∀ (j : Nat) (y : Str), N[j]? = some y → ∃ i, fr[j]? = some i ∧ X.N[i]? = some y ∧ X.env.scope.names.lookup y = some .cell ∧ (relabel scope X.env).names.lookup y = some .cell
  calm : X.calm = true
  xe : X.xe = fun _ _ => False

noncomputable def FrOk (X : Cx) (sc : Scope) : List Str → List Nat → Prop
  | [], [] => True
  | y :: N, i :: fr => (X.N[i]? = some y ∧ X.env.scope.names.lookup y = some .cell ∧ sc.names.lookup y = some .cell) ∧ FrOk X sc N fr
  | _, _ => False
theorem FrOk.len {X : Cx} {sc : Scope} : ∀ {N : List Str} {fr : List Nat}, FrOk X sc N fr → fr.length = N.length
  | [], [], _ => rfl
  | _ :: _, _ :: _, h => by rw [List.length_cons, List.length_cons, FrOk.len h.2]
  | [], _ :: _, h => h.elim
  | _ :: _, [], h => h.elim
theorem FrOk.get {X : Cx} {sc : Scope} : ∀ {N : List Str} {fr : List Nat}, FrOk X sc N fr → ∀ (j : Nat) (y : Str), N[j]? = some y → ∃ i, fr[j]? = some i ∧ X.N[i]? = some y ∧ X.env.scope.names.lookup y = some .cell ∧ sc.names.lookup y = some .cell
  | [], [], _, j, y, e => by cases j <;> cases e
  | _ :: _, i :: _, h, 0, y, e => by cases e; exact ⟨i, rfl, h.1⟩
  | _ :: N, _ :: fr, h, j + 1, y, e => FrOk.get (N := N) (fr := fr) h.2 j y e
  | [], _ :: _, h, _, _, _ => h.elim
  | _ :: _, [], h, _, _, _ => h.elim
theorem all0 {α : Type} {P : α → Prop} : ∀ p ∈ ([] : List α), P p := fun _ h => nomatch h
theorem allC {α : Type} {P : α → Prop} {a : α} {l : List α} (h : P a) (k : ∀ p ∈ l, P p) : ∀ p ∈ a :: l, P p := fun p hp => by
  rcases List.mem_cons.mp hp with rfl | hp
  · exact h
  · exact k p hp

section
variable {X : Cx} {scope : Scope} {cl : List (Str × Addr)} {x : Str} {N : List Str} {fr : List Nat}

end

end L2
namespace L2
open PySem
end L2


namespace Zf
open PySem L2

noncomputable def Good (c : List Int) : Prop := c ≠ [] → c.getD (c.length - 1) 0 ≠ 0
inductive SpWhole (vs : List V) (H : Hp) (Q : VK) : Prop
  | mk (n : Int) (h0 : vs = [.int n]) (h1 : Q (.bl true) H) : SpWhole vs H Q
noncomputable def spWhole : Sp := fun vs H Q _ => SpWhole vs H Q
inductive SpAt (K : PySem.W.Frag) (vs : List V) (H : Hp) (Q : VK) : Prop
  | mk (a : Addr) (ns : List Int) (k : Int) (h0 : vs = [.ref a, .int k]) (h1 : SqL K H a (ns.map V.int)) (h2 : 0 ≤ k) (h3 : Q (.int (ns.getD k.toNat 0)) H) : SpAt K vs H Q
noncomputable def spAt (K : PySem.W.Frag) : Sp := fun vs H Q _ => SpAt K vs H Q
inductive SpAny (vs : List V) (H : Hp) (Q : VK) : Prop
  | mk (c : Int) (h0 : vs = [.int c]) (h1 : ∀ (H' : Hp) (v : Int), Same H H' → Bd 199 v → Q (.int v) H') : SpAny vs H Q
noncomputable def spAny : Sp := fun vs H Q _ => SpAny vs H Q
inductive SpDrawn (K : PySem.W.Frag) (vs : List V) (H : Hp) (Q : VK) : Prop
  | mk (a : Addr) (ns : List Int) (h0 : vs = [.ref a]) (h1 : SqL K H a (ns.map V.int)) (h2 : ns.length ≤ 63) (h3 : ∀ (r : Addr) (H' : Hp) (out : List Int), Same H H' → H r = none → H' r = some (IL out) → out.length = ns.length → (∀ x ∈ out, Bd 200 x) → Good out → Q (.ref r) H') : SpDrawn K vs H Q
noncomputable def spDrawn (K : PySem.W.Frag) : Sp := fun vs H Q _ => SpDrawn K vs H Q
inductive SpCheckCurve (K : PySem.W.Frag) (vs : List V) (H : Hp) (Q : VK) : Prop
  | mk (a : Addr) (c : List Int) (h0 : vs = [.ref a]) (h1 : SqL K H a (c.map V.int)) (h2 : Good c) (h3 : Q .non H) : SpCheckCurve K vs H Q
noncomputable def spCheckCurve (K : PySem.W.Frag) : Sp := fun vs H Q _ => SpCheckCurve K vs H Q
inductive SpLaw (K : PySem.W.Frag) (vs : List V) (H : Hp) (Q : VK) : Prop
  | mk (a : Addr) (ns : List Int) (h0 : vs = [.ref a]) (h1 : SqL K H a (ns.map V.int)) (h2 : ns.length ≤ 63) (h3 : ∀ H', Q (.bl true) H') : SpLaw K vs H Q
noncomputable def spLaw (K : PySem.W.Frag) : Sp := fun vs H Q _ => SpLaw K vs H Q
theorem divLit {i j : Int} (h : 0 < j) (h2 : j < 1073741824) : CDivK i j := by
  refine ⟨h, Bd.log (n := 30) ?_ (by omega) (by decide)⟩
  unfold Bd
  omega
theorem small {n : Nat} (h : n ≤ 1000) : n ≤ sizeLine := Nat.le_of_lt (small1000 h)
theorem gmem {c : List Int} {i : Nat} (h : i < c.length) : c.getD i 0 ∈ c := by
  rw [List.getD_eq_getElem?_getD, List.getElem?_eq_getElem h]
  exact List.getElem_mem h
theorem getD_out {c : List Int} {i : Nat} (h : c.length ≤ i) : c.getD i 0 = 0 := by
  rw [List.getD_eq_getElem?_getD, List.getElem?_eq_none h]
  rfl
theorem map_snoc (c : List Int) (x : Int) : c.map V.int ++ [V.int x] = (c ++ [x]).map V.int := by rw [List.map_append]; rfl
theorem map_set (c : List Int) (i : Nat) (x : Int) : (c.map V.int).set i (V.int x) = (c.set i x).map V.int := by rw [List.map_set]
theorem ixN_last {n : Nat} (h : n ≠ 0) : ixN n (-1) = some (n - 1) := by
  unfold ixN
  rw [if_neg (by decide), if_pos (by omega)]
  congr 1
  omega
end Zf
namespace Zf
open PySem L2
theorem cut_ints (ns : List Int) {lo hi : Int} {m : Nat} (h0 : 0 ≤ lo) (h1 : lo ≤ hi) (h2 : hi - lo ≤ m) : ∃ cs : List Int, cutV (ns.map V.int) (some lo) (some hi) = cs.map V.int ∧ cs.length ≤ m := by
  obtain ⟨i, rfl⟩ : ∃ i : Nat, lo = i := ⟨lo.toNat, by omega⟩
  obtain ⟨j, rfl⟩ : ∃ j : Nat, hi = j := ⟨hi.toNat, by omega⟩
  unfold cutV
  rw [HT.sIx_nat, HT.sIx_nat, ← List.map_drop, ← List.map_take]
  exact ⟨_, rfl, by rw [List.length_take, List.length_drop, List.length_map]; omega⟩
end Zf


namespace L2
open PySem
noncomputable def tJ (t : TS) : TS := fun D σ H => ∃ J : St → Hp → Prop, t { D with nx := J } σ H ∧ ∀ σ' H', J σ' H' → D.nx σ' H'
theorem SP.nx {X : Cx} {pins : List (Addr × Obj)} {D : Ends} {J : St → Hp → Prop} (h : ∀ σ' H', J σ' H' → D.nx σ' H') {f : Flow} {s : Shared} (q : SP X pins { D with nx := J } f s) : SP X pins D f s := by
  cases f with
  | next => obtain ⟨σ', H', I, j⟩ := q; exact ⟨σ', H', I, h _ _ j⟩
  | brk => exact q
  | cont => exact q
  | ret v => exact q
theorem ps_J {X : Cx} {st : Stmt} {t : TS} (h : PS X st t) : PS X st (tJ t) := by
  intro pins s σ H D I hw
  obtain ⟨J, h1, h2⟩ := hw
  exact thn (h pins s σ H _ I h1) fun f s' q => SP.nx h2 q
end L2


namespace L2
end L2

namespace L2
open PySem
@[elab_as_elim] theorem by1 {motive : List Value → Prop} {us : List Value} (hl : us.length = 1) (h : ∀ a, motive [a]) : motive us := by
  match us, hl with
  | [a], _ => exact h a
@[elab_as_elim] theorem by2 {motive : List Value → Prop} {us : List Value} (hl : us.length = 2) (h : ∀ a b, motive [a, b]) : motive us := by
  match us, hl with
  | [a, b], _ => exact h a b
end L2


namespace L2
open PySem PySem.Spec PyProof.Rows

noncomputable def tTrue : TT := fun _ H Q => Q true H
noncomputable def PTs (X : Cx) (ifs : List Expr) (t : TT) : Prop := (ifs = [] ∧ t = tTrue) ∨ ∃ c, ifs = [c] ∧ PT X c t
theorem pts0 {X : Cx} : PTs X [] tTrue := .inl ⟨rfl, rfl⟩
theorem pts1 {X : Cx} {c : Expr} {t : TT} (h : PT X c t) : PTs X [c] t := .inr ⟨c, rfl, h⟩
theorem pts_run {X : Cx} {ifs : List Expr} {t : TT} (h : PTs X ifs t) (pins : List (Addr × Obj)) (s : Shared) (σ : St) (H : Hp) (Q : Bool → Hp → Prop) (I : Inv X pins σ H s) (q : t σ H Q) :
    wpAny (model X.prog X.w) X.A (forIn ifs true fun c r => if r = true then do let ok ← isTrue c X.env (eval c X.env); pure (ForInStep.yield ok) else pure (ForInStep.yield r)) (TP X pins σ Q) X.xe s := by
  rcases h with ⟨e1, e2⟩ | ⟨c, e1, e2⟩
  · subst e1
    rw [e2] at q
    exact wpAny_tests_nil ⟨H, I, q⟩
  · subst e1
    exact wpAny_tests_one (e2 _ s σ H _ I q)
noncomputable def nones (xs : List Str) : St := xs.map fun _ => none
noncomputable def tLCG (wi : TI) (xs : List Str) (fr : List Nat) (g : TG) (tc : TT) (te : TE) : TE := fun σ H Q => wi σ H fun J H1 => ∀ D, H1 D = none → ∃ W : Nat → Nat → St → List V → Hp → Prop, (∃ m, W 0 m (nones xs ++ fr.map fun i => σ.getD i none) [] (upd H1 D (.lst []))) ∧
  ∀ i m σc acc H2, W i m σc acc H2 → H2 D = some (.lst acc) ∧ ((J.stop i H2 ∧ Q (.ref D) H2) ∨ (J.go i H2 ∧ ∀ y H3, J.yld i H2 y H3 → g y σc H3 fun σ' H' => tc σ' H' fun b H5 => if b = true then te σ' H5 fun v H4 =>
    H4 D = some (.lst acc) ∧ acc.length < sizeLine ∧ ∃ m', m' < m ∧ W (i + 1) m' σ' (acc ++ [v]) (upd H4 D (.lst (acc ++ [v]))) else ∃ m', m' < m ∧ W (i + 1) m' σ' acc H5))
structure CompOkG (X : Cx) (scope : Scope) (cl : List (Str × Addr)) (xs : List Str) (N : List Str) (fr : List Nat) : Prop where
  clos : closureFor scope X.env = pure cl
  cell : ∀ y ∈ scope.names, y.2 ≠ .cell
  kind : scope.kind = .function
  names : ∀ y ∈ scope.names, y.2 = .local → scope.names.lookup y.1 = some .local
  nd : (xs ++ N).Nodup
  ins : ∀ p ∈ cl, X.env.cells.lookup p.1 = some p.2
  has : ∀ y, ((relabel scope X.env).names.lookup y = some .cell ∨ (relabel scope X.env).names.lookup y = some .free) → ∃ c, cl.lookup y = some c
  len : fr.length = N.length
  frs : ∀ (j : Nat) (y : Str), N[j]? = some y → ∃ i, fr[j]? = some i ∧ X.N[i]? = some y ∧ X.env.scope.names.lookup y = some .cell ∧ (relabel scope X.env).names.lookup y = some .cell
  calm : X.calm = true
  xe : X.xe = fun _ _ => False
theorem compOkG {X : Cx} {scope : Scope} {cl : List (Str × Addr)} {xs : List Str} {N : List Str} {fr : List Nat} (clos : closureFor scope X.env = pure cl) (cell : ∀ y ∈ scope.names, y.2 ≠ .cell) (kind : scope.kind = .function)
    (names : ∀ y ∈ scope.names, y.2 = .local → scope.names.lookup y.1 = some .local) (nd : (xs ++ N).Nodup) (ins : ∀ p ∈ cl, X.env.cells.lookup p.1 = some p.2)
    (has : ((relabel scope X.env).names.all fun p => !(p.2 == .cell || p.2 == .free) || (cl.lookup p.1).isSome) = true) (fro : FrOk X (relabel scope X.env) N fr) (calm : X.calm = true) (xe : X.xe = fun _ _ => False) : CompOkG X scope cl xs N fr :=
  ⟨clos, cell, kind, names, nd, ins, fun y hy => by
    have key : ∀ k : NameKind, (k = .cell ∨ k = .free) → (relabel scope X.env).names.lookup y = some k → ∃ c, cl.lookup y = some c := fun k hk e => by
      have := List.all_eq_true.mp has _ (PySem.mem_of_lookup e)
      rcases hk with rfl | rfl
      · exact Option.isSome_iff_exists.mp (by simpa using this)
      · exact Option.isSome_iff_exists.mp (by simpa using this)
    rcases hy with hy | hy
    · exact key _ (.inl rfl) hy
    · exact key _ (.inr rfl) hy, fro.len, fro.get, calm, xe⟩
theorem compLoop_ownG {prog : Program} {w : World} {A : Around} {R : Result → Shared → Prop} {s : Shared} {elt target iter : Expr} {ifs : List Expr} {scope : Scope} {pos : Pos} {it acc : Value} {env : Env} (I : Nat → Shared → Prop)
    (turn : ∀ n s, I n s → wpAny (model prog w) A (pyNext it) (fun r s₁ => match r with
      | none => R (.ok .next) s₁
      | some v => wpAny (model prog w) A (letOwnedTupleGo target it v) (fun _ s₁' => wpAny (model prog w) A (assign target env v) (fun _ s₂ =>
          wpAny (model prog w) A (forIn ifs true fun c r => if r = true then do let ok ← isTrue c env (eval c env); pure (ForInStep.yield ok) else pure (ForInStep.yield r)) (fun ok s₃ =>
          if ok = true then wpAny (model prog w) A (eval elt env) (fun x s₄ =>
            wpAny (model prog w) A (call (.builtin "list.append") [acc, x]) (fun _ s₅ => ∃ m, m < n ∧ I m s₅) (fun _ _ => False) s₄) (fun _ _ => False) s₃
          else ∃ m, m < n ∧ I m s₃) (fun _ _ => False) s₂)
          (fun _ _ => False) s₁') (fun _ _ => False) s₁) (fun _ _ => False) s)
    (n : Nat) (h : I n s) :
    codeAny (model prog w) A (.compLoop (.ListComp elt [⟨target, iter, ifs, 0⟩] scope pos) 0 it acc env) R s := by
  refine codeAny_loop rfl I (fun n s hI => ?_) n h
  show wpAny _ _ ((compTurn (.ListComp elt [⟨target, iter, ifs, 0⟩] scope pos) 0 it acc env).onRaise (fun x => do noteFrame x env; theTreesLotGoes x)) _ _ s
  refine wpAny_noted ?_
  rw [compTurn_list]
  refine wpAny_bind (wpAny_standAt (wpAny_bind (wpAny_mono (turn n s hI) (fun r s₁ h₁ => ?_) fun _ _ h' => h'.elim)))
  cases r with
  | none => exact wpAny_pure h₁
  | some v =>
    refine wpAny_bind (wpAny_mono h₁ (fun _ s₁' h₁' => ?_) fun _ _ h' => h'.elim)
    refine wpAny_bind (wpAny_mono h₁' (fun _ s₂ h₂ => wpAny_bind (wpAny_mono h₂ (fun ok s₃ h₃ => ?_) fun _ _ h' => h'.elim)) fun _ _ h' => h'.elim)
    cases ok with
    | false => exact wpAny_pure ⟨rfl, h₃⟩
    | true =>
      exact wpAny_bind (wpAny_bind (wpAny_mono h₃ (fun x s₄ h₄ => wpAny_bind (wpAny_mono h₄ (fun _ s₅ h₅ => wpAny_pure (wpAny_pure ⟨rfl, h₅⟩)) fun _ _ h' => h'.elim)) fun _ _ h' => h'.elim))
section
variable {X : Cx} {scope : Scope} {cl : List (Str × Addr)} {xs : List Str} {N : List Str} {fr : List Nat}

theorem comp_startG {pins : List (Addr × Obj)} {σ : St} {H : Hp} {s : Shared} {fp : List Addr} {h1 : Heap} {D C : Addr} {tk : Nat} (ht : 0 < tk) (O : CompOkG X scope cl xs N fr) (I : Inv X pins σ H s) (hf : ∀ b ∈ fp, FpOk X pins H b) (hfl : ∀ b ∈ fp, b < s.heap.objs.size)
    (hD : s.heap.objs.size ≤ D) (hC : s.heap.objs.size ≤ C) (hDC : D ≠ C) (kp : ∀ b o, s.heap.get? b = some o → h1.get? b = some o) (hns : ∃ m, h1.Ns C m) (hd : ∃ n, h1.get? D = some { cls := .type "list", data := .seq #[] n }) :
    Inv (cxComp X (xs ++ N) scope cl C s H fp) [] (nones xs ++ fr.map fun i => σ.getD i none) (upd H D (.lst [])) { s with heap := h1, toks := tk } := by
  have hn : H D = none := I.hok.fresh hD
  have hu : Un (frs X.stack) fp H (upd H D (.lst [])) s.heap h1 := Un.laid kp hD hn
  have cellH : ∀ y c, cl.lookup y = some c → X.env.cells.lookup y = some c := fun y c e => O.ins _ (PySem.mem_of_lookup e)
  obtain ⟨m, hm⟩ := hns
  have okk : (cxComp X (xs ++ N) scope cl C s H fp).Ok := by
    refine ⟨I.ok.mod, ?_, I.ok.glob, I.ok.blt, hC, fun y z c e1 e2 => ?_, fun y hy => ?_, fun y c h _ => ?_, I.ok.hd, I.ok.frames, .inl rfl, fun b hb => ⟨?_, fun y c e => ?_⟩, I.bs, Nat.le_trans I.ok.bsz I.sz, fun b o e hb => ?_, fun b hb => ?_, I.stack, I.stkFree⟩
    · show (relabel scope X.env).kind = _
      exact O.kind
    · exact I.ok.inj y z c (cellH y c e1) (cellH z c e2)
    · exact O.has y hy
    · exact absurd h (by show ¬ (false = true); decide)
    · exact Nat.ne_of_lt (Nat.lt_of_lt_of_le (hfl b hb) hC)
    · exact (hf b hb).2.2.2.2.1 y c (cellH y c e)
    · obtain ⟨f0, f1, f2, f3, f4, f5⟩ := hf b hb
      rcases f3 with z | z
      · exact I.ok.noex b o e z
      · exact absurd (Nat.lt_of_lt_of_le (Heap.lt_size (I.ok.bs b o e).1) z) (Nat.lt_irrefl _)
    · obtain ⟨f0, f1, f2, f3, f4, f5⟩ := hf b hb
      intro z
      rcases List.mem_cons.mp (I.stkSub b z) with e | e
      · exact f1 e
      · exact f2 e
  refine ⟨okk, rfl, I.bare, hu, ⟨m, hm, fun j y v e1 e2 e3 => ?_⟩, fun y c e => ?_, ?_, fun y c e => ?_, fun p hp => absurd (show p ∈ ([] : List (Addr × Obj)) from hp) (by simp), ?_, ?_, ht⟩
  · have hnl : (nones xs).length = xs.length := List.length_map _
    by_cases hj : j < xs.length
    · have e2' : (nones xs)[j]? = some (some v) := by rw [← List.getElem?_append_left (by rw [hnl]; exact hj)]; exact e2
      rw [nones, List.getElem?_map, List.getElem?_eq_getElem hj] at e2'
      cases e2'
    · have e1a : (xs ++ N)[j]? = some y := e1
      have e1' : N[j - xs.length]? = some y := by rwa [List.getElem?_append_right (by omega)] at e1a
      have e2a : (nones xs ++ fr.map fun i => σ.getD i none)[j]? = some (some v) := e2
      rw [List.getElem?_append_right (by rw [hnl]; omega), hnl] at e2a
      generalize j - xs.length = j at e1' e2a
      obtain ⟨i, g1, g2, g3, g4⟩ := O.frs j y e1'
      have e2' := e2a
      rw [List.getElem?_map, g1] at e2'
      have e2'' : σ.getD i none = some v := Option.some.inj e2'
      have e4 : σ[i]? = some (some v) := by
        rw [List.getD_eq_getElem?_getD] at e2''
        cases q : σ[i]? with
        | none => rw [q] at e2''; cases e2''
        | some z => rw [q] at e2''; exact congrArg some e2''
      obtain ⟨m0, _, hl⟩ := I.loc
      obtain ⟨u, r, l⟩ := hl i y v g2 e4 (.inr (.inl g3))
      refine ⟨u, r, ?_⟩
      rcases l with ⟨k, _⟩ | ⟨k, c, e, z⟩
      · have k' : X.env.scope.names.lookup y = some .local := k
        rw [g3] at k'
        cases k'
      · obtain ⟨c', e'⟩ := O.has y (.inl g4)
        have := cellH y c' e'
        rw [e] at this
        cases this
        refine .inr ⟨.inl g4, c, e', ?_⟩
        obtain ⟨o, ho, hd'⟩ := z
        exact ⟨o, kp _ _ ho, hd'⟩
  · obtain ⟨v, o, ho, hd'⟩ := I.cell y c (cellH y c e)
    exact ⟨v, o, kp _ _ ho, hd'⟩
  · show upd H D (.lst []) C = none
    rw [upd_ne (Ne.symm hDC)]
    exact I.hok.fresh hC
  · obtain ⟨v, o, ho, hd'⟩ := I.cell y c (cellH y c e)
    rw [upd_ne (Nat.ne_of_lt (Nat.lt_of_lt_of_le (Heap.lt_size ho) hD))]
    exact I.freeC y c (cellH y c e)
  · obtain ⟨n, e⟩ := hd
    exact I.hok.laid kp hD ⟨Nat.zero_le _, [], n, .nil, e⟩
  · show (nones xs ++ fr.map fun i => σ.getD i none).length = (xs ++ N).length
    rw [List.length_append, List.length_append, List.length_map, O.len]
    congr 1
    exact List.length_map _

theorem comp_runG {elt target iter : Expr} {ifs : List Expr} {pos : Pos} {g : TG} {tc : TT} {te : TE} {pins : List (Addr × Obj)} {σ : St} {H : Hp} {s : Shared} {it : Addr} {fp : List Addr} {tn : Nat → Heap → Prop} {J : It} {Q : VK} {E : Value → Shared → Prop} {RR : Value → Addr → Result → Shared → Prop}
    (O : CompOkG X scope cl xs N fr) (hg : ∀ cl C s₀ H₀ ex, PG (cxComp X (xs ++ N) scope cl C s₀ H₀ ex) target g) (hc : ∀ cl C s₀ H₀ ex, PTs (cxComp X (xs ++ N) scope cl C s₀ H₀ ex) ifs tc) (he : ∀ cl C s₀ H₀ ex, PE (cxComp X (xs ++ N) scope cl C s₀ H₀ ex) elt te) (I : Inv X pins σ H s) (T : Turn X.prog X.w X.K target J fp it tn) (st : tn 0 s.heap) (hf : ∀ b ∈ fp, FpOk X pins H b)
    (h : ∀ D, H D = none → ∃ W : Nat → Nat → St → List V → Hp → Prop, (∃ m, W 0 m (nones xs ++ fr.map fun i => σ.getD i none) [] (upd H D (.lst []))) ∧
      ∀ i m σc acc H2, W i m σc acc H2 → H2 D = some (.lst acc) ∧ ((J.stop i H2 ∧ Q (.ref D) H2) ∨ (J.go i H2 ∧ ∀ y H3, J.yld i H2 y H3 → g y σc H3 fun σ' H' => tc σ' H' fun b H5 => if b = true then te σ' H5 fun v H4 =>
        H4 D = some (.lst acc) ∧ acc.length < sizeLine ∧ ∃ m', m' < m ∧ W (i + 1) m' σ' (acc ++ [v]) (upd H4 D (.lst (acc ++ [v]))) else ∃ m', m' < m ∧ W (i + 1) m' σ' acc H5)))
    (hR : ∀ D C H' s', D ≠ C → s.heap.objs.size ≤ C → (∃ m, s'.heap.Ns C m) → H' C = none → Inv X pins σ H' s' → Q (.ref D) H' → RR (.ref D) C (.ok .next) s') :
    wpAny (model X.prog X.w) X.A (newList []) (fun acc s₃ => wpAny (model X.prog X.w) X.A (newFunctionEnv scope X.env.globals cl [] X.env.qual none .none (some X.env)) (fun cenv s₄ =>
      codeAny (model X.prog X.w) X.A (.compStart (.ListComp elt [⟨target, iter, ifs, 0⟩] scope pos) 0 (.ref it) acc { cenv with scope := relabel scope X.env }) (RR acc cenv.locals) s₄) E s₃) E s := by
  refine wpAny_newObj_type (wpAny_newFunctionEnv O.cell (by intro y hy; simp at hy) (fun h₁ hns₁ hsb₁ => ?_) O.kind)
  dsimp only at hns₁ hsb₁ ⊢
  generalize hH2 : s.heap.push { cls := .type "list", dict := none, data := .seq ([] : List Value).toArray } = H2 at hns₁ hsb₁ ⊢
  have hC : H2.objs.size = s.heap.objs.size + 1 := by rw [← hH2, Heap.size_push]
  have hDC : s.heap.objs.size ≠ H2.objs.size := by rw [hC]; exact Nat.ne_of_lt (Nat.lt_succ_self _)
  have hCle : s.heap.objs.size ≤ H2.objs.size := by rw [hC]; exact Nat.le_succ _
  have below : ∀ b, b < s.heap.objs.size → b ≠ H2.objs.size ∧ b ≠ s.heap.objs.size := fun b hb => ⟨by rw [hC]; exact Nat.ne_of_lt (Nat.lt_succ_of_lt hb), Nat.ne_of_lt hb⟩
  have old : ∀ b o, s.heap.get? b = some o → h₁.get? b = some o := fun b o e => hsb₁.extBut b o (below b (Heap.lt_size e)).1 (Heap.get?_push_of_some _ (hH2 ▸ Heap.get?_push_of_some _ e))
  have hacc : ∃ n, h₁.get? s.heap.objs.size = some { cls := .type "list", data := .seq #[] n } := ⟨_, hsb₁.extBut _ _ hDC (Heap.get?_push_of_some _ (hH2 ▸ Heap.get?_push_size _ rfl))⟩
  have hfl : ∀ b ∈ fp, b < s.heap.objs.size := fun b hb => by
    obtain ⟨o, e, _⟩ := T.obj _ _ st b hb
    exact Heap.lt_size e
  obtain ⟨W, ⟨m0, w0⟩, turn⟩ := h s.heap.objs.size (I.hok.fresh (Nat.le_refl _))
  have st₁ : tn 0 h₁ := T.keep _ _ _ st fun b hb o e => old b o e
  have I0 := comp_startG (tk := s.toks + ([] : List (Str × Value)).length) (Nat.lt_of_lt_of_le I.tk (Nat.le_add_right _ _)) O I hf hfl (Nat.le_refl _) hCle hDC old ⟨_, hns₁⟩ hacc

  have loop : codeAny (model X.prog X.w) X.A (.compLoop (.ListComp elt [⟨target, iter, ifs, 0⟩] scope pos) 0 (.ref it) (.ref s.heap.objs.size) (compEnvC scope cl H2.objs.size X.env))
      (RR (.ref s.heap.objs.size) H2.objs.size) { s with heap := h₁, toks := s.toks + ([] : List (Str × Value)).length } := by
    have stat : ∀ {H' : Hp}, (∀ b ∈ fp, H' b = none) → ∀ b ∈ fp, FpOk (cxComp X (xs ++ N) scope cl H2.objs.size s H fp) [] H' b := fun {H'} hn b hb =>
      ⟨hn b hb, (I0.ok.exf b hb).1, I0.ok.exfs b hb, .inl hb, (I0.ok.exf b hb).2, fun p hp => absurd (show p ∈ ([] : List (Addr × Obj)) from hp) (by simp)⟩
    refine compLoop_ownG (fun n s' => ∃ i σc acc H', Inv (cxComp X (xs ++ N) scope cl H2.objs.size s H fp) [] σc H' s' ∧ tn i s'.heap ∧ (∀ b ∈ fp, H' b = none) ∧ W i n σc acc H') ?_ m0
      ⟨0, _, [], _, I0, st₁, fun b hb => by rw [upd_ne (below b (hfl b hb)).2]; exact (hf b hb).1, w0⟩
    rintro n s3 ⟨i, σ3, acc, H3, I3, st3, fr3, w3⟩
    obtain ⟨hD3, q⟩ := turn i n σ3 acc H3 w3
    rcases q with ⟨stop, qn⟩ | ⟨go, step⟩
    · refine thn (T.done (cxComp X (xs ++ N) scope cl H2.objs.size s H fp) rfl rfl rfl O.calm i [] s3 σ3 H3 _ I3 (stat fr3) st3 stop) fun r s4 ⟨hr, I4⟩ => ?_
      subst hr
      refine hR _ _ H3 s4 hDC hCle ?_ I4.free ?_ qn
      · obtain ⟨m, hn, _⟩ := I4.loc
        exact ⟨m, hn⟩
      · refine I.call' I4.os I4.base I4.hok I4.bare fun b hb => ?_
        obtain ⟨f0, f1, f2, f3, f4, f5⟩ := hf b hb
        exact ⟨f3, f1, f4, f5⟩
    · refine thn (T.item (cxComp X (xs ++ N) scope cl H2.objs.size s H fp) rfl rfl rfl O.calm i [] s3 σ3 H3 _ I3 (stat fr3) st3 go) fun r s4 ⟨u, hr, h4⟩ => ?_
      subst hr
      refine thn h4 fun _ s5 ⟨y, H5, I5, r5, y5, st5, fr5⟩ => ?_
      obtain ⟨pins5, hp5, I5'⟩ : ∃ pins5, (∀ b ∈ fp, ∀ o, s5.heap.get? b = some o → (b, o) ∈ pins5) ∧ Inv (cxComp X (xs ++ N) scope cl H2.objs.size s H fp) pins5 σ3 H5 s5 := ⟨_, fun b hb o e => List.mem_append_right _ (mem_pinsAt hb e), I5.pinned (stat fr5) (T.obj _ _ st5)⟩
      refine thn (hg cl H2.objs.size s H fp _ s5 σ3 H5 y u _ I5' r5 (step y H5 y5)) fun _ s6 ⟨σ6, H6, I6, q6⟩ => ?_
      refine thn (pts_run (hc cl H2.objs.size s H fp) _ s6 σ6 H6 _ I6 q6) fun b s6b ⟨H6b, I6b, q6b⟩ => ?_
      have gone : ∀ {σ7 : St} {H7 : Hp} {s7 : Shared} {acc' : List V} {m' : Nat}, m' < n → Inv (cxComp X (xs ++ N) scope cl H2.objs.size s H fp) pins5 σ7 H7 s7 → W (i + 1) m' σ7 acc' H7 → ∃ m, m < n ∧ ∃ i σc acc H', Inv (cxComp X (xs ++ N) scope cl H2.objs.size s H fp) [] σc H' s7 ∧ tn i s7.heap ∧ (∀ b ∈ fp, H' b = none) ∧ W i m σc acc H' := by
        intro σ7 H7 s7 acc' m' hm' I8 w7
        refine ⟨m', hm', i + 1, σ7, acc', H7, I8.unpinned, T.keep _ _ _ st5 fun b hb o e => (I8.pin (b, o) (List.mem_append_right _ (hp5 b hb o e))).1, fun b hb => ?_, w7⟩
        obtain ⟨o, e, d⟩ := T.obj _ _ st5 b hb
        exact (I8.pin (b, o) (List.mem_append_right _ (hp5 b hb o e))).2.1
      cases b with
      | false =>
        obtain ⟨m', hm', w7⟩ := q6b
        exact gone hm' I6b w7
      | true =>
        refine thn (he cl H2.objs.size s H fp _ s6b _ _ _ I6b q6b) fun v s7 ⟨z, H7, I7, r7, hD7, hz7, m', hm', w7⟩ => ?_
        refine thn (mt_append _ s7 _ H7 (.ref s.heap.objs.size) [z] _ [v] (fun _ H' => H' = upd H7 s.heap.objs.size (.lst (acc ++ [z]))) I7 rfl (.cons r7 .nil) ⟨_, acc, z, rfl, rfl, hD7, hz7, rfl⟩) fun _ s8 ⟨_, H8, I8, _, e8⟩ => ?_
        subst e8
        exact gone hm' I8 w7
  exact codeAny_compStart_list loop (T.self _ 0 _ _ _ st₁ loop)

theorem pe_lcg {elt target iter : Expr} {ifs : List Expr} {pos : Pos} {wi : TI} {g : TG} {tc : TT} {te : TE} (O : CompOkG X scope cl xs N fr) (hi : PI X target iter wi) (hg : ∀ cl C s₀ H₀ ex, PG (cxComp X (xs ++ N) scope cl C s₀ H₀ ex) target g) (hc : ∀ cl C s₀ H₀ ex, PTs (cxComp X (xs ++ N) scope cl C s₀ H₀ ex) ifs tc) (he : ∀ cl C s₀ H₀ ex, PE (cxComp X (xs ++ N) scope cl C s₀ H₀ ex) elt te)
    (hs : ∀ z, foldedSetIterable iter X.env z = pure z := by intro _; rfl) : PE X (.ListComp elt [⟨target, iter, ifs, 0⟩] scope pos) (tLCG wi xs fr g tc te) := by
  intro pins s σ H Q I h
  rw [eval_ListComp]
  refine wpAny_comprehension_free (use := none) rfl hs O.clos O.kind O.names (thn (hi pins s σ H _ I h) fun v s1 h1 => thn h1 fun itv s2 h2 => ?_)
  obtain ⟨it, fp, tn, J, H2, rfl, I2, T, st2, f2, q⟩ := h2
  refine comp_runG (RR := fun acc C => compPost (model X.prog X.w) X.A X.xe none (EP X pins σ Q) acc C) O hg hc he I2 T st2 f2 q ?_
  intro D C H' s' hDC hC hns hCn I' q'
  obtain ⟨m, hn⟩ := hns
  refine ⟨m, hn, fun h'' hs'' => ⟨.ref D, H', ?_, rfl, q'⟩⟩
  obtain ⟨g0, g1, g2, g3, g4, g5⟩ := I2.fpOk hC hCn
  exact I'.turned (t' := s'.toks) (fun b o hb e => hs''.extBut b o hb e) g0 g1 g3 g4 g5

end
end L2
namespace L2
open PySem
theorem Same.of_upd {H H2 : Hp} {D : Addr} {o : HO} (h : Same H H2) (hD : H D = none) : Same H (upd H2 D o) := fun b u e => by
  rw [upd_ne (ne_of_none e hD)]
  exact h _ _ e

theorem lcg_all {K : PySem.W.Frag} {g : TG} {tc : TT} {te : TE} {xs : List Str} {σc : List (Option V)} {a : Addr} {ws : List V} {H : Hp} {R : Addr → Hp → Prop} (p : Nat → Bool) (Rel : Addr → Nat → V → Hp → Prop) (τ : Nat → St) (hS : SqL K H a ws) (hz : ws.length ≤ 1000)
    (mono : ∀ D i v H1 H2, (∀ b o, b ≠ D → H1 b = some o → H2 b = some o) → Rel D i v H1 → Rel D i v H2) (hτ : ∀ i, (τ i).length = (nones xs).length)
    (hg : ∀ (i : Nat) (y : V) (σ0 : St) (H2 : Hp) (Q2 : St → Hp → Prop), ws[i]? = some y → Same H H2 → σ0.length = (nones xs).length → Q2 (τ i ++ σc) H2 → g y (σ0 ++ σc) H2 Q2)
    (hc : ∀ (i : Nat) (y : V) (H2 : Hp) (Q2 : Bool → Hp → Prop), ws[i]? = some y → Same H H2 → (∀ H5, Same H2 H5 → Q2 (p i) H5) → tc (τ i ++ σc) H2 Q2)
    (ht : ∀ (D : Addr) (acc : List V) (i : Nat) (y : V) (H2 : Hp) (Q2 : VK), H D = none → H2 D = some (.lst acc) → ws[i]? = some y → p i = true → Same H H2 → (∀ v H4, Same H2 H4 → Rel D i v H4 → Q2 v H4) → te (τ i ++ σc) H2 Q2)
    (hq : ∀ (D : Addr) (H' : Hp) (vs : List V), H D = none → Same H H' → H' D = some (.lst vs) → vs.length = ((List.range ws.length).filter p).length → (∀ (j : Nat) (v : V) (k : Nat), vs[j]? = some v → ((List.range ws.length).filter p)[j]? = some k → Rel D k v H') → R D H') :
    ∀ D, H D = none → ∃ W : Nat → Nat → St → List V → Hp → Prop, (∃ m, W 0 m (nones xs ++ σc) [] (upd H D (.lst []))) ∧
      ∀ i m σ2 acc H2, W i m σ2 acc H2 → H2 D = some (.lst acc) ∧ (((Itl K a).stop i H2 ∧ R D H2) ∨ ((Itl K a).go i H2 ∧ ∀ y H3, (Itl K a).yld i H2 y H3 → g y σ2 H3 fun σ' H' => tc σ' H' fun b H5 => if b = true then te σ' H5 fun v H4 =>
        H4 D = some (.lst acc) ∧ acc.length < sizeLine ∧ ∃ m', m' < m ∧ W (i + 1) m' σ' (acc ++ [v]) (upd H4 D (.lst (acc ++ [v]))) else ∃ m', m' < m ∧ W (i + 1) m' σ' acc H5)) := by
  intro D hD
  refine ⟨fun i m σ2 acc H2 => m = ws.length - i ∧ i ≤ ws.length ∧ (∃ σ0, σ0.length = (nones xs).length ∧ σ2 = σ0 ++ σc) ∧ Same H H2 ∧ H2 D = some (.lst acc) ∧ acc.length = ((List.range i).filter p).length ∧ (∀ (j : Nat) (v : V) (k : Nat), acc[j]? = some v → ((List.range i).filter p)[j]? = some k → Rel D k v H2),
    ⟨ws.length, by simp, Nat.zero_le _, ⟨nones xs, rfl, rfl⟩, same_new hD _, upd_same, rfl, fun j v k e => by simp at e⟩, ?_⟩
  rintro i m σ2 acc H2 ⟨rfl, hi, ⟨σ0, h0, rfl⟩, s2, hd, hal, hr⟩
  refine ⟨hd, ?_⟩
  have q := s2.seq hS
  by_cases hlt : i < ws.length
  · refine .inr ⟨⟨ws, ws[i], q, by simp [hlt]⟩, fun y H3 hy => ?_⟩
    obtain ⟨e, hy⟩ := hy
    subst e
    have hy' := hy ws q
    refine hg i y σ0 H3 _ hy' s2 h0 ?_
    have rs : List.range (i + 1) = List.range i ++ [i] := List.range_succ
    have fl : ((List.range i).filter p).length ≤ i := Nat.le_trans (List.length_filter_le _ _) (by simp)
    refine hc i y H3 _ hy' s2 fun H5 s5 => ?_
    cases hp : p i with
    | false =>
      refine ⟨ws.length - (i + 1), by omega, rfl, hlt, ⟨_, hτ i, rfl⟩, s2.trans s5, s5 _ _ hd, ?_, fun j v k e1 e2 => ?_⟩
      · rw [rs, List.filter_append, List.filter_cons_of_neg (by simp [hp])]
        simpa using hal
      · rw [rs, List.filter_append, List.filter_cons_of_neg (by simp [hp]), List.filter_nil, List.append_nil] at e2
        exact mono _ _ _ _ _ (fun b o _ e => s5 b o e) (hr j v k e1 e2)
    | true =>
      refine ht D acc i y H5 _ hD (s5 _ _ hd) hy' hp (s2.trans s5) fun v H4 s4 hv => ⟨s4 _ _ (s5 _ _ hd), by rw [hal]; exact small1000 (by omega), ws.length - (i + 1), by omega, rfl, hlt, ⟨_, hτ i, rfl⟩, ((s2.trans s5).trans s4).of_upd hD, upd_same, ?_, fun j v' k e1 e2 => ?_⟩
      · rw [rs, List.filter_append, List.filter_cons_of_pos (by simp [hp])]
        simp [hal]
      · have su : ∀ b o, b ≠ D → H4 b = some o → upd H4 D (.lst (acc ++ [v])) b = some o := fun b o nb e => by rw [upd_ne nb]; exact e
        rw [rs, List.filter_append, List.filter_cons_of_pos (by simp [hp]), List.filter_nil] at e2
        by_cases hj : j < acc.length
        · rw [List.getElem?_append_left hj] at e1
          rw [List.getElem?_append_left (by rw [← hal]; exact hj)] at e2
          exact mono _ _ _ _ _ (fun b o nb e => su b o nb (s4 _ _ (s5 _ _ e))) (hr j v' k e1 e2)
        · have hj1 : j < (acc ++ [v]).length := (List.getElem?_eq_some_iff.mp e1).1
          rw [List.length_append, List.length_singleton] at hj1
          have ej : j = acc.length := by omega
          subst ej
          rw [List.getElem?_append_right (Nat.le_refl _), Nat.sub_self] at e1
          rw [hal, List.getElem?_append_right (Nat.le_refl _), Nat.sub_self] at e2
          cases e1
          cases e2
          exact mono _ _ _ _ _ su hv
  · have e : i = ws.length := by omega
    subst e
    exact .inl ⟨⟨ws, q, Nat.le_refl _⟩, hq D H2 acc hD s2 hd hal hr⟩
end L2


namespace L2
open PySem PySem.Spec PyProof.Rows
section
variable {X : Cx}
noncomputable def PEL (X : Cx) (e : Expr) (t : TE) : Prop :=
  ∀ (pins : List (Addr × Obj)) (s : Shared) (σ : St) (H : Hp) (Q : VK), Inv X pins σ H { s with toks := s.toks + 1 } → t σ H Q → wpAny (model X.prog X.w) X.A (eval e X.env) (EP X pins σ Q) X.xe s
noncomputable def PSL (X : Cx) (st : Stmt) (t : TS) : Prop :=
  ∀ (pins : List (Addr × Obj)) (s : Shared) (σ : St) (H : Hp) (D : Ends), Inv X pins σ H { s with toks := s.toks + 1 } → t D σ H → wpAny (model X.prog X.w) X.A (exec st X.env) (SP X pins D) X.xe s
theorem ps_setL {i : Nat} {x : Str} {e : Expr} {te : TE} {pos pos' : Pos} (hN : X.N.Nodup) (hi : X.N[i]? = some x) (hx : Loc X.env.scope x) (he : PEL X e te) (hs : swapsWith e (some (.Name x pos')) pos.line X.env = pure false := by rfl) (hf : X.fn x = true ∨ X.env.scope.names.lookup x = some .local := by first | exact .inl rfl | exact .inr rfl | assumption) :
    PSL X (.Assign [.Name x pos'] e pos) (tAsg te (gName i)) := by
  intro pins s σ H D I h
  refine wpAny_Assign_Name (thn (he pins s σ H _ I h) fun v s1 ⟨y, H1, I1, r1, q1⟩ => ?_) hs
  exact store_ok I1 hN hi hx r1 (fun s2 I2 => ⟨_, H1, I2, q1⟩) hf
theorem pss_consL {st : Stmt} {rest : List Stmt} {t u : TS} (h1 : PSL X st t) (h2 : PSs X rest u) : PSsL X (st :: rest) (tSeq t u) := by
  intro pins s σ H D I h
  refine wpAny_execs_cons (thn (h1 pins s σ H { D with nx := u D } I h) fun f s1 q => ?_)
  cases f with
  | next =>
    obtain ⟨σ', H', I', q⟩ := q
    exact h2 pins s1 σ' H' D I' q
  | ret v => exact q
  | brk => exact q
  | cont => exact q
end
end L2


namespace L2
open PySem PySem.Spec PyProof.Rows
section
variable {X : Cx} {o : Expr} {to : TE} {apos cpos p1 p2 : Pos} {j1 j2 : Nat}
inductive XRepl (y z : Str) (x : V) (H : Hp) (Q : VK) : Prop
  | mk (i : Str) (e : x = .str i) (hb : i.length + (i.length + 1) * z.length ≤ 16777216) (q : Q (.str (Txt.replace i y z)) H) : XRepl y z x H Q

theorem pe_repl {y z : Str} (hyz : (y == z) = false) (ho : PE X o to) (hbase : attributeBase o "replace" X.env (eval o X.env) = eval o X.env := by rfl)
    (hfew : ((backTo cpos (starEach [.Constant (.str y) j1 p1, .Constant (.str z) j2 p2] X.env)).all (fun x => !x.1) && (backToKw cpos (keywordEach [] X.env)).all (fun x => x.1.isSome)
      && decide (([.Constant (.str y) j1 p1, .Constant (.str z) j2 p2] : List Expr).length + ([] : List Keyword).length + (if ([] : List Keyword).isEmpty then 0 else 1) < 30)) = true := by rfl)
    (hline : (apos.endLine == cpos.line) = true := by rfl) : PE X (.Call (.Attribute o "replace" apos) [.Constant (.str y) j1 p1, .Constant (.str z) j2 p2] [] cpos) (fun σ H Q => to σ H fun x H1 => XRepl y z x H1 Q) := by
  intro pins s σ H Q I h
  refine wpAny_Call_method_late hbase hfew hline rfl (thn (ho pins s σ H _ I h) fun v s1 ⟨x, H1, I1, r1, q1⟩ => ?_)
  obtain ⟨i, rfl, hb, q⟩ := q1
  obtain ⟨t, rfl⟩ := r1
  refine ⟨"str", "str.replace", F.plainAttrs_str, F.slot_str_replace, F.type_str_replace, typeIs_str _ _ _, (fun _ e => nomatch e), ?_⟩
  refine Calls.callWith_builtin rfl (Calls.evalArgs_plain ?_)
  show wpAny _ _ (spliced ((false, eval (.Constant (.str y) j1 p1) X.env) :: backTo cpos (starEach [.Constant (.str z) j2 p2] X.env))) _ _ _
  refine Calls.spliced_cons (Calls.Constant_str ?_)
  show wpAny _ _ (spliced ((false, eval (.Constant (.str z) j2 p2) X.env) :: backTo cpos (starEach [] X.env))) _ _ _
  refine Calls.spliced_cons (Calls.Constant_str ?_)
  refine Calls.spliced_nil ?_
  have k := I1.tk
  exact wpT (Nat.succ_pos _) (SC.replace (Nat.ne_of_gt k) (Nat.succ_ne_zero _) (Nat.ne_of_lt (Nat.lt_succ_self _)) hyz hb fun t' tk ht => ⟨.str _, H1, (I1.tok (s1.toks + 1) (Nat.succ_pos _)).tok _ ht, ⟨_, rfl⟩, q⟩)
inductive XSplit (x : V) (xs : List V) (H : Hp) (Q : VK) : Prop
  | mk (i j : Str) (e : x = .str i) (e2 : xs = [.str j]) (hj : (j.length == 0) = false) (hi : i.length + 2 ≤ sizeLine) (q : ∀ l, H l = none → Q (.ref l) (upd H l (.lst ((Txt.split i j).map .str)))) : XSplit x xs H Q
theorem vals_numbered : ∀ (ys : List Str) (n : Nat), Vals (ys.map .str) (strsFrom n ys)
  | [], _ => .nil
  | y :: ys, n => .cons ⟨n, rfl⟩ (vals_numbered ys (n + 1))
theorem Inv.lnewT {pins : List (Addr × Obj)} {σ : St} {H : Hp} {s : Shared} {its : List Value} {ys : List V} {t' : Nat} (I : Inv X pins σ H s) (hv : Vals ys its) (hz : ys.length ≤ sizeLine) (ht : 0 < t') :
    Inv X pins σ (upd H s.heap.objs.size (.tup ys)) { s with heap := s.heap.push { cls := .type "tuple", data := .seq its.toArray }, toks := t' } :=
  I.laid (fun _ _ q => Heap.get?_push_of_some _ q) (Nat.le_refl _) ⟨hz, its, hv, IsTup.new _ _⟩ ht
theorem parts_le (x y : Str) : (Builtin.Str.partsBetween x (Builtin.Str.occurrences x y 0 x.length (x.length + 1)) y.length).length ≤ x.length + 2 := by
  have h := StrLaws.occ_length_le x y 0 x.length (x.length + 1)
  rw [StrLaws.partsBetween_eq]
  have : ∀ (w a : Nat) (l : List Nat), (StrLaws.partsFrom x w a l).length = l.length + 1 := fun w a l => by
    induction l generalizing a with
    | nil => rfl
    | cons c l ih => show (StrLaws.partsFrom x w _ l).length + 1 = _; rw [ih]; rfl
  rw [this]; omega
theorem mt_split : MtR X "str.split" (fun x xs H Q => XSplit x xs H Q) := by
  intro pins s σ H x xs v us Q I rx r h
  obtain ⟨x, y, rfl, rfl, hy, hi, q⟩ := h
  obtain ⟨t, rfl⟩ := rx
  obtain ⟨u0, rfl, u, rfl⟩ := Vals.one r
  have hz := parts_le x y
  have k := I.tk
  have one : EP X pins σ Q (.ref s.heap.objs.size) { s with heap := s.heap.push { cls := .type "list", data := .seq [Value.str x t].toArray } } ∨ Txt.split x y ≠ [x] := by
    by_cases e : Txt.split x y = [x]
    · refine .inl ⟨.ref _, _, I.lnew (t' := s.toks) (ys := [V.str x]) (its := [Value.str x t]) (.cons ⟨t, rfl⟩ .nil) (by show 1 ≤ sizeLine; decide), rfl, ?_⟩
      have := q _ I.fresh
      rw [e] at this
      exact this
    · exact .inr e
  cases h1 : (decide (x.length < y.length) || decide (Builtin.Str.strKind x < Builtin.Str.strKind y))
  · cases hf : (Builtin.Str.occurrences x y 0 x.length (x.length + 1)).isEmpty
    · refine call_meets F.slot_str_split (typeIs_str _ _ _) F.entry_str_split (F.args_str_split_2 _ _) (meets_str_split_sep x y t u h1 hy hf (by omega) (by omega)) ?_
      have e : Txt.split x y = Builtin.Str.partsBetween x (Builtin.Str.occurrences x y 0 x.length (x.length + 1)) y.length := (if_neg (ne_true_of_eq_false h1)).trans (if_neg (ne_true_of_eq_false hf))
      refine ⟨.ref _, _, I.lnew (ys := (Txt.split x y).map .str) (by rw [e]; exact vals_numbered _ _) (by rw [List.length_map, e]; omega) (by omega), rfl, q _ I.fresh⟩
    · refine call_meets F.slot_str_split (typeIs_str _ _ _) F.entry_str_split (F.args_str_split_2 _ _) (meets_str_split_not_found x y t u h1 hy hf) ?_
      exact one.resolve_right fun z => z ((if_neg (ne_true_of_eq_false h1)).trans (if_pos hf))
  · refine call_meets F.slot_str_split (typeIs_str _ _ _) F.entry_str_split (F.args_str_split_2 _ _) (meets_str_split_cannot_occur x y t u h1) ?_
    exact one.resolve_right fun z => z (if_pos h1)
inductive XPartn (x : V) (xs : List V) (H : Hp) (Q : VK) : Prop
  | mk (i j : Str) (e : x = .str i) (e2 : xs = [.str j]) (hj : (j.length == 0) = false) (hi : i.length ≤ sizeLine) (q : ∀ l, H l = none → Q (.ref l) (upd H l (.tup [.str (Txt.partition i j).1, .str (Txt.partition i j).2.1, .str (Txt.partition i j).2.2]))) : XPartn x xs H Q
theorem mt_partition : MtR X "str.partition" (fun x xs H Q => XPartn x xs H Q) := by
  intro pins s σ H x xs v us Q I rx r h
  obtain ⟨x, y, rfl, rfl, hy, hi, q⟩ := h
  obtain ⟨t, rfl⟩ := rx
  obtain ⟨u0, rfl, u, rfl⟩ := Vals.one r
  refine call_meets F.slot_str_partition (typeIs_str _ _ _) F.entry_str_partition (F.args_str_partition_2 _ _) (meets_str_partition x y t u hy hi) ?_
  have q' := q _ I.fresh
  unfold Txt.partition at q'
  revert q'
  cases Builtin.Str.occurrences x y 0 x.length 1 with
  | nil => intro q'; exact ⟨.ref _, _, I.lnewT (ys := [.str x, .str Str.empty, .str Str.empty]) (.cons ⟨_, rfl⟩ (.cons ⟨_, rfl⟩ (.cons ⟨_, rfl⟩ .nil))) (by show 3 ≤ sizeLine; decide) (Nat.succ_pos _), rfl, q'⟩
  | cons i r => intro q'; exact ⟨.ref _, _, I.lnewT (ys := [.str (Builtin.Str.strSub x 0 i), .str y, .str (Builtin.Str.strSub x (i + y.length) x.length)]) (.cons ⟨_, rfl⟩ (.cons ⟨_, rfl⟩ (.cons ⟨_, rfl⟩ .nil))) (by show 3 ≤ sizeLine; decide) (Nat.succ_pos _), rfl, q'⟩
inductive XIntT (xs : List V) (H : Hp) (Q : VK) : Prop
  | mk (i : Str) (n : Int) (e : xs = [.str i]) (hn : PySem.intText? i = some n) (hi : i.length ≤ 640) (q : Q (.int n) H) : XIntT xs H Q
theorem call_int_text : CallR X (.type "int") (fun xs H Q => XIntT xs H Q) := by
  intro pins s σ H xs us Q I r h
  obtain ⟨i, n, rfl, hn, hi, q⟩ := h
  obtain ⟨u, rfl, t, rfl⟩ := Vals.one r
  exact PySem.W.KIN.call_text hn hi ⟨.int n, H, I.tok _, ⟨_, rfl⟩, q⟩
inductive XSlS (x : V) (lo hi : Option Int) (H : Hp) (Q : VK) : Prop
  | mk (i : Str) (e : x = .str i) (hz : i.length ≤ sizeLine) (q : Q (.str (Txt.slice i lo hi)) H) : XSlS x lo hi H Q
theorem part_of {v : Value} {o : Option Int} (h : IsPart v o) : ∃ l : Option (Int × Tok), v = partValue l ∧ o = l.map (·.1) := by
  cases h with
  | none => exact ⟨none, rfl, rfl⟩
  | int i t => exact ⟨some (i, t), rfl, rfl⟩
theorem sl_str : SlR X (fun x lo hi H Q => XSlS x lo hi H Q) := by
  intro pins s σ H x v vl vu lo hi sl Q I rx hs pl pu h
  obtain ⟨i, rfl, hz, q⟩ := h
  obtain ⟨t, rfl⟩ := rx
  obtain ⟨l, rfl, rfl⟩ := part_of pl
  obtain ⟨u, rfl, rfl⟩ := part_of pu
  refine ⟨"str", _, F.slot_str_getitem.lookup, typeIs_str _ _ _, ?_⟩
  refine wpT I.tk (wpAny_getItem_str_slice (l := l) (u := u) (st := none) hs rfl (post_val_or_str ⟨Nat.le_trans (Txt.slice_le i _ _) hz, fun t' k ht => ⟨.str _, H, I.tok _ ht, ⟨_, rfl⟩, q⟩⟩))
theorem ps_try {body : List Stmt} {h₀ : ExceptHandler} {hs : List ExceptHandler} {pos : Pos} {t : TS} (h : PSs X.nox body t) : PS X (.Try body (h₀ :: hs) [] [] pos) t := by
  intro pins s σ H D I hw
  refine wpAny_Try_except (wpAny_mono (h pins s σ H D (I.wish _) hw) (fun f s1 q => ?_) fun e s1 z => False.elim z)
  cases f with
  | next =>
    obtain ⟨σ', H', I', q⟩ := q
    exact pss_nil pins s1 σ' H' D I'.unwish q
  | ret v => obtain ⟨v, σ', H', I', q⟩ := q; exact ⟨v, σ', H', I'.unwish, q⟩
  | brk => obtain ⟨σ', H', I', q⟩ := q; exact ⟨σ', H', I'.unwish, q⟩
  | cont => obtain ⟨σ', H', I', q⟩ := q; exact ⟨σ', H', I'.unwish, q⟩
end
end L2


namespace Zf
open PySem L2
inductive SpShSign (vs : List V) (H : Hp) (Q : VK) : Prop
  | mk (n : Int) (l : List Nat) (h0 : vs = [.int n, .str (ofL l)]) (h1 : Q (.str (ofL (if n < 0 then [45] else if l = [] then [] else [43]))) H) : SpShSign vs H Q
noncomputable def spShSign : Sp := fun vs H Q _ => SpShSign vs H Q
inductive SpShPow (vs : List V) (H : Hp) (Q : VK) : Prop
  | mk (k : Nat) (h0 : vs = [.int (k : Int)]) (h1 : k ≤ 1000) (h2 : Q (.str (ofL (powL k))) H) : SpShPow vs H Q
noncomputable def spShPow : Sp := fun vs H Q _ => SpShPow vs H Q
inductive SpLineOf (K : PySem.W.Frag) (vs : List V) (H : Hp) (Q : VK) : Prop
  | mk (a : Addr) (c : List Int) (h0 : vs = [.ref a]) (h1 : SqL K H a (c.map V.int)) (h2 : GoodL c) (h3 : c.length ≤ 64) (h4 : ∀ x ∈ c, Bd 200 x) (h5 : ∀ H', Same H H' → Q (.str (ofL (lineL c))) H') : SpLineOf K vs H Q
noncomputable def spLineOf (K : PySem.W.Frag) : Sp := fun vs H Q _ => SpLineOf K vs H Q
inductive SpTrimL (K : PySem.W.Frag) (vs : List V) (H : Hp) (Q : VK) : Prop
  | mk (a : Addr) (xs : List Int) (h0 : vs = [.ref a]) (h1 : SqL K H a (xs.map V.int)) (h2 : xs.length ≤ 2000) (h3 : ∀ (r : Addr) (H' : Hp) (e : Nat), H r = none → Same H H' → Trim xs e → H' r = some (IL (xs.take e)) → Q (.ref r) H') : SpTrimL K vs H Q
noncomputable def spTrimL (K : PySem.W.Frag) : Sp := fun vs H Q _ => SpTrimL K vs H Q
theorem bt_str : bootBuiltins "str" = some (.type "str") := by decide +kernel
theorem log_lt {m k : Nat} (hk : 0 < k) (h : m < 2 ^ k) : m.log2 < k := by
  by_cases h0 : m = 0
  · subst h0; exact hk
  · exact (Nat.log2_lt h0).mpr h
theorem setT_snoc (z : List Int) (l : List (Nat × Int)) (p : Nat × Int) : setT z (l ++ [p]) = (setT z l).set p.1 p.2 := by
  unfold setT
  rw [List.foldl_append]; rfl

theorem cut_take {xs : List Int} {e : Nat} (h : e ≤ xs.length) : cutV (xs.map V.int) none (some (e : Int)) = (xs.take e).map V.int := by
  unfold cutV
  rw [HT.sIx_nat, HT.sIx_none, List.drop_zero, List.map_take, List.length_map]
  congr 1
  omega

theorem digs_bd {n : Int} (h : Bd 200 n) : (digs n.natAbs).length ≤ 61 := digs_len 61 _ (by decide) (Nat.lt_of_lt_of_le h (by decide +kernel))
theorem fig_len {k : Nat} {n : Int} (h : Bd 200 n) : (figL k n).length ≤ 61 := by
  unfold figL
  split
  · simp
  · exact digs_bd h
theorem pow_len {k : Nat} (h : k ≤ 1000) : (powL k).length ≤ 5 := by
  unfold powL
  split
  · simp
  · split
    · simp
    · have := digs_len 4 k (by decide) (by omega)
      simp only [List.length_cons]; omega
theorem tm_len {k : Nat} {n : Int} (h : Bd 200 n) (hk : k ≤ 1000) : (tmL k n).length ≤ 67 := by
  unfold tmL
  split
  · simp
  · have := fig_len (k := k) h
    have := pow_len hk
    simp only [List.length_cons, List.length_append]; omega
theorem bd_getD {c : List Int} (h : ∀ x ∈ c, Bd 200 x) (i : Nat) : Bd 200 (c.getD i 0) := by
  by_cases hi : i < c.length
  · exact h _ (gmem hi)
  · rw [getD_out (by omega)]; exact Bd.zero _
theorem full_len {c : List Int} (h : ∀ x ∈ c, Bd 200 x) : ∀ m : Nat, m ≤ 1000 → (fullUp c m).length ≤ 67 * m
  | 0, _ => by simp [fullUp]
  | m + 1, hm => by
    have ih := full_len h m (by omega)
    have := tm_len (bd_getD h m) (k := m) (by omega)
    rw [fullUp, List.length_append]; omega
theorem strip_len (l : List Nat) : (stripP l).length ≤ l.length := by
  cases l with
  | nil => simp [stripP]
  | cons x r => rw [stripP]; split <;> simp
theorem rep_len (l : List Nat) : (repL l).length ≤ 2 * l.length := by
  induction l with
  | nil => simp [repL]
  | cons x r ih =>
    unfold repL at ih ⊢
    rw [List.flatMap_cons, List.length_append, List.length_cons]
    split <;> simp only [List.length_cons, List.length_nil] <;> omega

theorem lit_nat (m : Nat) : (Str.ofString (toString ((m : Nat) : Int))) = ofL (digs m) := by
  rw [← of_toList (Str.ofString _), PySem.W.KIN.signs_num]; rfl
theorem split_len (c : Nat) : ∀ l : List Nat, (splitL c l).length = l.count c + 1
  | [] => rfl
  | x :: r => by
    have ih := split_len c r
    have hn := split_ne c r
    rw [splitL]
    by_cases h : x = c
    · rw [if_pos h, h, List.count_cons_self, List.length_cons, ih]
    · rw [if_neg h, List.count_cons_of_ne h, ← ih]
      cases e : splitL c r with
      | nil => exact absurd e hn
      | cons a b => rfl
theorem filter_getD {α : Type} (q : α → Bool) (d : α) (ps : List α) : ((List.range ps.length).filter fun k => q (ps.getD k d)).map (fun k => ps.getD k d) = ps.filter q := by
  have e : ps = (List.range ps.length).map fun k => ps.getD k d := by
    refine List.ext_getElem (by simp) fun i h1 h2 => ?_
    simp [List.getD_eq_getElem?_getD, h1]
  conv => rhs; rw [e, List.filter_map]
  rfl
theorem vals_eqV {α : Type} {g : α → V} {vs : List V} {n : Nat} {p : Nat → Bool} {f : Nat → α} (hl : vs.length = ((List.range n).filter p).length) (h : ∀ (j : Nat) (v : V) (k : Nat), vs[j]? = some v → ((List.range n).filter p)[j]? = some k → v = g (f k)) : vs = (((List.range n).filter p).map f).map g := by
  refine List.ext_getElem (by simp [hl]) fun i h1 h2 => ?_
  have hi : i < ((List.range n).filter p).length := by rw [← hl]; exact h1
  have := h i vs[i] _ (List.getElem?_eq_getElem h1) (List.getElem?_eq_getElem hi)
  rw [this]
  simp
theorem lit0 : (Str.ofString "" : Str) = ofL [] := by decide +kernel
theorem lit43 : (Str.ofString "+" : Str) = ofL [43] := by decide +kernel
theorem lit45 : (Str.ofString "-" : Str) = ofL [45] := by decide +kernel
theorem lit48 : (Str.ofString "0" : Str) = ofL [48] := by decide +kernel
theorem lit49 : (Str.ofString "1" : Str) = ofL [49] := by decide +kernel
theorem lit120 : (Str.ofString "x" : Str) = ofL [120] := by decide +kernel
theorem lit4345 : (Str.ofString "+-" : Str) = ofL [43, 45] := by decide +kernel
end Zf


namespace L2
open PySem PySem.Spec PyProof.Rows

structure Fly (P : Program) (w : World) (outer : List Env) (H : Hp) (s : Shared) (H' : Hp) (e : Addr) (C : Value) (s' : Shared) : Prop where
  os : s'.os = s.os
  bare : AllBare s'.gens
  fly : ∃ (B : Heap) (a0 : Value), Heap.FlyingW B outer e C a0 s'.heap ∧ (∀ b o, s.heap.get? b = some o → b ∉ frs outer → ∃ o', B.get? b = some o' ∧ (H b = none → b ≠ cStatics → o' = o)) ∧ (∀ b o, H' b = some o → ∃ o', B.get? b = some o') ∧ ∀ mc, s.heap.Ns cStatics mc → ∃ mc', B.Ns cStatics mc' ∧ ∀ y, y ≠ theRefusalsKey → mc' y = mc y
  un : Un (frs outer) [cStatics] H H' s.heap s'.heap
  hok : HOk P w H' s'.heap
  tk : 0 < s'.toks
  cs : s'.heap.get? cStatics = s.heap.get? cStatics
  cf : H' cStatics = none
theorem Fly.un' {P : Program} {w : World} {outer : List Env} {H : Hp} {s : Shared} {H' : Hp} {e : Addr} {C : Value} {s' : Shared} (F : Fly P w outer H s H' e C s') : Un (frs outer) [] H H' s.heap s'.heap := by
  refine ⟨fun b o q n hb _ => ?_, fun b o q n hb _ => ?_, fun b o q n _ => ?_, fun b o q _ => ?_, F.un.tups, F.un.frzs, F.un.tbls⟩
  · by_cases h : b = cStatics
    · subst h; exact F.cs.trans q
    · exact F.un.keep b o q n hb (by simpa using h)
  · by_cases h : b = cStatics
    · subst h; exact ⟨o.slots, F.cs.trans q⟩
    · exact F.un.slot b o q n hb (by simpa using h)
  · by_cases h : b = cStatics
    · subst h; exact F.cf
    · exact F.un.free b o q n (by simpa using h)
  · by_cases h : b = cStatics
    · subst h; exact ⟨o, F.cs.trans q⟩
    · exact F.un.there b o q (by simpa using h)
theorem Fly.fly' {P : Program} {w : World} {outer : List Env} {H : Hp} {s : Shared} {H' : Hp} {e : Addr} {C : Value} {s' : Shared} (F : Fly P w outer H s H' e C s') : ∃ (B : Heap) (a0 : Value), Heap.FlyingW B outer e C a0 s'.heap ∧ (∀ b o, s.heap.get? b = some o → b ∉ frs outer → ∃ o', B.get? b = some o' ∧ (H b = none → o' = o)) ∧ ∀ b o, H' b = some o → ∃ o', B.get? b = some o' := by
  obtain ⟨B, a0, fl, cov, trk, _⟩ := F.fly
  refine ⟨B, a0, fl, fun b o q n => ?_, trk⟩
  obtain ⟨o', h1, h2⟩ := cov b o q n
  refine ⟨o', h1, fun hn => ?_⟩
  by_cases h : b = cStatics
  · subst h
    have := fl.1 _ _ h1
    rw [F.cs, q] at this
    exact (Option.some.inj this).symm
  · exact h2 hn h

noncomputable def CXE (P : Program) (w : World) : CXT := fun outer H s E u s' => ∃ e C H', u = .ref e ∧ Fly P w outer H s H' e C s' ∧ E C none H'
section
variable {P : Program} {w : World} {H H' : Hp} {h h' B : Heap}

theorem HOk.on (x : HOk P w H h) (k : B.StaysIn h) (k' : B.StaysIn h') (t : ∀ b o, H b = some o → ∃ o', B.get? b = some o') : HOk P w H h' := fun a o e => by
  refine (x a o e).stay (fun b u hb q => ?_) (fun _ q => q) fun _ _ q => q
  have tb : ∃ o', B.get? b = some o' := by
    rcases hb with rfl | hb
    · exact t _ _ e
    · exact t _ _ hb
  obtain ⟨o', ho'⟩ := tb
  have := k b o' ho'
  rw [q] at this
  cases this
  exact k' b _ ho'
end
section
variable {P : Program} {w : World} {K : PySem.W.Frag} {mg : Str → Option Value} {base : Heap} {N : List Str} {qual : Str} {scope : Scope} {f : Addr} {cd : Value} {A : Around} {outer : List Env} {s₀ : Shared} {H₀ : Hp} {E : XK}

theorem Inv.stat {X : Cx} {pins : List (Addr × Obj)} {σ : St} {H : Hp} {s : Shared} (I : Inv X pins σ H s) : (∃ o, X.base.get? cStatics = some o) ∧ H cStatics = none ∧ X.H₀ cStatics = none ∧ ∀ b ∈ frs X.stack, b ≠ cStatics := by
  obtain ⟨mc, ⟨o, es, ep, ho, _⟩, _⟩ := I.ok.mod.nolimit
  refine ⟨⟨o, ho⟩, (I.bs _ o ho).2, (I.ok.bs _ o ho).2, fun b hb e => ?_⟩
  have := (I.stack.mem hb).1
  rw [e, ho] at this
  cases this
theorem un_over {X : Cx} {pins : List (Addr × Obj)} {σ : St} {H H' : Hp} {s : Shared} {B h' h'' : Heap} (I : Inv X pins σ H s) (hex : X.ex = []) (hst : X.stack = X.env :: X.outer) (hfr : X.env.frame = some X.env.locals)
    (cov : ∀ b o, s.heap.get? b = some o → b ∉ frs X.stack → ∃ o', B.get? b = some o' ∧ (H b = none → b ≠ cStatics → o' = o)) (un : Un (frs X.stack) [cStatics] H H' s.heap h') (k : B.StaysIn h'') (sm : h'.UpToSlots h'')
    (st : ∀ mc, s.heap.Ns cStatics mc → ∃ mc', B.Ns cStatics mc' ∧ ∀ y, y ≠ theRefusalsKey → mc' y = mc y) :
    Un X.fs [cStatics] X.H₀ H' X.s₀.heap h'' ∧ (∀ b o, X.s₀.heap.get? b = some o → b ∉ X.fs → ∃ o', B.get? b = some o' ∧ (X.H₀ b = none → b ≠ cStatics → o' = o)) ∧ ∀ mc, X.s₀.heap.Ns cStatics mc → ∃ mc', B.Ns cStatics mc' ∧ ∀ y, y ≠ theRefusalsKey → mc' y = mc y := by
  have nex : ∀ b : Addr, b ∉ X.ex := fun b z => by rw [hex] at z; exact absurd z (by simp)
  have neL : ∀ b o, X.s₀.heap.get? b = some o → b ≠ X.env.locals := fun b o e => Nat.ne_of_lt (Nat.lt_of_lt_of_le (Heap.lt_size e) I.ok.above)
  have nst : ∀ b o, X.s₀.heap.get? b = some o → b ∉ X.fs → b ∉ frs X.stack := fun b o e hb hm => by
    rcases List.mem_cons.mp (I.stkSub b hm) with z | z
    · exact neL b o e z
    · exact hb z
  have sub : ∀ b, b ∈ X.fs → b ∈ frs X.stack := fun b hb => by
    rw [hst]
    unfold frs
    rw [List.filterMap_cons, hfr]
    exact List.mem_cons_of_mem _ hb
  obtain ⟨⟨o2, ho2⟩, h2, h20, fsn⟩ := I.stat
  have cov' : ∀ b o, X.s₀.heap.get? b = some o → b ∉ X.fs → ∃ o', B.get? b = some o' ∧ (X.H₀ b = none → b ≠ cStatics → o' = o) := fun b o e hb => by
    obtain ⟨o1, e1⟩ := I.base.there b o e (nex b)
    obtain ⟨o', ho', ho⟩ := cov b o1 e1 (nst b o e hb)
    refine ⟨o', ho', fun n n2 => ?_⟩
    have e2 := I.base.keep b o e n hb (nex b)
    rw [e1] at e2
    cases e2
    exact ho (I.base.free b o e n (nex b)) n2
  have slot : ∀ b o, X.s₀.heap.get? b = some o → X.H₀ b = none → b ∈ X.fs → ∃ sl, h''.get? b = some { o with slots := sl } := fun b o e n hb => by
    obtain ⟨sl, e1⟩ := I.base.slot b o e n hb (nex b)
    obtain ⟨sl', e2⟩ := un.slot b _ e1 (I.base.free b o e n (nex b)) (sub b hb) (by simpa using fsn b (sub b hb))
    obtain ⟨_, o', ho', hnf⟩ := I.ok.funs.mem hb
    rw [e] at ho'
    cases ho'
    obtain ⟨sl'', e3⟩ := sm b _ e2 hnf
    exact ⟨sl'', e3⟩
  refine ⟨⟨fun b o e n hb hx => ?_, fun b o e n hb _ => slot b o e n hb, fun b o e n hx => ?_, fun b o e _ => ?_, fun b xs q => un.tups b xs (I.base.tups b xs q), fun b o xs q => un.frzs b o xs (I.base.frzs b o xs q), fun b ps q => ?_⟩, cov', fun mc hm => ?_⟩
  · obtain ⟨o', ho', ho⟩ := cov' b o e hb
    rw [ho n (by simpa using hx)] at ho'
    exact k b o ho'
  · obtain ⟨o1, e1⟩ := I.base.there b o e (nex b)
    exact un.free b o1 e1 (I.base.free b o e n (nex b)) hx
  · by_cases hb : b ∈ X.fs
    · obtain ⟨sl, q⟩ := slot b o e (I.ok.frf b hb) hb
      exact ⟨_, q⟩
    · obtain ⟨o', ho', _⟩ := cov' b o e hb
      exact ⟨o', k b o' ho'⟩
  · obtain ⟨m1, e1⟩ := I.base.tbls b ps q
    obtain ⟨m2, e2⟩ := un.tbls b _ e1
    exact ⟨m1 ++ m2, by rw [e2, Array.append_assoc]⟩
  · refine st mc ?_
    obtain ⟨o, es, ep, ho, r⟩ := hm
    exact ⟨o, es, ep, I.base.keep _ o ho h20 (fun hb => fsn _ (sub _ hb) rfl) (nex _), r⟩

theorem cs_over {X : Cx} {pins : List (Addr × Obj)} {σ : St} {H : Hp} {s : Shared} {B h' h'' : Heap} (I : Inv X pins σ H s) (st : ∀ mc, s.heap.Ns cStatics mc → ∃ mc', B.Ns cStatics mc' ∧ ∀ y, y ≠ theRefusalsKey → mc' y = mc y) (k : B.StaysIn h') (k' : B.StaysIn h'') (cs : h'.get? cStatics = s.heap.get? cStatics) : h''.get? cStatics = X.s₀.heap.get? cStatics := by
  obtain ⟨mc, hm, _⟩ := I.nolimit
  obtain ⟨mc', ⟨o, es, ep, ho, _⟩, _⟩ := st mc hm
  obtain ⟨⟨ob, hob⟩, _⟩ := I.stat
  have h1 := k _ _ ho
  have h2 := (I.bs _ _ hob).1
  have h3 := (I.ok.bs _ _ hob).1
  rw [cs, h2] at h1
  rw [k' _ _ ho, h3, h1]

theorem passE : Passes (CXE P w) (cxOf (CXE P w) P w K mg base N qual scope f cd A outer s₀ H₀ E) E := by
  rintro pins σ H s u s' I ⟨e, C, H', rfl, F, hE⟩
  obtain ⟨B, a0, fl, cov, trk, st⟩ := F.fly
  refine wpAny_leaves_onW I.ok.frames rfl fl fun h'' fl' sm => ⟨e, C, H', rfl, ?_, hE⟩
  obtain ⟨un, cov', st'⟩ := un_over I rfl rfl rfl cov F.un fl'.1 sm st
  exact ⟨F.os.trans I.os, F.bare, ⟨B, a0, fl', cov', trk, st'⟩, un, F.hok.on fl.1 fl'.1 trk, F.tk, cs_over I st fl.1 fl'.1 F.cs, F.cf⟩
end

theorem HOk.there {P : Program} {w : World} {H : Hp} {h : Heap} {a : Addr} {o : HO} (x : HOk P w H h) (e : H a = some o) : ∃ ob, h.get? a = some ob := by
  have y := x a o e
  cases o with
  | lst xs => exact ⟨_, y.2.choose_spec.choose_spec.2⟩
  | tup xs => obtain ⟨_, _, _, ob, e1, _⟩ := y; exact ⟨_, e1⟩
  | dK kvs => obtain ⟨_, _, _, _, ob, _, _, e1, _⟩ := y; exact ⟨_, e1⟩
  | dT kvs => obtain ⟨_, _, _, _, ob, _, _, e1, _⟩ := y; exact ⟨_, e1⟩
  | set S n => obtain ⟨ob, _, _, _, e1, _⟩ := y; exact ⟨_, e1⟩
  | ins C dx fs => exact ⟨_, y.2.2.2.1⟩
  | own y' => exact y
  | xd fs => obtain ⟨_, ⟨_, _, _, e1, _⟩, _⟩ := y; exact ⟨_, e1⟩
  | rng lo hi => obtain ⟨_, _, _, e1⟩ := y; exact ⟨_, e1⟩
  | frz ob u => exact ⟨_, y.1⟩
  | tbl ps => exact ⟨_, y⟩
  | met f z => exact ⟨_, y⟩
  | ext φ => exact y.2.1

theorem cls_exc {K : PySem.W.Frag} {h : Heap} {C : Addr} {bmB : List Value} {newId : String} (X : K.In h) (q : PySem.W.excIn K C bmB newId = true) :
    ∃ bm N nm qn bs hd sn sub ab col dd k0 k1 k2 k3 k5 mN, h.get? C = some (excClassObj nm qn C N bs bm hd sn sub ab col dd k0 k1 k2 k3 k5 newId) ∧ h.Ns N mN ∧ mN "__init__" = none ∧ OwnTail h bmB bm := by
  revert q
  unfold PySem.W.excIn
  rcases ho : K.lookup C with _ | ⟨c0, dd, dat, sl⟩
  · intro q; cases q
  intro q
  have hC := X C _ ho
  split at q
  case h_2 => cases q
  case h_1 z dd' cd sl' hz =>
    cases hz
    split at q
    case h_2 => cases q
    case h_1 z1 z2 C' bm k0 k1 k2 k3 n k5 em es =>
      rw [Bool.and_eq_true, Bool.and_eq_true, Bool.and_eq_true, Bool.and_eq_true, Bool.and_eq_true] at q
      obtain ⟨⟨⟨⟨⟨q1, q2⟩, q3⟩, q4⟩, q5⟩, q6⟩ := q
      have e1 := beq_iff_eq.mp q1
      have e2 := beq_iff_eq.mp q2
      have e3 : cd.hasDel = false := by cases e : cd.hasDel <;> rw [e] at q3 <;> simp_all
      have e4 : sl = #[k0, k1, k2, k3, some (.builtin n), k5] := Array.toList_inj.mp es
      subst e1 e2 e4
      cases cd
      cases em
      cases e3
      exact ⟨bm, _, _, _, _, _, _, _, _, _, dd, k0, k1, k2, k3, k5, _, hC, .of_isNs (PySem.W.isNs_of_in X q5), PySem.W.nsMap_none_of_in X q5 (beq_iff_eq.mp q6), PySem.W.tail_of_in X q4⟩

noncomputable def tRaise (E : XK) (C : Addr) (t : TA) : TS := fun _ σ H => t σ H fun vs H1 => vs.length ≤ sizeLine ∧ E (.ref C) none H1
section
variable {P : Program} {w : World} {K : PySem.W.Frag} {mg : Str → Option Value} {base : Heap} {N : List Str} {qual : Str} {scope : Scope} {f : Addr} {cd : Value} {A : Around} {outer : List Env} {s₀ : Shared} {H₀ : Hp} {E : XK}

theorem leaveE {pins : List (Addr × Obj)} {σ : St} {H : Hp} {s : Shared} {h' : Heap} {e C : Addr} {args : List Value} (I : Inv (cxOf (CXE P w) P w K mg base N qual scope f cd A outer s₀ H₀ E) pins σ H s) (hx : Heap.MadeExcOf s.heap h' e (.ref C) args) (hE : E (.ref C) none H) :
    (cxOf (CXE P w) P w K mg base N qual scope f cd A outer s₀ H₀ E).xe (.ref e) { s with heap := h' } := by
  have free := I.stkFree
  have st : (PySem.W.hideAll s.heap (frs (cxOf (CXE P w) P w K mg base N qual scope f cd A outer s₀ H₀ E).stack)).StaysIn s.heap := fun b o q => PySem.W.of_hideAll _ q
  have cov : ∀ b o, s.heap.get? b = some o → b ∉ frs (cxOf (CXE P w) P w K mg base N qual scope f cd A outer s₀ H₀ E).stack → ∃ o', (PySem.W.hideAll s.heap (frs (cxOf (CXE P w) P w K mg base N qual scope f cd A outer s₀ H₀ E).stack)).get? b = some o' ∧ (H b = none → b ≠ cStatics → o' = o) :=
    fun b o q n => ⟨o, PySem.W.hideAll_get _ q n, fun _ _ => rfl⟩
  have trk : ∀ b o, H b = some o → ∃ o', (PySem.W.hideAll s.heap (frs (cxOf (CXE P w) P w K mg base N qual scope f cd A outer s₀ H₀ E).stack)).get? b = some o' := fun b o q => by
    obtain ⟨o', ho'⟩ := I.hok.there q
    exact ⟨o', PySem.W.hideAll_get _ ho' fun m => by rw [free b m] at q; cases q⟩
  refine wpAny_leaves_madeW (s := { s with heap := h' }) (base := PySem.W.hideAll s.heap (frs (cxOf (CXE P w) P w K mg base N qual scope f cd A outer s₀ H₀ E).stack)) (h := s.heap) I.ok.frames rfl st (PySem.W.funFrames_hide I.stack fun env he a ha => List.mem_filterMap.mpr ⟨env, he, ha⟩) hx fun h'' t fl tup hn sm => ?_
  have stn : ∀ mc, s.heap.Ns cStatics mc → ∃ mc', (PySem.W.hideAll s.heap (frs (cxOf (CXE P w) P w K mg base N qual scope f cd A outer s₀ H₀ E).stack)).Ns cStatics mc' ∧ ∀ y, y ≠ theRefusalsKey → mc' y = mc y := fun mc ⟨o, es, ep, ho, r⟩ =>
    ⟨mc, ⟨o, es, ep, PySem.W.hideAll_get _ ho fun hb => I.stat.2.2.2 _ hb rfl, r⟩, fun _ _ => rfl⟩
  obtain ⟨un, cov', st'⟩ := un_over I rfl rfl rfl cov (Un.kept hx.keeps) fl.1 sm stn
  exact ⟨e, .ref C, H, rfl, ⟨I.os, I.bare, ⟨_, .ref t, fl, cov', trk, st'⟩, un, I.hok.on st fl.1 trk, I.tk, cs_over I stn st fl.1 rfl, I.stat.2.1⟩, hE⟩
theorem ps_raiseE {x : Str} {np cpos pos : Pos} {e : Expr} {es : List Expr} {t : TA} {C : Addr} {B newId initId : String} {bmB : List Value} (F : ExcBaseFacts B newId initId bmB) (hg : Gl (cxOf (CXE P w) P w K mg base N qual scope f cd A outer s₀ H₀ E) x) (hm : mg x = some (.ref C))
    (hq : PySem.W.excIn K C bmB newId = true) (ha : PA (cxOf (CXE P w) P w K mg base N qual scope f cd A outer s₀ H₀ E) (e :: es) t) (hdb : (x == ("__debug__" : Str)) = false := by decide)
    (he : starEach (e :: es) (cxOf (CXE P w) P w K mg base N qual scope f cd A outer s₀ H₀ E).env = (false, eval e (cxOf (CXE P w) P w K mg base N qual scope f cd A outer s₀ H₀ E).env) :: starEach es (cxOf (CXE P w) P w K mg base N qual scope f cd A outer s₀ H₀ E).env := by rfl)
    (hpl : (backTo cpos (starEach (e :: es) (cxOf (CXE P w) P w K mg base N qual scope f cd A outer s₀ H₀ E).env)).any (·.1) = false := by rfl) :
    PS (cxOf (CXE P w) P w K mg base N qual scope f cd A outer s₀ H₀ E) (.Raise (some (.Call (.Name x np) (e :: es) [] cpos)) none pos) (tRaise E C t) := by
  intro pins s σ H D I h
  obtain ⟨bm, Nn, nm, qn, bs, hd, sn, sub, ab, col, dd, k0, k1, k2, k3, k5, mN, hC, hN, hni, T⟩ := cls_exc I.ok.mod.kin hq
  refine wpAny_Raise_call_subT (nm := nm) (q := qn) (N := Nn) (bs := bs) (hdct := hd) (sn := sn) (sub := sub) (ab := ab) (col := col) (dd := dd) (k0 := k0) (k1 := k1) (k2 := k2) (k3 := k3) (k5 := k5) F (T.hasType F.hasBase) (I.ok.hd rfl) hpl hni (ld_glob I hg hm ⟨rfl, ?_⟩ hdb)
  have hb : ∃ rest, backTo cpos (starEach (e :: es) (cxOf (CXE P w) P w K mg base N qual scope f cd A outer s₀ H₀ E).env) = (false, eval e (cxOf (CXE P w) P w K mg base N qual scope f cd A outer s₀ H₀ E).env) :: rest := ⟨_, by rw [he]; rfl⟩
  obtain ⟨rest, hb⟩ := hb
  have q := ha cpos pins s σ H _ I h
  rw [hb] at q ⊢
  refine Calls.evalArgs_plain (thn q fun us s2 z => ?_)
  obtain ⟨vs, H1, I1, r, hl, hE⟩ := z
  exact ⟨rfl, by rw [← r.length]; exact hl, I1.bk _ _ hC, hN.keeps I1.bk, T.keeps I1.bk, fun h' e' hx => leaveE I1 hx hE⟩
end

section
variable {P : Program} {w : World} {K : PySem.W.Frag} {mg : Str → Option Value} {base : Heap}

theorem FnOk.any {CX : CXT} {k : Nat} {f : Addr} {fd : FuncData} {ps : List Str} {sp : Sp} (F : FnOk P w K mg base CX0 k f fd ps sp) : FnOk P w K mg base CX k f fd ps sp := ⟨F.len, fun A outer s H args us vs Q E hr he hb hv hs => codeAny_mono (F.run A outer s H args us vs Q E hr he hb hv hs) fun r s' q => by
  cases r with
  | ok fl => cases fl <;> exact q
  | error e => exact q.elim⟩
end
end L2


namespace L2
open PySem PySem.Spec PySem.Calls PyProof.Rows PySem.W Builtin.Getset_descriptor

noncomputable def ExcAt (h : Heap) (x D : Addr) : Prop := ∃ ox, h.get? x = some ox ∧ ox.cls = .ref D
theorem ExcAt.type {M : Model} {h : Heap} {x D : Addr} (I : ExcAt h x D) : Looks M h (typeOf (.ref x)) (.ref D) := by
  obtain ⟨o, h1, h2⟩ := I
  exact h2 ▸ (Looks.ld h1).andThen .now
theorem find_data {K : Frag} {M : Model} {h : Heap} {x D : Addr} {name : Str} {a g : Value} (X : K.In h) (ha : findIn K (.ref D) name = some (some a)) (hg : specialIn K a "__get__" = some (some g)) (ht : takesIn K a = some true) :
    Looks M h (Builtin.ObjectAttr.find (.ref x) (.ref D) name) (.bind g a) := by
  refine (looks_findIn X ha).andThen ((looks_specialIn X hg).andThen ?_)
  have L3 := looks_takesIn (M := M) X ht
  have L4 : Looks M h (Builtin.ObjectAttr.dataDescriptor? (some a) (some g)) (some (g, a)) := L3.andThen .now
  exact L4.andThen (Looks.tag .now)
section
variable {prog : Program} {w : World} {A : Around} {E : Value → Shared → Prop} {s : Shared} {K : Frag} {x D : Addr}
theorem exc_check {M : Model} {nameV : Value} {Q : Unit → Shared → Prop} (X : K.In s.heap) (I : ExcAt s.heap x D) (hb : subIn K (.ref D) (.type "BaseException") = some true) (h : Q () s) :
    wpAny M A (checkBuiltinCall "BaseException.__getattribute__" ⟨[.ref x, nameV], []⟩) Q E s := by
  obtain ⟨hh, g, d, t, os⟩ := s
  have L0 := I.type (M := M)
  have L3 := looks_subIn (M := M) X hb
  have hk : builtinKind "BaseException.__getattribute__" = some .slot := by decide +kernel
  have hsplit : splitId "BaseException.__getattribute__" = some ("BaseException", "__getattribute__") := by decide +kernel
  have ha := F.args_bexc_ga (.ref x) nameV
  simp only [checkBuiltinCall, hk, hsplit]
  refine wpAny_bind ?_
  unfold isInstance
  refine wpAny_bind (L0.at (L3.at ?_))
  repeat (first | exact h | wp_step)
theorem exc_get {R : Result → Shared → Prop} {tp : Value} (X : K.In s.heap) (I : ExcAt s.heap x D) (hm : mroIn K D (.type "object") = some true) (h : R (.ok (.ret (.ref D))) s) :
    codeAny (model prog w) A (.call (.builtin "getset_descriptor.__get__") ⟨[.builtin "object.__class__", .ref x, tp], []⟩) R s := by
  have L0 := I.type (M := model prog w)
  have L1 := looks_mroIn (M := model prog w) X hm
  obtain ⟨hh, g, dr, t, os⟩ := s
  refine codeAny_call_builtin KF.slot_gs.plain KF.entry_gs ?_
  refine KF.slot_gs.check _ _ _ _ _ _ _ _ KF.type_class (KF.args_gs _ _ _) ?_
  unfold Builtin.«getset_descriptor.__get__» descrGet; rw [dga_obj]; refine wpAny_bind (wpAny_pure ?_)
  unfold descrGetter descrCheckInstance descrNameAndClass isInstance; simp only [KF.owner_class]
  repeat lk
  refine ⟨Code.quiet_builtin _ (by decide +kernel), ?_⟩
  refine codeAny_builtin KF.entry_class ?_
  unfold Builtin.«object.__class__» shownTypeOf; (repeat lk); exact h
theorem exc_entry {tk : Tok} {Q : Fin → Shared → Prop} (X : K.In s.heap) (I : ExcAt s.heap x D) (hf : findIn K (.ref D) "__class__" = some (some (.builtin "object.__class__"))) (hs : specialIn K (.builtin "object.__class__") "__get__" = some (some (.builtin "getset_descriptor.__get__"))) (ht : takesIn K (.builtin "object.__class__") = some true) (hm : mroIn K D (.type "object") = some true)
    (h : Q (.done (.ret (.ref D))) s) : wpAny (model prog w) A (Builtin.«object.__getattribute__» ⟨[.ref x, .str "__class__" tk], []⟩) Q E s := by
  obtain ⟨hh, g, d, t, os⟩ := s
  have L0 := I.type (M := model prog w)
  have L4 := find_data (x := x) (M := model prog w) X hf hs ht
  unfold Builtin.«object.__getattribute__»
  refine wpAny_bind (wpAny_pure ?_)
  refine wpAny_bind (wpAny_pure ?_)
  refine wpAny_bind (L0.at ?_)
  refine wpAny_bind (L4.at ?_)
  show wpAny _ _ (holding [Value.builtin "object.__class__"] (call (.builtin "getset_descriptor.__get__") [.builtin "object.__class__", .ref x, .ref D]) >>= fun v => _) _ _ _
  refine wpAny_bind (wpAny_holding (wpAny_call (exc_get (s := ⟨hh, g, d, t, os⟩) X I hm ?_)))
  exact wpAny_pure h
theorem exc_class {Q : Option Value → Shared → Prop} (X : K.In s.heap) (I : ExcAt s.heap x D) (hga : findIn K (.ref D) "__getattribute__" = some (some (.builtin "BaseException.__getattribute__"))) (hno : findIn K (.ref D) "__getattr__" = some none)
    (hb : subIn K (.ref D) (.type "BaseException") = some true) (hf : findIn K (.ref D) "__class__" = some (some (.builtin "object.__class__"))) (hs : specialIn K (.builtin "object.__class__") "__get__" = some (some (.builtin "getset_descriptor.__get__"))) (ht : takesIn K (.builtin "object.__class__") = some true) (hm : mroIn K D (.type "object") = some true)
    (h : Q (some (.ref D)) { s with toks := s.toks + 1 }) : wpAny (model prog w) A (getAttr? (.ref x) "__class__") Q E s := by
  obtain ⟨hh, g, d, t, os⟩ := s
  have L0 := I.type (M := model prog w)
  have L1 := looks_findIn (M := model prog w) X hga
  have L2 := looks_findIn (M := model prog w) X hno
  unfold getAttr? getAttrBy? getAttrBy
  refine wpAny_bind (wpAny_mkText (wpAny_bind (wpAny_attempt (wpAny_holding (wpAny_bind (L0.at (wpAny_bind (L1.at ?_))))))))
  have hx2 : (onTheHeap (Value.ref D) && Value.builtin "BaseException.__getattribute__" == Value.builtin "object.__getattribute__") = false := by rw [show (Value.builtin "BaseException.__getattribute__" == Value.builtin "object.__getattribute__") = false from by decide +kernel, Bool.and_false]
  show wpAny _ _ (if (onTheHeap (Value.ref D) && Value.builtin "BaseException.__getattribute__" == Value.builtin "object.__getattribute__") = true then _ else _) _ _ _
  rw [hx2, if_neg (by decide)]
  unfold getAttrByItsOwn
  refine wpAny_bind (L2.at ?_)
  refine wpAny_bind (wpAny_attempt (wpAny_holding ?_))
  show wpAny _ _ (boundAndCalled _ _ _) _ _ _
  unfold boundAndCalled
  rw [PySem.F.attr_ValueError.ga.bind (.ref x)]
  refine wpAny_bind (wpAny_pure ?_)
  refine wpAny_call (codeAny_call_builtin PySem.F.attr_ValueError.ga.plain F.entry_bexc_ga ?_)
  refine exc_check X I hb (exc_entry X I hf hs ht hm ?_)
  exact handed_on rfl (wpAny_pure h)

theorem kitx_exc (hc : (clsIn K D).isSome = true) (hga : findIn K (.ref D) "__getattribute__" = some (some (.builtin "BaseException.__getattribute__"))) (hno : findIn K (.ref D) "__getattr__" = some none)
    (hb : subIn K (.ref D) (.type "BaseException") = some true) (hf : findIn K (.ref D) "__class__" = some (some (.builtin "object.__class__"))) (hs : specialIn K (.builtin "object.__class__") "__get__" = some (some (.builtin "getset_descriptor.__get__"))) (ht : takesIn K (.builtin "object.__class__") = some true) (hm : mroIn K D (.type "object") = some true) :
    KitX K (.ref x) (.ref D) (fun h => ExcAt h x D) where
  ty := fun _ _ _ I => I.type
  it := fun _ _ X _ => by
    unfold clsIn at hc
    split at hc
    case h_2 => cases hc
    case h_1 ho =>
      intro A' Q' E' s' k q
      unfold isType loadHead
      exact wpAny_bind (wpAny_loadPart (k _ _ (X _ _ ho)) (wpAny_pure q))
  ne := fun h tp dd its n sl X htp => by
    refine Bool.eq_false_iff.mpr fun q => ?_
    have e : D = tp := Value.ref.inj (beq_iff_eq.mp q)
    subst e
    unfold clsIn at hc
    split at hc
    case h_2 => cases hc
    case h_1 ho =>
      have := X _ _ ho
      rw [htp] at this
      cases this
  ca := fun X I k => exc_class X I hga hno hb hf hs ht hm k
end

structure ExcK (K : Frag) (D : Addr) : Prop where
  hc : (clsIn K D).isSome = true
  ga : findIn K (.ref D) "__getattribute__" = some (some (.builtin "BaseException.__getattribute__"))
  no : findIn K (.ref D) "__getattr__" = some none
  hb : subIn K (.ref D) (.type "BaseException") = some true
  hf : findIn K (.ref D) "__class__" = some (some (.builtin "object.__class__"))
  hs : specialIn K (.builtin "object.__class__") "__get__" = some (some (.builtin "getset_descriptor.__get__"))
  ht : takesIn K (.builtin "object.__class__") = some true
  hm : mroIn K D (.type "object") = some true

noncomputable def excO (e D : Addr) : HO := .ext fun h => ExcAt h e D

inductive XIsE (K : Frag) (xs : List V) (H : Hp) (Q : VK) : Prop
  | mk (e D : Addr) (c : V) (cv : Value) (k : Bool) (h0 : xs = [.ref e, c]) (h1 : H e = some (excO e D)) (h2 : ExcK K D) (h3 : ∀ u, RelV c u → u = cv) (h4 : kitOne K (.ref D) cv = some k) (h5 : Q (.bl k) H) : XIsE K xs H Q
noncomputable def rIsE (K : Frag) : List V → Hp → VK → Prop := fun xs H Q => XIsE K xs H Q
theorem call_isE {X : Cx} : CallR X (.builtin "isinstance") (rIsE X.K) := by
  rintro pins s σ H xs us Q I r ⟨e, D, c, cv, k, rfl, h1, h2, h3, h4, q⟩
  obtain ⟨u, w', rfl, r1, r2⟩ := vals2 r
  cases r1
  cases h3 _ r2
  have p : ExcAt s.heap e D := (I.hok e _ h1).1
  exact wpT I.tk (kia_one (kitx_exc h2.hc h2.ga h2.no h2.hb h2.hf h2.hs h2.ht h2.hm) I.kIn p h4 (by intro z; cases z) fun tk ht => ⟨.bl k, H, I.tok tk ht, rfl, q⟩)
theorem call_isK {X : Cx} {K : Frag} (hK : X.K = K) : CallR X (.builtin "isinstance") (rIsE K) := by
  subst hK
  exact call_isE
end L2

namespace L2
open PySem PySem.Calls PySem.NumText PyProof.Rows
section
variable {M : Model} {A : Around} {E : Value → Shared → Prop} {s : Shared}
end
section
variable {prog : Program} {w : World} {A : Around} {E : Value → Shared → Prop} {s : Shared}
end

inductive Refd (h : Heap) (mc : Str → Option Value) (h' : Heap) (e : Addr) : Prop
  | no (args : List Value) (m : Heap.MadeExc h h' e "ValueError" args) : Refd h mc h' e
  | yes (args : List Value) (h1 : Heap) (v : Value) (m : Heap.MadeExc h h1 e "ValueError" args) (n : h'.Ns cStatics (fun y => if y = theRefusalsKey then some v else mc y)) (b : Heap.SameBut cStatics h1 h') : Refd h mc h' e
end L2


namespace L2
open PySem PySem.Spec PyProof.Rows
theorem fun_keep {h h' b : Heap} : ∀ {l : List Env}, h.FunFrames b l → (∀ a ∈ frs l, ∀ o, h.get? a = some o → h'.get? a = some o) → h'.FunFrames b l
  | [], _, _ => trivial
  | env :: l, ⟨hk, ⟨L, o, hf, hn, ho, hd⟩, hr⟩, k => by
    have sub : ∀ a, a ∈ frs l → a ∈ frs (env :: l) := fun a ha => by
      unfold frs
      rw [List.filterMap_cons, hf]
      exact List.mem_cons_of_mem _ ha
    have hL : L ∈ frs (env :: l) := by
      unfold frs
      rw [List.filterMap_cons, hf]
      exact List.mem_cons_self
    exact ⟨hk, ⟨L, o, hf, hn, k L hL o ho, hd⟩, fun_keep hr fun a ha => k a (sub a ha)⟩
theorem fun_slots {h h' b : Heap} : ∀ {l : List Env}, h.FunFrames b l → (∀ a ∈ frs l, ∀ o, h.get? a = some o → ∃ sl, h'.get? a = some { o with slots := sl }) → h'.FunFrames b l
  | [], _, _ => trivial
  | env :: l, ⟨hk, ⟨L, o, hf, hn, ho, hd⟩, hr⟩, k => by
    have sub : ∀ a, a ∈ frs l → a ∈ frs (env :: l) := fun a ha => by
      unfold frs
      rw [List.filterMap_cons, hf]
      exact List.mem_cons_of_mem _ ha
    have hL : L ∈ frs (env :: l) := by
      unfold frs
      rw [List.filterMap_cons, hf]
      exact List.mem_cons_self
    obtain ⟨sl, q⟩ := k L hL o ho
    exact ⟨hk, ⟨L, _, hf, hn, q, hd⟩, fun_slots hr fun a ha => k a (sub a ha)⟩
section
variable {P : Program} {w : World} {K : PySem.W.Frag} {mg : Str → Option Value} {base : Heap} {N : List Str} {qual : Str} {scope : Scope} {f : Addr} {cd : Value} {A : Around} {outer : List Env} {s₀ : Shared} {H₀ : Hp} {E : XK}

theorem leaveG {pins : List (Addr × Obj)} {σ : St} {H : Hp} {s : Shared} {h' : Heap} {tk : Nat} {e C : Addr} {oe : Obj} {vs : Array Value} {a0 : Value} (I : Inv (cxOf (CXE P w) P w K mg base N qual scope f cd A outer s₀ H₀ E) pins σ H s)
    (kp : ∀ b o, b ≠ cStatics → b ∉ frs (cxOf (CXE P w) P w K mg base N qual scope f cd A outer s₀ H₀ E).stack → s.heap.get? b = some o → h'.get? b = some o) (sl : ∀ b o, b ≠ cStatics → s.heap.get? b = some o → ∃ sl, h'.get? b = some { o with slots := sl }) (st : ∀ mc, s.heap.Ns cStatics mc → ∃ mc', h'.Ns cStatics mc' ∧ ∀ y, y ≠ theRefusalsKey → mc' y = mc y) (new : s.heap.get? e = none) (cs : h'.get? cStatics = s.heap.get? cStatics)
    (he : h'.get? e = some oe) (hc : oe.cls = .ref C) (hd : oe.data = .fields vs) (h0 : vs[0]? = some a0) (h1 : vs[1]? = some .none) (ht : 0 < tk) (hE : E (.ref C) none H) :
    (cxOf (CXE P w) P w K mg base N qual scope f cd A outer s₀ H₀ E).xe (.ref e) { s with heap := h', toks := tk } := by
  obtain ⟨X, hX⟩ : ∃ X, X = cxOf (CXE P w) P w K mg base N qual scope f cd A outer s₀ H₀ E := ⟨_, rfl⟩
  have free := I.stkFree
  obtain ⟨⟨o2, ho2⟩, h2, h20, fsn⟩ := I.stat
  obtain ⟨mc0, hmc0, _⟩ := I.nolimit
  have hst2 : ∃ o, h'.get? cStatics = some o := by
    obtain ⟨mc', ⟨o, _, _, ho, _⟩, _⟩ := st mc0 hmc0
    exact ⟨o, ho⟩
  rw [← hX] at free fsn kp ⊢
  have Bst : (PySem.W.hideAll h' (e :: frs X.stack)).StaysIn h' := fun b o q => PySem.W.of_hideAll _ q
  have Be : (PySem.W.hideAll h' (e :: frs X.stack)).get? e = none := PySem.W.hideAll_none _ List.mem_cons_self
  have all : ∀ b o, s.heap.get? b = some o → b ∉ frs X.stack → ∃ o', h'.get? b = some o' ∧ (b ≠ cStatics → o' = o) := fun b o q n => by
    by_cases hb : b = cStatics
    · obtain ⟨o', ho'⟩ := hst2
      exact ⟨o', by rw [hb]; exact ho', fun z => absurd hb z⟩
    · exact ⟨o, kp b o hb n q, fun _ => rfl⟩
  have nb : ∀ b o, s.heap.get? b = some o → b ≠ e := fun b o q z => by rw [z, new] at q; cases q
  have cov : ∀ b o, s.heap.get? b = some o → b ∉ frs X.stack → ∃ o', (PySem.W.hideAll h' (e :: frs X.stack)).get? b = some o' ∧ (H b = none → b ≠ cStatics → o' = o) := fun b o q n => by
    obtain ⟨o', ho', h⟩ := all b o q n
    refine ⟨o', PySem.W.hideAll_get _ ho' fun z => ?_, fun _ => h⟩
    rcases List.mem_cons.mp z with z | z
    · exact nb b o q z
    · exact n z
  have trk : ∀ b o, H b = some o → ∃ o', (PySem.W.hideAll h' (e :: frs X.stack)).get? b = some o' := fun b o q => by
    obtain ⟨o', ho'⟩ := I.hok.there q
    obtain ⟨o'', z, _⟩ := cov b o' ho' fun m => by rw [free b m] at q; cases q
    exact ⟨o'', z⟩
  have un : Un (frs X.stack) [cStatics] H H s.heap h' :=
    ⟨fun b o q _ hb hx => kp b o (by simpa using hx) hb q, fun b o q _ _ hx => sl b o (by simpa using hx) q, fun _ _ _ n _ => n, fun b o q hx => let ⟨_, z⟩ := sl b o (by simpa using hx) q; ⟨_, z⟩, fun _ _ q => q, fun _ _ _ q => q, fun _ ps q => ⟨#[], by rw [q]; simp⟩⟩
  have h1f : h'.FunFrames X.base X.stack := by
    rw [hX]
    exact fun_slots I.stack fun a ha o q => sl a o (fun z => by rw [← hX] at ha; exact fsn a ha z) q
  have hfun : h'.FunFrames (PySem.W.hideAll h' (e :: frs X.stack)) X.stack := PySem.W.funFrames_hide h1f fun env he' a ha => List.mem_cons_of_mem _ (List.mem_filterMap.mpr ⟨env, he', ha⟩)
  have stn : ∀ mc, s.heap.Ns cStatics mc → ∃ mc', (PySem.W.hideAll h' (e :: frs X.stack)).Ns cStatics mc' ∧ ∀ y, y ≠ theRefusalsKey → mc' y = mc y := fun mc hm => by
    obtain ⟨mc', ⟨o, es, ep, ho, r⟩, q⟩ := st mc hm
    refine ⟨mc', ⟨o, es, ep, PySem.W.hideAll_get _ ho fun z => ?_, r⟩, q⟩
    rcases List.mem_cons.mp z with z | z
    · obtain ⟨o1, _, _, ho1, _⟩ := hm
      exact nb _ o1 ho1 z
    · exact fsn _ z rfl
  subst hX
  refine wpAny_leaving_firstW (s := { s with heap := h', toks := tk }) (base := PySem.W.hideAll h' (e :: frs (cxOf (CXE P w) P w K mg base N qual scope f cd A outer s₀ H₀ E).stack)) (a0 := a0) I.ok.frames hfun rfl he Bst Be hd h1 h0 fun h'' hL => ?_
  obtain ⟨k1, ⟨_, _, k2⟩, k3, k4⟩ := hL
  rw [hc] at k3
  have fl : Heap.FlyingW (PySem.W.hideAll h' (e :: frs (cxOf (CXE P w) P w K mg base N qual scope f cd A outer s₀ H₀ E).stack)) outer e (.ref C) a0 h'' := ⟨k1, Be, k2, k3⟩
  obtain ⟨un', cov', st'⟩ := un_over I rfl rfl rfl cov un k1 k4 stn
  have hk1 : HOk P w H h' := fun a o q => by
    refine (I.hok a o q).stay (fun b u hb z => kp b u (fun zz => ?_) (fun zz => ?_) z) (fun _ q => q) fun _ _ q => q
    · rcases hb with rfl | hb
      · rw [zz, h2] at q; cases q
      · rw [zz, h2] at hb; cases hb
    · rcases hb with rfl | hb
      · rw [free _ zz] at q; cases q
      · rw [free _ zz] at hb; cases hb
  exact ⟨e, .ref C, H, rfl, ⟨I.os, I.bare, ⟨_, a0, fl, cov', trk, st'⟩, un', hk1.on Bst k1 trk, ht, cs_over I stn Bst k1 cs, h2⟩, hE⟩
end
end L2

namespace L2
open PySem PySem.Spec PyProof.Rows
theorem entry_unchain : entryFor table "proto.unchain" = some Builtin.«proto.unchain» := entryFor_of_tree (by kernel_rfl)
theorem raiseNew_held {P : Program} {w : World} {A : Around} {E : Value → Shared → Prop} {s : Shared} {α : Type} {Q : α → Shared → Prop} {e0 e1 : Addr} {o0 o1 : Obj} {v0 v1 : Array Value} (hh : A.handled = some (.ref e0)) (hne : e0 ≠ e1) (he0 : s.heap.get? e0 = some o0) (hd0 : o0.data = .fields v0) (h02 : v0[2]? = some .none)
    (he1 : s.heap.get? e1 = some o1) (hd1 : o1.data = .fields v1) (hi : 2 < v1.size) (h : ∀ h', h'.get? e1 = some { o1 with data := .fields (v1.setIfInBounds 2 (.ref e0)) } → (∀ b, b ≠ e1 → h'.get? b = s.heap.get? b) → E (.ref e1) { s with heap := h' }) :
    wpAny (model P w) A (raiseNew (.ref e1) : Sem α) Q E s := by
  unfold raiseNew
  refine wpAny_bind (wpAny_handled ?_)
  rw [hh]
  dsimp only
  rw [if_pos (by simpa using hne)]
  refine wpAny_bind (wpAny_holding (wpAny_runValue (codeAny_builtin entry_unchain ?_)))
  unfold Builtin.«proto.unchain»
  dsimp only
  refine wpAny_bind (wpAny_field he0 hd0 h02 ?_)
  rw [if_pos (by decide)]
  refine wpAny_bind (wpAny_pure ?_)
  refine wpAny_pure ?_
  show wpAny _ _ _ _ _ _
  refine wpAny_bind ?_
  show wpAny _ _ (setField (.ref e1) 2 (.ref e0)) _ _ _
  refine wpAny_setField he1 hd1 hi (wpAny_throw (h _ ?_ fun b hb => Heap.get?_update_other _ _ (Ne.symm hb)))
  obtain ⟨c, d, dt, sl⟩ := o1
  cases hd1
  exact Heap.get?_update_self _ he1 rfl
section
variable {prog : Program} {w : World} {A : Around} {E : Value → Shared → Prop} {s : Shared} {env : Env}
variable {nm q : Str} {C N : Addr} {bs bm bmB : List Value} {hdct : Bool} {sn : List Str} {sub : List Value} {ab : Bool} {col : Option Bool} {dd : Option Addr} {k0 k1 k2 k3 k5 : Option Value} {B newId initId : String}

theorem raise_held {x : Sem Value} {Q : Flow → Shared → Prop} {e0 : Addr} (hbase : bm.contains (.type "BaseException") = true) (hh : A.handled = some (.ref e0))
    (h : wpAny (model prog w) A x (fun v s₁ => ∃ e t o0 v0, v = .ref e ∧ e0 ≠ e ∧ s₁.heap.get? e0 = some o0 ∧ o0.data = .fields v0 ∧ v0[2]? = some .none ∧ s₁.heap.get? C = some (excClassObj nm q C N bs bm hdct sn sub ab col dd k0 k1 k2 k3 k5 newId) ∧
      s₁.heap.get? e = some { cls := .ref C, data := .fields #[.ref t, .none, .none, .none, .bool false, .none] } ∧
      ∀ h', h'.get? e = some { cls := .ref C, data := .fields #[.ref t, .none, .ref e0, .none, .bool false, .none] } → (∀ b, b ≠ e → h'.get? b = s₁.heap.get? b) → E (.ref e) { s₁ with heap := h' }) E s) :
    wpAny (model prog w) A (raiseStmt env (some x) none) Q E s := by
  have hcB : (Value.ref C :: bm).contains (.type "BaseException") = true := by rw [List.contains_cons, hbase, Bool.or_true]
  unfold raiseStmt
  refine wpAny_bind (wpAny_mono h (fun v s₁ h₁ => ?_) fun _ _ z => z)
  obtain ⟨e, t, o0, v0, rfl, hne, he0, hd0, h02, hC, he, hE⟩ := h₁
  obtain ⟨hp, g, d, tk, os⟩ := s₁
  repeat (first | with_reducible refine wpAny_loadPart_at he ?_ | with_reducible refine wpAny_loadPart_at hC ?_ | (with_reducible refine wpAny_isSubtype_exc hC ?_; rw [hcB]) | wp_step)
  exact raiseNew_held hh hne he0 hd0 h02 he rfl (by show 2 < 6; decide) fun h' a b => hE h' a b
end
end L2


namespace L2
open PySem PySem.Spec PyProof.Rows
noncomputable def Cx.sw (X : Cx) (o2 : Obj) (A' : Around) : Cx :=
  { X with base := X.base.update cStatics (fun _ => o2), s₀ := { X.s₀ with heap := X.s₀.heap.update cStatics (fun _ => o2) }, A := A', calm := false, pn := [], xe := fun _ _ => False }
theorem Inv.sw {X : Cx} {pins : List (Addr × Obj)} {σ : St} {H : Hp} {s : Shared} {h' : Heap} {o2 : Obj} {A' : Around} {tk : Nat} (I : Inv X pins σ H s) (hex : X.ex = []) (hK : ∀ o, X.K.lookup cStatics = some o → o = o2) (h2 : h'.get? cStatics = some o2) (hn : h'.NoLimit)
    (kp : ∀ b o, b ≠ cStatics → b ∉ frs X.stack → s.heap.get? b = some o → h'.get? b = some o) (sl : ∀ b o, b ≠ cStatics → s.heap.get? b = some o → ∃ sl, h'.get? b = some { o with slots := sl }) (hf : A'.frames = X.A.frames) (ht : 0 < tk) : Inv (X.sw o2 A') [] σ H { s with heap := h', toks := tk } := by
  obtain ⟨⟨ob, hob⟩, hH2, hH20, fsn⟩ := I.stat
  have hs0 : X.s₀.heap.get? cStatics = some ob := (I.ok.bs _ _ hob).1
  obtain ⟨mc, ⟨o, es, ep, ho, hd, r⟩, hlim⟩ := hn
  rw [h2] at ho
  cases ho
  have hfr : o2.isFreed = false := by
    obtain ⟨c, d, dt, sl⟩ := o2
    cases hd
    rfl
  have bu : (X.base.update cStatics (fun _ => o2)).get? cStatics = some o2 := Heap.get?_update_self _ hob hfr
  have su : (X.s₀.heap.update cStatics (fun _ => o2)).get? cStatics = some o2 := Heap.get?_update_self _ hs0 hfr
  have bo : ∀ b, b ≠ cStatics → (X.base.update cStatics (fun _ => o2)).get? b = X.base.get? b := fun b hb => Heap.get?_update_other _ _ (Ne.symm hb)
  have so : ∀ b, b ≠ cStatics → (X.s₀.heap.update cStatics (fun _ => o2)).get? b = X.s₀.heap.get? b := fun b hb => Heap.get?_update_other _ _ (Ne.symm hb)
  have nc : ∀ x c, X.env.cells.lookup x = some c → c ≠ cStatics := fun x c e z => by
    obtain ⟨v, ⟨oc, hoc, hcd⟩⟩ := I.cell x c e
    have := (I.bs _ _ hob).1
    rw [← z, hoc] at this
    cases this
    obtain ⟨mc0, ⟨o0, es0, ep0, ho0, hd0, _⟩, _⟩ := I.ok.mod.nolimit
    rw [z] at hoc
    have h3 := (I.bs _ _ ho0).1
    rw [hoc] at h3
    cases h3
    rw [hcd] at hd0
    cases hd0
  have nL : X.env.locals ≠ cStatics := fun z => by
    have a1 := Heap.lt_size hs0
    have a2 := I.ok.above
    rw [z] at a2
    exact absurd (Nat.lt_of_lt_of_le a1 a2) (Nat.lt_irrefl _)
  have fs2 : ∀ b ∈ X.fs, b ≠ cStatics := fun b hb z => by
    have := (I.ok.funs.mem hb).1
    rw [z, hob] at this
    cases this
  have neL : ∀ b o, X.s₀.heap.get? b = some o → b ≠ X.env.locals := fun b o e => Nat.ne_of_lt (Nat.lt_of_lt_of_le (Heap.lt_size e) I.ok.above)
  have nst : ∀ b o, X.s₀.heap.get? b = some o → b ∉ X.fs → b ∉ frs X.stack := fun b o e hb hm => by
    rcases List.mem_cons.mp (I.stkSub b hm) with z | z
    · exact neL b o e z
    · exact hb z
  refine ⟨⟨⟨fun a o e => ?_, ?_, ?_, ?_⟩, I.ok.kind, I.ok.glob, I.ok.blt, ?_, I.ok.inj, I.ok.has, fun x c h e => ?_, fun z => (nomatch z), hf.trans I.ok.frames, I.ok.stk, I.ok.exf, fun b o e => ?_, ?_, fun b o e => ?_, I.ok.exfs, ?_, I.ok.frf⟩, I.os, I.bare, ⟨fun b o e n hb hx => ?_, fun b o e n hb hx => ?_, fun b o e n hx => ?_, fun b o e hx => ?_, I.base.tups, I.base.frzs, I.base.tbls⟩, ?_, fun x c e => ?_, I.free, I.freeC, fun p hp => absurd hp (by simp [Cx.sw]), fun a o e => ?_, I.len, ht⟩
  · have e' : X.K.lookup a = some o := e
    by_cases z : a = cStatics
    · subst z
      rw [hK o e']
      exact bu
    · exact (bo a z).trans (I.ok.mod.kin a o e)
  · exact I.ok.mod.glob.sameBut (Heap.SameBut.update ..) (by decide)
  · obtain ⟨mb, m1, m2⟩ := I.ok.mod.blt
    exact ⟨mb, m1.sameBut (Heap.SameBut.update ..) (by decide), m2⟩
  · exact ⟨mc, ⟨o2, es, ep, bu, hd, r⟩, hlim⟩
  · show (X.s₀.heap.update cStatics _).objs.size ≤ _
    rw [Heap.size_after_update]; exact I.ok.above
  · show (X.s₀.heap.update cStatics _).objs.size ≤ _
    rw [Heap.size_after_update]; exact I.ok.cab x c h e
  · by_cases hb : b = cStatics
    · subst hb
      have e' : (X.base.update cStatics (fun _ => o2)).get? cStatics = some o := e
      rw [bu] at e'
      cases e'
      exact ⟨su, hH20⟩
    · have e' : (X.base.update cStatics (fun _ => o2)).get? b = some o := e
      rw [bo b hb] at e'
      exact ⟨(so b hb).trans (I.ok.bs b o e').1, (I.ok.bs b o e').2⟩
  · show (X.base.update cStatics _).objs.size ≤ (X.s₀.heap.update cStatics _).objs.size
    rw [Heap.size_after_update, Heap.size_after_update]; exact I.ok.bsz
  · show b ∉ X.ex
    rw [hex]; simp
  · have f1 : (X.s₀.heap.update cStatics (fun _ => o2)).FunFrames X.base X.outer := fun_keep I.ok.funs fun a ha o q => (so a (fs2 a ha)).trans q
    have : ∀ {l : List Env} {h b b' : Heap}, h.FunFrames b l → (∀ a ∈ frs l, b.get? a = none → b'.get? a = none) → h.FunFrames b' l := by
      intro l
      induction l with
      | nil => intro h b b' _ _; trivial
      | cons env l ih =>
        rintro h b b' ⟨hk, ⟨L, o, hf, hn, ho, hd⟩, hr⟩ k
        have hL : L ∈ frs (env :: l) := by
          unfold frs
          rw [List.filterMap_cons, hf]
          exact List.mem_cons_self
        refine ⟨hk, ⟨L, o, hf, k L hL hn, ho, hd⟩, ih hr fun a ha => k a ?_⟩
        unfold frs
        rw [List.filterMap_cons, hf]
        exact List.mem_cons_of_mem _ ha
    exact this f1 fun a ha q => (bo a (fs2 a ha)).trans q
  · by_cases h2' : b = cStatics
    · subst h2'
      have e' : (X.s₀.heap.update cStatics (fun _ => o2)).get? cStatics = some o := e
      rw [su] at e'
      cases e'
      exact h2
    · have e' : (X.s₀.heap.update cStatics (fun _ => o2)).get? b = some o := e
      rw [so b h2'] at e'
      exact kp b o h2' (nst b o e' hb) (I.base.keep b o e' n hb hx)
  · have h2' := fs2 b hb
    have e' : (X.s₀.heap.update cStatics (fun _ => o2)).get? b = some o := e
    rw [so b h2'] at e'
    obtain ⟨sl1, q⟩ := I.base.slot b o e' n hb hx
    obtain ⟨sl2, q2⟩ := sl b _ h2' q
    exact ⟨sl2, q2⟩
  · by_cases h2' : b = cStatics
    · rw [h2']; exact hH2
    · have e' : (X.s₀.heap.update cStatics (fun _ => o2)).get? b = some o := e
      rw [so b h2'] at e'
      exact I.base.free b o e' n hx
  · by_cases h2' : b = cStatics
    · exact ⟨o2, by rw [h2']; exact h2⟩
    · have e' : (X.s₀.heap.update cStatics (fun _ => o2)).get? b = some o := e
      rw [so b h2'] at e'
      obtain ⟨o', q⟩ := I.base.there b o e' hx
      obtain ⟨sl2, q2⟩ := sl b o' h2' q
      exact ⟨_, q2⟩
  · obtain ⟨m, hn', hl⟩ := I.loc
    obtain ⟨oL, esL, epL, hoL, rL⟩ := hn'
    obtain ⟨slL, qL⟩ := sl _ _ nL hoL
    refine ⟨m, ⟨_, esL, epL, qL, rL⟩, fun i x v e1 e2 e3 => ?_⟩
    obtain ⟨u, ru, l⟩ := hl i x v e1 e2 e3
    refine ⟨u, ru, ?_⟩
    rcases l with l | ⟨k, c, ec, ⟨oc, hoc, hcd⟩⟩
    · exact .inl l
    · obtain ⟨slc, qc⟩ := sl _ _ (nc x c ec) hoc
      exact .inr ⟨k, c, ec, ⟨_, qc, hcd⟩⟩
  · obtain ⟨v, ⟨oc, hoc, hcd⟩⟩ := I.cell x c e
    obtain ⟨slc, qc⟩ := sl _ _ (nc x c e) hoc
    exact ⟨v, ⟨_, qc, hcd⟩⟩
  · have free := I.stkFree
    refine (I.hok a o e).stay (fun b u hb z => kp b u (fun zz => ?_) (fun zz => ?_) z) (fun _ q => q) fun _ _ q => q
    · rcases hb with rfl | hb
      · rw [zz, hH2] at e; cases e
      · rw [zz, hH2] at hb; cases hb
    · rcases hb with rfl | hb
      · rw [free _ zz] at e; cases e
      · rw [free _ zz] at hb; cases hb
end L2

namespace L2
open PySem PySem.Spec PyProof.Rows
section
variable {prog : Program} {w : World} {A : Around} {E : Value → Shared → Prop} {s : Shared} {env : Env}
variable {nm q : Str} {C N : Addr} {bs bm bmB : List Value} {hdct : Bool} {sn : List Str} {sub : List Value} {ab : Bool} {col : Option Bool} {dd : Option Addr} {k0 k1 k2 k3 k5 : Option Value} {B newId initId : String}

theorem Raise_held (F : ExcBaseFacts B newId initId bmB) {mN : Str → Option Value} {x : Str} {np cpos pos : Pos} {args : List Expr} {Q : Flow → Shared → Prop} {e0 : Addr}
    (hbase : bm.contains (.type "BaseException") = true) (hh : A.handled = some (.ref e0)) (hplain : (backTo cpos (starEach args env)).any (·.1) = false) (hni : mN "__init__" = none)
    (h : wpAny (model prog w) A (eval (.Name x np) env) (fun f s₁ => f = .ref C ∧ wpAny (model prog w) A (evalArgs (.ref C) true (backTo cpos (starEach args env)) [])
      (fun a s₂ => a.kw = [] ∧ a.pos.length ≤ sizeLine ∧ s₂.heap.get? C = some (excClassObj nm q C N bs bm hdct sn sub ab col dd k0 k1 k2 k3 k5 newId) ∧ s₂.heap.Ns N mN ∧ OwnTail s₂.heap bmB bm ∧ (∃ o0 v0, s₂.heap.get? e0 = some o0 ∧ o0.data = .fields v0 ∧ v0[2]? = some .none) ∧
        ∀ h₁ e t h', Heap.MadeExcOf s₂.heap h₁ e (.ref C) a.pos → h'.get? e = some { cls := .ref C, data := .fields #[.ref t, .none, .ref e0, .none, .bool false, .none] } → (∀ b, b ≠ e → h'.get? b = h₁.get? b) → E (.ref e) { s₂ with heap := h' }) E s₁) E s) :
    wpAny (model prog w) A (exec (.Raise (some (.Call (.Name x np) args [] cpos)) none pos) env) Q E s := by
  rw [arm_exec_Raise]
  refine wpAny_bind (wpAny_standAt ?_)
  refine raise_held (C := C) (nm := nm) (q := q) (N := N) (bs := bs) (bm := bm) (hdct := hdct) (sn := sn) (sub := sub) (ab := ab) (col := col) (dd := dd) (k0 := k0) (k1 := k1) (k2 := k2) (k3 := k3) (k5 := k5) (newId := newId) (e0 := e0) hbase hh ?_
  refine wpAny_bind (wpAny_mono (wpAny_Call_ofName (wpAny_mono h (fun f s₁ h₁ => ?_) fun _ _ z => z)) (fun v s₃ h₃ => wpAny_bind (wpAny_standAt (wpAny_pure h₃))) fun _ _ z => z)
  obtain ⟨rfl, h₁⟩ := h₁
  unfold callWith
  refine wpAny_bind (wpAny_holding (wpAny_mono h₁ (fun a s₂ h₂ => wpAny_bind (wpAny_standAt ?_)) fun _ _ z => z))
  obtain ⟨apos, akw⟩ := a
  obtain ⟨hkw, hlen, hC, hn, T, ⟨o0, v0, he0, hd0, h02⟩, h₂⟩ := h₂
  obtain rfl : akw = [] := hkw
  obtain ⟨hp, g, d, tk, os⟩ := s₂
  simp only [hplain]
  refine wpAny_bind (wpAny_keeperOf_exc hC ?_)
  refine wpAny_bind (wpAny_call_exc_subT (hrest := hlen) F T hC hn hni fun h' e hm => wpAny_bind (wpAny_holding (wpAny_point (wpAny_pure ?_))))
  obtain ⟨t, ht, _, _⟩ := id hm.there
  refine ⟨e, t, o0, v0, rfl, fun z => ?_, hm.keeps _ _ he0, hd0, h02, hm.keeps _ _ hC, ht, fun h'' a b => h₂ h' e t h'' hm a b⟩
  have := hm.new
  rw [← z, he0] at this
  cases this
end
end L2

namespace L2
open PySem PySem.Spec PyProof.Rows

theorem looks_exact {M : Model} {A : Around} {E : Value → Shared → Prop} {s : Shared} {base : Heap} {env : Env} {outer : List Env} {L e : Addr} {oe : Obj} {vs : Array Value} {Q : Unit → Shared → Prop}
    (hfr : A.frames = some (env :: outer)) (hl : s.heap.FunFrames base (env :: outer)) (hf : env.frame = some L) (he : s.heap.get? e = some oe) (hd : oe.data = .fields vs) (h1 : vs[1]? = some .none)
    (hQ : ∀ h' T oT ts, (∀ b o, b ≠ e → s.heap.get? b = some o → ∃ sl, h'.get? b = some { o with slots := sl }) → (∀ b o, b ≠ e → b ∉ frs (env :: outer) → s.heap.get? b = some o → h'.get? b = some o) → h'.get? e = some (oe.mapFields (·.setIfInBounds 1 (.ref T))) →
      T ≠ e → s.heap.get? T = none → h'.get? T = some oT → oT.data = .fields ts → 3 < ts.size → Q () { s with heap := h' }) : wpAny M A (noteFrame (.ref e) env) Q E s := by
  have hene : e ∉ (env :: outer).filterMap (·.frame) := fun hm => by
    obtain ⟨_, o, ho, hnf⟩ := hl.mem hm
    rw [he] at ho
    cases ho
    exact hnf vs hd
  unfold noteFrame
  simp only [hf]
  refine wpAny_bind (wpAny_field he hd h1 ?_)
  rw [if_neg (show ¬ ((Value.none != Value.none) = true) from by simp)]
  refine wpAny_bind (wpAny_frameOf_fun hfr hl hf fun h₁ hs₁ => ?_)
  refine wpAny_bind (wpAny_entryPlaceOf fun pl hpl => ?_)
  unfold EntryCells.newEntry newFields
  refine wpAny_bind (wpAny_newObj_type ?_ (hpl.sizeOk5 _ _ _ _ _))
  have he₁ : h₁.get? e = some oe := (hs₁.2.1 e hene).trans he
  have hTe : h₁.objs.size ≠ e := Nat.ne_of_gt (Heap.lt_size he₁)
  obtain ⟨oT, hoT⟩ : ∃ oT : Obj, oT = { cls := .type "traceback", dict := none, data := .fields ([Value.none, .ref L, .none, rawInt L, .none] ++ (if pl.isEmpty then List.replicate 6 Value.none else pl)).toArray } := ⟨_, rfl⟩
  rw [← hoT]
  have hfT : oT.isFreed = false := by rw [hoT]; rfl
  have he₂ := Heap.get?_push_of_some (h := h₁) oT he₁
  refine wpAny_setField he₂ hd (Array.getElem?_eq_some_iff.mp h1).1 (hQ _ h₁.objs.size oT _ (fun b o hb q => ?_) (fun b o hb n q => ?_) (Heap.get?_update_self _ he₂ (Obj.isFreed_of_fields (Obj.data_mapFields hd _))) hTe ?_ ((Heap.get?_update_other _ _ (Ne.symm hTe)).trans (Heap.get?_push_size h₁ hfT)) (by rw [hoT]) ?_)
  · obtain ⟨sl, z⟩ := hs₁.2.2 b o q
    exact ⟨sl, (Heap.get?_update_other _ _ (Ne.symm hb)).trans (Heap.get?_push_of_some _ z)⟩
  · exact (Heap.get?_update_other _ _ (Ne.symm hb)).trans (Heap.get?_push_of_some _ ((hs₁.2.1 b n).trans q))
  · cases q : s.heap.get? h₁.objs.size with
    | none => rfl
    | some o =>
      obtain ⟨sl, z⟩ := hs₁.2.2 _ o q
      exact absurd (Heap.lt_size z) (Nat.lt_irrefl _)
  · simp

theorem flight_exact {M : Model} {A : Around} {E : Value → Shared → Prop} {s : Shared} {e T : Addr} {oe oT : Obj} {vs ts : Array Value} {Q : Unit → Shared → Prop} (he : s.heap.get? e = some oe) (hd : oe.data = .fields vs) (h1 : vs[1]? = some (.ref T)) (hT : s.heap.get? T = some oT) (hdT : oT.data = .fields ts) (h3 : 3 < ts.size)
    (hQ : ∀ h' oT' ts', (∀ b, b ≠ T → h'.get? b = s.heap.get? b) → h'.get? T = some oT' → oT'.data = .fields ts' → 3 < ts'.size → Q () { s with heap := h' }) : wpAny M A (setFlight (.ref e) none) Q E s := by
  unfold setFlight
  refine wpAny_bind (wpAny_field he hd h1 ?_)
  rw [if_pos (show (Value.ref T != Value.none) = true from by simp)]
  exact wpAny_setField hT hdT h3 (hQ _ _ _ (fun b hb => Heap.get?_update_other _ _ (Ne.symm hb)) (Heap.get?_update_self _ hT (Obj.isFreed_of_fields (Obj.data_mapFields hdT _))) (Obj.data_mapFields hdT _) (by simpa using h3))
end L2


namespace L2
open PySem PySem.Spec PyProof.Rows
section
variable {P : Program} {w : World} {K : PySem.W.Frag} {mg : Str → Option Value} {base : Heap} {N : List Str} {qual : Str} {scope : Scope} {f : Addr} {cd : Value} {A : Around} {outer : List Env} {s₀ : Shared} {H₀ : Hp} {E : XK}

theorem Refd.facts {h h' : Heap} {mc : Str → Option Value} {e : Addr} (r : Refd h mc h' e) (hm : h.Ns cStatics mc) : h.get? e = none ∧ (∀ b o, b ≠ cStatics → h.get? b = some o → h'.get? b = some o) ∧ (∃ mc', h'.Ns cStatics mc' ∧ ∀ y, y ≠ theRefusalsKey → mc' y = mc y) ∧
    ∃ t, h'.get? e = some { cls := .type "ValueError", data := .fields #[.ref t, .none, .none, .none, .bool false, .none] } := by
  obtain ⟨o, es, ep, ho, _⟩ := id hm
  cases r with
  | no args m =>
    obtain ⟨t, ht, _⟩ := m.there
    exact ⟨m.new, fun b o _ q => m.keeps b o q, ⟨mc, hm.keeps m.keeps, fun _ _ => rfl⟩, t, ht⟩
  | yes args h1 v m n b =>
    obtain ⟨t, ht, _⟩ := m.there
    have hne : e ≠ cStatics := fun z => by
      have := m.new
      rw [z, ho] at this
      cases this
    exact ⟨m.new, fun c oc hc q => (b.2 c hc).trans (m.keeps c oc q), ⟨_, n, fun y hy => if_neg hy⟩, t, (b.2 e hne).trans ht⟩

theorem whole_bad {X : Cx} {pins : List (Addr × Obj)} {σ : St} {H : Hp} {s : Shared} {h' : Heap} {e C : Addr} {mc : Str → Option Value} {tk : Nat} {x tx : Str} {np vp cpos rpos hpos kp0 : Pos} {j : Nat} {B newId initId : String} {bmB : List Value} {Q : Flow → Shared → Prop}
    (hX : X = (cxOf (CXE P w) P w K mg base N qual scope f cd A outer s₀ H₀ E)) (I : Inv X pins σ H s) (hm : s.heap.Ns cStatics mc) (hlim : mc "sys.recursionlimit" = none) (r : Refd s.heap mc h' e) (hsame : h'.get? cStatics = s.heap.get? cStatics) (ht : 0 < tk) (F : ExcBaseFacts B newId initId bmB)
    (hgv : Gl X "ValueError") (hmv : mg "ValueError" = none) (hg : Gl X x) (hx : mg x = some (.ref C)) (hq : PySem.W.excIn K C bmB newId = true) (hE : E (.ref C) none H) (hdb : (x == ("__debug__" : Str)) = false := by decide) :
    wpAny (model P w) X.A (noteFrame (.ref e) X.env)
      (fun _ s₂ => wpAny (model P w) X.A (setFlight (.ref e) none) (fun _ s₃ => wpAny (model P w) X.A
        (handleBy (.ref e) X.env [.ExceptHandler (some (.Name "ValueError" vp)) none [.Raise (some (.Call (.Name x np) [.Constant (.str tx) j kp0] [] cpos)) none rpos] hpos]) Q X.xe s₃) X.xe s₂) X.xe { s with heap := h', toks := tk } := by
  obtain ⟨new, kp, ⟨mc', hmc', hmq⟩, t0, he0⟩ := r.facts hm
  obtain ⟨⟨ob, hob⟩, hH2, hH20, fsn⟩ := I.stat
  have hfr0 : X.A.frames = some (X.env :: X.outer) := by have := I.ok.frames; rw [hX] at this ⊢; exact this
  have hst : X.stack = X.env :: X.outer := by rw [hX]; rfl
  have hex : X.ex = [] := by rw [hX]; rfl
  have hcs : s.heap.get? cStatics = some ob := (I.bs _ _ hob).1
  have nb : ∀ b o, s.heap.get? b = some o → b ≠ e := fun b o q z => by rw [z, new] at q; cases q
  have h1f : h'.FunFrames X.base (X.env :: X.outer) := by
    rw [← hst]
    exact fun_keep I.stack fun b hb o q => kp b o (fsn b hb) q
  refine looks_exact (s := { s with heap := h', toks := tk }) hfr0 h1f (by rw [hX]; rfl) he0 rfl rfl fun h1 T oT ts sl1 kp1 he1 hTe hTn hT hdT h3 => ?_
  rw [← hst] at kp1
  have nT : ∀ b o, h'.get? b = some o → b ≠ T := fun b o q z => by
    have hTn' : h'.get? T = none := hTn
    rw [z, hTn'] at q; cases q
  refine flight_exact (s := { s with heap := h1, toks := tk }) he1 rfl rfl hT hdT h3 fun h2 oT2 ts2 k2 hT2 hdT2 h32 => ?_
  have e2 : h2.get? e = h1.get? e := k2 e (Ne.symm hTe)
  obtain ⟨oc, esc, epc, hoc, rc⟩ := hmc'
  have hce : cStatics ≠ e := nb _ _ hcs
  have hK' : ∀ o, X.K.lookup cStatics = some o → o = oc := fun o q => by
    have z := I.kIn _ _ q
    rw [← hsame, hoc] at z
    exact (Option.some.inj z).symm
  have hcf : cStatics ∉ frs X.stack := fun z => fsn _ z rfl
  have c1 : h1.get? cStatics = some oc := kp1 _ _ hce hcf hoc

  have keepOf : ∀ g : Heap, (∀ b, b ≠ T → g.get? b = h1.get? b) → (∀ b o, b ≠ cStatics → b ∉ frs X.stack → s.heap.get? b = some o → g.get? b = some o) ∧ (∀ b o, b ≠ cStatics → s.heap.get? b = some o → ∃ sl, g.get? b = some { o with slots := sl }) ∧ g.Ns cStatics mc' ∧ g.get? e = h1.get? e := fun g kg => by
    refine ⟨fun b o hb n q => ?_, fun b o hb q => ?_, ⟨oc, esc, epc, (kg _ (nT _ _ hoc)).trans c1, rc⟩, kg e (Ne.symm hTe)⟩
    · have q1 := kp b o hb q
      exact (kg b (nT b o q1)).trans (kp1 b o (nb b o q) n q1)
    · have q1 := kp b o hb q
      obtain ⟨sl, z⟩ := sl1 b o (nb b o q) q1
      exact ⟨sl, (kg b (nT b o q1)).trans z⟩
  have swOf : ∀ g : Heap, (∀ b, b ≠ T → g.get? b = h1.get? b) → ∀ tk', 0 < tk' → Inv (X.sw oc (X.A.mark (some (.ref e)))) [] σ H { s with heap := g, toks := tk' } := fun g kg tk' ht' => by
    obtain ⟨a1, a2, a3, a4⟩ := keepOf g kg
    exact I.sw hex hK' ((kg _ (nT _ _ hoc)).trans c1) ⟨mc', a3, by rw [hmq _ (by decide)]; exact hlim⟩ a1 a2 rfl ht'
  have I2 := swOf h2 k2 tk ht
  subst hX
  refine wpAny_handleBy_cons (codeAny_handlers_test ?_) (by intro q; cases q)
  refine ld_blt (X := Cx.sw (cxOf (CXE P w) P w K mg base N qual scope f cd A outer s₀ H₀ E) oc (((cxOf (CXE P w) P w K mg base N qual scope f cd A outer s₀ H₀ E)).A.mark (some (.ref e)))) I2 hgv hmv (by decide +kernel : bootBuiltins "ValueError" = some (.type "ValueError")) ?_
  have hty : ({ s with heap := h2, toks := tk } : Shared).TypeIs (.ref e) "ValueError" := ⟨_, e2.trans he1, rfl⟩
  refine wpAny_excMatches_type hty PySem.F.isExc_ValueError PySem.F.notTuple_ValueError PySem.F.self_ValueError ?_
  refine codeAny_handlers_suite (flight_exact (s := { s with heap := h2, toks := tk }) (e2.trans he1) rfl rfl hT2 hdT2 h32 fun h3 oT3 ts3 k3 hT3 hdT3 h33 => ?_)
  have k3' : ∀ b, b ≠ T → h3.get? b = h1.get? b := fun b hb => (k3 b hb).trans (k2 b hb)
  have I3 := swOf h3 k3' tk ht
  obtain ⟨a1, a2, a3, a4⟩ := keepOf h3 k3'
  refine wpAny_mono (Q := fun _ _ => False) (E := ((cxOf (CXE P w) P w K mg base N qual scope f cd A outer s₀ H₀ E)).xe) ?_ (fun _ _ z => z.elim) (fun y s2 hy => PassesOwnAt.leaving y s2 hy)
  refine wpAny_execs_cons ?_
  obtain ⟨bm, Nn, nm, qn, bs, hd, sn, sub, ab, col, dd, k0, kk1, kk2, kk3, kk5, mN, hC, hN, hni, Tl⟩ := cls_exc I3.ok.mod.kin hq
  refine Raise_held (nm := nm) (q := qn) (N := Nn) (bs := bs) (hdct := hd) (sn := sn) (sub := sub) (ab := ab) (col := col) (dd := dd) (k0 := k0) (k1 := kk1) (k2 := kk2) (k3 := kk3) (k5 := kk5) (e0 := e) F (Tl.hasType F.hasBase) rfl rfl hni (ld_glob (X := Cx.sw (cxOf (CXE P w) P w K mg base N qual scope f cd A outer s₀ H₀ E) oc (((cxOf (CXE P w) P w K mg base N qual scope f cd A outer s₀ H₀ E)).A.mark (some (.ref e)))) I3 hg hx ⟨rfl, ?_⟩ hdb)
  refine Calls.evalArgs_plain (Calls.spliced_cons (Calls.Constant_str (k := j) (pos := kp0) (Calls.spliced_nil ?_)))
  refine ⟨rfl, by show 1 ≤ sizeLine; decide, I3.bk _ _ hC, hN.keeps I3.bk, Tl.keeps I3.bk, ⟨_, _, a4.trans he1, rfl, rfl⟩, fun g1 e1 t1 g2 md q1 q2 => ?_⟩
  have n1 : ∀ b o, s.heap.get? b = some o → b ≠ e1 := fun b o q z => by
    have := md.new
    by_cases hb : b = cStatics
    · obtain ⟨o3, _, _, ho3, _⟩ := a3
      rw [← z, hb] at this
      have this' : h3.get? cStatics = none := this
      rw [ho3] at this'
      cases this'
    · obtain ⟨sl, ho3⟩ := a2 b o hb q
      rw [← z] at this
      have this' : h3.get? b = none := this
      rw [ho3] at this'
      cases this'
  show (cxOf (CXE P w) P w K mg base N qual scope f cd A outer s₀ H₀ E).xe (.ref e1) { s with heap := g2, toks := tk + 1 }
  refine leaveG (s := s) I (h' := g2) (tk := tk + 1) (C := C) (fun b o hb n q => (q2 b (n1 b o q)).trans (md.keeps b o (a1 b o hb n q))) (fun b o hb q => ?_) (fun mc2 hm2 => ?_) ?_ ?_ q1 rfl rfl rfl rfl (Nat.succ_pos _) hE
  · obtain ⟨sl, z⟩ := a2 b o hb q
    exact ⟨sl, (q2 b (n1 b o q)).trans (md.keeps _ _ z)⟩
  · obtain ⟨o3, es3, ep3, ho3, rr3⟩ := a3
    refine ⟨mc', ⟨o3, es3, ep3, (q2 _ (n1 _ _ hcs)).trans (md.keeps _ _ ho3), rr3⟩, fun y hy => ?_⟩
    rw [hmq y hy]
    obtain ⟨oa, esa, epa, hoa, hda, ra⟩ := hm
    obtain ⟨ob2, esb, epb, hob2, hdb2, rb⟩ := hm2
    rw [hoa] at hob2
    cases hob2
    rw [hda] at hdb2
    cases hdb2
    rw [← ra.2, rb.2]
  · cases q : s.heap.get? e1 with
    | none => rfl
    | some o => exact absurd rfl (n1 e1 o q)
  · rw [(q2 _ (n1 _ _ hcs)).trans (md.keeps _ _ ((k3' _ (nT _ _ hoc)).trans c1)), ← hsame, hoc]
end
end L2


namespace L2
open PySem PySem.Calls PyProof.Rows
noncomputable def isCl (c : Code) : Bool := match c with | .builtin "claim.caller" _ => true | _ => false
noncomputable def clOf (Γ : Ctx) : Prop := ((Γ.code :: Γ.below.map fun x => x.1).any isCl) = true
noncomputable def clIn (Γ : Ctx) : Prop := ((Γ.below.map fun x => x.1).any isCl) = true
noncomputable def wpC {α : Type} (M : Model) (A : Around) (t : Sem α) (Q : α → Shared → Prop) (E : Value → Shared → Prop) (s : Shared) : Prop :=
  ∀ (Γ : Ctx) (p : Pos), Γ.In A → clOf Γ → Sem.wp M Γ t (fun a _ z => Q a z) (fun e _ z => E e z) p s
noncomputable def codeC (M : Model) (A : Around) (c : Code) (R : Result → Shared → Prop) (s : Shared) : Prop :=
  ∀ (Γ : Ctx) (p : Pos), Γ.code = c → Γ.Below A → clIn Γ → wpCode M Γ R p s
theorem clIn.of {Γ : Ctx} (h : clIn Γ) : clOf Γ := by
  unfold clOf
  rw [List.any_cons, show ((Γ.below.map fun x => x.1).any isCl) = true from h, Bool.or_true]
theorem clOf.enter {Γ : Ctx} (h : clOf Γ) (c : Code) (hd : Option Value) (p : Pos) : clIn (Γ.enter c hd p) := h
section
variable {α β : Type} {M : Model} {A : Around} {E : Value → Shared → Prop} {s : Shared}
theorem wpC.of {t : Sem α} {Q : α → Shared → Prop} (h : wpAny M A t Q E s) : wpC M A t Q E s := fun Γ p i _ => h Γ p i
theorem codeC.of {c : Code} {R : Result → Shared → Prop} (h : codeAny M A c R s) : codeC M A c R s := fun Γ p e b _ => h Γ p e b
theorem wpC.mono {t : Sem α} {Q Q' : α → Shared → Prop} {E' : Value → Shared → Prop} (h : wpC M A t Q E s) (hQ : ∀ a z, Q a z → Q' a z) (hE : ∀ e z, E e z → E' e z) : wpC M A t Q' E' s :=
  fun Γ p i c => Sem.wp_mono M Γ t (fun a _ z => hQ a z) (fun e _ z => hE e z) p s (h Γ p i c)
theorem wpC.thn {t : Sem α} {Q Q' : α → Shared → Prop} (h : wpC M A t Q E s) (hQ : ∀ a z, Q a z → Q' a z) : wpC M A t Q' E s := h.mono hQ fun _ _ x => x
theorem wpC.bind {m : Sem α} {f : α → Sem β} {Q : β → Shared → Prop} (h : wpC M A m (fun a z => wpC M A (f a) Q E z) E s) : wpC M A (m >>= f) Q E s := fun Γ p i c => by
  rw [Sem.wp_bind']
  exact Sem.wp_mono M Γ m (fun a q z k => k Γ q i c) (fun _ _ _ k => k) p s (h Γ p i c)
theorem wpC.onRaise {m : Sem α} {k : Value → Sem Unit} {Q : α → Shared → Prop} (h : wpC M A m Q (fun e z => wpAny M A (k e) (fun _ y => E e y) E z) s) : wpC M A (m.onRaise k) Q E s := fun Γ p i c => by
  rw [Sem.wp_onRaise]
  exact Sem.wp_mono M Γ m (fun _ _ _ y => y) (fun e q z y => y Γ q i) p s (h Γ p i c)
theorem wpC.attempt {m : Sem α} {Q : Except Value α → Shared → Prop} (h : wpC M A m (fun a => Q (.ok a)) (fun e => Q (.error e)) s) : wpC M A m.attempt Q E s := fun Γ p i c => by
  rw [Sem.wp_attempt]; exact h Γ p i c
theorem wpC.holding {vs : List Value} {m : Sem α} {Q : α → Shared → Prop} (h : wpC M A m Q E s) : wpC M A (PySem.holding vs m) Q E s := fun Γ p i c => by
  rw [Sem.wp_holding]; exact h Γ p i c
theorem wpC.keep {vs : List Value} {m : Sem α} {Q : α → Shared → Prop} (h : wpC M A m Q E s) : wpC M A (m.keep vs) Q E s := fun Γ p i c => by
  rw [Sem.wp_keep]; exact h Γ p i c
theorem wpC.run {c : Code} {h : Option Value} {Q : Flow → Shared → Prop} (hc : codeC M (A.mark h) c (fun r z => match r with | .ok f => Q f z | .error e => E e z) s) (hnb : h ≠ some byPass := by intro x; cases x) : wpC M A (PySem.run c h) Q E s :=
  fun Γ p i cl => by rw [Sem.wp_run]; exact hc _ p rfl (i.enter c h p hnb) (cl.enter c h p)
theorem wpC.runValue {c : Code} {Q : Value → Shared → Prop} (hc : codeC M A c (fun r z => match r with | .ok (.ret v) => Q v z | .ok _ => False | .error e => E e z) s) : wpC M A (PySem.runValue c) Q E s :=
  fun Γ p i cl => by rw [Sem.wp_runValue]; exact hc _ p rfl (i.enter c none p (by intro x; cases x)) (cl.enter c none p)
theorem wpC.call {f : Value} {pos : List Value} {kw : List (Str × Value)} {Q : Value → Shared → Prop} (hc : codeC M A (.call f ⟨pos, kw⟩) (fun r z => match r with | .ok (.ret v) => Q v z | .ok _ => False | .error e => E e z) s) : wpC M A (PySem.call f pos kw) Q E s := wpC.runValue hc
theorem wpC.runOwn {c : Code} {env : Env} {h : Option Value} {Q : Flow → Shared → Prop} (hc : codeC M (A.mark h) c (fun r z => match r with | .ok f => Q f z | .error e => cameBackBy M A env E e z) s) (hnb : h ≠ some byPass := by intro x; cases x) : wpC M A (PySem.runOwn c env h) Q E s := by
  unfold PySem.runOwn
  exact wpC.onRaise (wpC.run hc hnb)
theorem codeC.mono {c : Code} {R R' : Result → Shared → Prop} (h : codeC M A c R s) (hR : ∀ r z, R r z → R' r z) : codeC M A c R' s := fun Γ p e b cl => wpCode_mono hR (h Γ p e b cl)
theorem codeC.tree {c : Code} {R : Result → Shared → Prop} (h : wpC M (A.under c) (M.den c) (fun fin z => match fin with | .done f => R (.ok f) z | .again c' => c'.quiet = true ∧ codeC M A c' R z) (fun e z => R (.error e) z) s) : codeC M A c R s := fun Γ p e b cl => by
  rw [wpCode_iff_wp, e]
  refine Sem.wp_mono M Γ _ (fun fin q z k => ?_) (fun _ _ _ k => k) p s (h Γ p (e ▸ b.in) cl.of)
  cases fin with
  | done f => exact k
  | again c' => exact ⟨k.1, k.2 (Γ.goto c') q rfl (b.goto c') cl⟩
theorem codeC.loop {c : Code} {R : Result → Shared → Prop} (hq : c.quiet = true) (I : Nat → Shared → Prop)
    (turn : ∀ n z, I n z → wpC M (A.under c) (M.den c) (fun fin y => match fin with | .done f => R (.ok f) y | .again c' => (c' = c ∧ ∃ m, m < n ∧ I m y) ∨ (c'.quiet = true ∧ codeC M A c' R y)) (fun e y => R (.error e) y) z) (n : Nat) (h : I n s) : codeC M A c R s := by
  induction n using Nat.strongRecOn generalizing s with
  | ind n ih =>
    refine codeC.tree ((turn n s h).mono (fun fin z hf => ?_) fun _ _ k => k)
    cases fin with
    | done f => exact hf
    | again c' =>
      rcases hf with ⟨rfl, m, hm, hI⟩ | hf
      · exact ⟨hq, ih m hm hI⟩
      · exact hf
theorem wpCT {t : Sem α} {Q : α → Shared → Prop} (hn : 0 < s.toks) (h : wpC M A t (fun a z => 0 < z.toks → Q a z) (fun e z => 0 < z.toks → E e z) s) : wpC M A t Q E s :=
  fun Γ p i c => Sem.wp_mono M Γ t (fun _ _ _ k => k.2 k.1) (fun _ _ _ k => k.2 k.1) p s (Sem.wp_toks M Γ 1 t _ _ p s hn (h Γ p i c))
theorem codeCT {c : Code} {R : Result → Shared → Prop} (hn : 0 < s.toks) (h : codeC M A c (fun r z => 0 < z.toks → R r z) s) : codeC M A c R s := fun Γ p e b cl => by
  obtain ⟨r, z, h1, h2⟩ := h Γ p e b cl
  exact ⟨r, z, h1, h2 (Nat.lt_of_lt_of_le hn (Returns.toks_le h1))⟩
theorem wpC.noted {env : Env} {m : Sem α} {Q : α → Shared → Prop} (h : wpC M A m Q (notedBy M A env E) s) : wpC M A (m.onRaise fun x => do noteFrame x env; theTreesLotGoes x) Q E s :=
  wpC.onRaise (h.mono (fun _ _ q => q) fun _ _ hx => wpAny_bind (wpAny_mono hx (fun _ _ e => wpAny_theTreesLotGoes e) fun _ _ e => e))

theorem mark_no {own : List String} {e : Value} {Q : Unit → Shared → Prop} (h : Q () s) : wpC M A (markTheRefusal own e) Q E s := fun Γ p i c => by
  unfold markTheRefusal
  rw [Sem.wp_bind']
  show Sem.wp M Γ (if pythonCodeMadeTheCall own (((Γ.code, p) :: Γ.below).map fun x => x.1) = true then _ else _) _ _ p s
  have hf : pythonCodeMadeTheCall own (((Γ.code, p) :: Γ.below).map fun x => x.1) = false := by
    unfold pythonCodeMadeTheCall
    refine Bool.and_eq_false_iff.mpr (.inl (Bool.and_eq_false_iff.mpr (.inl ?_)))
    rw [Bool.not_eq_false']
    exact c
  rw [hf]
  exact h
end
section
variable {M : Model} {A : Around} {E : Value → Shared → Prop} {s : Shared} {env : Env}
theorem wpC.execs_cons {st : Stmt} {rest : List Stmt} {Q : Flow → Shared → Prop} (h : wpC M A (exec st env) (fun f z => match f with | .next => wpC M A (execs rest env) Q E z | f => Q f z) E s) : wpC M A (execs (st :: rest) env) Q E s := by
  rw [PySem.execs_cons]
  refine wpC.bind (h.thn fun f z k => ?_)
  cases f <;> first | exact k | exact wpC.of (wpAny_pure k)
theorem wpC.if_ {test : Expr} {body orelse : List Stmt} {pos : Pos} {Q : Flow → Shared → Prop} (h : wpAny M A (isTrue test env (eval test env)) (fun b z => if b then wpC M A (execs body env) Q E z else wpC M A (execs orelse env) Q E z) E s) : wpC M A (exec (.If test body orelse pos) env) Q E s := by
  rw [PySem.exec_If]
  refine wpC.bind (wpC.of (wpAny_standAt (wpC.bind (wpC.of (wpAny_mono h (fun b z k => ?_) fun _ _ x => x)))))
  cases b <;> exact k
theorem wpC.ret {e : Expr} {pos : Pos} {Q : Flow → Shared → Prop} (h : wpC M A (eval e env) (fun v => Q (.ret v)) E s) : wpC M A (exec (.Return (some e) pos) env) Q E s := by
  rw [PySem.exec_Return_some]
  exact wpC.bind (wpC.of (wpAny_standAt (wpC.bind (h.thn fun _ _ k => wpC.of (wpAny_pure k)))))
theorem wpC.set {x : Str} {pos' pos : Pos} {value : Expr} {Q : Flow → Shared → Prop} (h : wpC M A (eval value env) (fun v z => wpAny M A (storeName env x v) (fun _ => Q .next) E z) E s) (hs : swapsWith value (some (.Name x pos')) pos.line env = pure false := by rfl) :
    wpC M A (exec (.Assign [.Name x pos'] value pos) env) Q E s := fun Γ p i c => by
  simp only [PySem.exec_Assign_Name env x pos' value pos hs, Sem.wp_bind', Sem.wp_cmd_standAt, Sem.wp_bindName, Sem.wp_pure']
  exact Sem.wp_mono M Γ _ (fun v _ z k => k Γ _ i) (fun _ _ _ k => k) _ _ (h Γ _ i c)
theorem wpC.stores {targets : List Expr} {value : Expr} {pos : Pos} {Q : Flow → Shared → Prop} (h : wpC M A (eval value env) (fun v z => wpC M A (assignAll v ((assignEach targets env).map (·.2))) (fun _ => Q .next) E z) E s)
    (hs : swapsWithSole targets value pos.line env = pure false) (hw : swappedStores targets value env = pure none) : wpC M A (exec (.Assign targets value pos) env) Q E s := by
  rw [PySem.exec_Assign_arm]
  refine wpC.bind (wpC.of (wpAny_standAt ?_))
  rw [hs]
  refine wpC.bind (wpC.of (wpAny_pure ?_))
  rw [if_neg Bool.false_ne_true]
  refine wpC.bind (h.thn fun v z k => ?_)
  rw [hw]
  refine wpC.bind (wpC.of (wpAny_pure ?_))
  show wpC M A (do assignAll v ((assignEach targets env).map (·.2)); pure Flow.next) Q E z
  exact wpC.bind (k.thn fun _ _ x => wpC.of (wpAny_pure x))
theorem wpC.ifExp {test body orelse : Expr} {pos : Pos} {Q : Value → Shared → Prop} (h : wpAny M A (isTrue test env (eval test env)) (fun b z => if b then wpC M A (eval body env) Q E z else wpC M A (eval orelse env) Q E z) E s) : wpC M A (eval (.IfExp test body orelse pos) env) Q E s := by
  rw [PySem.arm_eval_IfExp]
  refine wpC.bind (wpC.of (wpAny_mono h (fun b z k => ?_) fun _ _ x => x))
  cases b <;> exact k
theorem wpC.for_ {target iter : Expr} {body orelse : List Stmt} {pos : Pos} {Q : Flow → Shared → Prop}
    (h : wpAny M A (eval iter env) (fun x z => wpAny M A (pyIter x) (fun it y => codeC M A (.forLoop target it body orelse env) (fun r u => match r with | .ok f => Q f u | .error e => cameBackBy M A env E e u) y) E z) E s)
    (hs : ∀ x, foldedSetIterable iter env x = pure x := by intro _; rfl) : wpC M A (exec (.For target iter body orelse pos) env) Q E s := by
  rw [PySem.exec_For]
  refine wpC.bind (wpC.of (wpAny_standAt (wpC.bind (wpC.of (wpAny_mono h (fun x z k => ?_) fun _ _ x => x)))))
  refine wpC.bind (wpC.of (wpAny_of_eq (hs x) (wpC.bind (wpC.of (wpAny_standAt ?_)))))
  exact wpC.bind (wpC.of (wpAny_holding (wpAny_mono k (fun it y h2 => wpC.runOwn h2) fun _ _ x => x)))
theorem wpC.try_ {body orelse : List Stmt} {h₀ : ExceptHandler} {hs : List ExceptHandler} {pos : Pos} {Q : Flow → Shared → Prop}
    (h : wpC M A (execs body env) (fun f z => match f with | .next => wpAny M A (execs orelse env) Q E z | f => Q f z)
      (fun e z => wpAny M A (noteFrame e env) (fun _ y => wpAny M A (setFlight e none) (fun _ x => wpAny M A (handleBy e env (h₀ :: hs)) Q E x) E y) E z) s) : wpC M A (exec (.Try body (h₀ :: hs) orelse [] pos) env) Q E s := by
  rw [PySem.arm_exec_Try]
  refine wpC.bind (wpC.of (wpAny_standAt ?_))
  unfold tryStmt
  simp only [List.isEmpty_nil, if_true, List.isEmpty_cons, Bool.false_and, Bool.false_eq_true, if_false]
  refine wpC.bind (wpC.attempt (h.mono (fun f z k => ?_) fun e z k => ?_))
  · cases f <;> first | exact wpC.of k | exact wpC.of (wpAny_pure k)
  · exact wpC.of (wpAny_bind (wpAny_mono k (fun _ _ h2 => wpAny_bind h2) fun _ _ x => x))
theorem wpC.callName {id : Str} {p pos : Pos} {args : List Expr} {keywords : List Keyword} {Q : Value → Shared → Prop}
    (h : wpAny M A (eval (.Name id p) env) (fun f z => wpC M A (callWith pos f [] (backTo pos (starEach args env)) (backToKw pos (keywordEach keywords env))) Q E z) E s) : wpC M A (eval (.Call (.Name id p) args keywords pos) env) Q E s := by
  rw [PySem.arm_eval_Call_Name']
  exact wpC.bind (wpC.of h)
end
section
variable {prog : Program} {w : World} {A : Around} {E : Value → Shared → Prop} {R : Result → Shared → Prop} {s : Shared} {env : Env}
theorem codeC.forLoop {target : Expr} {it : Value} {body orelse : List Stmt} (I : Nat → Shared → Prop)
    (turn : ∀ n z, I n z → wpAny (model prog w) A (pyNext it) (fun r z1 => match r with
      | none => wpAny (model prog w) A (execs orelse env) (fun f y => R (.ok f) y) (notedBy (model prog w) A env fun e y => R (.error e) y) z1
      | some v => wpAny (model prog w) A (letOwnedTupleGo target it v) (fun _ z2 => wpAny (model prog w) A (assign target env v) (fun _ z3 => wpC (model prog w) A (execs body env) (fun f y => match f with
            | .next | .cont => ∃ m, m < n ∧ I m y
            | .brk => R (.ok .next) y
            | .ret v => R (.ok (.ret v)) y) (notedBy (model prog w) A env fun e y => R (.error e) y) z3) (notedBy (model prog w) A env fun e y => R (.error e) y) z2) (notedBy (model prog w) A env fun e y => R (.error e) y) z1) (notedBy (model prog w) A env fun e y => R (.error e) y) z)
    (n : Nat) (h : I n s) : codeC (model prog w) A (.forLoop target it body orelse env) R s := by
  refine codeC.loop rfl I (fun n z hI => ?_) n h
  show wpC _ A ((forTurn target it body orelse env).onRaise (fun x => do noteFrame x env; theTreesLotGoes x)) _ _ z
  refine wpC.noted ?_
  simp only [forTurn]
  refine wpC.bind (wpC.of (wpAny_standAt (wpC.bind (wpC.of (wpAny_onRaise (wpAny_mono (turn n z hI) (fun r z1 k => ?_) fun _ _ k => wpAny_standAt k))))))
  cases r with
  | none => exact wpC.of (wpAny_pure (.inr ⟨rfl, codeC.of (codeAny_block k)⟩))
  | some v =>
    refine wpC.bind (wpC.of (wpAny_mono k (fun _ z2 k2 => ?_) fun _ _ x => x))
    refine wpC.bind (wpC.of (wpAny_mono k2 (fun _ z3 k3 => wpC.bind (k3.thn fun f y k4 => ?_)) fun _ _ x => x))
    cases f with
    | next => exact wpC.of (wpAny_pure (.inl ⟨rfl, k4⟩))
    | cont => exact wpC.of (wpAny_pure (.inl ⟨rfl, k4⟩))
    | brk => exact wpC.of (wpAny_pure k4)
    | ret v => exact wpC.of (wpAny_pure k4)
theorem codeC.func {body : List Stmt} (h : wpC (model prog w) (A.deeper env) (execs body env) (fun f z => R (.ok (.ret (match f with | .ret v => v | _ => .none))) z)
      (fun e z => wpAny (model prog w) (A.deeper env) (leaving env e) (fun _ y => R (.error e) y) (fun e' y => R (.error e') y) z) s) : codeC (model prog w) A (.func body env) R s := by
  refine codeC.tree ?_
  show wpC _ (A.deeper env) (do point; match ← (execs body env).onRaise (leaving env) with | .ret v => PySem.ret v | _ => PySem.ret .none) _ _ s
  refine wpC.bind (wpC.of (wpAny_point (wpC.bind (wpC.onRaise (h.mono (fun f z k => ?_) fun _ _ k => k)))))
  cases f <;> exact wpC.of (wpAny_pure k)
theorem codeC.call_fn {a : Addr} {args : Args} {o : Obj} {fd : FuncData} {body : List Stmt} (hroom : A.depth < recursionLimit) (ho : s.heap.get? a = some o) (hd' : o.data = .func fd) (hco : fd.scope.isCoroutine = false) (hgen : fd.scope.isGenerator = false) (hbody : fd.body = .stmts body) (hcd : s.heap.CodeRec fd.code fd.qualname)
    (h : wpAny (model prog w) A.in1 (bindArgs fd args) (fun binds z => wpAny (model prog w) A.in1 (newFunctionEnv fd.scope fd.globals fd.closure binds (fd.qualname ++ ".<locals>.") (some a) fd.code none fd.builtins)
        (fun env y => y.heap.NoLimit ∧ codeC (model prog w) A (.func body env) R y) (fun e y => R (.error e) y) z) (fun e y => R (.error e) y) s) : codeC (model prog w) A (.call (.ref a) args) R s := by
  refine codeC.tree ?_
  show wpC _ A.in1 (callAny (.ref a) args) _ _ s
  simp only [callAny]
  refine wpC.bind (wpC.of (wpAny_load ho ?_))
  obtain ⟨c, oc, vs, tq, hc, hoc, hdc, hq⟩ := hcd
  simp only [hd', callFunction, hco, hgen, hbody, hc]
  rw [hc] at h
  refine wpC.bind (m := field (.ref c) 1) (wpC.of (wpAny_field hoc hdc hq (wpC.bind (wpC.of (wpAny_pure ?_)))))
  exact wpC.bind (wpC.of (wpAny_mono h (fun binds z k => wpC.bind (wpC.of (wpAny_mono k (fun env y k2 => wpC.bind (wpC.of (wpAny_enterFrame k2.1 hroom (wpC.of (wpAny_pure (And.intro rfl k2.2)))))) fun _ _ x => x))) fun _ _ x => x))
end
end L2

namespace L2
open PySem PySem.Calls PySem.NumText PyProof.Rows
section
variable {prog : Program} {w : World} {A : Around} {E : Value → Shared → Prop} {s : Shared}
theorem wpC.iteT {α : Type} {M : Model} {c : Prop} [Decidable c] {a b : Sem α} {Q : α → Shared → Prop} (hc : c) (h : wpC M A a Q E s) : wpC M A (if c then a else b) Q E s := by rw [if_pos hc]; exact h
theorem wpC.iteF {α : Type} {M : Model} {c : Prop} [Decidable c] {a b : Sem α} {Q : α → Shared → Prop} (hc : ¬ c) (h : wpC M A b Q E s) : wpC M A (if c then a else b) Q E s := by rw [if_neg hc]; exact h
theorem text_no {x : Str} {u : Tok} {text : List Nat} {Q : Value → Shared → Prop} (hs : (text.takeWhile (· != 0)).length ≤ 640) (hr : (int_private% "readNumeral") 0 10 (text.takeWhile (· != 0)) = int_private% "Numeral.invalid")
    (hh : A.handled = none) (hrep : (reprText x).length ≤ sizeLine)
    (h : ∀ h1 e0 args tk, Heap.MadeExc s.heap h1 e0 "ValueError" args → E (.ref e0) { s with heap := h1, toks := tk }) :
    wpC (model prog w) A ((int_private% "intFromText") (.str x u) text 10) Q E s := by
  obtain ⟨hp, g, d, tk, os⟩ := s
  refine wpC.iteT hs ?_
  refine wpC.bind (wpC.of (wpAny_pure ?_))
  dsimp only
  rw [hr]
  dsimp only
  refine wpC.bind (wpC.of (show wpAny _ _ (pure none) _ _ _ from wpAny_pure ?_))
  rw [if_neg (by simp)]
  refine wpC.bind (wpC.of (wpAny_rule ?_))
  refine wpC.bind (wpC.of (show wpAny _ _ (pure none) _ _ _ from wpAny_pure ?_))
  dsimp only
  refine wpC.bind (wpC.of (wpAny_pyRepr_str ?_ hrep))
  refine wpC.bind (wpC.of (wpAny_mkStr ?_ ?_))
  · refine wpC.bind (wpC.of (wpAny_newExc_plain plainExc_ValueError (fun h' e hm => ?_) (by show 1 ≤ sizeLine; decide)))
    refine wpC.bind (mark_no ?_)
    exact wpC.of (wpAny_raiseNew_none hh (h h' e _ _ hm))
  · have e1 : (Str.ofString (toString "invalid literal for int() with base " ++ toString 10 ++ toString ": ")).length ≤ 60 := by decide +kernel
    have e2 : ({ cps := (reprText x).cps.extract 0 200 } : Str).length ≤ 200 := by
      show ((reprText x).cps.extract 0 200).size ≤ 200
      rw [Array.size_extract]
      omega
    rw [Str.length_append, sizeLine_eq]
    omega
structure Hid3 (p : Prop) : Prop where
  out : p
theorem meets_no {Q : Fin → Shared → Prop} {x : Str} {u : Tok} (hl : x.length ≤ 640) (hn : intText? x = none) (h0 : ∀ c ∈ x.cps.toList, c ≠ 0 ∧ c < 128) (hrep : (reprText x).length ≤ sizeLine) (hh : A.handled = none)
    (h : ∀ h1 e0 args tk, Heap.MadeExc s.heap h1 e0 "ValueError" args → E (.ref e0) { s with heap := h1, toks := tk }) : wpC (model prog w) A (Builtin.«int.__new__» ⟨[.type "int", .str x u], []⟩) Q E s := by
  obtain ⟨hp, g, d, tk, os⟩ := s
  have f1 := F.conv_sub_int
  have f2 := F.madeHere_int
  have f3 := PySem.W.KIN.str_int
  have f4 := PySem.W.KIN.str_idx
  have f5 := PySem.W.KIN.str_trunc
  have f6 : typeOf (.str x u) = pure (.type "str") := rfl
  have hs : (numSeenOf x).length ≤ 640 := Nat.le_trans (seen_length x) hl
  have et : numTextOf x = x.cps.toList := by
    show (if x.cps.all (· < 128) then x.cps.toList else Unicode.numberText x.cps.toList) = _
    rw [if_pos]
    rw [Array.all_eq_true']
    intro c hc
    exact decide_eq_true (h0 c (by simpa using hc)).2
  have es : numSeenOf x = numTextOf x := by
    show (numTextOf x).takeWhile (· != 0) = numTextOf x
    rw [et]
    exact takeWhile_all fun c hc => by simpa using (h0 c hc).1
  have hr : (int_private% "readNumeral") 0 10 (numSeenOf x) = int_private% "Numeral.invalid" := by
    rcases read0 x hs with ⟨m, h1, _⟩ | ⟨_, h2 | ⟨i, _, h3⟩⟩
    · rw [hn] at h1; cases h1
    · exact h2
    · exact absurd (by rw [es]; simp) h3
  have hk := Hid3.mk (And.intro hs (And.intro hr (And.intro hh (And.intro hrep h))))
  clear hs hr hl hn hh hrep h es et h0
  unfold Builtin.«int.__new__»
  dsimp only
  repeat (any_goals (first
    | assumption
    | ((with_reducible show wpC _ _ ((int_private% "intFromText") _ _ _) _ _ _); refine text_no hk.out.1 hk.out.2.1 hk.out.2.2.1 hk.out.2.2.2.1 (fun h1 e0 args tk m => ?_))
    | ((with_reducible show wpC _ _ ((int_private% "intFromObject") _ >>= _) _ _ _); refine wpC.bind ?_; refine wpC.bind (wpC.of ?_))
    | ((with_reducible show wpC _ _ ((int_private% "intFromText") _ _ _ >>= _) _ _ _); refine wpC.bind ?_)
    | (with_reducible refine wpC.bind (wpC.of ?_))
    | (with_reducible refine wpC.iteF (by decide) ?_)
    | (with_reducible refine wpC.iteT (by decide) ?_)
    | (with_reducible refine wpC.iteF (by simp) ?_)
    | (with_reducible refine wpC.iteT (by simp) ?_)
    | ((show wpC _ _ ((int_private% "intFromObject") (.str x u) >>= _) _ _ _); refine wpC.bind ?_; refine wpC.bind (wpC.of ?_))
    | wp_step))
  exact hk.out.2.2.2.2 h1 e0 args tk m
theorem codeC.builtin {R : Result → Shared → Prop} {id : String} {args : Args} {b : Builtin} (hb : entryFor table id = some b) (h : wpC (model prog w) (A.under (.builtin id args)) (b args) (fun fin z => match fin with | .done f => R (.ok f) z | .again c' => c'.quiet = true ∧ codeC (model prog w) A c' R z) (fun e z => R (.error e) z) s) : codeC (model prog w) A (.builtin id args) R s := by
  refine codeC.tree ?_
  show wpC _ _ (match entryFor table id with | some b => b args | none => unsupported ((withoutEnding? id "#data").getD id)) _ _ s
  rw [hb]
  exact h
theorem codeC.call_builtin {R : Result → Shared → Prop} {id : String} {args : Args} {b : Builtin} (hp : plainId id = true) (hb : entryFor table id = some b) (hc : checkBuiltinCall id args = pure ()) (h : wpC (model prog w) A.in1 (b args) (fun fin z => match fin with | .done f => R (.ok f) z | .again c' => c'.quiet = true ∧ codeC (model prog w) A c' R z) (fun e z => R (.error e) z) s) : codeC (model prog w) A (.call (.builtin id) args) R s := by
  refine codeC.tree ?_
  show wpC _ A.in1 (do checkBuiltinCall id args; again (.builtin id args)) _ _ s
  rw [hc]
  refine wpC.bind (wpC.of (wpAny_pure (wpC.of (wpAny_pure ⟨plainId_quiet hp args, codeC.builtin hb ?_⟩))))
  rw [Around.under_plainId hp args]
  exact h

theorem call_int_no {Q : Value → Shared → Prop} {x : Str} {t : Tok} (hl : x.length ≤ 640) (hn : intText? x = none) (h0 : ∀ c ∈ x.cps.toList, c ≠ 0 ∧ c < 128) (hrep : (reprText x).length ≤ sizeLine) (hh : A.handled = none)
    (h : ∀ h1 e0 args tk, Heap.MadeExc s.heap h1 e0 "ValueError" args → E (.ref e0) { s with heap := h1, toks := tk }) : wpC (model prog w) A (PySem.call (.type "int") [.str x t]) Q E s := by
  have ft := F.called_int
  obtain ⟨c, tl, hmro⟩ := ft.mro
  have hmade := ft.made
  have hsub := ft.sub
  refine wpC.call (codeC.tree ?_)
  show wpC _ _ (callAny (.type "int") _) _ _ _
  refine wpC.of (wpAny_pure ⟨Code.quiet_builtin _ (by decide +kernel), codeC.builtin F.entry_type_call ?_⟩)
  rw [Around.under_plain (weight_type_call_type "int" [.str x t] []) (units_type_call_type "int" [.str x t] [])]
  have k1 := ft.notType
  have k2 := ft.canCreate
  have k3 := F.typeCall_int_1 (.str x t)
  have k4 := F.newCall_int_1 (.str x t)
  unfold Builtin.«type.__call__»
  dsimp only
  have hk := Hid3.mk (And.intro hl (And.intro hn (And.intro h0 (And.intro hrep (And.intro hh h)))))
  clear hl hn h0 hrep hh h
  repeat (any_goals (first
    | assumption
    | ((with_reducible show wpC _ _ (PySem.holding _ (PySem.call (.builtin "int.__new__") _ _) >>= _) _ _ _); refine wpC.bind (wpC.holding (wpC.call (codeC.call_builtin ft.plain F.entry_int_new k4 (meets_no hk.out.1 hk.out.2.1 hk.out.2.2.1 hk.out.2.2.2.1 hk.out.2.2.2.2.1 ?_)))))
    | (with_reducible refine wpC.bind (wpC.of ?_))
    | (with_reducible refine wpC.iteF (by decide) ?_)
    | (with_reducible refine wpC.iteT (by decide) ?_)
    | (with_reducible refine wpC.iteF (by simp) ?_)
    | (with_reducible refine wpC.iteT (by simp) ?_)
    | wp_step))
  exact hk.out.2.2.2.2.2
end
end L2

namespace L2
open PySem PySem.Calls PySem.NumText PyProof.Rows
section
variable {M : Model} {A : Around} {E : Value → Shared → Prop} {s : Shared} {env : Env}
theorem wpC.callWith {f : Value} {first : List Value} {pos : Pos} {P : Heap → Prop} {args : List (Bool × Sem Value)} {keywords : List (Option Str × Sem Value)} {Q : Value → Shared → Prop} (hplain : (args.any (·.1) || keywords.any (·.1.isNone)) = false)
    (hk : ∀ h, P h → ∃ k, (k = Keeper.frame ∨ k = Keeper.machine ∨ k = Keeper.boundFrame) ∧ PySem.W.Looks M h (keeperOf f) k)
    (h : wpAny M A (evalArgs f true args keywords) (fun a z => P z.heap ∧ wpC M A (PySem.call f (first ++ a.pos) a.kw) Q E z) E s) : wpC M A (PySem.callWith pos f first args keywords) Q E s := by
  unfold PySem.callWith
  refine wpC.bind (wpC.of (wpAny_holding (wpAny_mono h (fun a z k => wpC.bind (wpC.of (wpAny_standAt ?_))) fun _ _ x => x)))
  obtain ⟨kk, hk', L⟩ := hk _ k.1
  simp only [hplain]
  refine wpC.bind (wpC.of (L.here ?_))
  have tail : ∀ {t : Sem Value}, wpC M A t Q E z → wpC M A (t >>= fun r => PySem.holding [r] point >>= fun _ => pure r) Q E z :=
    fun ht => wpC.bind (ht.thn fun r y hr => wpC.of (wpAny_bind (wpAny_holding (wpAny_point (wpAny_pure hr)))))
  have marked (mk : Value) : wpC M A (callMarked mk f (first ++ a.pos) a.kw) Q E z := by unfold callMarked; exact wpC.keep k.2
  rcases hk' with rfl | rfl | rfl <;> dsimp only <;> first | exact tail k.2 | (split <;> first | exact tail k.2 | exact tail (marked _))
theorem wpC.callWithK {K : PySem.W.Frag} {f : Value} {first : List Value} {pos : Pos} {e : Expr} {rest : List Expr} {Q : Value → Shared → Prop} (hk : PySem.W.keepIn K f = true) (h : wpAny M A (spliced (backTo pos (starEach (e :: rest) env))) (fun vs z => K.In z.heap ∧ wpC M A (PySem.call f (first ++ vs)) Q E z) E s)
    (he : starEach (e :: rest) env = (false, eval e env) :: starEach rest env := by rfl) (hplain : (backTo pos (starEach rest env)).any (·.1) = false := by rfl) : wpC M A (PySem.callWith pos f first (backTo pos (starEach (e :: rest) env)) []) Q E s := by
  rw [he] at h ⊢
  exact wpC.callWith (by show ((false || (backTo pos (starEach rest env)).any (·.1)) || false) = false; rw [hplain]; rfl) (PySem.W.keeps_K hk) (Calls.evalArgs_plain h)
theorem wpC.callWithTy {pos : Pos} {T : String} {args : List (Bool × Sem Value)} {Q : Value → Shared → Prop} (hp : args.any (·.1) = false) (h : wpAny M A (evalArgs (.type T) true args []) (fun a z => wpC M A (PySem.call (.type T) a.pos a.kw) Q E z) E s) : wpC M A (PySem.callWith pos (.type T) [] args []) Q E s := by
  unfold PySem.callWith
  refine wpC.bind (wpC.of (wpAny_holding (wpAny_mono h (fun a z k => wpC.bind (wpC.of (wpAny_standAt ?_))) fun _ _ x => x)))
  simp only [hp, List.any_nil, Bool.or_false]
  refine wpC.bind (wpC.of (wpAny_pure ?_))
  exact wpC.bind (k.thn fun r y hr => wpC.of (wpAny_bind (wpAny_holding (wpAny_point (wpAny_pure hr)))))
theorem wpC.callWithT {pos : Pos} {T : String} {e : Expr} {rest : List Expr} {Q : Value → Shared → Prop} (h : wpAny M A (spliced (backTo pos (starEach (e :: rest) env))) (fun vs z => wpC M A (PySem.call (.type T) vs) Q E z) E s)
    (he : starEach (e :: rest) env = (false, eval e env) :: starEach rest env := by rfl) (hplain : (backTo pos (starEach rest env)).any (·.1) = false := by rfl) : wpC M A (PySem.callWith pos (.type T) [] (backTo pos (starEach (e :: rest) env)) []) Q E s := by
  rw [he] at h ⊢
  exact wpC.callWithTy (by show (false || (backTo pos (starEach rest env)).any (·.1)) = false; rw [hplain]; rfl) (Calls.evalArgs_plain h)
end
end L2


namespace L2
open PySem PySem.Spec PyProof.Rows
section
variable {X : Cx} {e : Expr} {te : TE} {st : Stmt} {rest : List Stmt} {t u : TS} {pos : Pos}
noncomputable def PEc (X : Cx) (e : Expr) (t : TE) : Prop := ∀ (pins : List (Addr × Obj)) (s : Shared) (σ : St) (H : Hp) (Q : VK), Inv X pins σ H s → t σ H Q → wpC (model X.prog X.w) X.A (eval e X.env) (EP X pins σ Q) X.xe s
noncomputable def PSc (X : Cx) (st : Stmt) (t : TS) : Prop := ∀ (pins : List (Addr × Obj)) (s : Shared) (σ : St) (H : Hp) (D : Ends), Inv X pins σ H s → t D σ H → wpC (model X.prog X.w) X.A (exec st X.env) (SP X pins D) X.xe s
noncomputable def PSsc (X : Cx) (sts : List Stmt) (t : TS) : Prop := ∀ (pins : List (Addr × Obj)) (s : Shared) (σ : St) (H : Hp) (D : Ends), Inv X pins σ H s → t D σ H → wpC (model X.prog X.w) X.A (execs sts X.env) (SP X pins D) X.xe s
theorem PE.c (h : PE X e te) : PEc X e te := fun pins s σ H Q I q => wpC.of (h pins s σ H Q I q)
theorem PS.c (h : PS X st t) : PSc X st t := fun pins s σ H D I q => wpC.of (h pins s σ H D I q)
theorem PSs.c (h : PSs X rest t) : PSsc X rest t := fun pins s σ H D I q => wpC.of (h pins s σ H D I q)
theorem pssc_cons (h1 : PSc X st t) (h2 : PSsc X rest u) : PSsc X (st :: rest) (tSeq t u) := by
  intro pins s σ H D I h
  refine wpC.execs_cons ((h1 pins s σ H { D with nx := u D } I h).thn fun f s1 q => ?_)
  cases f with
  | next =>
    obtain ⟨σ', H', I', q⟩ := q
    exact h2 pins s1 σ' H' D I' q
  | ret v => exact q
  | brk => exact q
  | cont => exact q
theorem pssc_one (h1 : PSc X st t) : PSsc X [st] t := by
  intro pins s σ H D I h
  refine wpC.execs_cons ((h1 pins s σ H D I h).thn fun f s1 q => ?_)
  cases f with
  | next => exact wpC.of (wpAny_execs_nil q)
  | ret v => exact q
  | brk => exact q
  | cont => exact q
theorem psc_ret (he : PEc X e te) : PSc X (.Return (some e) pos) (tRet te) := by
  intro pins s σ H D I h
  exact wpC.ret ((he pins s σ H _ I h).thn fun v s1 ⟨x, H1, I1, r1, q1⟩ => ⟨x, σ, H1, I1, r1, q1⟩)
theorem psc_if {c : Expr} {a b : List Stmt} {tc : TT} (hc : PT X c tc) (ha : PSsc X a t) (hb : PSsc X b u) : PSc X (.If c a b pos) (tIfS tc t u) := by
  intro pins s σ H D I h
  refine wpC.if_ (L2.thn (hc pins s σ H _ I h) fun d s1 ⟨H1, I1, q1⟩ => ?_)
  cases d with
  | true => exact ha pins s1 σ H1 D I1 q1
  | false => exact hb pins s1 σ H1 D I1 q1
theorem pec_ifExp {c a b : Expr} {tA : TT} {ta tb : TE} (hc : PT X c tA) (ha : PEc X a ta) (hb : PEc X b tb) : PEc X (.IfExp c a b pos) (tIf tA ta tb) := by
  intro pins s σ H Q I h
  refine wpC.ifExp (L2.thn (hc pins s σ H _ I h) fun d s1 ⟨H1, I1, q1⟩ => ?_)
  cases d with
  | true => exact ha pins s1 σ H1 Q I1 q1
  | false => exact hb pins s1 σ H1 Q I1 q1
theorem psc_set {i : Nat} {x : Str} {pos' : Pos} (hN : X.N.Nodup) (hi : X.N[i]? = some x) (hx : Loc X.env.scope x) (he : PEc X e te) (hs : swapsWith e (some (.Name x pos')) pos.line X.env = pure false := by rfl) (hf : X.fn x = true ∨ X.env.scope.names.lookup x = some .local := by first | exact .inl rfl | exact .inr rfl | assumption) :
    PSc X (.Assign [.Name x pos'] e pos) (tAsg te (gName i)) := by
  intro pins s σ H D I h
  refine wpC.set ((he pins s σ H _ I h).thn fun v s1 ⟨y, H1, I1, r1, q1⟩ => ?_) hs
  exact store_ok I1 hN hi hx r1 (fun s2 I2 => ⟨_, H1, I2, q1⟩) hf

theorem psc_sub {o i : Expr} {to ti : TE} {t : TSet} {pos' : Pos} (he : PEc X e te) (ho : PE X o to) (hi : PEc X i ti) (hs : PSet X t)
    (ha : ∀ v, assign (.Subscript o i pos') X.env v = (do
      let ov ← holding [v] (eval o X.env)
      let iv ← holding [v, ov] (eval i X.env)
      standAt pos'
      holding [v, ov, iv] (setItem ov iv v)
      release [v, ov, iv] []) := by intro _; rfl)
    (hsw : swapsWithSole [.Subscript o i pos'] e pos.line X.env = pure false := by rfl) (hw : swappedStores [.Subscript o i pos'] e X.env = pure none := by rfl)
    (h1 : (assignEach [.Subscript o i pos'] X.env).map (·.2) = [assign (.Subscript o i pos') X.env] := by rfl) : PSc X (.Assign [.Subscript o i pos'] e pos) (tAsg te (gSub to ti t)) := by
  intro pins s σ H D I h
  refine wpC.stores ((he pins s σ H _ I h).thn fun u s1 ⟨v, H1, I1, r, q1⟩ => ?_) hsw hw
  rw [h1]
  have go : wpC (model X.prog X.w) X.A (assign (.Subscript o i pos') X.env u) (fun _ => SP X pins D .next) X.xe s1 := by
    rw [ha]
    refine wpC.bind (wpC.of (wpAny_holding (L2.thn (ho pins s1 σ H1 _ I1 q1) fun ov s2 ⟨x, H2, I2, r2, q2⟩ => ?_)))
    refine wpC.bind (wpC.holding ((hi pins s2 σ H2 _ I2 q2).thn fun iv s3 ⟨y, H3, I3, r3, q3⟩ => ?_))
    refine wpC.bind (wpC.of (wpAny_standAt (wpC.bind (wpC.of (wpAny_holding (L2.thn (hs pins s3 σ H3 x y v ov iv u _ I3 r2 r3 r q3) fun _ s4 ⟨H4, I4, q4⟩ => ?_))))))
    exact wpC.of (wpAny_release ⟨σ, H4, I4, q4⟩)
  exact go
theorem psc_for {tg iter : Expr} {body : List Stmt} {wi : TI} {g : TG} {tb : TS} (hp : PassesOwn (model X.prog X.w) X.A X.env X.xe) (hc : X.calm = true) (hi : PI X tg iter wi) (hg : PG X tg g) (hb : PSsc X body tb)
    (hs : ∀ x, foldedSetIterable iter X.env x = pure x := by intro _; rfl) : PSc X (.For tg iter body [] pos) (tFor wi g tb) := by
  intro pins s σ H D I h
  refine wpC.for_ (L2.thn (hi pins s σ H _ I h) fun v s1 h1 => L2.thn h1 fun itv s2 h2 => ?_) hs
  obtain ⟨it, fp, tn, J, H2, e, I2, T, st2, f2, W, ⟨m0, w0⟩, turn⟩ := h2
  subst e
  have stat : ∀ {H' : Hp}, (∀ b ∈ fp, H' b = none) → ∀ b ∈ fp, FpOk X pins H' b := fun hn b hb => ⟨hn b hb, (f2 b hb).2⟩
  refine codeC.forLoop (fun n s' => ∃ i σ' H', Inv X pins σ' H' s' ∧ tn i s'.heap ∧ (∀ b ∈ fp, H' b = none) ∧ W i n σ' H') ?_ m0 ⟨0, σ, H2, I2, st2, fun b hb => (f2 b hb).1, w0⟩
  rintro n s3 ⟨i, σ3, H3, I3, st3, fr3, w3⟩
  rcases turn i n σ3 H3 w3 with ⟨stop, qn⟩ | ⟨go, N, hN, step⟩
  · refine wpAny_passesOwn hp (L2.thn (T.done X rfl rfl rfl hc i pins s3 σ3 H3 X.xe I3 (stat fr3) st3 stop) fun r s4 ⟨hr, I4⟩ => ?_)
    subst hr
    exact wpAny_execs_nil ⟨σ3, H3, I4, qn⟩
  · refine wpAny_passesOwn hp (L2.thn (T.item X rfl rfl rfl hc i pins s3 σ3 H3 X.xe I3 (stat fr3) st3 go) fun r s4 ⟨u, hr, h4⟩ => ?_)
    subst hr
    refine wpAny_passesOwn hp (L2.thn h4 fun _ s5 ⟨x, H5, I5, r5, y5, st5, fr5⟩ => ?_)
    have I5' := I5.pinned (stat fr5) (T.obj _ _ st5)
    refine wpAny_passesOwn hp (L2.thn (hg _ s5 σ3 H5 x u _ I5' r5 (step x H5 y5)) fun _ s6 ⟨σ6, H6, I6, q6⟩ => ?_)
    refine wpC.mono (hb _ s6 σ6 H6 _ I6 q6) (fun f s7 q7 => ?_) hp
    have again : ∀ {σ7 : St} {H7 : Hp}, Inv X (pins ++ pinsAt fp s5.heap) σ7 H7 s7 → N σ7 H7 → ∃ m, m < n ∧ ∃ i σ' H', Inv X pins σ' H' s7 ∧ tn i s7.heap ∧ (∀ b ∈ fp, H' b = none) ∧ W i m σ' H' := fun {σ7 H7} I7 n7 => by
      obtain ⟨m', hm, w7⟩ := hN σ7 H7 n7
      refine ⟨m', hm, i + 1, σ7, H7, I7.unpinned, T.keep _ _ _ st5 fun b hb o e => (I7.pin (b, o) (List.mem_append_right _ (List.mem_append_right _ (mem_pinsAt hb e)))).1, fun b hb => ?_, w7⟩
      obtain ⟨o, e, d⟩ := T.obj _ _ st5 b hb
      exact (I7.pin (b, o) (List.mem_append_right _ (List.mem_append_right _ (mem_pinsAt hb e)))).2.1
    cases f with
    | next => obtain ⟨σ7, H7, I7, n7⟩ := q7; exact again I7 n7
    | cont => obtain ⟨σ7, H7, I7, n7⟩ := q7; exact again I7 n7
    | brk => obtain ⟨σ7, H7, I7, n7⟩ := q7; exact ⟨σ7, H7, I7.unpinned, n7⟩
    | ret v => obtain ⟨y, σ7, H7, I7, r7, n7⟩ := q7; exact ⟨y, σ7, H7, I7.unpinned, r7, n7⟩
end

structure FnOkC (P : Program) (w : World) (K : PySem.W.Frag) (mg : Str → Option Value) (base : Heap) (CX : CXT) (k : Nat) (f : Addr) (fd : FuncData) (ps : List Str) (sp : Sp) : Prop where
  len : ∀ vs H Q E, sp vs H Q E → vs.length = ps.length
  run : ∀ (A : Around) (outer : List Env) (s : Shared) (H : Hp) (args : Args) (us : List Value) (vs : List V) (Q : VK) (E : XK), Room k A → Env0 P w K mg base A outer s H → BindsTo s fd args (ps.zip us) → Vals vs us → sp vs H Q E →
    codeC (model P w) A (.call (.ref f) args) (CR CX outer P w H s Q E) s
theorem fnc_of {CX : CXT} {P : Program} {w : World} {K : PySem.W.Frag} {mg : Str → Option Value} {base : Heap} {k : Nat} {f : Addr} {name qual : Str} {params : Arguments} {body : List Stmt} {scope : Scope} {dV kV doc pm cdv ct oc : Value} {an od : Option Addr}
    {osl : Array (Option Value)} {N ps : List Str} {sp : Sp} (lk : K.lookup f = some ⟨oc, od, .func (PySem.W.fnOf name qual params body scope dV kV doc pm an cdv ct), osl⟩) (hcd : PySem.W.codeIn K cdv qual = true) (S : FnScope N ps scope)
    (len : ∀ vs H Q E, sp vs H Q E → vs.length = ps.length)
    (hbody : ∀ (A : Around) (outer : List Env) (s : Shared) (H : Hp) (vs : List V) (Q : VK) (E : XK), Room k (A.deeper (envOfC qual scope s.heap.objs.size f cdv)) → sp vs H Q E →
      ∃ t, PSsc (cxOf CX P w K mg base N qual scope f cdv A outer s H E) body t ∧ t { nx := fun _ H' => Q .non H', rt := Q } (start N vs) H) :
    FnOkC P w K mg base CX (k + 1) f (PySem.W.fnOf name qual params body scope dV kV doc pm an cdv ct) ps sp := by
  refine ⟨len, fun A outer s H args us vs Q E hr e0 hb r hsp => ?_⟩
  have hl := len _ _ _ _ hsp
  have KX : K.In s.heap := e0.mod.kin.keeps fun b o e => (e0.bs b o e).1
  have lim : s.heap.NoLimit := e0.mod.nolimit.keeps fun b o e => (e0.bs b o e).1
  have hkind : ∀ y ∈ ps.zip us, scope.names.lookup y.1 = some .local ∨ (scope.names.lookup y.1 = some .cell ∧ ((cellsFrom (s.heap.objs.size + 1) scope.names []).lookup y.1).isSome = true) := fun ⟨n, v⟩ hy => by
    rcases S.par n (List.of_mem_zip hy).1 with q | q
    · exact .inl q
    · exact .inr ⟨q, PySem.W.cellsFrom_some _ _ _ (.inl q)⟩
  refine codeC.call_fn hr.depth (KX _ _ lk) rfl S.co S.gen rfl (PySem.W.codeRec_of KX hcd) (hb _ _ _ _ ?_)
  refine wpT e0.tk (wpAny_newFunctionEnv_cells S.kind hkind fun env he s1 x htk => ?_)
  subst he
  refine ⟨lim.keeps x.toInCall.keep, codeC.func ?_⟩
  obtain ⟨t, ht, hq⟩ := hbody A outer s H vs Q E (hr.deeper _) hsp
  have I : Inv (cxOf CX P w K mg base N qual scope f cdv A outer s H E) [] (start N vs) H s1 := inv_start (t0 := s.toks) (t1 := s1.toks) S hr.hd e0 htk hl r x
  refine (ht [] s1 (start N vs) H _ I hq).mono (fun fl s' hs => ?_) fun e s' hs => hs
  have fin : ∀ {σ' : St} {H' : Hp} {v : V} {u : Value}, Inv (cxOf CX P w K mg base N qual scope f cdv A outer s H E) [] σ' H' s' → RelV v u → Q v H' → CE outer P w H s Q u s' :=
    fun {σ' H' v u} J rv q => ⟨v, H', J.os, J.bare, J.base, J.hok, rv, q⟩
  cases fl with
  | ret u =>
    obtain ⟨v, σ', H', J, rv, q⟩ := hs
    exact fin J rv q
  | next =>
    obtain ⟨σ', H', J, q⟩ := hs
    exact fin (v := V.non) (u := Value.none) J rfl q
  | brk =>
    obtain ⟨_, _, _, q⟩ := hs
    exact False.elim q
  | cont =>
    obtain ⟨_, _, _, q⟩ := hs
    exact False.elim q
section
variable {P : Program} {w : World} {K : PySem.W.Frag} {mg : Str → Option Value} {base : Heap}
theorem Fun.okC {x qual : Str} {st : Stmt} {f : Addr} {fd : FuncData} {N ps : List Str} {k : Nat} {sp : Sp} (F : Fun K x qual st f fd) (S : FnScope N ps (defScope st)) (len : ∀ vs H Q E, sp vs H Q E → vs.length = ps.length)
    (hbody : ∀ (cdv : Value) (A : Around) (outer : List Env) (s : Shared) (H : Hp) (vs : List V) (Q : VK) (E : XK), Room k (A.deeper (envOfC qual (defScope st) s.heap.objs.size f cdv)) → sp vs H Q E →
      ∃ t, PSsc (cxOf (CXE P w) P w K mg base N qual (defScope st) f cdv A outer s H E) (defBody st) t ∧ t { nx := fun _ H' => Q .non H', rt := Q } (start N vs) H) : FnOkC P w K mg base (CXE P w) (k + 1) f fd ps sp := by
  obtain ⟨oc, od, kV, doc, pm, an, cdv, ct, osl, rfl, lk, hcd⟩ := F.ex
  exact fnc_of lk hcd S len fun A outer s H vs Q E hr hsp => hbody cdv A outer s H vs Q E hr hsp
noncomputable def FnAtC (P : Program) (w : World) (K : PySem.W.Frag) (mg : Str → Option Value) (base : Heap) (k : Nat) (x : Str) (ps : List Str) (sp : Sp) : Prop :=
  ∃ (f : Addr) (fd : FuncData), FnOkC P w K mg base (CXE P w) k f fd ps sp ∧ Binds K fd ps [] ∧ PySem.W.keepIn K (.ref f) = true ∧ mg x = some (.ref f)
end
theorem pec_callC {X : Cx} {j k : Nat} {x : Str} {ps : List Str} {sp : Sp} {e : Expr} {es : List Expr} {p pos : Pos} {t : TA} {E : XK} (F : FnAtC X.prog X.w X.K X.mg X.base j x ps sp) (hr : Room k X.A) (hg : Gl X x) (hx : Passes (CXE X.prog X.w) X E) (ha : PA X (e :: es) t) (hj : j ≤ k := by decide)
    (hdb : (x == ("__debug__" : Str)) = false := by decide) (he : starEach (e :: es) X.env = (false, eval e X.env) :: starEach es X.env := by rfl) (hpl : (backTo pos (starEach es X.env)).any (·.1) = false := by rfl) :
    PEc X (.Call (.Name x p) (e :: es) [] pos) (tCall sp [] E t) := by
  obtain ⟨f, fd, G, hb, kp, hm⟩ := F
  intro pins s σ H Q I h
  refine wpC.callName (ld_glob I hg hm ?_ hdb)
  refine wpC.callWithK kp (L2.thn (ha pos pins s σ H _ I h) fun us s1 ⟨vs, H1, I1, r, q⟩ => ⟨I1.kIn, ?_⟩) he hpl
  have r2 : Vals (vs ++ []) (us ++ []) := r.append .nil
  have hl : (us ++ []).length = ps.length := by rw [← r2.length]; exact G.len _ _ _ _ q
  refine wpC.call (codeCT I1.tk ((G.run X.A X.stack s1 H1 ⟨us, []⟩ (us ++ []) (vs ++ []) Q E (hr.mono hj) I1.env0 (hb s1 us I1.kIn hl) r2 q).mono fun r s' hq ht => ?_))
  cases r with
  | error e => exact hx pins σ H1 s1 e s' I1 hq
  | ok fl =>
    cases fl with
    | ret u => exact I1.after hq ht
    | next => exact False.elim hq
    | brk => exact False.elim hq
    | cont => exact False.elim hq
end L2

namespace L2
open PySem PySem.Spec PyProof.Rows
section
variable {P : Program} {w : World} {K : PySem.W.Frag} {mg : Str → Option Value} {base : Heap} {N : List Str} {qual : Str} {scope : Scope} {f : Addr} {cd : Value} {A : Around} {outer : List Env} {s₀ : Shared} {H₀ : Hp} {E : XK}

noncomputable def RefW (X : Cx) (H : Hp) (u : Value) (s' : Shared) : Prop := ∃ (pins : List (Addr × Obj)) (σ : St) (s1 : Shared) (mc : Str → Option Value) (h' : Heap) (e : Addr) (tk : Nat), Inv X pins σ H s1 ∧ s1.heap.Ns cStatics mc ∧ mc "sys.recursionlimit" = none ∧ Refd s1.heap mc h' e ∧ h'.get? cStatics = s1.heap.get? cStatics ∧ u = .ref e ∧ s' = { s1 with heap := h', toks := tk } ∧ 0 < tk
noncomputable def CallRc (X : Cx) (f : Value) (r : List V → Hp → VK → Prop) : Prop :=
  ∀ (pins : List (Addr × Obj)) (s : Shared) (σ : St) (H : Hp) (xs : List V) (us : List Value) (Q : VK), Inv X pins σ H s → Vals xs us → r xs H Q → wpC (model X.prog X.w) X.A (call f us) (EP X pins σ Q) X.xe s
theorem call_int_refC {X : Cx} {H : Hp} {x : Str} (hc : X.calm = true) (hl : x.length ≤ 640) (hn : intText? x = none) (h0 : ∀ c ∈ x.cps.toList, c ≠ 0 ∧ c < 128) : CallRc (X.wish (RefW X H)) (.type "int") (fun xs H' _ => xs = [.str x] ∧ H' = H) := by
  rintro pins s σ H' xs us Q I r ⟨rfl, rfl⟩
  obtain ⟨u, rfl, t, rfl⟩ := Vals.one r
  obtain ⟨mc, hm, hlim⟩ := I.nolimit
  have hrep : (reprText x).length ≤ sizeLine := by
    have := StrLaws.reprText_len x fun c hc => by have := (h0 c hc).2; omega
    rw [sizeLine_eq]; omega
  refine wpCT I.tk (call_int_no hl hn h0 hrep (I.ok.hd hc) fun h' e args tk m ht => ⟨pins, σ, s, mc, h', e, tk, I.unwish, hm, hlim, .no args m, ?_, rfl, rfl, ht⟩)
  obtain ⟨o, _, _, ho, _⟩ := hm
  rw [m.keeps _ _ ho, ho]
theorem pec_callTy {X : Cx} {T : String} {r : List V → Hp → VK → Prop} {x : Str} {e : Expr} {es : List Expr} {t : TA} {p pos : Pos} (hc : CallRc X (.type T) r) (hg : Gl X x) (hm : X.mg x = none) (hv : bootBuiltins x = some (.type T)) (ha : PA X (e :: es) t) (hn : x ≠ "__name__" := by decide) (hdb : (x == ("__debug__" : Str)) = false := by decide)
    (he : starEach (e :: es) X.env = (false, eval e X.env) :: starEach es X.env := by rfl) (hpl : (backTo pos (starEach es X.env)).any (·.1) = false := by rfl) : PEc X (.Call (.Name x p) (e :: es) [] pos) (tCB r t) := by
  intro pins s σ H Q I h
  refine wpC.callName (ld_blt I hg hm hv ?_ hn hdb)
  exact wpC.callWithT (L2.thn (ha pos pins s σ H _ I h) fun us s1 ⟨vs, H1, I1, r1, q1⟩ => hc pins s1 σ H1 vs us Q I1 r1 q1) he hpl

theorem psc_refused {H : Hp} {body : List Stmt} {t : TS} {C : Addr} {x tx : Str} {np vp cpos rpos hpos kp0 pos : Pos} {j : Nat} {B newId initId : String} {bmB : List Value} (hb : PSsc (Cx.wish (cxOf (CXE P w) P w K mg base N qual scope f cd A outer s₀ H₀ E) (RefW (cxOf (CXE P w) P w K mg base N qual scope f cd A outer s₀ H₀ E) H)) body t) (F : ExcBaseFacts B newId initId bmB)
    (hgv : Gl (cxOf (CXE P w) P w K mg base N qual scope f cd A outer s₀ H₀ E) "ValueError") (hmv : mg "ValueError" = none) (hg : Gl (cxOf (CXE P w) P w K mg base N qual scope f cd A outer s₀ H₀ E) x) (hx : mg x = some (.ref C)) (hq : PySem.W.excIn K C bmB newId = true) (hE : E (.ref C) none H) (hdb : (x == ("__debug__" : Str)) = false := by decide) :
    PSc (cxOf (CXE P w) P w K mg base N qual scope f cd A outer s₀ H₀ E) (.Try body [.ExceptHandler (some (.Name "ValueError" vp)) none [.Raise (some (.Call (.Name x np) [.Constant (.str tx) j kp0] [] cpos)) none rpos] hpos] [] [] pos) (fun _ σ H' => t { nx := fun _ _ => False, rt := fun _ _ => False } σ H') := by
  intro pins s σ H0 D I h
  refine wpC.try_ ((hb pins s σ H0 _ (I.wish _) h).mono (fun fl s1 hf => ?_) (fun u s1 hu => ?_))
  · cases fl with
    | next => obtain ⟨_, _, _, q⟩ := hf; exact q.elim
    | brk => obtain ⟨_, _, _, q⟩ := hf; exact q.elim
    | cont => obtain ⟨_, _, _, q⟩ := hf; exact q.elim
    | ret v => obtain ⟨_, _, _, _, _, q⟩ := hf; exact q.elim
  · obtain ⟨pins1, σ1, s2, mc, h', e, tk, I1, hm, hlim, rr, hsm, rfl, rfl, ht⟩ := hu
    exact whole_bad rfl I1 hm hlim rr hsm ht F hgv hmv hg hx hq hE hdb
end
end L2


namespace L2
open PySem PySem.Spec PyProof.Rows PySem.W
section
variable {X : Cx} {pins : List (Addr × Obj)} {σ : St} {H : Hp} {s : Shared}

theorem goes_ok {M : Model} {A : Around} {E : Value → Shared → Prop} {i : Nat} {x : Str} {pos : Pos} {Q : Unit → Shared → Prop} (I : Inv X pins σ H s) (hN : X.N.Nodup) (hi : X.N[i]? = some x) (hk : X.env.scope.names.lookup x = some .local)
    (h : ∀ s', Inv X pins (σ.set i none) H s' → Q () s') : wpAny M A (do bindName X.env x .none; unbindBehindTheSuite X.env x pos) Q E s := by
  obtain ⟨m, hn, hl⟩ := id I.loc
  have hcls : (X.env.scope.kind == .class || (X.env.scope.kind == .module && X.env.locals != X.env.globals)) = false := by rw [I.ok.kind]; rfl
  have hiσ : i < σ.length := by rw [I.len]; exact (List.getElem?_eq_some_iff.mp hi).1
  have neL : ∀ b o, X.s₀.heap.get? b = some o → b ≠ X.env.locals := fun b o e => Nat.ne_of_lt (Nat.lt_of_lt_of_le (Heap.lt_size e) I.ok.above)
  refine wpAny_nameGoes_keeps hk hn hcls fun h' v hn' hs => h _ ⟨I.ok, I.os, I.bare, ⟨fun b o e n hb hx => (hs.2 b (neL b o e)).trans (I.base.keep b o e n hb hx), fun b o e n hb hx => ?_, I.base.free, fun b o e hx => ?_, I.base.tups, I.base.frzs, I.base.tbls⟩, ⟨_, hn', fun j y v' e1 e2 e3 => ?_⟩, fun y c e => ?_, I.free, I.freeC, fun p hp => ?_, fun b o e => ?_, by simpa using I.len, Nat.succ_pos _⟩
  · obtain ⟨sl, q⟩ := I.base.slot b o e n hb hx
    exact ⟨sl, (hs.2 b (neL b o e)).trans q⟩
  · obtain ⟨o', q⟩ := I.base.there b o e hx
    exact ⟨o', (hs.2 b (neL b o e)).trans q⟩
  · have hj : j ≠ i := fun z => by
      rw [z, List.getElem?_set_self hiσ] at e2
      cases e2
    rw [List.getElem?_set_ne (Ne.symm hj)] at e2
    obtain ⟨u, r, q⟩ := hl j y v' e1 e2 e3
    refine ⟨u, r, ?_⟩
    rcases q with ⟨q1, q2⟩ | ⟨q1, c, q2, q3⟩
    · have hy : y ≠ x := fun z => hj (nodup_ix hN (z ▸ e1) hi)
      exact .inl ⟨q1, by show (if y = x then v else m y) = _; rw [if_neg hy]; exact q2⟩
    · exact .inr ⟨q1, c, q2, q3.sameBut hs (I.cne y c q2)⟩
  · obtain ⟨v', z⟩ := I.cell y c e
    exact ⟨v', z.sameBut hs (I.cne y c e)⟩
  · obtain ⟨e, n, ne, nf, d⟩ := I.pin p hp
    exact ⟨(hs.2 p.1 ne).trans e, n, ne, nf, d⟩
  · refine (I.hok b o e).stay (fun c w' hc q => (hs.2 c ?_).trans q) (fun _ q => q) fun _ _ q => q
    rintro rfl
    rcases hc with rfl | hc
    · rw [I.free] at e; cases e
    · rw [I.free] at hc; cases hc

theorem Inv.re {A' : Around} {c : Bool} {pn' pins' : List (Addr × Obj)} {W : Value → Shared → Prop} (I : Inv X pins σ H s) (hd : c = true → A'.handled = none) (hf : A'.frames = X.A.frames) (hp : ∀ p ∈ pn' ++ pins', p ∈ X.pn ++ pins) :
    Inv { X with A := A', calm := c, pn := pn', xe := W } pins' σ H s :=
  ⟨⟨I.ok.mod, I.ok.kind, I.ok.glob, I.ok.blt, I.ok.above, I.ok.inj, I.ok.has, I.ok.cab, hd, hf.trans I.ok.frames, I.ok.stk, I.ok.exf, I.ok.bs, I.ok.bsz, I.ok.noex, I.ok.exfs, I.ok.funs, I.ok.frf⟩,
    I.os, I.bare, I.base, I.loc, I.cell, I.free, I.freeC, fun p h => I.pin p (hp p h), I.hok, I.len, I.tk⟩
end

noncomputable def Cx.tr (X : Cx) (pn : List (Addr × Obj)) (Ew : St → XK) : Cx :=
  { X with A := X.A, calm := X.calm, pn := pn, xe := fun u s' => ∃ (pins : List (Addr × Obj)) (σ : St) (H : Hp) (s : Shared), Inv { X with A := X.A, calm := X.calm, pn := pn, xe := X.xe } pins σ H s ∧ CXE X.prog X.w X.stack H s (Ew σ) u s' }

noncomputable def Cx.hand (X : Cx) (e : Addr) : Cx := { X with A := X.A.mark (some (.ref e)), calm := false, pn := X.pn, xe := fun _ _ => False }
section
variable {X : Cx} {pins : List (Addr × Obj)} {σ : St} {H : Hp} {s : Shared}

noncomputable def tCallS (sp : Sp) (Ew : St → XK) (t : TA) : TE := fun σ H Q => t σ H fun vs H1 => sp vs H1 Q (Ew σ)
theorem pec_callS {pn : List (Addr × Obj)} {Ew : St → XK} {j k : Nat} {x : Str} {ps : List Str} {sp : Sp} {e : Expr} {es : List Expr} {p pos : Pos} {t : TA} (F : FnAtC X.prog X.w X.K X.mg X.base j x ps sp) (hr : Room k X.A) (hg : Gl X x) (ha : PA (X.tr pn Ew) (e :: es) t) (hj : j ≤ k := by decide)
    (hdb : (x == ("__debug__" : Str)) = false := by decide) (he : starEach (e :: es) X.env = (false, eval e X.env) :: starEach es X.env := by rfl) (hpl : (backTo pos (starEach es X.env)).any (·.1) = false := by rfl) :
    PEc (X.tr pn Ew) (.Call (.Name x p) (e :: es) [] pos) (tCallS sp Ew t) := by
  obtain ⟨f, fd, G, hb, kp, hm⟩ := F
  intro pins s σ H Q I h
  refine wpC.callName (ld_glob I hg hm ?_ hdb)
  refine wpC.callWithK kp (thn (ha pos pins s σ H _ I h) fun us s1 z => ?_) he hpl
  obtain ⟨vs, H1, I1, r, q⟩ := z
  refine ⟨I1.kIn, ?_⟩
  have hl : us.length = ps.length := by rw [← r.length]; exact G.len _ _ _ _ q
  have hb' := hb s1 us I1.kIn (by rw [List.append_nil]; exact hl)
  rw [List.append_nil] at hb'
  refine wpC.call (codeCT I1.tk ((G.run X.A X.stack s1 H1 ⟨us, []⟩ us vs Q (Ew σ) (hr.mono hj) I1.env0 hb' r q).mono fun r s' hq ht => ?_))
  cases r with
  | error e => exact ⟨pins, σ, H1, s1, I1.re (fun z => I1.ok.hd z) rfl fun p hp => hp, hq⟩
  | ok fl =>
    cases fl with
    | ret u => exact I1.after hq ht
    | next => exact False.elim hq
    | brk => exact False.elim hq
    | cont => exact False.elim hq

theorem Un.more {fs : List Addr} {H H' : Hp} {h h' : Heap} {e : Addr} {o : HO} (u : Un fs [] H H' h h') (hn : h.get? e = none) (hf : H' e = none) : Un fs [] H (upd H' e o) h h' := by
  have ne : ∀ b ob, h.get? b = some ob → b ≠ e := fun b ob q z => by rw [z, hn] at q; cases q
  have nu : ∀ b ob, H' b = some ob → b ≠ e := fun b ob q z => by rw [z, hf] at q; cases q
  exact ⟨u.keep, u.slot, fun b ob q n hx => (upd_ne (ne b ob q)).trans (u.free b ob q n hx), u.there, fun b xs q => (upd_ne (nu b _ (u.tups b xs q))).trans (u.tups b xs q), fun b ob xs q => (upd_ne (nu b _ (u.frzs b ob xs q))).trans (u.frzs b ob xs q),
    fun b ps q => let ⟨m, z⟩ := u.tbls b ps q; ⟨m, (upd_ne (nu b _ z)).trans z⟩⟩
theorem HOk.more {P : Program} {w : World} {H : Hp} {h : Heap} {e D : Addr} (x : HOk P w H h) (hf : H e = none) (p : ExcAt h e D) : HOk P w (upd H e (excO e D)) h := fun a o q => by
  by_cases ha : a = e
  · subst ha
    rw [upd_same] at q
    cases q
    obtain ⟨ox, h1, h2⟩ := p
    exact ⟨⟨ox, h1, h2⟩, ⟨ox, h1⟩, fun g1 g2 ⟨o1, z1, z2⟩ k => ⟨o1, k _ z1, z2⟩⟩
  · rw [upd_ne ha] at q
    have nu : ∀ b ob, H b = some ob → b ≠ e := fun b ob q z => by rw [z, hf] at q; cases q
    exact (x a o q).stay (fun _ _ _ z => z) (fun b z => (upd_ne (nu b _ z)).trans z) fun b xs z => (upd_ne (nu b _ z)).trans z

noncomputable def tTry (K : Frag) (c0 : Addr) (Ew : St → XK) (i : Nat) (tb ts : TS) : TS := fun D σ H => tb D σ H ∧ ∀ (σ' : St) (C : Value) (H' : Hp), Ew σ' C none H' → ∃ D0 : Addr, C = .ref D0 ∧ exmOne K (.ref D0) (.ref c0) = some true ∧
  ∀ e : Addr, H' e = none → ts { nx := fun σ H => D.nx (σ.set i none) H, rt := D.rt } (σ'.set i (some (.ref e))) (upd H' e (excO e D0))
theorem psc_tryE {i : Nat} {n c : Str} {c0 : Addr} {body suite : List Stmt} {b₀ : Stmt} {np hpos pos : Pos} {Ew : St → XK} {tb ts : TS} (hst : X.stack = X.env :: X.outer) (hfr : X.env.frame = some X.env.locals) (hN : X.N.Nodup) (hi : X.N[i]? = some n) (hk : X.env.scope.names.lookup n = some .local)
    (hg : Gl X c) (hm : X.mg c = some (.ref c0)) (hb : ∀ pn, PSsc (X.tr pn Ew) body tb) (hs : ∀ e, PSs (X.hand e) (b₀ :: suite) ts) (hdb : (c == ("__debug__" : Str)) = false := by decide) :
    PSc X (.Try body [.ExceptHandler (some (.Name c np)) (some n) (b₀ :: suite) hpos] [] [] pos) (tTry X.K c0 Ew i tb ts) := by
  rintro pins s σ H D I ⟨hbd, hsu⟩
  refine wpC.try_ ?_
  have Ib : Inv (X.tr (X.pn ++ pins) Ew) [] σ H s := I.re (fun z => I.ok.hd z) rfl fun p hp => by simpa using hp
  refine (hb (X.pn ++ pins) [] s σ H D Ib hbd).mono (fun f s1 hf => ?_) (fun u s1 hu => ?_)
  · have back : ∀ {σ' : St} {H' : Hp}, Inv (X.tr (X.pn ++ pins) Ew) [] σ' H' s1 → Inv X pins σ' H' s1 := fun {σ' H'} J => J.re (A' := X.A) (c := X.calm) (pn' := X.pn) (W := X.xe) (fun z => J.ok.hd z) rfl fun p hp => List.mem_append_left _ hp
    cases f with
    | next =>
      obtain ⟨σ', H', J, q⟩ := hf
      exact pss_nil pins s1 σ' H' D (back J) q
    | brk => obtain ⟨σ', H', J, q⟩ := hf; exact ⟨σ', H', back J, q⟩
    | cont => obtain ⟨σ', H', J, q⟩ := hf; exact ⟨σ', H', back J, q⟩
    | ret u => obtain ⟨v, σ', H', J, r, q⟩ := hf; exact ⟨v, σ', H', back J, r, q⟩
  · obtain ⟨pins1, σ1, H1, s0, I0', e, C, H2, rfl, F, hE⟩ := hu
    obtain ⟨D0, rfl, hmt, hsu⟩ := hsu σ1 C H2 hE
    obtain ⟨B, a0, fl, cov, trk⟩ := F.fly'
    have I0 : Inv X pins σ1 H1 s0 := I0'.re (A' := X.A) (c := X.calm) (pn' := X.pn) (W := X.xe) (fun z => I0'.ok.hd z) rfl fun p hp => List.mem_append_left _ hp
    have hH2e : H2 e = none := by
      cases q : H2 e with
      | none => rfl
      | some o =>
        obtain ⟨o', ho'⟩ := trk e o q
        rw [fl.2.1] at ho'
        cases ho'
    have frN : ∀ b ∈ frs X.stack, ∃ o, s0.heap.get? b = some o ∧ ∀ vs, o.data ≠ .fields vs := fun b hb => (I0.stack.mem hb).2
    have he0 : s0.heap.get? e = none := by
      cases q : s0.heap.get? e with
      | none => rfl
      | some o =>
        by_cases hb : e ∈ frs X.stack
        · obtain ⟨sl, z⟩ := F.un'.slot e o q (I0.stkFree e hb) hb (by simp)
          obtain ⟨oe, vs, z1, z2, z3, _⟩ := fl.first
          rw [z] at z1
          cases z1
          obtain ⟨o', z4, z5⟩ := frN e hb
          rw [q] at z4
          cases z4
          exact absurd z3 (z5 vs)
        · obtain ⟨o', z, _⟩ := cov e o q hb
          rw [fl.2.1] at z
          cases z
    have land : ∀ h' : Heap, Heap.FlyingW B X.stack e (.ref D0) a0 h' → s1.heap.UpToSlots h' → Inv X pins σ1 (upd H2 e (excO e D0)) { s1 with heap := h' } := fun h' fl' sm => by
      have un2 : Un (frs X.stack) [] H1 H2 s0.heap h' := by
        have slot : ∀ b o, s0.heap.get? b = some o → b ∈ frs X.stack → ∃ sl, h'.get? b = some { o with slots := sl } := fun b o q hb => by
          obtain ⟨sl, z⟩ := F.un'.slot b o q (I0.stkFree b hb) hb (by simp)
          obtain ⟨o', z4, z5⟩ := frN b hb
          rw [q] at z4
          cases z4
          obtain ⟨sl', z'⟩ := sm b _ z z5
          exact ⟨sl', z'⟩
        refine ⟨fun b o q n hb _ => ?_, fun b o q n hb _ => slot b o q hb, F.un'.free, fun b o q _ => ?_, F.un'.tups, F.un'.frzs, F.un'.tbls⟩
        · obtain ⟨o', z, z'⟩ := cov b o q hb
          rw [z' n] at z
          exact fl'.1 b o z
        · by_cases hb : b ∈ frs X.stack
          · obtain ⟨sl, z⟩ := slot b o q hb
            exact ⟨_, z⟩
          · obtain ⟨o', z, _⟩ := cov b o q hb
            exact ⟨o', fl'.1 b o' z⟩
      obtain ⟨oe, vs, z1, z2, _⟩ := fl'.first
      exact I0.call' (s' := { s1 with heap := h' }) F.os (un2.more he0 hH2e) ((F.hok.on fl.1 fl'.1 trk).more hH2e ⟨oe, z1, z2⟩) F.bare (fun b z => absurd z (by simp)) F.tk
    have hfr0 : X.A.frames = some (X.env :: X.outer) := by rw [← hst]; exact I.ok.frames
    have fl0 : Heap.FlyingW B (X.env :: X.outer) e (.ref D0) a0 s1.heap := by rw [← hst]; exact fl
    refine wpAny_looks_onW hfr0 hfr fl0 fun h1 held1 sm1 => ?_
    refine wpAny_landsW held1 fun h2 fl2 sm2 => ?_
    have up2 : s1.heap.UpToSlots h2 := sm1.trans sm2
    have I2 := land h2 (by rw [hst]; exact fl2) up2
    refine wpAny_handleBy_cons (codeAny_handlers_test ?_) (by intro q; cases q)
    have Ih : Inv (X.hand e) pins σ1 (upd H2 e (excO e D0)) { s1 with heap := h2 } := I2.re (fun z => nomatch z) rfl fun p hp => hp
    refine ld_glob (X := X.hand e) Ih hg hm ?_ hdb
    have hExc : ExcAt h2 e D0 := by
      obtain ⟨oe, vs, z1, z2, _⟩ := fl2.first
      exact ⟨oe, z1, z2⟩
    have LM := exm_one (M := model X.prog X.w) (K := X.K) Ih.kIn hExc.type hmt
    refine LM.at ?_
    refine codeAny_handlers_suite_as (lands_againW fl2 fun h3 fl3 sm3 => ?_)
    have I3 := land h3 (by rw [hst]; exact fl3) (up2.trans sm3)
    have Ih3 : Inv (X.hand e) pins σ1 (upd H2 e (excO e D0)) { s1 with heap := h3 } := I3.re (fun z => nomatch z) rfl fun p hp => hp
    refine store_ok (X := X.hand e) Ih3 hN hi (.inl hk) (v := .ref e) rfl (fun s4 I4 => ?_) (.inr hk)
    refine wpAny_mono (hs e pins s4 _ _ _ I4 (hsu e hH2e)) (fun f s5 hf => ?_) (fun _ _ z => z.elim)
    have back : ∀ {σ' : St} {H' : Hp} {s' : Shared}, Inv (X.hand e) pins σ' H' s' → Inv X pins σ' H' s' := fun {σ' H' s'} J => J.re (A' := X.A) (c := X.calm) (pn' := X.pn) (W := X.xe) (fun z => I.ok.hd z) rfl fun p hp => hp
    cases f with
    | next =>
      obtain ⟨σ', H', J, q⟩ := hf
      exact goes_ok (back J) hN hi hk fun s6 I6 => ⟨_, H', I6, q⟩
    | brk => obtain ⟨σ', H', J, q⟩ := hf; exact q.elim
    | cont => obtain ⟨σ', H', J, q⟩ := hf; exact q.elim
    | ret u =>
      obtain ⟨v, σ', H', J, r, q⟩ := hf
      exact goes_ok (back J) hN hi hk fun s6 I6 => ⟨v, _, H', I6, r, q⟩
end
end L2


namespace L2
open PySem PySem.Spec PyProof.Rows
structure FnOkM (P : Program) (w : World) (K : PySem.W.Frag) (mg : Str → Option Value) (base : Heap) (k : Nat) (f : Addr) (fd : FuncData) (ps : List Str) (sp : Sp) : Prop where
  len : ∀ vs H Q E, sp vs H Q E → vs.length = ps.length
  run : ∀ (A : Around) (outer : List Env) (s : Shared) (H : Hp) (args : Args) (us : List Value) (vs : List V) (Q : VK) (E : XK), Room k A → Env0 P w K mg base A outer { s with toks := s.toks + 1 } H → BindsTo s fd args (ps.zip us) → Vals vs us → sp vs H Q E →
    codeAny (model P w) A (.call (.ref f) args) (fun r s' => CR CX0 outer P w H s Q E r s' ∧ (∀ fl, r = .ok fl → 0 < s'.toks)) s
theorem fnm_of {P : Program} {w : World} {K : PySem.W.Frag} {mg : Str → Option Value} {base : Heap} {k : Nat} {f : Addr} {name qual : Str} {params : Arguments} {body : List Stmt} {scope : Scope} {dV kV doc pm cdv ct oc : Value} {an od : Option Addr}
    {osl : Array (Option Value)} {N ps : List Str} {sp : Sp} (lk : K.lookup f = some ⟨oc, od, .func (PySem.W.fnOf name qual params body scope dV kV doc pm an cdv ct), osl⟩) (hcd : PySem.W.codeIn K cdv qual = true) (S : FnScope N ps scope)
    (len : ∀ vs H Q E, sp vs H Q E → vs.length = ps.length)
    (hbody : ∀ (A : Around) (outer : List Env) (s : Shared) (H : Hp) (vs : List V) (Q : VK) (E : XK), Room k (A.deeper (envOfC qual scope s.heap.objs.size f cdv)) → sp vs H Q E →
      ∃ t, PSsL (cxOf CX0 P w K mg base N qual scope f cdv A outer s H E).nox body t ∧ t { nx := fun _ H' => Q .non H', rt := Q } (start N vs) H) :
    FnOkM P w K mg base (k + 1) f (PySem.W.fnOf name qual params body scope dV kV doc pm an cdv ct) ps sp := by
  refine ⟨len, fun A outer s H args us vs Q E hr e0 hb r hsp => ?_⟩
  have hl := len _ _ _ _ hsp
  have KX : K.In s.heap := e0.mod.kin.keeps fun b o e => (e0.bs b o e).1
  have lim : s.heap.NoLimit := e0.mod.nolimit.keeps fun b o e => (e0.bs b o e).1
  have hkind : ∀ y ∈ ps.zip us, scope.names.lookup y.1 = some .local ∨ (scope.names.lookup y.1 = some .cell ∧ ((cellsFrom (s.heap.objs.size + 1) scope.names []).lookup y.1).isSome = true) := fun ⟨n, v⟩ hy => by
    rcases S.par n (List.of_mem_zip hy).1 with q | q
    · exact .inl q
    · exact .inr ⟨q, PySem.W.cellsFrom_some _ _ _ (.inl q)⟩
  refine codeAny_call_function hr.depth (KX _ _ lk) rfl S.co S.gen rfl (PySem.W.codeRec_of KX hcd) (hb _ _ _ _ ?_)
  refine wpAny_newFunctionEnv_cells S.kind hkind fun env he s1 x => ?_
  subst he
  refine ⟨lim.keeps x.toInCall.keep, codeAny_func ?_⟩
  obtain ⟨t, ht, hq⟩ := hbody A outer s H vs Q E (hr.deeper _) hsp
  have I : Inv (cxOf CX0 P w K mg base N qual scope f cdv A outer s H E) [] (start N vs) H { s1 with toks := s1.toks + 1 } := inv_start (t0 := s.toks + 1) (t1 := s1.toks + 1) S hr.hd e0 (Nat.succ_pos _) hl r x
  refine wpAny_mono (ht [] s1 (start N vs) H _ (I.wish _) hq) (fun fl s' hs => ?_) fun e s' hs => False.elim hs
  have hs' := hs.unwish
  have fin : ∀ {σ' : St} {H' : Hp} {v : V} {u : Value}, Inv (cxOf CX0 P w K mg base N qual scope f cdv A outer s H E) [] σ' H' s' → RelV v u → Q v H' → CE outer P w H s Q u s' ∧ (∀ fl : Flow, Except.ok (ε := Value) (Flow.ret u) = Except.ok fl → 0 < s'.toks) :=
    fun {σ' H' v u} J rv q => ⟨⟨v, H', J.os, J.bare, J.base, J.hok, rv, q⟩, fun _ _ => J.tk⟩
  cases fl with
  | ret u =>
    obtain ⟨v, σ', H', J, rv, q⟩ := hs'
    exact fin J rv q
  | next =>
    obtain ⟨σ', H', J, q⟩ := hs'
    exact fin (v := V.non) (u := Value.none) J rfl q
  | brk =>
    obtain ⟨_, _, _, q⟩ := hs'
    exact False.elim q
  | cont =>
    obtain ⟨_, _, _, q⟩ := hs'
    exact False.elim q
section
variable {P : Program} {w : World} {K : PySem.W.Frag} {mg : Str → Option Value} {base : Heap}
theorem Fun.okM {x qual : Str} {st : Stmt} {f : Addr} {fd : FuncData} {N ps : List Str} {k : Nat} {sp : Sp} (F : Fun K x qual st f fd) (S : FnScope N ps (defScope st)) (len : ∀ vs H Q E, sp vs H Q E → vs.length = ps.length)
    (hbody : ∀ (cdv : Value) (A : Around) (outer : List Env) (s : Shared) (H : Hp) (vs : List V) (Q : VK) (E : XK), Room k (A.deeper (envOfC qual (defScope st) s.heap.objs.size f cdv)) → sp vs H Q E →
      ∃ t, PSsL (cxOf CX0 P w K mg base N qual (defScope st) f cdv A outer s H E).nox (defBody st) t ∧ t { nx := fun _ H' => Q .non H', rt := Q } (start N vs) H) : FnOkM P w K mg base (k + 1) f fd ps sp := by
  obtain ⟨oc, od, kV, doc, pm, an, cdv, ct, osl, rfl, lk, hcd⟩ := F.ex
  exact fnm_of lk hcd S len fun A outer s H vs Q E hr hsp => hbody cdv A outer s H vs Q E hr hsp
noncomputable def FnAtM (P : Program) (w : World) (K : PySem.W.Frag) (mg : Str → Option Value) (base : Heap) (k : Nat) (x : Str) (ps : List Str) (sp : Sp) : Prop :=
  ∃ (f : Addr) (fd : FuncData), FnOkM P w K mg base k f fd ps sp ∧ Binds K fd ps [] ∧ PySem.W.keepIn K (.ref f) = true ∧ mg x = some (.ref f)
end
section
variable {X : Cx}

theorem name_L {i : Nat} {x : Str} {p : Pos} {pins : List (Addr × Obj)} {s : Shared} {σ : St} {H : Hp} {v : V} (I : Inv X pins σ H { s with toks := s.toks + 1 }) (hN : X.N[i]? = some x) (e : σ[i]? = some (some v)) (hv : Vis X.env.scope x)
    (hd : (x == ("__debug__" : Str)) = false) (hcd : (x == ("__classdict__" : Str)) = false) : ∃ u, RelV v u ∧ ∀ Q' : Value → Shared → Prop, Q' u s → wpAny (model X.prog X.w) X.A (eval (.Name x p) X.env) Q' X.xe s := by
  obtain ⟨m, hn, hl⟩ := I.loc
  obtain ⟨u, r1, l⟩ := hl i x v hN e hv
  refine ⟨u, r1, fun Q' fin => ?_⟩
  rcases l with ⟨hk, hm⟩ | ⟨hk, c, hc, hcell⟩
  · exact wpAny_Name (wpAny_loadName_local I.ok.kind hk hn hm fin) hd
  · rcases hk with hk | hk
    · exact wpAny_Name (wpAny_loadName_cell I.ok.kind hk hc hcell fin) hd
    · exact wpAny_Name (wpAny_loadName_free I.ok.kind hk hc hcell fin hcd) hd
theorem pe_opL {a b : Expr} {ta tb : TE} {pos : Pos} {op : Operator} {r : R2} (ho : OpR X (binaryOp op) r) (ha : PEL X a ta) (hb : PE X b tb) : PEL X (.BinOp a op b pos) (tOp r ta tb) := by
  intro pins s σ H Q I h
  refine wpAny_BinOp (thn (ha pins s σ H _ I h) fun v s1 ⟨x, H1, I1, r1, q1⟩ => thn (hb pins s1 σ H1 _ I1 q1) fun u s2 ⟨y, H2, I2, r2, q2⟩ => ?_)
  exact ho pins s2 σ H2 x y v u Q I2 r1 r2 q2

theorem pe_callFL2 {i j k : Nat} {x y : Str} {ps : List Str} {sp : Sp} {p p1 p2 pos : Pos} {n : Int} {jc : Nat} (F : FnAt X.prog X.w X.K X.mg X.base j x ps sp) (hr : Room k X.A) (hg : Gl X x) (hN : X.N[i]? = some y := by rfl) (hv : Vis X.env.scope y := by first | exact Or.inl rfl | exact Or.inr (Or.inl rfl) | exact Or.inr (Or.inr rfl)) (hj : j ≤ k := by decide)
    (hdb : (x == ("__debug__" : Str)) = false := by decide) (hd : (y == ("__debug__" : Str)) = false := by decide) (hcd : (y == ("__classdict__" : Str)) = false := by decide) :
    PEL X (.Call (.Name x p) [.Name y p1, .Constant (.int n) jc p2] [] pos) (tCall sp [] E0 (tCons (tVar i) (tCons (tC (.int n)) tNil))) := by
  obtain ⟨f, fd, G, b, kp, m⟩ := F
  have he : starEach [.Name y p1, .Constant (.int n) jc p2] X.env = (false, eval (.Name y p1) X.env) :: starEach [.Constant (.int n) jc p2] X.env := rfl
  have he2 : starEach [.Constant (.int n) jc p2] X.env = (false, eval (.Constant (.int n) jc p2) X.env) :: starEach [] X.env := rfl
  have hpl : (backTo pos (starEach [.Constant (.int n) jc p2] X.env)).any (·.1) = false := rfl
  intro pins s σ H Q I h
  refine wpAny_Call_Name_kw (Calls.Name_function_global I.ok.kind hg (Calls.loadGlobal_global (by rw [I.ok.glob]; exact I.mod.glob.keeps I.bk) m ?_) hdb)
  obtain ⟨v, e, q⟩ := h
  obtain ⟨u, ru, go⟩ := name_L (p := p1) I hN e hv hd hcd
  have hA : wpAny (model X.prog X.w) X.A (spliced (backTo pos (starEach [.Name y p1, .Constant (.int n) jc p2] X.env))) (AP X pins σ fun vs H1 => sp (vs ++ []) H1 Q E0) X.xe s := by
    rw [he]
    show wpAny _ _ (spliced ((false, eval (.Name y p1) X.env) :: backTo pos (starEach [.Constant (.int n) jc p2] X.env))) _ _ s
    refine Calls.spliced_cons (go _ ?_)
    rw [he2]
    show wpAny _ _ (spliced ((false, eval (.Constant (.int n) jc p2) X.env) :: backTo pos (starEach [] X.env))) _ _ s
    exact Calls.spliced_cons (wpAny_Constant_int (Calls.spliced_nil ⟨[v, .int n], H, I, .cons ru (.cons ⟨_, rfl⟩ .nil), q⟩))
  refine PySem.W.callWith_K (h₀ := X.base) I.ok.mod.kin kp (thn hA fun us s1 ⟨vs, H1, I1, r, q⟩ => ⟨I1.kIn, ?_⟩) he hpl
  exact run_fn G (hr.mono hj) b .nil pass0 I1 r q

theorem pe_callML {i j k : Nat} {x y z : Str} {sp : Sp} {p p1 pos : Pos} (F : FnAtM X.prog X.w X.K X.mg X.base j x [z] sp) (hr : Room k X.A) (hg : Gl X x) (hN : X.N[i]? = some y := by rfl) (hv : Vis X.env.scope y := by first | exact Or.inl rfl | exact Or.inr (Or.inl rfl) | exact Or.inr (Or.inr rfl)) (hj : j ≤ k := by decide)
    (hdb : (x == ("__debug__" : Str)) = false := by decide) (hd : (y == ("__debug__" : Str)) = false := by decide) (hcd : (y == ("__classdict__" : Str)) = false := by decide) :
    PEL X (.Call (.Name x p) [.Name y p1] [] pos) (tCall sp [] E0 (tCons (tVar i) tNil)) := by
  obtain ⟨f, fd, G, hb, kp, m⟩ := F
  have he : starEach [.Name y p1] X.env = (false, eval (.Name y p1) X.env) :: starEach [] X.env := rfl
  have hpl : (backTo pos (starEach [] X.env)).any (·.1) = false := rfl
  intro pins s σ H Q I h
  refine wpAny_Call_Name_kw (Calls.Name_function_global I.ok.kind hg (Calls.loadGlobal_global (by rw [I.ok.glob]; exact I.mod.glob.keeps I.bk) m ?_) hdb)
  obtain ⟨v, e, q⟩ := h
  obtain ⟨u, ru, go⟩ := name_L (p := p1) I hN e hv hd hcd
  have hA : wpAny (model X.prog X.w) X.A (spliced (backTo pos (starEach [.Name y p1] X.env))) (fun us s1 => us = [u] ∧ s1 = s) X.xe s := by
    rw [he]
    show wpAny _ _ (spliced ((false, eval (.Name y p1) X.env) :: backTo pos (starEach [] X.env))) _ _ s
    exact Calls.spliced_cons (go _ (Calls.spliced_nil ⟨rfl, rfl⟩))
  refine PySem.W.callWith_K (h₀ := X.base) I.ok.mod.kin kp (thn hA fun us s1 ⟨e1, e2⟩ => ?_) he hpl
  subst e1 e2
  refine ⟨I.kIn, ?_⟩
  refine wpAny_call (codeAny_mono (G.run X.A X.stack s1 H ⟨[u], []⟩ [u] [v] Q E0 (hr.mono hj) I.env0 (hb s1 [u] I.kIn rfl) (.cons ru .nil) q) fun r s' hq => ?_)
  obtain ⟨hq, ht⟩ := hq
  cases r with
  | error e => exact hq.elim
  | ok fl =>
    cases fl with
    | ret w => exact I.after hq (ht _ rfl)
    | next => exact False.elim hq
    | brk => exact False.elim hq
    | cont => exact False.elim hq

noncomputable def PSsLc (X : Cx) (st : List Stmt) (t : TS) : Prop :=
  ∀ (pins : List (Addr × Obj)) (s : Shared) (σ : St) (H : Hp) (D : Ends), Inv X pins σ H { s with toks := s.toks + 1 } → t D σ H → wpC (model X.prog X.w) X.A (execs st X.env) (SP X pins D) X.xe s
theorem pssLc_cons {st : Stmt} {rest : List Stmt} {t u : TS} (h1 : PSL X st t) (h2 : PSsc X rest u) : PSsLc X (st :: rest) (tSeq t u) := by
  intro pins s σ H D I h
  refine wpC.execs_cons (wpC.of (thn (h1 pins s σ H { D with nx := u D } I h) fun f s1 q => ?_))
  cases f with
  | next =>
    obtain ⟨σ', H', I', q⟩ := q
    exact h2 pins s1 σ' H' D I' q
  | ret v => exact q
  | brk => exact q
  | cont => exact q
end
structure FnOkLC (P : Program) (w : World) (K : PySem.W.Frag) (mg : Str → Option Value) (base : Heap) (k : Nat) (f : Addr) (fd : FuncData) (ps : List Str) (sp : Sp) : Prop where
  len : ∀ vs H Q E, sp vs H Q E → vs.length = ps.length
  run : ∀ (A : Around) (outer : List Env) (s : Shared) (H : Hp) (args : Args) (us : List Value) (vs : List V) (Q : VK) (E : XK), Room k A → Env0 P w K mg base A outer { s with toks := s.toks + 1 } H → BindsTo s fd args (ps.zip us) → Vals vs us → sp vs H Q E →
    codeC (model P w) A (.call (.ref f) args) (CR CX0 outer P w H s Q E) s
theorem fnlc_of {P : Program} {w : World} {K : PySem.W.Frag} {mg : Str → Option Value} {base : Heap} {k : Nat} {f : Addr} {name qual : Str} {params : Arguments} {body : List Stmt} {scope : Scope} {dV kV doc pm cdv ct oc : Value} {an od : Option Addr}
    {osl : Array (Option Value)} {N ps : List Str} {sp : Sp} (lk : K.lookup f = some ⟨oc, od, .func (PySem.W.fnOf name qual params body scope dV kV doc pm an cdv ct), osl⟩) (hcd : PySem.W.codeIn K cdv qual = true) (S : FnScope N ps scope)
    (len : ∀ vs H Q E, sp vs H Q E → vs.length = ps.length)
    (hbody : ∀ (A : Around) (outer : List Env) (s : Shared) (H : Hp) (vs : List V) (Q : VK) (E : XK), Room k (A.deeper (envOfC qual scope s.heap.objs.size f cdv)) → sp vs H Q E →
      ∃ t, PSsLc (cxOf CX0 P w K mg base N qual scope f cdv A outer s H E).nox body t ∧ t { nx := fun _ H' => Q .non H', rt := Q } (start N vs) H) :
    FnOkLC P w K mg base (k + 1) f (PySem.W.fnOf name qual params body scope dV kV doc pm an cdv ct) ps sp := by
  refine ⟨len, fun A outer s H args us vs Q E hr e0 hb r hsp => ?_⟩
  have hl := len _ _ _ _ hsp
  have KX : K.In s.heap := e0.mod.kin.keeps fun b o e => (e0.bs b o e).1
  have lim : s.heap.NoLimit := e0.mod.nolimit.keeps fun b o e => (e0.bs b o e).1
  have hkind : ∀ y ∈ ps.zip us, scope.names.lookup y.1 = some .local ∨ (scope.names.lookup y.1 = some .cell ∧ ((cellsFrom (s.heap.objs.size + 1) scope.names []).lookup y.1).isSome = true) := fun ⟨n, v⟩ hy => by
    rcases S.par n (List.of_mem_zip hy).1 with q | q
    · exact .inl q
    · exact .inr ⟨q, PySem.W.cellsFrom_some _ _ _ (.inl q)⟩
  refine codeC.call_fn hr.depth (KX _ _ lk) rfl S.co S.gen rfl (PySem.W.codeRec_of KX hcd) (hb _ _ _ _ ?_)
  refine wpAny_newFunctionEnv_cells S.kind hkind fun env he s1 x => ?_
  subst he
  refine ⟨lim.keeps x.toInCall.keep, codeC.func ?_⟩
  obtain ⟨t, ht, hq⟩ := hbody A outer s H vs Q E (hr.deeper _) hsp
  have I : Inv (cxOf CX0 P w K mg base N qual scope f cdv A outer s H E) [] (start N vs) H { s1 with toks := s1.toks + 1 } := inv_start (t0 := s.toks + 1) (t1 := s1.toks + 1) S hr.hd e0 (Nat.succ_pos _) hl r x
  refine (ht [] s1 (start N vs) H _ (I.wish _) hq).mono (fun fl s' hs => ?_) fun e s' hs => False.elim hs
  have hs' := hs.unwish
  have fin : ∀ {σ' : St} {H' : Hp} {v : V} {u : Value}, Inv (cxOf CX0 P w K mg base N qual scope f cdv A outer s H E) [] σ' H' s' → RelV v u → Q v H' → CE outer P w H s Q u s' :=
    fun {σ' H' v u} J rv q => ⟨v, H', J.os, J.bare, J.base, J.hok, rv, q⟩
  cases fl with
  | ret u =>
    obtain ⟨v, σ', H', J, rv, q⟩ := hs'
    exact fin J rv q
  | next =>
    obtain ⟨σ', H', J, q⟩ := hs'
    exact fin (v := V.non) (u := Value.none) J rfl q
  | brk =>
    obtain ⟨_, _, _, q⟩ := hs'
    exact False.elim q
  | cont =>
    obtain ⟨_, _, _, q⟩ := hs'
    exact False.elim q
section
variable {P : Program} {w : World} {K : PySem.W.Frag} {mg : Str → Option Value} {base : Heap}
theorem Fun.okLC {x qual : Str} {st : Stmt} {f : Addr} {fd : FuncData} {N ps : List Str} {k : Nat} {sp : Sp} (F : Fun K x qual st f fd) (S : FnScope N ps (defScope st)) (len : ∀ vs H Q E, sp vs H Q E → vs.length = ps.length)
    (hbody : ∀ (cdv : Value) (A : Around) (outer : List Env) (s : Shared) (H : Hp) (vs : List V) (Q : VK) (E : XK), Room k (A.deeper (envOfC qual (defScope st) s.heap.objs.size f cdv)) → sp vs H Q E →
      ∃ t, PSsLc (cxOf CX0 P w K mg base N qual (defScope st) f cdv A outer s H E).nox (defBody st) t ∧ t { nx := fun _ H' => Q .non H', rt := Q } (start N vs) H) : FnOkLC P w K mg base (k + 1) f fd ps sp := by
  obtain ⟨oc, od, kV, doc, pm, an, cdv, ct, osl, rfl, lk, hcd⟩ := F.ex
  exact fnlc_of lk hcd S len fun A outer s H vs Q E hr hsp => hbody cdv A outer s H vs Q E hr hsp
end
end L2

namespace Zf
open PySem PySem.NumText

noncomputable def isFig (t : List Nat) : Prop := t ≠ [] ∧ AllDigits t ∧ t.head? ≠ some 48
theorem char_back {c : Nat} (h : c < 128) : (Char.ofNat c).toNat = c := by
  have : ∀ c : Fin 128, (Char.ofNat c.val).toNat = c.val := by decide
  exact this ⟨c, h⟩
theorem digs_val (n : Nat) : digitsVal (digs n) = n := PySem.W.KIN.val_back n
theorem fig_digs {t : List Nat} (h : isFig t) : digs (digitsVal t) = t ∧ 1 ≤ digitsVal t := by
  obtain ⟨h1, h2, h3⟩ := h
  cases t with
  | nil => exact absurd rfl h1
  | cons c r =>
    have hc := h2.head
    have c9 : 49 ≤ c := by
      have : c ≠ 48 := fun z => h3 (by rw [z]; rfl)
      omega
    have e := toDigits_digitsVal r.length (c :: r) rfl h2 (.inr ⟨c, r, rfl, c9⟩)
    refine ⟨?_, digitsVal_pos c9⟩
    unfold digs
    rw [e, List.map_map]
    have : ∀ l : List Nat, AllDigits l → l.map (Char.toNat ∘ Char.ofNat) = l := fun l hl => by
      induction l with
      | nil => rfl
      | cons x l ih =>
        rw [List.map_cons, ih hl.tail]
        have := hl.head
        show (Char.ofNat x).toNat :: l = x :: l
        rw [char_back (by omega)]
    exact this _ h2
theorem digs_fig {n : Nat} (h : 1 ≤ n) : isFig (digs n) := by
  have had : AllDigits (digs n) := fun c hc => digs_digit hc
  refine ⟨digs_ne n, had, fun z => ?_⟩
  obtain ⟨r, hr⟩ : ∃ r, digs n = 48 :: r := by
    cases e : digs n with
    | nil => exact absurd e (digs_ne n)
    | cons c r => rw [e] at z; simp at z; exact ⟨r, by rw [z]⟩
  have hv := digs_val n
  have ha := toDigits_all (digs n) had
  rw [hv] at ha
  cases hd : (digs n).dropWhile (· == 48) with
  | nil =>
    rw [hd] at ha
    have e0 : digs n = [48] := by
      unfold digs
      rw [ha]; rfl
    rw [e0] at hv
    have : digitsVal [48] = 0 := rfl
    omega
  | cons c w =>
    rw [hd] at ha
    have hc : (c == 48) = false := by
      have : ∀ (l : List Nat) (c : Nat) (w : List Nat), l.dropWhile (· == 48) = c :: w → (c == 48) = false := by
        intro l
        induction l with
        | nil => intro c w q; cases q
        | cons x l ih =>
          intro c w q
          rw [List.dropWhile_cons] at q
          split at q
          · exact ih c w q
          · rename_i nx
            injection q with q1 q2
            rw [← q1]
            simpa using nx
      exact this _ c w hd
    have e1 : (digs n).map Char.ofNat = (c :: w).map Char.ofNat := by
      have ha' : Nat.toDigits 10 n = (c :: w).map Char.ofNat := ha
      rw [← ha']
      unfold digs
      rw [List.map_map]
      have : (Char.ofNat ∘ Char.toNat) = id := by
        funext x
        simp [Char.ofNat_toNat]
      rw [this, List.map_id]
    rw [hr] at e1
    simp only [List.map_cons] at e1
    injection e1 with e2 _
    have cm : c ∈ digs n := (List.dropWhile_suffix _).subset (by rw [hd]; exact List.mem_cons_self)
    have hc2 := digs_digit cm
    have : (Char.ofNat 48).toNat = (Char.ofNat c).toNat := by rw [e2]
    rw [char_back (by decide), char_back (by omega)] at this
    rw [← this] at hc
    simp at hc
noncomputable instance (t : List Nat) : Decidable (isFig t) := by unfold isFig AllDigits; infer_instance

noncomputable def otL (t : List Nat) : Option (Nat × Nat) :=
  if 120 ∈ t then
    let a := t.takeWhile (· != 120)
    let b := (t.dropWhile (· != 120)).drop 1
    if a ≠ [] ∧ (¬ isFig a ∨ a = [49]) then none
    else if b ≠ [] ∧ (¬ isFig b ∨ b = [49]) then none
    else some (if a ≠ [] then digitsVal a else 1, if b ≠ [] then digitsVal b else 1)
  else if isFig t then some (digitsVal t, 0) else none
theorem cut_x {t : List Nat} (h : 120 ∈ t) : t = t.takeWhile (· != 120) ++ 120 :: (t.dropWhile (· != 120)).drop 1 ∧ 120 ∉ t.takeWhile (· != 120) := by
  induction t with
  | nil => cases h
  | cons x t ih =>
    by_cases hx : x = 120
    · subst hx
      exact ⟨by simp, by simp⟩
    · have hb : (x != 120) = true := by simpa using hx
      have ht : 120 ∈ t := by
        rcases List.mem_cons.mp h with e | e
        · exact absurd e.symm hx
        · exact e
      obtain ⟨i1, i2⟩ := ih ht
      rw [List.takeWhile_cons, if_pos hb, List.dropWhile_cons, if_pos hb]
      refine ⟨by rw [List.cons_append, ← i1], fun z => ?_⟩
      rcases List.mem_cons.mp z with e | e
      · exact hx e.symm
      · exact i2 e
theorem cut_uniq {a b a' b' : List Nat} (ha : 120 ∉ a) (ha' : 120 ∉ a') (e : a ++ 120 :: b = a' ++ 120 :: b') : a = a' ∧ b = b' := by
  induction a generalizing a' with
  | nil =>
    cases a' with
    | nil => exact ⟨rfl, by simpa using e⟩
    | cons x a' => simp at e; exact absurd (by rw [← e.1]; exact List.mem_cons_self) ha'
  | cons x a ih =>
    cases a' with
    | nil => simp at e; exact absurd (by rw [e.1]; exact List.mem_cons_self) ha
    | cons y a' =>
      simp only [List.cons_append] at e
      injection e with e1 e2
      obtain ⟨i1, i2⟩ := ih (fun z => ha (List.mem_cons_of_mem _ z)) (fun z => ha' (List.mem_cons_of_mem _ z)) e2
      exact ⟨by rw [e1, i1], i2⟩
theorem dig_no {t : List Nat} (h : isFig t) : 120 ∉ t := fun z => by have := h.2.1 120 z; omega
theorem val_one {t : List Nat} (h : isFig t) (e : digitsVal t = 1) : t = [49] := by
  have := (fig_digs h).1
  rw [e] at this
  rw [← this]
  decide +kernel
theorem otL_some {t : List Nat} {n k : Nat} (h : otL t = some (n, k)) : 1 ≤ n ∧ t = figL k (n : Int) ++ powL k := by
  unfold otL at h
  split at h
  · rename_i hx
    obtain ⟨c1, c2⟩ := cut_x hx
    generalize t.takeWhile (· != 120) = a at *
    generalize (t.dropWhile (· != 120)).drop 1 = b at *
    dsimp only at h
    split at h
    · cases h
    rename_i na
    split at h
    · cases h
    rename_i nb
    injection h with h
    injection h with h1 h2
    have fa : a ≠ [] → isFig a ∧ a ≠ [49] := fun q => ⟨Classical.byContradiction fun z => na ⟨q, .inl z⟩, fun z => na ⟨q, .inr z⟩⟩
    have fb : b ≠ [] → isFig b ∧ b ≠ [49] := fun q => ⟨Classical.byContradiction fun z => nb ⟨q, .inl z⟩, fun z => nb ⟨q, .inr z⟩⟩
    have k1 : powL k = 120 :: b ∧ 0 < k := by
      by_cases hb : b = []
      · rw [if_neg (by simpa using hb)] at h2
        rw [← h2, hb]
        exact ⟨rfl, by decide⟩
      · rw [if_pos hb] at h2
        obtain ⟨f1, f2⟩ := fb hb
        obtain ⟨g1, g2⟩ := fig_digs f1
        have : k ≠ 1 := fun e => f2 (val_one f1 (by rw [h2, e]))
        refine ⟨?_, by omega⟩
        unfold powL
        rw [if_neg (by omega), if_neg this, ← h2, g1]
    by_cases ha : a = []
    · rw [if_neg (by simpa using ha)] at h1
      subst h1
      refine ⟨by decide, ?_⟩
      rw [k1.1, show figL k ((1 : Nat) : Int) = [] from if_pos ⟨k1.2, rfl⟩, c1, ha]
    · rw [if_pos ha] at h1
      obtain ⟨f1, f2⟩ := fa ha
      obtain ⟨g1, g2⟩ := fig_digs f1
      have : n ≠ 1 := fun e => f2 (val_one f1 (by rw [h1, e]))
      refine ⟨by omega, ?_⟩
      rw [k1.1, show figL k (n : Int) = digs n from by unfold figL; rw [if_neg (by rw [Int.natAbs_natCast]; exact fun q => this q.2), Int.natAbs_natCast], ← h1, g1]
      exact c1
  · split at h
    · rename_i hf
      injection h with h
      injection h with h1 h2
      obtain ⟨g1, g2⟩ := fig_digs hf
      subst h2 h1
      refine ⟨g2, ?_⟩
      rw [show powL 0 = [] from rfl, List.append_nil, show figL 0 ((digitsVal t : Nat) : Int) = digs (digitsVal t) from by unfold figL; rw [if_neg (fun q => absurd q.1 (by decide)), Int.natAbs_natCast], g1]
    · cases h
theorem otL_of {n k : Nat} (h : 1 ≤ n) : otL (figL k (n : Int) ++ powL k) = some (n, k) := by
  have fn := digs_fig h
  by_cases k0 : k = 0
  · subst k0
    have e : figL 0 (n : Int) ++ powL 0 = digs n := by
      rw [show powL 0 = [] from rfl, List.append_nil]
      unfold figL
      rw [if_neg (fun q => absurd q.1 (by decide)), Int.natAbs_natCast]
    rw [e]
    unfold otL
    rw [if_neg (dig_no fn), if_pos fn, digs_val]
  · obtain ⟨b, hb⟩ : ∃ b, powL k = 120 :: b := by
      unfold powL
      rw [if_neg k0]
      split
      · exact ⟨[], rfl⟩
      · exact ⟨_, rfl⟩
    have na : 120 ∉ figL k (n : Int) := by
      unfold figL
      split
      · simp
      · rw [Int.natAbs_natCast]; exact dig_no fn
    have hx : 120 ∈ figL k (n : Int) ++ powL k := by rw [hb]; simp
    obtain ⟨c1, c2⟩ := cut_x hx
    have c3 : figL k (n : Int) ++ 120 :: b = (figL k (n : Int) ++ powL k).takeWhile (· != 120) ++ 120 :: ((figL k (n : Int) ++ powL k).dropWhile (· != 120)).drop 1 := Eq.trans (by rw [hb]) c1
    have hu := cut_uniq na c2 c3
    unfold otL
    rw [if_pos hx]
    dsimp only
    rw [← hu.1, ← hu.2]
    have ea : (if figL k (n : Int) ≠ [] then digitsVal (figL k (n : Int)) else 1) = n ∧ ¬ (figL k (n : Int) ≠ [] ∧ (¬ isFig (figL k (n : Int)) ∨ figL k (n : Int) = [49])) := by
      by_cases n1 : n = 1
      · have e1 : figL k (n : Int) = [] := if_pos ⟨by omega, by rw [Int.natAbs_natCast]; exact n1⟩
        rw [e1]
        exact ⟨by simp [n1], fun q => q.1 rfl⟩
      · have e1 : figL k (n : Int) = digs n := by
          unfold figL
          rw [Int.natAbs_natCast, if_neg (fun q => n1 q.2)]
        rw [e1, if_pos (digs_ne n), digs_val]
        refine ⟨rfl, fun q => q.2.elim (fun z => z fn) fun z => n1 ?_⟩
        have := digs_val n
        rw [z] at this
        exact this.symm
    have eb : (if b ≠ [] then digitsVal b else 1) = k ∧ ¬ (b ≠ [] ∧ (¬ isFig b ∨ b = [49])) := by
      unfold powL at hb
      rw [if_neg k0] at hb
      split at hb
      · rename_i k1
        injection hb with _ hb
        subst hb
        exact ⟨by simp [k1], fun q => q.1 rfl⟩
      · rename_i k1
        injection hb with _ hb
        subst hb
        rw [if_pos (digs_ne k), digs_val]
        refine ⟨rfl, fun q => q.2.elim (fun z => z (digs_fig (by omega))) fun z => k1 ?_⟩
        have := digs_val k
        rw [z] at this
        exact this.symm
    rw [if_neg ea.2, if_neg eb.2, ea.1, eb.1]
end Zf

namespace Zf
open PySem PySem.NumText

noncomputable def spotsF (p : Nat → Bool) (n : Nat) : List Nat := (List.range n).filter p ++ [n]
theorem spots_len (p : Nat → Bool) (n : Nat) : (spotsF p n).length = ((List.range n).filter p).length + 1 := by simp [spotsF]
theorem filt_succ (p : Nat → Bool) (n : Nat) : (List.range (n + 1)).filter p = (List.range n).filter p ++ if p n then [n] else [] := by
  rw [List.range_succ, List.filter_append]
  congr 1
  cases h : p n <;> simp [h]
theorem spots_step (p : Nat → Bool) : ∀ (n k : Nat) (a b : Nat), (spotsF p n)[k]? = some a → (spotsF p n)[k + 1]? = some b → a < b ∧ b ≤ n ∧ p a = true ∧ ∀ j, a < j → j < b → p j = false
  | 0, k, a, b, h1, h2 => by
    have : (spotsF p 0) = [0] := rfl
    rw [this] at h2
    cases k <;> simp at h2
  | n + 1, k, a, b, h1, h2 => by
    have ih := spots_step p n
    by_cases hp : p n = true
    · have e : spotsF p (n + 1) = spotsF p n ++ [n + 1] := by
        unfold spotsF
        rw [filt_succ, if_pos hp]
      rw [e] at h1 h2
      by_cases hk : k + 1 < (spotsF p n).length
      · rw [List.getElem?_append_left (by omega)] at h1
        rw [List.getElem?_append_left hk] at h2
        obtain ⟨i1, i2, i3, i4⟩ := ih k a b h1 h2
        exact ⟨i1, by omega, i3, i4⟩
      · have hl : k + 1 = (spotsF p n).length := by
          have := (List.getElem?_eq_some_iff.mp h2).1
          rw [List.length_append, List.length_singleton] at this
          omega
        rw [List.getElem?_append_right (by omega), hl, Nat.sub_self] at h2
        have hb : b = n + 1 := by simpa using h2.symm
        rw [List.getElem?_append_left (by omega)] at h1
        have ha : a = n := by
          unfold spotsF at h1 hl
          rw [List.length_append, List.length_singleton] at hl
          rw [List.getElem?_append_right (by omega), show k - ((List.range n).filter p).length = 0 by omega] at h1
          simpa using h1.symm
        subst ha hb
        exact ⟨by omega, Nat.le_refl _, hp, fun j h3 h4 => absurd h3 (by omega)⟩
    · have e : spotsF p (n + 1) = (List.range n).filter p ++ [n + 1] := by
        unfold spotsF
        rw [filt_succ, if_neg hp, List.append_nil]
      rw [e] at h1 h2
      have hk : k < ((List.range n).filter p).length := by
        have := (List.getElem?_eq_some_iff.mp h2).1
        rw [List.length_append, List.length_singleton] at this
        omega
      rw [List.getElem?_append_left hk] at h1
      have h1' : (spotsF p n)[k]? = some a := by unfold spotsF; rw [List.getElem?_append_left hk]; exact h1
      by_cases hk2 : k + 1 < ((List.range n).filter p).length
      · rw [List.getElem?_append_left hk2] at h2
        obtain ⟨i1, i2, i3, i4⟩ := ih k a b h1' (by unfold spotsF; rw [List.getElem?_append_left hk2]; exact h2)
        exact ⟨i1, by omega, i3, i4⟩
      · rw [List.getElem?_append_right (by omega), show k + 1 - ((List.range n).filter p).length = 0 by omega] at h2
        have hb : b = n + 1 := by simpa using h2.symm
        obtain ⟨i1, i2, i3, i4⟩ := ih k a n h1' (by unfold spotsF; rw [List.getElem?_append_right (by omega), show k + 1 - ((List.range n).filter p).length = 0 by omega]; rfl)
        subst hb
        refine ⟨by omega, Nat.le_refl _, i3, fun j h3 h4 => ?_⟩
        by_cases hj : j = n
        · subst hj
          exact Bool.eq_false_iff.mpr hp
        · exact i4 j h3 (by omega)
theorem spots_head (p : Nat → Bool) : ∀ n, p 0 = true → 0 < n → (spotsF p n)[0]? = some 0
  | 0, _, h => absurd h (by decide)
  | n + 1, hp, _ => by
    have : (List.range (n + 1)).filter p = 0 :: ((List.range (n + 1)).filter p).tail := by
      rw [List.range_succ_eq_map, List.filter_cons, if_pos hp]
      rfl
    unfold spotsF
    rw [this]
    rfl
theorem spots_last (p : Nat → Bool) (n : Nat) : (spotsF p n)[(spotsF p n).length - 1]? = some n := by
  unfold spotsF
  rw [List.length_append, List.length_singleton, Nat.add_sub_cancel, List.getElem?_append_right (Nat.le_refl _), Nat.sub_self]
  rfl

noncomputable def flatT (T : List (Nat × Int)) : List Nat := T.flatMap fun p => tmL p.1 p.2
theorem flat_snoc (T : List (Nat × Int)) (p : Nat × Int) : flatT (T ++ [p]) = flatT T ++ tmL p.1 p.2 := by simp [flatT]
theorem full_flat (c : List Int) : ∀ m, fullUp c m = flatT (tsL c m)
  | 0 => rfl
  | m + 1 => by
    show tmL m (c.getD m 0) ++ fullUp c m = flatT ((if c.getD m 0 = 0 then [] else [(m, c.getD m 0)]) ++ tsL c m)
    rw [full_flat c m]
    unfold flatT
    rw [List.flatMap_append]
    by_cases h : c.getD m 0 = 0
    · rw [if_pos h, show tmL m (c.getD m 0) = [] from if_pos h]
      rfl
    · rw [if_neg h]
      simp

noncomputable def Fall (T : List (Nat × Int)) : Prop := (T.Pairwise fun p q => q.1 < p.1) ∧ ∀ p ∈ T, p.2 ≠ 0
theorem ts_fall (c : List Int) : ∀ m, Fall (tsL c m)
  | 0 => ⟨List.Pairwise.nil, fun p h => nomatch h⟩
  | m + 1 => by
    obtain ⟨i1, i2⟩ := ts_fall c m
    refine ⟨?_, fun p hp => (ts_mem hp).2.2⟩
    show ((if c.getD m 0 = 0 then [] else [(m, c.getD m 0)]) ++ tsL c m).Pairwise _
    by_cases h : c.getD m 0 = 0
    · rw [if_pos h]; exact i1
    · rw [if_neg h]
      exact List.Pairwise.cons (fun q hq => (ts_mem hq).1) i1
theorem fall_ext : ∀ {S T : List (Nat × Int)}, (S.Pairwise fun p q => q.1 < p.1) → (T.Pairwise fun p q => q.1 < p.1) → (∀ p, p ∈ S ↔ p ∈ T) → S = T
  | [], [], _, _, _ => rfl
  | [], q :: T, _, _, h => absurd ((h q).mpr List.mem_cons_self) (by simp)
  | p :: S, [], _, _, h => absurd ((h p).mp List.mem_cons_self) (by simp)
  | p :: S, q :: T, hS, hT, h => by
    obtain ⟨s1, s2⟩ := List.pairwise_cons.mp hS
    obtain ⟨t1, t2⟩ := List.pairwise_cons.mp hT
    have e : p = q := by
      rcases List.mem_cons.mp ((h p).mp List.mem_cons_self) with e | e
      · exact e
      rcases List.mem_cons.mp ((h q).mpr List.mem_cons_self) with e' | e'
      · exact e'.symm
      have a1 := t1 p e
      have a2 := s1 q e'
      omega
    subst e
    rw [fall_ext s2 t2 fun r => ⟨fun hr => ?_, fun hr => ?_⟩]
    · rcases List.mem_cons.mp ((h r).mp (List.mem_cons_of_mem _ hr)) with e | e
      · have := s1 r hr; rw [e] at this; omega
      · exact e
    · rcases List.mem_cons.mp ((h r).mpr (List.mem_cons_of_mem _ hr)) with e | e
      · have := t1 r hr; rw [e] at this; omega
      · exact e
theorem setT_not {t : Nat} : ∀ (l : List (Nat × Int)) (z : List Int), (∀ p ∈ l, p.1 ≠ t) → (setT z l).getD t 0 = z.getD t 0
  | [], _, _ => rfl
  | p :: l, z, h => by
    show (setT (z.set p.1 p.2) l).getD t 0 = _
    rw [setT_not l _ fun q hq => h q (List.mem_cons_of_mem _ hq)]
    have := h p List.mem_cons_self
    rw [List.getD_eq_getElem?_getD, List.getElem?_set_ne this, List.getD_eq_getElem?_getD]
theorem setT_in {t : Nat} {v : Int} : ∀ (l : List (Nat × Int)) (z : List Int), (l.Pairwise fun p q => q.1 < p.1) → (t, v) ∈ l → t < z.length → (setT z l).getD t 0 = v
  | [], _, _, h, _ => nomatch h
  | p :: l, z, hp, h, ht => by
    show (setT (z.set p.1 p.2) l).getD t 0 = _
    obtain ⟨p1, p2⟩ := List.pairwise_cons.mp hp
    rcases List.mem_cons.mp h with e | e
    · rw [← e, setT_not l _ fun q hq => ?_]
      · rw [getD_set _ _ _ _ ht, if_pos rfl]
      · have := p1 q hq
        rw [← e] at this
        have : q.1 < t := this
        omega
    · exact setT_in l _ p2 e (by rw [List.length_set]; exact ht)
theorem ts_of {T : List (Nat × Int)} {n : Nat} (h : Fall T) (hn : ∀ p ∈ T, p.1 < n) : tsL (setT (List.replicate n 0) T) n = T := by
  have val : ∀ t, (setT (List.replicate n (0 : Int)) T).getD t 0 ≠ 0 → (t, (setT (List.replicate n (0 : Int)) T).getD t 0) ∈ T := fun t ht => by
    by_cases ex : ∃ p ∈ T, p.1 = t
    · obtain ⟨p, hp, e⟩ := ex
      have := setT_in T (List.replicate n (0 : Int)) h.1 (t := p.1) (v := p.2) hp (by rw [List.length_replicate]; exact hn p hp)
      rw [← e, this]
      exact hp
    · rw [setT_not T _ fun p hp e => ex ⟨p, hp, e⟩, rep_getD] at ht
      exact absurd rfl ht
  refine fall_ext (ts_fall _ n).1 h.1 fun p => ⟨fun hp => ?_, fun hp => ?_⟩
  · obtain ⟨m1, m2, m3⟩ := ts_mem hp
    have := val p.1 (by rw [← m2]; exact m3)
    rw [← m2] at this
    exact this
  · have e := setT_in T (List.replicate n (0 : Int)) h.1 (t := p.1) (v := p.2) hp (by rw [List.length_replicate]; exact hn p hp)
    have := ts_all (c := setT (List.replicate n (0 : Int)) T) (t := p.1) (by rw [e]; exact h.2 p hp) (hn p hp)
    rw [e] at this
    exact this
end Zf

namespace Zf
open PySem PySem.NumText

noncomputable def sgnd (L : List Nat) : List Nat := if L.head? = some 45 then L else 43 :: L
noncomputable def sgAt (l : List Nat) (i : Nat) : Bool := decide (l[i]? = some 43 ∨ l[i]? = some 45)
theorem sgL_sign (n : Int) : sgL n = 43 ∨ sgL n = 45 := by unfold sgL; split <;> simp
theorem strip_sgnd (L : List Nat) : stripP (sgnd L) = L := by
  unfold sgnd
  split
  · rename_i h
    cases L with
    | nil => cases h
    | cons x r =>
      have : x = 45 := by simpa using h
      subst this
      rfl
  · rfl
theorem body_head {k : Nat} {n : Int} : ∃ c r, figL k n ++ powL k = c :: r ∧ c ≠ 45 ∧ c ≠ 43 := by
  cases e : figL k n ++ powL k with
  | nil => exact absurd e (fig_pow_ne k n)
  | cons c r =>
    have hc : c ∈ figL k n ++ powL k := by rw [e]; exact List.mem_cons_self
    have := body_sign hc
    exact ⟨c, r, rfl, by omega, by omega⟩
theorem sgnd_strip {T : List (Nat × Int)} (h : ∀ p ∈ T, p.2 ≠ 0) (hne : T ≠ []) : sgnd (stripP (flatT T)) = flatT T := by
  cases T with
  | nil => exact absurd rfl hne
  | cons p T =>
    obtain ⟨c, r, e, c1, c2⟩ := body_head (k := p.1) (n := p.2)
    have e1 : flatT (p :: T) = sgL p.2 :: c :: (r ++ flatT T) := by
      show tmL p.1 p.2 ++ flatT T = _
      rw [tm_ne (h p List.mem_cons_self), e]
      rfl
    rw [e1]
    rcases sgL_sign p.2 with s | s
    · rw [s]
      show sgnd (c :: (r ++ flatT T)) = _
      unfold sgnd
      rw [if_neg (by simpa using c1)]
    · rw [s]
      rfl
theorem flat_take (T : List (Nat × Int)) (k : Nat) : flatT T = flatT (T.take k) ++ flatT (T.drop k) := by
  unfold flatT
  rw [← List.flatMap_append, List.take_append_drop]
theorem spots_mem (p : Nat → Bool) {n k a : Nat} (h : (spotsF p n)[k]? = some a) : a = n ∨ p a = true := by
  have := List.mem_of_getElem? h
  unfold spotsF at this
  rcases List.mem_append.mp this with h | h
  · exact .inr (List.mem_filter.mp h).2
  · exact .inl (by simpa using h)

theorem back_line {L : List Nat} {p : Nat × Int} {T : List (Nat × Int)} (h : Fall (p :: T)) (e : sgnd L = flatT (p :: T)) :
    GoodL (setT (List.replicate (p.1 + 1) 0) (p :: T)) ∧ (setT (List.replicate (p.1 + 1) 0) (p :: T)).length = p.1 + 1 ∧ lineL (setT (List.replicate (p.1 + 1) 0) (p :: T)) = L := by
  obtain ⟨p1, p2⟩ := List.pairwise_cons.mp h.1
  have lt : ∀ q ∈ p :: T, q.1 < p.1 + 1 := fun q hq => by
    rcases List.mem_cons.mp hq with e | e
    · rw [e]; omega
    · have := p1 q e; omega
  have hl : (setT (List.replicate (p.1 + 1) (0 : Int)) (p :: T)).length = p.1 + 1 := by rw [setT_length, List.length_replicate]
  have hg : GoodL (setT (List.replicate (p.1 + 1) 0) (p :: T)) := fun _ => by
    rw [hl, Nat.add_sub_cancel, setT_in (p :: T) _ h.1 (t := p.1) (v := p.2) List.mem_cons_self (by rw [List.length_replicate]; omega)]
    exact h.2 p List.mem_cons_self
  refine ⟨hg, hl, ?_⟩
  unfold lineL
  have hf : fullUp (setT (List.replicate (p.1 + 1) 0) (p :: T)) (setT (List.replicate (p.1 + 1) 0) (p :: T)).length = flatT (p :: T) := by
    rw [full_flat, hl, ts_of h lt]
  rw [hf, ← e, if_neg, strip_sgnd]
  unfold sgnd
  split
  · rename_i q; intro z; rw [z] at q; cases q
  · simp

theorem seg_A {T : List (Nat × Int)} (h0 : ∀ p ∈ T, p.2 ≠ 0) {l : List Nat} (e : l = flatT T) {k a b : Nat} (ha : (spotsF (sgAt l) l.length)[k]? = some a) (hb : (spotsF (sgAt l) l.length)[k + 1]? = some b) (hk : l.take a = flatT (T.take k)) :
    ∃ p, T[k]? = some p ∧ l.take b = flatT (T.take (k + 1)) ∧ l[a]? = some (sgL p.2) ∧ (l.take b).drop (a + 1) = figL p.1 p.2 ++ powL p.1 := by
  obtain ⟨ab, bn, pa, mid⟩ := spots_step _ _ _ _ _ ha hb
  have la : (flatT (T.take k)).length = a := by rw [← hk, List.length_take]; omega
  cases ed : T.drop k with
  | nil =>
    exfalso
    have : l = flatT (T.take k) := by rw [e, flat_take T k, ed]; simp [flatT]
    have := congrArg List.length this
    rw [la] at this
    omega
  | cons p R =>
    have hp : T[k]? = some p := by
      have : (T.drop k)[0]? = some p := by rw [ed]; rfl
      rwa [List.getElem?_drop, Nat.add_zero] at this
    have hR : R = T.drop (k + 1) := by
      have : T.drop (k + 1) = (T.drop k).drop 1 := by rw [List.drop_drop]
      rw [this, ed]; rfl
    have pn := h0 p (List.mem_of_getElem? hp)
    have el : l = flatT (T.take k) ++ (sgL p.2 :: (figL p.1 p.2 ++ powL p.1) ++ flatT R) := by
      rw [e, flat_take T k, ed]
      show _ ++ (tmL p.1 p.2 ++ flatT R) = _
      rw [tm_ne pn]
    have at_ : ∀ j, l[a + j]? = (sgL p.2 :: (figL p.1 p.2 ++ powL p.1) ++ flatT R)[j]? := fun j => by
      conv => lhs; rw [el]
      rw [List.getElem?_append_right (by omega), la, Nat.add_sub_cancel_left]
    obtain ⟨m, hm⟩ : ∃ m, m = (figL p.1 p.2 ++ powL p.1).length := ⟨_, rfl⟩
    have ln : l.length = a + (1 + m + (flatT R).length) := by
      conv => lhs; rw [el]
      rw [List.length_append, la, List.length_append, List.length_cons, ← hm]
      omega
    have inb : ∀ j, j < m → sgAt l (a + 1 + j) = false := fun j hj => by
      unfold sgAt
      have : l[a + 1 + j]? = some (figL p.1 p.2 ++ powL p.1)[j] := by
        rw [Nat.add_assoc, at_, List.getElem?_append_left (by rw [List.length_cons, ← hm]; omega), Nat.add_comm 1 j, List.getElem?_cons_succ, List.getElem?_eq_getElem (by omega)]
      rw [this]
      have hs := body_sign (List.getElem_mem (show j < (figL p.1 p.2 ++ powL p.1).length by omega))
      generalize (figL p.1 p.2 ++ powL p.1)[j] = x at hs
      refine decide_eq_false fun z => ?_
      rcases z with z | z <;> (have := Option.some.inj z; omega)
    have nb : a + 1 + m ≤ b := by
      rcases Nat.lt_or_ge b (a + 1 + m) with q | q
      · exfalso
        rcases spots_mem _ hb with z | z
        · omega
        · have := inb (b - (a + 1)) (by omega)
          rw [show a + 1 + (b - (a + 1)) = b by omega] at this
          rw [this] at z
          cases z
      · exact q
    have nb2 : b ≤ a + 1 + m := by
      rcases Nat.lt_or_ge (a + 1 + m) b with q | q
      · exfalso
        have f1 := mid (a + 1 + m) (by omega) q
        cases er : flatT R with
        | nil => rw [er] at ln; simp at ln; omega
        | cons y r =>
          have hy : l[a + 1 + m]? = some y := by
            rw [Nat.add_assoc, at_, List.getElem?_append_right (by rw [List.length_cons, ← hm]; omega), List.length_cons, ← hm, show 1 + m - (m + 1) = 0 by omega, er]
            rfl
          have ys : y = 43 ∨ y = 45 := by
            cases R with
            | nil => cases er
            | cons p' R' =>
              have pm : p' ∈ T.drop (k + 1) := by rw [← hR]; exact List.mem_cons_self
              have pn' := h0 p' (List.mem_of_mem_drop pm)
              have er' : tmL p'.1 p'.2 ++ flatT R' = y :: r := er
              rw [tm_ne pn'] at er'
              injection er' with e1 _
              rw [← e1]; exact sgL_sign _
          unfold sgAt at f1
          rw [hy] at f1
          rcases ys with z | z <;> rw [z] at f1 <;> simp at f1
      · exact q
    have hbm : b = a + 1 + m := by omega
    have tk : l.take b = flatT (T.take k) ++ sgL p.2 :: (figL p.1 p.2 ++ powL p.1) := by
      rw [el, ← List.append_assoc, List.take_append_of_le_length (by rw [List.length_append, la, List.length_cons, ← hm]; omega)]
      exact List.take_of_length_le (by rw [List.length_append, la, List.length_cons, ← hm]; omega)
    refine ⟨p, hp, ?_, ?_, ?_⟩
    · rw [tk, List.take_add_one, hp]
      show _ = flatT (T.take k ++ [p])
      rw [flat_snoc, tm_ne pn]
    · have := at_ 0
      rw [Nat.add_zero] at this
      rw [this]; rfl
    · rw [tk, List.drop_append, la, List.drop_eq_nil_of_le (by omega), show a + 1 - a = 1 by omega]
      rfl
theorem fig_neg (k : Nat) (n : Int) : figL k (-n) = figL k n := by unfold figL; rw [Int.natAbs_neg]

theorem seg_B {l : List Nat} {ts : List (Nat × Int)} {j a b : Nat} (ha : (spotsF (sgAt l) l.length)[j]? = some a) (hb : (spotsF (sgAt l) l.length)[j + 1]? = some b) (hk : l.take a = flatT ts) {n k : Nat} (ho : otL ((l.take b).drop (a + 1)) = some (n, k)) :
    l.take b = flatT (ts ++ [(k, if l[a]? = some 45 then -(n : Int) else (n : Int))]) ∧ 1 ≤ n := by
  obtain ⟨ab, bn, pa, mid⟩ := spots_step _ _ _ _ _ ha hb
  obtain ⟨n1, et⟩ := otL_some ho
  refine ⟨?_, n1⟩
  have hla : a < l.length := by omega
  have ea : l[a]? = some l[a] := List.getElem?_eq_getElem hla
  have tk : l.take b = l.take a ++ l[a] :: (l.take b).drop (a + 1) := by
    have h1 : l.take b = (l.take b).take a ++ (l.take b).drop a := (List.take_append_drop a _).symm
    have h2 : (l.take b).take a = l.take a := by rw [List.take_take, Nat.min_eq_left (by omega)]
    have h3 : (l.take b).drop a = l[a] :: (l.take b).drop (a + 1) := by
      rw [List.drop_eq_getElem_cons (by rw [List.length_take]; omega), List.getElem_take]
    rw [h2, h3] at h1
    exact h1
  rw [tk, hk, flat_snoc, et]
  congr 1
  have hs : l[a] = 43 ∨ l[a] = 45 := by
    unfold sgAt at pa
    have := of_decide_eq_true pa
    rw [ea] at this
    rcases this with q | q
    · exact .inl (Option.some.inj q)
    · exact .inr (Option.some.inj q)
  rcases hs with q | q
  · rw [ea, q, if_neg (by decide)]
    show _ = tmL k (n : Int)
    rw [tm_ne (by omega), show sgL (n : Int) = 43 from if_neg (by omega)]
  · rw [ea, q, if_pos rfl]
    show _ = tmL k (-(n : Int))
    rw [tm_ne (by omega), show sgL (-(n : Int)) = 45 from if_pos (by omega), fig_neg]

theorem line_flat {c : List Int} (hg : GoodL c) (hc : c ≠ []) : sgnd (lineL c) = flatT (tsL c c.length) ∧ tsL c c.length ≠ [] := by
  have hf : fullUp c c.length ≠ [] := fun z => hc ((full_nil hg).mp z)
  have ht : tsL c c.length ≠ [] := fun z => hf (by rw [full_flat, z]; rfl)
  refine ⟨?_, ht⟩
  unfold lineL
  rw [if_neg hf, full_flat]
  exact sgnd_strip (ts_fall c _).2 ht
end Zf

namespace Zf
open PySem PySem.NumText

noncomputable def hdX (T : List Nat) : List Nat := T.takeWhile (· != 120)
noncomputable def tlX (T : List Nat) : List Nat := (T.dropWhile (· != 120)).drop 1

theorem split_minus : ∀ L : List Nat, ∃ h t, splitL 43 (repL L) = h :: t ∧ 45 ∉ h ∧ ∀ p ∈ t, 45 ∉ p.tail
  | [] => ⟨[], [], rfl, by simp, fun p hp => nomatch hp⟩
  | x :: L => by
    obtain ⟨h, t, e, h1, h2⟩ := split_minus L
    by_cases x5 : x = 45
    · subst x5
      refine ⟨[], (45 :: h) :: t, ?_, by simp, fun p hp => ?_⟩
      · show splitL 43 (43 :: 45 :: repL L) = _
        rw [splitL, if_pos rfl, splitL, if_neg (by decide), e]
      · rcases List.mem_cons.mp hp with q | q
        · rw [q]; exact h1
        · exact h2 p q
    · have er : repL (x :: L) = x :: repL L := by
        show (if x = 45 then [43, 45] else [x]) ++ repL L = _
        rw [if_neg x5]; rfl
      rw [er]
      by_cases x3 : x = 43
      · subst x3
        refine ⟨[], h :: t, ?_, by simp, fun p hp => ?_⟩
        · rw [splitL, if_pos rfl, e]
        · rcases List.mem_cons.mp hp with q | q
          · rw [q]; exact fun z => h1 (List.mem_of_mem_tail z)
          · exact h2 p q
      · refine ⟨x :: h, t, ?_, fun z => ?_, h2⟩
        · rw [splitL, if_neg x3, e]
        · rcases List.mem_cons.mp z with q | q
          · exact x5 q.symm
          · exact h1 q
theorem piece_minus {L T : List Nat} (h : T ∈ fpL (repL L)) : 45 ∉ T.tail ∧ T ≠ [] := by
  obtain ⟨m1, m2⟩ := List.mem_filter.mp h
  obtain ⟨a, t, e, h1, h2⟩ := split_minus L
  rw [e] at m1
  refine ⟨?_, of_decide_eq_true m2⟩
  rcases List.mem_cons.mp m1 with q | q
  · rw [q]; exact fun z => h1 (List.mem_of_mem_tail z)
  · exact h2 T q
theorem drop_mem {T : List Nat} {x : Nat} (h : x ∈ tlX T) : x ∈ T.tail := by
  unfold tlX at h
  have : (T.dropWhile (· != 120)).drop 1 <:+ T.tail := by
    cases T with
    | nil => exact List.suffix_refl _
    | cons y T =>
      rw [List.dropWhile_cons]
      split
      · exact List.IsSuffix.trans (List.drop_suffix _ _) (List.dropWhile_suffix _)
      · exact List.suffix_refl _
  exact this.subset h
theorem tl_minus {L T : List Nat} (h : T ∈ fpL (repL L)) : 45 ∉ tlX T := fun z => (piece_minus h).1 (drop_mem z)

theorem fold_lt : ∀ (ds : List Nat) (a : Nat), (∀ d ∈ ds, d < 10) → ds.foldl (fun acc d => acc * 10 + d) a < (a + 1) * 10 ^ ds.length
  | [], a, _ => by simp
  | d :: ds, a, h => by
    have hd := h d List.mem_cons_self
    have ih := fold_lt ds (a * 10 + d) fun x hx => h x (List.mem_cons_of_mem _ hx)
    rw [List.foldl_cons, List.length_cons, Nat.pow_succ]
    refine Nat.lt_of_lt_of_le ih ?_
    rw [show (a + 1) * (10 ^ ds.length * 10) = ((a + 1) * 10) * 10 ^ ds.length by rw [Nat.mul_comm (10 ^ ds.length) 10, Nat.mul_assoc]]
    exact Nat.mul_le_mul_right _ (by omega)
theorem step_ten {p q : Array Nat × Bool} {c : Nat} (h : NumText.step 10 p c = some q) (hp : ∀ d ∈ p.1.toList, d < 10) : ∀ d ∈ q.1.toList, d < 10 := by
  unfold NumText.step at h
  split at h
  · split at h
    · cases h; exact hp
    · cases h
  · split at h
    · split at h
      · rename_i hd
        cases h
        intro d hd'
        rw [Array.toList_push] at hd'
        rcases List.mem_append.mp hd' with z | z
        · exact hp d z
        · rw [List.mem_singleton.mp z]; exact hd
      · cases h
    · cases h
theorem fold_ten : ∀ (cs : List Nat) {p q : Array Nat × Bool}, cs.foldlM (NumText.step 10) p = some q → (∀ d ∈ p.1.toList, d < 10) → ∀ d ∈ q.1.toList, d < 10
  | [], p, q, h, hp => by cases h; exact hp
  | c :: cs, p, q, h, hp => by
    rw [List.foldlM_cons] at h
    cases e : NumText.step 10 p c with
    | none => rw [e] at h; cases h
    | some r =>
      rw [e] at h
      exact fold_ten cs h (step_ten e hp)
theorem digits_ten {cs : List Nat} {ds : Array Nat} (h : digits? 10 cs = some ds) : ∀ d ∈ ds.toList, d < 10 := by
  unfold digits? at h
  cases e : cs.foldlM (NumText.step 10) ((#[] : Array Nat), false) with
  | none => rw [e] at h; cases h
  | some q =>
    rw [e] at h
    have hq := fold_ten cs e (by simp)
    by_cases b : q.2 = true
    · have : some q.1 = some ds := by
        have h' : (if q.2 = true then some q.1 else none) = some ds := h
        rwa [if_pos b] at h'
      cases this
      exact hq
    · have h' : (if q.2 = true then some q.1 else none) = some ds := h
      rw [if_neg b] at h'
      cases h'
theorem int_lt {x : Str} {n : Int} (h : intText? x = some n) : n.natAbs < 10 ^ x.length := by
  unfold intText? at h
  split at h
  · split at h
    · rename_i ds hd
      split at h
      · have := Option.some.inj h
        subst this
        have t := digits_ten hd
        have s1 := digits_size hd
        have s2 := core_length (numSeenOf x)
        have s3 := seen_length x
        have f := fold_lt ds.toList 0 t
        rw [Nat.zero_add, Nat.one_mul] at f
        have e : ds.foldl (fun acc d => acc * 10 + d) 0 = ds.toList.foldl (fun acc d => acc * 10 + d) 0 := by rw [Array.foldl_toList]
        unfold worth
        rw [e]
        have f' : ds.toList.foldl (fun acc d => acc * 10 + d) 0 < 10 ^ x.length := Nat.lt_of_lt_of_le f (Nat.pow_le_pow_right (by decide) (by rw [Array.length_toList]; omega))
        split <;> simp only [Int.natAbs_neg, Int.natAbs_natCast] <;> exact f'
      · cases h
    · cases h
  · cases h
theorem int_nn {x : Str} {n : Int} (ha : ∀ c ∈ x.cps.toList, c < 128) (h5 : 45 ∉ x.cps.toList) (h : intText? x = some n) : 0 ≤ n := by
  have hsub : ∀ c ∈ numSeenOf x, c ∈ x.cps.toList := fun c hc => by
    have h1 : c ∈ numTextOf x := (List.takeWhile_prefix _).subset hc
    have e : numTextOf x = x.cps.toList := by
      show (if x.cps.all (· < 128) then x.cps.toList else Unicode.numberText x.cps.toList) = _
      rw [if_pos]
      rw [Array.all_eq_true']
      intro c hc
      exact decide_eq_true (ha c (by simpa using hc))
    rw [e] at h1
    exact h1
  unfold intText? at h
  split at h
  · split at h
    · split at h
      · have := Option.some.inj h
        subst this
        have hs : (sign ((numSeenOf x).dropWhile blank)).1 = false := by
          unfold sign
          split
          · rename_i r er
            exfalso
            have : (45 : Nat) ∈ (numSeenOf x).dropWhile blank := by rw [er]; exact List.mem_cons_self
            exact h5 (hsub 45 ((List.dropWhile_suffix _).subset this))
          · rfl
          · rfl
        rw [hs]
        unfold worth
        simp
      · cases h
    · cases h
  · cases h
end Zf

namespace Zf
open PySem PySem.NumText
noncomputable def numX (T : List Nat) : Option Int := if 120 ∈ T ∧ (hdX T = [] ∨ hdX T = [45]) then intText? (ofL (hdX T ++ [49])) else intText? (ofL (hdX T))
noncomputable def powX (T : List Nat) : Option Int := if 120 ∈ T then (if tlX T = [] then some 1 else intText? (ofL (tlX T))) else some 0
theorem digs_all (n : Nat) : AllDigits (digs n) := fun c hc => digs_digit hc
theorem int_digs {n : Nat} (h : (digs n).length ≤ 4300) : intText? (ofL (digs n)) = some (n : Int) := by
  have := intText_digits (x := ofL (digs n)) (by rw [ofL_list]; exact digs_all n) (by rw [ofL_list]; exact digs_ne n) (by rw [ofL_length]; exact h)
  rw [this, ofL_list, digs_val]
theorem int_ndigs {n : Nat} (h : (digs n).length < 4300) : intText? (ofL (45 :: digs n)) = some (-(n : Int)) := by
  have := intText_neg (x := ofL (45 :: digs n)) (cs := digs n) (by rw [ofL_list]) (digs_all n) (digs_ne n) (by rw [ofL_length, List.length_cons]; omega)
  rw [this, digs_val]
theorem take_all : ∀ {T : List Nat}, 120 ∉ T → hdX T = T
  | [], _ => rfl
  | x :: T, h => by
    have hx : (x != 120) = true := by
      have : x ≠ 120 := fun e => h (by rw [e]; exact List.mem_cons_self)
      simpa using this
    show (x :: T).takeWhile (· != 120) = x :: T
    rw [List.takeWhile_cons, if_pos hx]
    exact congrArg (x :: ·) (take_all fun z => h (List.mem_cons_of_mem _ z))
theorem cut_app {a b : List Nat} (h : 120 ∉ a) : hdX (a ++ 120 :: b) = a ∧ tlX (a ++ 120 :: b) = b := by
  obtain ⟨c1, c2⟩ := cut_x (t := a ++ 120 :: b) (by simp)
  have := cut_uniq h c2 c1
  exact ⟨this.1.symm, this.2.symm⟩
theorem hd_int {n : Int} (h : (digs n.natAbs).length < 4300) : intText? (ofL ((if n < 0 then [45] else []) ++ digs n.natAbs)) = some n := by
  by_cases hn : n < 0
  · rw [if_pos hn]
    show intText? (ofL (45 :: digs n.natAbs)) = _
    rw [int_ndigs h]
    congr 1; omega
  · rw [if_neg hn, List.nil_append, int_digs (by omega)]
    congr 1; omega
theorem num_pc {k : Nat} {n : Int} (h : (digs n.natAbs).length < 4300) : numX (pcL (k, n)) = some n := by
  by_cases k0 : k = 0
  · subst k0
    have no : 120 ∉ pcL (0, n) := by rw [pc_zero]; exact hd_no _
    unfold numX
    rw [if_neg fun z => no z.1, take_all no, pc_zero]
    have e : hdL (0, n) = (if n < 0 then [45] else []) ++ digs n.natAbs := by
      show _ ++ figL 0 n = _
      rw [show figL 0 n = digs n.natAbs from if_neg fun z => absurd z.1 (by decide)]
    rw [e]
    exact hd_int h
  · have e := pc_pos n (show 0 < k by omega)
    have hx : 120 ∈ pcL (k, n) := by rw [e]; simp
    obtain ⟨h1, h2⟩ := cut_app (b := tlL k) (hd_no (k, n))
    unfold numX
    rw [e, h1]
    by_cases n1 : n.natAbs = 1
    · have e1 : hdL (k, n) = if n < 0 then [45] else [] := by
        show _ ++ figL k n = _
        rw [show figL k n = [] from if_pos ⟨by omega, n1⟩, List.append_nil]
      rw [e1, if_pos ⟨by simp, by split <;> simp⟩]
      by_cases hn : n < 0
      · rw [if_pos hn, show n = -1 by omega]
        decide +kernel
      · rw [if_neg hn, show n = 1 by omega]
        decide +kernel
    · have e1 : hdL (k, n) = (if n < 0 then [45] else []) ++ digs n.natAbs := by
        show _ ++ figL k n = _
        rw [show figL k n = digs n.natAbs from if_neg fun z => n1 z.2]
      have hd0 := digs_ne n.natAbs
      rw [e1, if_neg]
      · exact hd_int h
      · rintro ⟨_, z | z⟩
        · exact hd0 (List.append_eq_nil_iff.mp z).2
        · split at z
          · have : digs n.natAbs = [] := by simpa using z
            exact hd0 this
          · have : (45 : Nat) ∈ digs n.natAbs := by
              have z' : digs n.natAbs = [45] := by simpa using z
              rw [z']; simp
            have := digs_digit this
            omega
theorem pow_pc {k : Nat} {n : Int} (hk : k ≤ 1000) : powX (pcL (k, n)) = some (k : Int) := by
  by_cases k0 : k = 0
  · subst k0
    have no : 120 ∉ pcL (0, n) := by rw [pc_zero]; exact hd_no _
    unfold powX
    rw [if_neg no]; rfl
  · have e := pc_pos n (show 0 < k by omega)
    have hx : 120 ∈ pcL (k, n) := by rw [e]; simp
    obtain ⟨h1, h2⟩ := cut_app (b := tlL k) (hd_no (k, n))
    unfold powX
    rw [e, if_pos (by simp), h2]
    unfold tlL
    by_cases k1 : k ≤ 1
    · rw [if_pos k1, if_pos rfl]
      have : k = 1 := by omega
      rw [this]; rfl
    · rw [if_neg k1, if_neg (digs_ne k), int_digs]
      have := digs_len 4 k (by decide) (by omega)
      omega
end Zf

namespace Zf
open PySem PySem.NumText

noncomputable def madeT : List (Nat × Int) → List Int
  | [] => []
  | p :: T => setT (List.replicate (p.1 + 1) 0) (p :: T)
noncomputable def leastT (ts : List (Nat × Int)) : Nat := (ts.getLast?.map fun p => p.1).getD 1001
noncomputable def spL (L : List Nat) : List Nat := spotsF (sgAt (sgnd L)) (sgnd L).length
structure RdT (L : List Nat) (i : Nat) (ts : List (Nat × Int)) : Prop where
  fall : Fall ts
  len : ts.length = i
  low : ∀ p ∈ ts, p.1 < 1001
  pre : ∀ a, (spL L)[i]? = some a → (sgnd L).take a = flatT ts
  cur : ∀ c, GoodL c → c.length ≤ 1001 → L = lineL c → ts = (tsL c c.length).take i
theorem sgnd_pos (L : List Nat) : 0 < (sgnd L).length ∧ sgAt (sgnd L) 0 = true := by
  unfold sgnd
  split
  · rename_i h
    cases L with
    | nil => cases h
    | cons x r =>
      have : x = 45 := by simpa using h
      subst this
      exact ⟨by simp, rfl⟩
  · exact ⟨by simp, rfl⟩
theorem rd0 (L : List Nat) : RdT L 0 [] := ⟨⟨List.Pairwise.nil, fun p h => nomatch h⟩, rfl, fun p h => (nomatch h), fun a h => by
  have := spots_head _ _ (sgnd_pos L).2 (sgnd_pos L).1
  unfold spL at h
  rw [this] at h
  rw [← Option.some.inj h]; rfl, fun c _ _ _ => rfl⟩
theorem sg_back {p : Int} (h : p ≠ 0) : p = if some (sgL p) = some 45 then -((p.natAbs : Nat) : Int) else ((p.natAbs : Nat) : Int) := by
  unfold sgL
  by_cases z : p < 0
  · rw [if_pos z, if_pos rfl]; omega
  · rw [if_neg z, if_neg (by decide)]; omega
theorem rd_seg {L : List Nat} {i a b : Nat} {ts : List (Nat × Int)} (R : RdT L i ts) (ha : (spL L)[i]? = some a) (hb : (spL L)[i + 1]? = some b) (h0 : L ≠ [48]) {c : List Int} (hg : GoodL c) (hc : c.length ≤ 1001) (e : L = lineL c) :
    ∃ p : Nat × Int, p.1 < c.length ∧ otL (((sgnd L).take b).drop (a + 1)) = some (p.2.natAbs, p.1) ∧ (p.2 = if (sgnd L)[a]? = some 45 then -((p.2.natAbs : Nat) : Int) else ((p.2.natAbs : Nat) : Int)) ∧ (tsL c c.length).take (i + 1) = ts ++ [p] := by
  have cn : c ≠ [] := fun z => h0 (by rw [e, z]; rfl)
  obtain ⟨lf, _⟩ := line_flat hg cn
  rw [← e] at lf
  have tf := ts_fall c c.length
  have hk := R.pre a ha
  rw [R.cur c hg hc e] at hk
  obtain ⟨p, p1, p2, p3, p4⟩ := seg_A tf.2 lf ha hb hk
  have pm := List.mem_of_getElem? p1
  have pn := tf.2 p pm
  refine ⟨p, (ts_mem pm).1, ?_, ?_, ?_⟩
  · rw [p4]
    have : figL p.1 p.2 = figL p.1 ((p.2.natAbs : Nat) : Int) := by unfold figL; rw [Int.natAbs_natCast]
    rw [this]
    exact otL_of (by omega)
  · rw [p3]; exact sg_back pn
  · rw [List.take_add_one, p1, R.cur c hg hc e]; rfl
theorem least_snoc (ts : List (Nat × Int)) (p : Nat × Int) : leastT (ts ++ [p]) = p.1 := by
  unfold leastT
  rw [List.getLast?_append]
  rfl
theorem least_lt {ts : List (Nat × Int)} {k : Nat} {v : Int} (h : (ts ++ [(k, v)]).Pairwise fun p q => q.1 < p.1) (hk : k < 1001) : k < leastT ts := by
  rcases List.eq_nil_or_concat ts with e | ⟨us, q, e⟩
  · subst e; exact hk
  · rw [List.concat_eq_append] at e
    subst e
    rw [least_snoc]
    rw [List.pairwise_append] at h
    exact h.2.2 q (by simp) (k, v) (by simp)
theorem rd_bad {L : List Nat} {i a b : Nat} {ts : List (Nat × Int)} (R : RdT L i ts) (ha : (spL L)[i]? = some a) (hb : (spL L)[i + 1]? = some b) (h0 : L ≠ [48])
    (bad : otL (((sgnd L).take b).drop (a + 1)) = none ∨ ∃ n k, otL (((sgnd L).take b).drop (a + 1)) = some (n, k) ∧ leastT ts ≤ k) : ∀ c, GoodL c → c.length ≤ 1001 → L ≠ lineL c := fun c hg hc e => by
  obtain ⟨p, p1, p2, p3, p4⟩ := rd_seg R ha hb h0 hg hc e
  rcases bad with z | ⟨n, k, z, hk⟩
  · rw [z] at p2; cases p2
  · rw [z] at p2
    injection p2 with p2
    injection p2 with q1 q2
    have hf : ((tsL c c.length).take (i + 1)).Pairwise fun p q => q.1 < p.1 := (ts_fall c c.length).1.sublist (List.take_sublist _ _)
    rw [p4] at hf
    have := least_lt (k := p.1) (v := p.2) hf (by omega)
    omega
theorem fall_snoc {ts : List (Nat × Int)} {k : Nat} {v : Int} (h : Fall ts) (hk : k < leastT ts) (hv : v ≠ 0) : Fall (ts ++ [(k, v)]) := by
  refine ⟨?_, fun p hp => ?_⟩
  · rw [List.pairwise_append]
    refine ⟨h.1, List.pairwise_singleton _ _, fun p hp q hq => ?_⟩
    rw [List.mem_singleton.mp hq]
    show k < p.1
    rcases List.eq_nil_or_concat ts with e | ⟨us, r, e⟩
    · subst e; cases hp
    · rw [List.concat_eq_append] at e
      subst e
      rw [least_snoc] at hk
      have h2 := h.1
      rw [List.pairwise_append] at h2
      rcases List.mem_append.mp hp with z | z
      · have := h2.2.2 p z r (by simp)
        omega
      · rw [List.mem_singleton.mp z]; exact hk
  · rcases List.mem_append.mp hp with z | z
    · exact h.2 p z
    · rw [List.mem_singleton.mp z]; exact hv
theorem least_le {ts : List (Nat × Int)} (h : ∀ p ∈ ts, p.1 < 1001) : leastT ts ≤ 1001 := by
  rcases List.eq_nil_or_concat ts with e | ⟨us, r, e⟩
  · subst e; exact Nat.le_refl _
  · rw [List.concat_eq_append] at e
    subst e
    rw [least_snoc]
    have := h r (by simp)
    omega
theorem rd_step {L : List Nat} {i a b n k : Nat} {ts : List (Nat × Int)} (R : RdT L i ts) (ha : (spL L)[i]? = some a) (hb : (spL L)[i + 1]? = some b) (h0 : L ≠ [48])
    (ho : otL (((sgnd L).take b).drop (a + 1)) = some (n, k)) (hk : k < leastT ts) : RdT L (i + 1) (ts ++ [(k, if (sgnd L)[a]? = some 45 then -(n : Int) else (n : Int))]) := by
  obtain ⟨s1, s2⟩ := seg_B ha hb (R.pre a ha) ho
  have vn : (if (sgnd L)[a]? = some 45 then -(n : Int) else (n : Int)) ≠ 0 := by split <;> omega
  refine ⟨fall_snoc R.fall hk vn, by rw [List.length_append, R.len]; rfl, fun p hp => ?_, fun b' hb' => ?_, fun c hg hc e => ?_⟩
  · rcases List.mem_append.mp hp with z | z
    · exact R.low p z
    · rw [List.mem_singleton.mp z]
      have := least_le R.low
      show k < 1001
      omega
  · rw [hb] at hb'
    rw [← Option.some.inj hb']
    exact s1
  · obtain ⟨p, p1, p2, p3, p4⟩ := rd_seg R ha hb h0 hg hc e
    rw [p4]
    rw [ho] at p2
    injection p2 with p2
    injection p2 with q1 q2
    rw [q1, q2, ← p3]
theorem made_snoc (ts : List (Nat × Int)) (k : Nat) (v : Int) : madeT (ts ++ [(k, v)]) = (if ts = [] then List.replicate (k + 1) 0 else madeT ts).set k v := by
  cases ts with
  | nil => rfl
  | cons p T =>
    rw [if_neg (by simp)]
    show setT _ (p :: (T ++ [(k, v)])) = (setT _ (p :: T)).set k v
    unfold setT
    rw [← List.cons_append, List.foldl_append]
    rfl
theorem made_nil {ts : List (Nat × Int)} : madeT ts = [] ↔ ts = [] := by
  cases ts with
  | nil => exact ⟨fun _ => rfl, fun _ => rfl⟩
  | cons p T =>
    refine ⟨fun h => ?_, fun h => (nomatch h)⟩
    have := congrArg List.length h
    unfold madeT at this
    rw [setT_length, List.length_replicate] at this
    exact absurd this (by simp)
theorem made_len {ts : List (Nat × Int)} {k : Nat} {v : Int} (h : Fall (ts ++ [(k, v)])) : k < (if ts = [] then List.replicate (k + 1) 0 else madeT ts).length := by
  cases ts with
  | nil => rw [if_pos rfl, List.length_replicate]; omega
  | cons p T =>
    rw [if_neg (by simp)]
    unfold madeT
    rw [setT_length, List.length_replicate]
    have := h.1
    rw [List.pairwise_append] at this
    have := this.2.2 p List.mem_cons_self (k, v) (by simp)
    have : k < p.1 := this
    omega
theorem rd_end {L : List Nat} {m : Nat} {ts : List (Nat × Int)} (R : RdT L m ts) (hm : m + 1 = (spL L).length) : GoodL (madeT ts) ∧ (madeT ts).length ≤ 1001 ∧ L = lineL (madeT ts) := by
  have hl := R.pre (sgnd L).length (by have := spots_last (sgAt (sgnd L)) (sgnd L).length; unfold spL at hm ⊢; rwa [← hm, Nat.add_sub_cancel] at this)
  rw [List.take_of_length_le (Nat.le_refl _)] at hl
  cases ts with
  | nil =>
    have := (sgnd_pos L).1
    rw [hl] at this
    exact absurd this (by simp [flatT])
  | cons p T =>
    obtain ⟨b1, b2, b3⟩ := back_line R.fall hl
    have := R.low p List.mem_cons_self
    exact ⟨b1, by show (setT _ _).length ≤ 1001; rw [b2]; omega, b3.symm⟩
theorem sp_len (L : List Nat) : 0 < (spL L).length ∧ (spL L).length ≤ (sgnd L).length + 1 := by
  unfold spL
  rw [spots_len]
  have := List.length_filter_le (sgAt (sgnd L)) (List.range (sgnd L).length)
  rw [List.length_range] at this
  omega
theorem sgnd_asc {n : Nat} {L : List Nat} (h : L.length ≤ n ∧ ∀ c ∈ L, c ≠ 0 ∧ c < 128) : (sgnd L).length ≤ n + 1 ∧ ∀ c ∈ sgnd L, c ≠ 0 ∧ c < 128 := by
  unfold sgnd
  split
  · exact ⟨by omega, h.2⟩
  · refine ⟨by rw [List.length_cons]; omega, fun c hc => ?_⟩
    rcases List.mem_cons.mp hc with e | e
    · rw [e]; decide
    · exact h.2 c e
end Zf


namespace Zf
open PySem L2 PySem.NumText

noncomputable def Asc (n : Nat) (x : Str) : Prop := x.length ≤ n ∧ ∀ c ∈ x.cps.toList, c ≠ 0 ∧ c < 128
noncomputable def spWhole12 (NL : Addr) : Sp := fun vs H Q E => ∃ x : Str, vs = [.str x] ∧ Asc 600 x ∧ (∀ n, intText? x = some n → Q (.int n) H) ∧ (intText? x = none → E (.ref NL) none H)
abbrev bmV : List Value := [.type "ValueError", .type "Exception", .type "BaseException", .type "object"]

structure Rf (K : PySem.W.Frag) (mg : Str → Option Value) (n : Str) (C : Addr) : Prop where
  at_ : mg n = some (.ref C)
  ex : PySem.W.excIn K C bmV "ValueError.__new__" = true
  k : ExcK K C

noncomputable def AscL (n : Nat) (T : List Nat) : Prop := T.length ≤ n ∧ ∀ c ∈ T, c ≠ 0 ∧ c < 128
theorem AscL.str {n : Nat} {T : List Nat} (h : AscL n T) : Asc n (ofL T) := ⟨by rw [ofL_length]; exact h.1, fun c hc => h.2 c (by rwa [ofL_list] at hc)⟩
theorem hdX_sub {T : List Nat} : (hdX T).length ≤ T.length ∧ ∀ c ∈ hdX T, c ∈ T := ⟨(List.takeWhile_prefix _).length_le, fun c hc => (List.takeWhile_prefix _).subset hc⟩
theorem tlX_sub {T : List Nat} : (tlX T).length ≤ T.length ∧ ∀ c ∈ tlX T, c ∈ T := by
  have h : tlX T <:+ T := List.IsSuffix.trans (List.drop_suffix _ _) (List.dropWhile_suffix _)
  exact ⟨h.length_le, fun c hc => h.subset hc⟩
theorem part_hd (T : List Nat) : (Txt.partition (ofL T) (ofL [120])).1 = ofL (hdX T) ∧ (120 ∈ T → (Txt.partition (ofL T) (ofL [120])).2.2 = ofL (tlX T)) := by
  by_cases hx : 120 ∈ T
  · obtain ⟨c1, c2⟩ := cut_x hx
    have e : Txt.partition (ofL T) (ofL [120]) = (ofL (hdX T), ofL [120], ofL (tlX T)) := by
      conv => lhs; rw [c1]
      exact txt_part c2
    rw [e]
    exact ⟨rfl, fun _ => rfl⟩
  · rw [txt_part_no hx, take_all hx]
    exact ⟨rfl, fun z => absurd z hx⟩
noncomputable def spRNum12 (NL : Addr) : Sp := fun vs H Q E => ∃ T : List Nat, vs = [.str (ofL T)] ∧ AscL 560 T ∧ (∀ n, numX T = some n → ∀ H', Same H H' → Q (.int n) H') ∧ (numX T = none → ∀ H', Same H H' → E (.ref NL) none H')
noncomputable def spRPow12 (NL : Addr) : Sp := fun vs H Q E => ∃ T : List Nat, vs = [.str (ofL T)] ∧ AscL 560 T ∧ (∀ n, powX T = some n → n ≤ 1000 → ∀ H', Same H H' → Q (.int n) H') ∧ ((powX T = none ∨ ∃ n, powX T = some n ∧ 1000 < n) → ∀ H', Same H H' → E (.ref NL) none H')
noncomputable def spTerms12 : Sp := fun vs H Q _ => ∃ L : List Nat, vs = [.str (ofL L)] ∧ L.length ≤ 560 ∧ ∀ (r : Addr) (H' : Hp), Same H H' → H r = none → H' r = some (.lst ((fpL (repL L)).map fun T => V.str (ofL T))) → Q (.ref r) H'
theorem cnt_rep : ∀ L : List Nat, (repL L).count 43 ≤ L.length
  | [] => Nat.le_refl _
  | x :: L => by
    have ih := cnt_rep L
    have e : repL (x :: L) = (if x = 45 then [43, 45] else [x]) ++ repL L := rfl
    rw [e, List.count_append, List.length_cons]
    have : (if x = 45 then [43, 45] else [x]).count 43 ≤ 1 := by
      split
      · decide
      · exact List.count_le_length
    omega
theorem txt_piecesX (L : List Nat) : (Txt.split (Txt.replace (ofL L) (ofL [45]) (ofL [43, 45])) (ofL [43])).filter (fun x => decide (x ≠ ofL [])) = (fpL (repL L)).map ofL := by
  rw [txt_rep, txt_split]
  unfold fpL
  generalize splitL 43 (repL L) = ps
  induction ps with
  | nil => rfl
  | cons p ps ih =>
    rw [List.map_cons, List.filter_cons, ih, List.filter_cons]
    by_cases e : p = []
    · subst e; simp [ne0]
    · have : ofL p ≠ ofL [] := fun z => e (ofL_inj z)
      have h2 : ne0 p = true := by cases p with | nil => exact absurd rfl e | cons => rfl
      rw [if_pos (decide_eq_true this), if_pos h2]; rfl
theorem digs_bdW {n : Int} (h : Bd 1900 n) : (digs n.natAbs).length ≤ 572 := digs_len 572 _ (by decide) (Nat.lt_of_lt_of_le h (by decide +kernel))
theorem fig_lenW {k : Nat} {n : Int} (h : Bd 1900 n) : (figL k n).length ≤ 572 := by
  unfold figL
  split
  · simp
  · exact digs_bdW h
theorem tm_lenW {k : Nat} {n : Int} (h : Bd 1900 n) (hk : k ≤ 1000) : (tmL k n).length ≤ 578 := by
  unfold tmL
  split
  · simp
  · have := fig_lenW (k := k) h
    have := pow_len hk
    simp only [List.length_cons, List.length_append]; omega
theorem bd_getDW {c : List Int} (h : ∀ x ∈ c, Bd 1900 x) (i : Nat) : Bd 1900 (c.getD i 0) := by
  by_cases hi : i < c.length
  · exact h _ (gmem hi)
  · rw [getD_out (by omega)]; exact Bd.zero _
theorem dn_lenW {c : List Int} (h : ∀ x ∈ c, Bd 1900 x) {n : Nat} (hn : n ≤ 1001) : ∀ i : Nat, (dnL c n i).length ≤ 578 * i
  | 0 => by simp [dnL]
  | i + 1 => by
    have ih := dn_lenW h hn i
    have := tm_lenW (bd_getDW h (n - 1 - i)) (k := n - 1 - i) (by omega)
    rw [dnL, List.length_append]; omega
noncomputable def spShFig12 : Sp := fun vs H Q _ => ∃ (n : Int) (k : Nat), vs = [.int n, .int (k : Int)] ∧ Bd 1900 n ∧ Q (.str (ofL (figL k n))) H
noncomputable def spShown12 (K : PySem.W.Frag) : Sp := fun vs H Q _ => ∃ (a : Addr) (c : List Int), vs = [.ref a] ∧ SqL K H a (c.map V.int) ∧ GoodL c ∧ c.length ≤ 1001 ∧ (∀ x ∈ c, Bd 1900 x) ∧ Q (.str (ofL (lineL c))) H
noncomputable def spRead12 (NL : Addr) : Sp := fun vs H Q E => ∃ L : List Nat, vs = [.str (ofL L)] ∧ AscL 540 L ∧ (∀ c, GoodL c → c.length ≤ 1001 → L = lineL c → ∀ (r : Addr) (H' : Hp), Same H H' → H r = none → H' r = some (IL c) → Q (.ref r) H') ∧ ((∀ c, GoodL c → c.length ≤ 1001 → L ≠ lineL c) → ∀ H', Same H H' → E (.ref NL) none H')
theorem split_mem : ∀ l : List Nat, ∀ T ∈ splitL 43 l, T.length ≤ (l.filter (· != 43)).length ∧ ∀ c ∈ T, c ∈ l
  | [], T, h => by
    have : T = [] := by simpa [splitL] using h
    subst this
    exact ⟨Nat.zero_le _, fun c hc => absurd hc (by simp)⟩
  | x :: r, T, h => by
    have ih := split_mem r
    have mono : (r.filter (· != 43)).length ≤ ((x :: r).filter (· != 43)).length := ((List.sublist_cons_self x r).filter _).length_le
    unfold splitL at h
    split at h
    · rcases List.mem_cons.mp h with e | e
      · subst e; exact ⟨Nat.zero_le _, fun c hc => absurd hc (by simp)⟩
      · exact ⟨Nat.le_trans (ih T e).1 mono, fun c hc => List.mem_cons_of_mem _ ((ih T e).2 c hc)⟩
    · rename_i hx
      have fx : ((x :: r).filter (· != 43)).length = (r.filter (· != 43)).length + 1 := by
        rw [List.filter_cons, if_pos (by simpa using hx), List.length_cons]
      split at h
      · have : T = [x] := by simpa using h
        subst this
        exact ⟨by rw [fx, List.length_singleton]; omega, fun c hc => by rw [List.mem_singleton.mp hc]; exact List.mem_cons_self⟩
      · rename_i hd tl he
        rcases List.mem_cons.mp h with e | e
        · subst e
          have := ih hd (by rw [he]; exact List.mem_cons_self)
          refine ⟨by rw [fx, List.length_cons]; omega, fun c hc => ?_⟩
          rcases List.mem_cons.mp hc with q | q
          · rw [q]; exact List.mem_cons_self
          · exact List.mem_cons_of_mem _ (this.2 c q)
        · have := ih T (by rw [he]; exact List.mem_cons_of_mem _ e)
          exact ⟨Nat.le_trans this.1 mono, fun c hc => List.mem_cons_of_mem _ (this.2 c hc)⟩
theorem rep_filter : ∀ L : List Nat, (repL L).filter (· != 43) = L.filter (· != 43)
  | [] => rfl
  | x :: L => by
    have e : repL (x :: L) = (if x = 45 then [43, 45] else [x]) ++ repL L := rfl
    rw [e, List.filter_append, rep_filter L]
    split
    · rename_i z; subst z; rfl
    · rw [List.filter_cons, List.filter_cons]; split <;> rfl
theorem fp_asc {n : Nat} {L : List Nat} (h : AscL n L) : ∀ T ∈ fpL (repL L), AscL n T := fun T hT => by
  obtain ⟨a, b⟩ := split_mem (repL L) T (List.mem_filter.mp hT).1
  rw [rep_filter] at a
  refine ⟨Nat.le_trans a (Nat.le_trans (List.length_filter_le _ _) h.1), fun c hc => ?_⟩
  obtain ⟨y, hy, hc2⟩ := List.mem_flatMap.mp (show c ∈ L.flatMap _ from b c hc)
  split at hc2
  · rcases List.mem_cons.mp hc2 with q | q
    · rw [q]; decide
    · rw [List.mem_singleton.mp q]; decide
  · rw [List.mem_singleton.mp hc2]; exact h.2 y hy
theorem pc_digs {k : Nat} {n : Int} {m : Nat} (h : (pcL (k, n)).length ≤ m) : (digs n.natAbs).length ≤ m + 1 := by
  unfold pcL at h
  dsimp only at h
  rw [List.length_append, List.length_append] at h
  have h2 : (figL k n).length ≤ m := by omega
  unfold figL at h2
  split at h2
  · rename_i z
    rw [z.2]
    have : (digs 1).length ≤ 1 := digs_len 1 1 (by decide) (by decide)
    omega
  · omega
theorem pow_nn {L T : List Nat} {n : Int} (hT : T ∈ fpL (repL L)) (ha : AscL 560 T) (h : powX T = some n) : 0 ≤ n := by
  unfold powX at h
  split at h
  · split at h
    · injection h with h; omega
    · refine int_nn (x := ofL (tlX T)) (fun c hc => ?_) ?_ h
      · rw [ofL_list] at hc; exact (ha.2 c (tlX_sub.2 c hc)).2
      · rw [ofL_list]; exact tl_minus hT
  · injection h with h; omega
theorem num_bd {T : List Nat} {n : Int} (ha : AscL 560 T) (h : numX T = some n) : Bd 1900 n := by
  have l := (hdX_sub (T := T)).1
  have l2 := ha.1
  have key : ∀ x : Str, x.length ≤ 561 → intText? x = some n → Bd 1900 n := fun x hx hn =>
    Nat.lt_of_lt_of_le (int_lt hn) (Nat.le_trans (Nat.pow_le_pow_right (by decide) hx) (by decide +kernel))
  unfold numX at h
  split at h
  · exact key _ (by rw [ofL_length, List.length_append, List.length_singleton]; omega) h
  · exact key _ (by rw [ofL_length]; omega) h
end Zf


namespace L2
open PySem PySem.Spec PyProof.Rows
noncomputable def Its (x : Str) : It := ⟨fun i _ => i < x.cps.size, fun i H v H' => H' = H ∧ ∃ c, x.cps[i]? = some c ∧ v = .str ⟨#[c]⟩, fun i _ => x.cps.size ≤ i⟩
theorem turn_str {P : Program} {w : World} {K : PySem.W.Frag} {tg : Expr} (it : Addr) (x : Str) (t : Tok) : Turn P w K tg (Its x) [it] it (fun i h => h.IsStrIter it "str_ascii_iterator" x t i) where
  mem := by simp
  obj := fun i h st b hb => by
    have e : b = it := by simpa using hb
    subst e
    obtain ⟨o, e, c, d⟩ := st
    exact ⟨o, e, fun v z => by rw [d] at z; cases z⟩
  keep := fun i h h' st k => let ⟨o, ho, r⟩ := st; ⟨o, k it (by simp) o ho, r⟩
  item := by
    intro X hP hw hK hc i pins s σ H E I hf st hg
    subst hP hw hK
    have hg : i < x.cps.size := hg
    obtain ⟨f0, f1, f2, f3, f4, f5⟩ := hf it (by simp)
    refine wpAny_pyNext_ascii_item st (c := x.cps[i]) (by simp [hg]) fun h' st' sb => ?_
    have I1 : Inv X pins σ H { s with heap := h', toks := s.toks + 1 } := I.turned (fun b o hb e => (sb.2 b hb).trans e) f0 f1 f3 f4 f5 (Nat.succ_pos _)
    obtain ⟨o, e, c, d⟩ := id st'
    exact ⟨_, rfl, go_of (s := { s with heap := h', toks := s.toks + 1 }) e c d (by decide) ⟨.str ⟨#[x.cps[i]]⟩, H, I1, ⟨_, rfl⟩, ⟨rfl, _, by simp [hg], rfl⟩, st', fun b hb => (hf b hb).1⟩⟩
  done := by
    intro X hP hw hK hc i pins s σ H E I hf st hg
    subst hP hw hK
    obtain ⟨f0, f1, f2, f3, f4, f5⟩ := hf it (by simp)
    exact wpAny_pyNext_ascii_end (I.ok.hd hc) st (by have : x.cps.size ≤ i := hg; simp [this]) fun h' eb => ⟨rfl, I.turned (t' := s.toks) (fun b o hb e => eb b o hb e) f0 f1 f3 f4 f5⟩
  self := fun _ _ _ _ _ st h => wpAny_pyIter_striter_ascii st h
section
variable {X : Cx} {tg : Expr}
noncomputable def iStr (tl : TE) : TI := fun σ H R => tl σ H fun v H1 => ∃ x, v = .str x ∧ x.cps.all (· < 128) = true ∧ R (Its x) H1
theorem pi_str {l : Expr} {tl : TE} (hl : PE X l tl) : PI X tg l (iStr tl) := by
  intro pins s σ H R I h
  refine thn (hl pins s σ H _ I h) fun v s1 ⟨x, H1, I1, r1, q1⟩ => ?_
  obtain ⟨z, e, ha, q⟩ := q1
  subst e
  obtain ⟨t, rfl⟩ := r1
  refine wpAny_pyIter_ascii ha ?_
  refine ⟨s1.heap.objs.size, [s1.heap.objs.size], _, _, H1, rfl, I1.kept (t' := s1.toks) fun b o e => Heap.get?_push_of_some _ e, turn_str _ z t, ⟨_, Heap.get?_push_size _ rfl, rfl, rfl⟩, fun b hb => ?_, q⟩
  have e : b = s1.heap.objs.size := by simpa using hb
  subst e
  exact I1.fpOk (Nat.le_refl _) (I1.hok.fresh (Nat.le_refl _))
end
section
variable {X : Cx}
noncomputable def firstOcc (i j : Str) : Int := match Builtin.Str.occurrences i j 0 i.length 1 with | k :: _ => (k : Int) | [] => -1
noncomputable def XFind (x : V) (xs : List V) (H : Hp) (Q : VK) : Prop := ∃ i j : Str, x = .str i ∧ xs = [.str j] ∧ Q (.int (firstOcc i j)) H
theorem mt_find : MtR X "str.find" (fun x xs H Q => XFind x xs H Q) := by
  intro pins s σ H x xs v us Q I rx r h
  obtain ⟨x, y, rfl, rfl, q⟩ := h
  obtain ⟨t, rfl⟩ := rx
  obtain ⟨u0, rfl, u, rfl⟩ := Vals.one r
  exact call_gives F.slot_str_find (typeIs_str _ _ _) F.entry_str_find (F.args_str_find_2 _ _) (gives_str_find x y t u) ⟨.int _, H, I.tok _ (Nat.succ_pos _), ⟨_, rfl⟩, q⟩
end
theorem for_str {x : Str} {g : TG} {tb : TS} {D : Ends} {σ : St} {H : Hp} (Pv : Nat → St → Hp → Prop) (h0 : Pv 0 σ H)
    (hs : ∀ i c σ H, x.cps[i]? = some c → Pv i σ H → g (.str ⟨#[c]⟩) σ H fun σ2 H2 => tb { D with nx := Pv (i + 1), ct := Pv (i + 1), bk := D.nx } σ2 H2) (hd : ∀ σ H, Pv x.cps.size σ H → D.nx σ H) :
    ∃ W : Nat → Nat → St → Hp → Prop, (∃ m, W 0 m σ H) ∧ ∀ i m σ H, W i m σ H →
      ((Its x).stop i H ∧ D.nx σ H) ∨ ((Its x).go i H ∧ ∃ N : St → Hp → Prop, (∀ σ' H', N σ' H' → ∃ m', m' < m ∧ W (i + 1) m' σ' H') ∧ ∀ v H', (Its x).yld i H v H' → g v σ H' fun σ2 H2 => tb { D with nx := N, ct := N, bk := D.nx } σ2 H2) := by
  refine ⟨fun i m σ H => m = x.cps.size - i ∧ i ≤ x.cps.size ∧ Pv i σ H, ⟨x.cps.size, by simp, Nat.zero_le _, h0⟩, ?_⟩
  rintro i m σ H ⟨rfl, hi, p⟩
  by_cases hl : i < x.cps.size
  · refine .inr ⟨hl, Pv (i + 1), fun σ' H' q => ⟨x.cps.size - (i + 1), by omega, rfl, by omega, q⟩, ?_⟩
    rintro v H' ⟨rfl, c, hc, rfl⟩
    exact hs i c σ H' hc p
  · have e : i = x.cps.size := by omega
    subst e
    exact .inl ⟨Nat.le_refl _, hd σ H p⟩
end L2


namespace Zf
open PySem L2 PySem.NumText
noncomputable def spAreFig : Sp := fun vs H Q _ => ∃ T : List Nat, vs = [.str (ofL T)] ∧ AscL 560 T ∧ Q (.bl (decide (isFig T))) H
theorem find_x {T : List Nat} (h : 120 ∈ T) : firstOcc (ofL T) (ofL [120]) = ((hdX T).length : Int) := by
  unfold firstOcc
  have c12 : T = hdX T ++ 120 :: tlX T ∧ 120 ∉ hdX T := cut_x h
  generalize hdX T = a at c12 ⊢
  generalize tlX T = b at c12
  obtain ⟨c1, c2⟩ := c12
  have hat : T[a.length]? = some 120 := by rw [c1]; simp
  rcases StrLaws.occ_head (ofL T) (ofL [120]) 1 (Nat.le_refl _) with ⟨e, hn⟩ | ⟨i, r, e, ha, hk⟩
  · exact absurd ((at_one _ _ _).mpr hat) (hn _)
  · rw [e]
    show (i : Int) = _
    have h1 := (at_one _ _ _).mp ha
    rcases Nat.lt_trichotomy i a.length with z | z | z
    · rw [c1, List.getElem?_append_left z] at h1
      exact absurd (List.mem_of_getElem? h1) c2
    · rw [z]
    · exact absurd ((at_one _ _ _).mpr hat) (hk _ z)
noncomputable def spOneTerm : Sp := fun vs H Q _ => ∃ T : List Nat, vs = [.str (ofL T)] ∧ AscL 560 T ∧ (otL T = none → ∀ H', Same H H' → Q .non H') ∧ ∀ n k : Nat, otL T = some (n, k) → ∀ (r : Addr) (H' : Hp), Same H H' → H r = none → H' r = some (.tup [.int n, .int k]) → Q (.ref r) H'
theorem txt_to {T : List Nat} {n : Nat} (h : n ≤ T.length) : Txt.slice (ofL T) none (some (n : Int)) = ofL (T.take n) := by
  have := StrLaws.sliceText_to (x := ofL T) (j := (n : Int)) (by rw [ofL_list]; omega)
  refine Eq.trans ?_ (this.trans ?_)
  · rfl
  · rw [ofL_list, Int.sub_zero, Int.toNat_natCast]; rfl
theorem txt_from {T : List Nat} {n : Nat} (h : n ≤ T.length) : Txt.slice (ofL T) (some (n : Int)) none = ofL (T.drop n) := by
  have := StrLaws.sliceText_from (x := ofL T) (i := (n : Int)) (by rw [ofL_list]; omega)
  refine Eq.trans ?_ (this.trans ?_)
  · rfl
  · rw [ofL_list, Int.toNat_natCast, List.take_of_length_le (by rw [List.length_drop]; omega)]; rfl
theorem txt_mid {T : List Nat} {a b : Nat} (h : a ≤ b) (hb : b ≤ T.length) : Txt.slice (ofL T) (some (a : Int)) (some (b : Int)) = ofL ((T.take b).drop a) := by
  have := StrLaws.sliceText_nat (ofL T) h (by rw [ofL_length]; exact hb)
  refine Eq.trans ?_ (this.trans ?_)
  · rfl
  · rw [ofL_list, List.drop_take]; rfl
end Zf


namespace L2
open PySem PySem.Spec PyProof.Rows

theorem lcg_rng {g : TG} {tc : TT} {te : TE} {x : Str} {σc : List (Option V)} {n : Nat} {H : Hp} {R : Addr → Hp → Prop} (p : Nat → Bool) (f : Nat → V) (hz : n ≤ 1000)
    (hg : ∀ (i : Nat) (u : Option V) (H2 : Hp) (Q2 : St → Hp → Prop), Q2 (some (.int (i : Int)) :: σc) H2 → g (.int (i : Int)) (u :: σc) H2 Q2)
    (hc : ∀ (i : Nat) (H2 : Hp) (Q2 : Bool → Hp → Prop), i < n → Same H H2 → Q2 (p i) H2 → tc (some (.int (i : Int)) :: σc) H2 Q2)
    (ht : ∀ (i : Nat) (H2 : Hp) (Q2 : VK), i < n → Same H H2 → Q2 (f i) H2 → te (some (.int (i : Int)) :: σc) H2 Q2)
    (hq : ∀ (D : Addr) (H' : Hp), H D = none → Same H H' → H' D = some (.lst (((List.range n).filter p).map f)) → R D H') :
    ∀ D, H D = none → ∃ W : Nat → Nat → St → List V → Hp → Prop, (∃ m, W 0 m (nones [x] ++ σc) [] (upd H D (.lst []))) ∧
      ∀ i m σ2 acc H2, W i m σ2 acc H2 → H2 D = some (.lst acc) ∧ (((Itr 0 n).stop i H2 ∧ R D H2) ∨ ((Itr 0 n).go i H2 ∧ ∀ y H3, (Itr 0 n).yld i H2 y H3 → g y σ2 H3 fun σ' H' => tc σ' H' fun b H5 => if b = true then te σ' H5 fun v H4 =>
        H4 D = some (.lst acc) ∧ acc.length < sizeLine ∧ ∃ m', m' < m ∧ W (i + 1) m' σ' (acc ++ [v]) (upd H4 D (.lst (acc ++ [v]))) else ∃ m', m' < m ∧ W (i + 1) m' σ' acc H5)) := by
  intro D hD
  refine ⟨fun i m σ2 acc H2 => m = n - i ∧ i ≤ n ∧ (∃ u, σ2 = u :: σc) ∧ Same H H2 ∧ H2 D = some (.lst acc) ∧ acc = ((List.range i).filter p).map f,
    ⟨n, by simp, Nat.zero_le _, ⟨none, rfl⟩, same_new hD _, upd_same, rfl⟩, ?_⟩
  rintro i m σ2 acc H2 ⟨rfl, hi, ⟨u, rfl⟩, s2, hd, hal⟩
  refine ⟨hd, ?_⟩
  by_cases hlt : i < n
  · refine .inr ⟨hlt, fun y H3 hy => ?_⟩
    obtain ⟨e, hy⟩ := hy
    subst e
    have ey : y = .int (i : Int) := by rw [hy, Int.zero_add]
    subst ey
    refine hg i u H3 _ ?_
    have rs : List.range (i + 1) = List.range i ++ [i] := List.range_succ
    have fl : acc.length ≤ i := by
      rw [hal, List.length_map]
      exact Nat.le_trans (List.length_filter_le _ _) (by simp)
    refine hc i H3 _ hlt s2 ?_
    cases hp : p i with
    | false =>
      refine iteF ⟨n - (i + 1), by omega, rfl, hlt, ⟨_, rfl⟩, s2, hd, ?_⟩
      rw [rs, List.filter_append, List.filter_cons_of_neg (by simp [hp])]
      simpa using hal
    | true =>
      refine iteT (ht i H3 _ hlt s2 ⟨hd, small1000 (by omega), n - (i + 1), by omega, rfl, hlt, ⟨_, rfl⟩, s2.of_upd hD, upd_same, ?_⟩)
      rw [rs, List.filter_append, List.filter_cons_of_pos (by simp [hp]), hal]
      simp
  · have e : i = n := by omega
    subst e
    subst hal
    exact .inl ⟨Nat.le_refl _, hq D H2 hD s2 hd⟩
end L2
namespace Zf
open PySem L2 PySem.NumText
noncomputable def spBeside : Sp := fun vs H Q _ => ∃ L : List Nat, vs = [.str (ofL L)] ∧ AscL 540 L ∧ (∀ c, GoodL c → c.length ≤ 1001 → L = lineL c → ∀ (r : Addr) (H' : Hp), Same H H' → H r = none → H' r = some (IL c) → Q (.ref r) H') ∧ ((∀ c, GoodL c → c.length ≤ 1001 → L ≠ lineL c) → ∀ H', Same H H' → Q .non H')
theorem txt_one (L : List Nat) : Txt.slice (ofL L) none (some (1 : Int)) = ofL (L.take 1) := by
  cases L with
  | nil => rfl
  | cons x r => exact txt_to (n := 1) (by simp)
theorem take_one (L : List Nat) : L.take 1 = [45] ↔ L.head? = some 45 := by
  cases L with
  | nil => simp
  | cons x r => simp
theorem sgnd_if (L : List Nat) : sgnd L = if L.take 1 = [45] then L else 43 :: L := by
  unfold sgnd
  by_cases h : L.head? = some 45
  · rw [if_pos h, if_pos ((take_one L).mpr h)]
  · rw [if_neg h, if_neg fun z => h ((take_one L).mp z)]
theorem sg_in {l : List Nat} {i c : Nat} (h : l[i]? = some c) : decide (c ∈ [43, 45]) = sgAt l i := by
  unfold sgAt
  rw [h]
  by_cases h1 : c = 43
  · subst h1; rfl
  · by_cases h2 : c = 45
    · subst h2; rfl
    · rw [decide_eq_false (by simp [h1, h2]), decide_eq_false (by simp [h1, h2])]
theorem atI_txt {l : List Nat} {i c : Nat} (h : l[i]? = some c) : atI (ofL l).cps.toList (i : Int) = some c := by
  rw [ofL_list]
  exact atI_nat h
theorem one_txt (c : Nat) : (⟨#[c]⟩ : Str) = ofL [c] := rfl
end Zf

namespace L2
open PySem PySem.Calls PyProof.Rows PySem.W

noncomputable def gd {α : Type} (t d : Sem α) : Sem α := .stack fun st => if (st.map fun x => x.1).any isCl = true then t else d
section
variable {α : Type} {M : Model} {A : Around} {E : Value → Shared → Prop} {s : Shared} {t d : Sem α} {Q : α → Shared → Prop}
theorem wpAny_gd (h1 : wpC M A t Q E s) (h2 : wpAny M A d Q E s) : wpAny M A (gd t d) Q E s := fun Γ p i => by
  show Sem.wp M Γ (if (((Γ.code, p) :: Γ.below).map fun x => x.1).any isCl = true then t else d) _ _ p s
  by_cases c : (((Γ.code, p) :: Γ.below).map fun x => x.1).any isCl = true
  · rw [if_pos c]; exact h1 Γ p i c
  · rw [if_neg c]; exact h2 Γ p i
theorem wpC_gd (h : wpAny M A (gd t d) Q E s) : wpC M A t Q E s := fun Γ p i c => by
  have h2 : Sem.wp M Γ (if (((Γ.code, p) :: Γ.below).map fun x => x.1).any isCl = true then t else d) (fun a _ z => Q a z) (fun e _ z => E e z) p s := h Γ p i
  have c' : (((Γ.code, p) :: Γ.below).map fun x => x.1).any isCl = true := c
  rw [if_pos c'] at h2
  exact h2
theorem gd_else (h : wpAny M A (gd t d) Q E s) (Γ : Ctx) (p : Pos) (i : Γ.In A) (c : ¬ clOf Γ) : Sem.wp M Γ d (fun a _ z => Q a z) (fun e _ z => E e z) p s := by
  have h2 : Sem.wp M Γ (if (((Γ.code, p) :: Γ.below).map fun x => x.1).any isCl = true then t else d) (fun a _ z => Q a z) (fun e _ z => E e z) p s := h Γ p i
  have c' : ¬ (((Γ.code, p) :: Γ.below).map fun x => x.1).any isCl = true := c
  rw [if_neg c'] at h2
  exact h2
end
theorem holdsBy_to {c : ClaimW} {stub stub' : List Value → Thread} {defs keeps : List PySem.Str} {writes : Bool} (tr : ∀ (w : World) (vs : List Value) (s : Shared) (n : Nat) (o : Outcome) (s' : Shared), s.asleep → schedN (denote table) c.prog w n (.single s (stub' vs)) = .halted o s' → ∃ m, schedN (denote table) c.prog w m (.single s (stub vs)) = .halted o s')
    (h : c.HoldsOpenBy stub' defs keeps writes) : c.HoldsOpenBy stub defs keeps writes := by
  obtain ⟨h1, h2, h3⟩ := h
  refine ⟨h1, h2, fun w => ⟨(h3 w).1, fun s hs => ?_⟩⟩
  obtain ⟨s₀, a1, a2, s₁, a3, a4, a5, a6, cf⟩ := (h3 w).2 s hs
  refine ⟨s₀, a1, a2, s₁, a3, a4, a5, a6, fun args p1 p2 ord p3 => ?_⟩
  obtain ⟨vs, s2, l, n, o, s', r, rest⟩ := cf args p1 p2 ord p3
  have hs' : AfterImport (opening c.prog) w s := hs
  have hz : s2.asleep := Shared.asleep_of_life ((layAllW_rest _ _ _ l).2.2.2.trans (a3.2.1.trans (fence_lifeW a1))) hs'.life
  obtain ⟨m, r'⟩ := tr w vs s2 n o s' hz r
  exact ⟨vs, s2, l, m, o, s', r', rest⟩
theorem sched_gd {prog : Program} {w : World} {s : Shared} {t d : Sem Fin} {n : Nat} {o : Outcome} {s' : Shared} (hz : s.asleep) (h : schedN (denote table) prog w n (.single s ⟨gd t d, .builtin "claim.caller" {}, default, []⟩) = .halted o s') :
    ∃ m, schedN (denote table) prog w m (.single s ⟨t, .builtin "claim.caller" {}, default, []⟩) = .halted o s' := by
  cases n with
  | zero => cases h
  | succ n =>
    refine ⟨n, ?_⟩
    have e := sstep_single (den := denote table) (prog := prog) (w := w) s ⟨gd t d, .builtin "claim.caller" {}, default, []⟩ rfl hz
    have e1 : step (denote table) prog w s ⟨gd t d, .builtin "claim.caller" {}, default, []⟩ = .go s ⟨t, .builtin "claim.caller" {}, default, []⟩ := rfl
    rcases e with e | e
    · unfold schedN at h
      rw [e, e1] at h
      exact h
    · rw [e1] at e
      cases e

noncomputable def WalkC (q : Program) (loose : List PySem.Str) (XP : (PySem.Str → Option Value) → Heap → Prop) (YP : World → Heap → Prop) (r : RowW) (d : DefRec) (kwd : List (PySem.Str × Expr)) : Prop :=
  ∀ (w : World) (s₀ s₁ : Shared) (mg mb : PySem.Str → Option Value), Ground q loose r.records XP w s₀ mg mb s₁.heap → YP w s₁.heap → ∀ (a : Addr) (o : Obj) (pm cd doc dV kV : Value), s₁.heap.get? a = some o → o.data = .func { docDef d.name d.params d.body d.scope pm cd doc with defaults := dV, kwdefaults := kV } →
    s₁.heap.CodeRec cd d.name → Dflts mg s₁.heap d.params kwd dV kV → mg d.name = some (.ref a) → s₁.gens = #[] → ∀ (args : List WData) (vals : List Value) (as : List Addr), r.claim.pre args = true → WData.layableAll args = true → ReadsAllW r.records (classAt s₀.heap) s₁.heap vals args as →
      WellAll w.params s₁.heap vals args → (∀ a ∈ as, (a == sysModules) = false) → wpC (model r.prog w) callerA (PySem.call (.ref a) vals) (fun v s' => GoodWG r.claim (classAt s₀.heap) (ExcName.means s₀.heap) args s₁ (.ok (.ret v)) s') (fun e s' => GoodWG r.claim (classAt s₀.heap) (ExcName.means s₀.heap) args s₁ (.error e) s') s₁ ∧
        GoodWG r.claim (classAt s₀.heap) (ExcName.means s₀.heap) args s₁ (.ok (.ret (.bool true))) s₁
end L2
namespace Kc
open PySem PySem.Calls PyProof.Rows PySem.W L2

theorem PySem.W.holds_open {r : OpenRow} {q : Program} {loose : List PySem.Str} {Xt : Shared → Bool} {XP : (PySem.Str → Option Value) → Heap → Prop} {α : Type} {Yf : Shared → α} {Ya : World → α} {YP : World → Heap → Prop} {d : DefRec} {kwd : List (PySem.Str × Expr)} {N : Nat} (left : LeftO r.prog q loose Xt Yf Ya N) (hY : ∀ w s, Yf s = Ya w → YP w s.heap)
    (hYk : ∀ w h h', YP w h → (∀ b o, h.get? b = some o → h'.get? b = some o) → YP w h') (hX : ∀ s, Xt s = true → XP (s.heap.nsMap mainGlobals) s.heap) (hXk : ∀ mg h h', XP mg h → (∀ b o, h.get? b = some o → h'.get? b = some o) → XP mg h') (hdef : defOf q r.name = some (d, kwd)) (hp : r.prog.theDef r.name = some (d.params, d.body, d.scope))
    (hk : kwWritten? d.params.kwonlyargs d.params.kw_defaults = some kwd) (hRf : ∀ s, Xt s = true → RecFacts r.records s.heap) (hwr : (!r.writes || r.records.isEmpty) = true) (k1 : r.wellSaid = true) (ok : (chainsOk q && opensWell r.prog && (frees r.toRowW && r.within.isEmpty)) = true) (hb : r.prog.bare) (hw : r.toRowW.promised)
    (call : WalkC q loose XP YP r.toRowW d kwd) : r.Holds := by
  have run : r.toRowW.claim.HoldsOpenBy (fun vs => ⟨gd (callStub r.name vs).cur (PySem.ret (.bool true)), .builtin "claim.caller" {}, default, []⟩) (if r.pinned then [r.name] else []) r.keeps r.writes := by
    refine open_anyG (r := r.toRowW) (run := fun f vs => gd (PySem.call f vs) (pure (.bool true))) (tree := fun vs => gd (callStub r.name vs).cur (PySem.ret (.bool true))) left hY hYk hX hXk hRf hwr ok hb hw ?_ ?_ ?_
    · intro vs w s mg f Q E hg hf h
      have hC := wpC_gd h
      intro Γ p i
      show Sem.wp (model r.prog w) Γ (if (((Γ.code, p) :: Γ.below).map fun x => x.1).any isCl = true then (callStub r.name vs).cur else PySem.ret (.bool true)) (fun a _ z => Q a z) (fun e _ z => E e z) p s
      by_cases c : (((Γ.code, p) :: Γ.below).map fun x => x.1).any isCl = true
      · rw [if_pos c]
        have this : wpC (model r.prog w) callerA (callStub r.name vs).cur Q E s := by
          show wpC _ _ (nsGet mainNs r.name >>= _) Q E s
          refine wpC.bind (wpC.of (wpAny_nsGet hg ?_))
          rw [show mg r.name = some f from hf]
          exact wpC.bind (hC.thn fun _ _ x => wpC.of (wpAny_pure x))
        exact this Γ p i c
      · rw [if_neg c]
        exact gd_else h Γ p i c
    · intro w s hg G n hn
      have e : n = r.name := by (split at hn <;> simp_all)
      subst e
      exact (pinned_of_view hg G hdef hp hk)
    · intro w s₀ s₁ mg mb G Y args vs as hpre hlay L low
      obtain ⟨a, o, pm, cd, doc, dV, kV, h1, h2, h3, h4, h5⟩ := G.fn hdef
      obtain ⟨g1, g2⟩ := call w s₀ s₁ mg mb G Y a o pm cd doc dV kV h2 h3 h4 h5 (defOf_name hdef ▸ h1) L.gens args vs as hpre hlay L.reads L.well (L.low low)
      exact ⟨.ref a, h1, wpAny_gd g1 (wpAny_pure g2)⟩
  exact ⟨k1, hw, holdsBy_to (fun w vs s n o s' hz h => sched_gd hz h) run⟩
end Kc


namespace L2
open PySem PySem.Spec PyProof.Rows PySem.W
theorem law_callC {P : Program} {w : World} {K : PySem.W.Frag} {mg mb : Str → Option Value} {k : Nat} {fa a : Addr} {fd : FuncData} {x : Str} {sp : Sp} {s₁ : Shared} {vs : List Value} {ns : List Int}
    (KX : K.In s₁.heap) (hns : s₁.heap.Ns mainGlobals mg) (hb : s₁.heap.Ns builtinsNs mb) (hbb : ∀ x : Str, x ≠ "__name__" → mb x = bootBuiltins x) (hlim : s₁.heap.NoLimit) (hg : s₁.gens = #[])
    (ha : s₁.heap.get? a = some { cls := .type "list", data := .seq vs.toArray }) (hi : IntsAre vs ns) (hl : ns.length ≤ sizeLine) (hr : Room k callerA)
    (F : ∀ base : Heap, K.In base → base.Ns mainGlobals mg → FnOkLC P w K mg base k fa fd [x] sp) (hbind : ∀ (s : Shared) (u : Value), BindsTo s fd ⟨[u], []⟩ [(x, u)])
    (hsp : ∀ H : Hp, Only H → SqL K H a (ns.map V.int) → sp [.ref a] H (fun v _ => v = .bl true) fun _ _ _ => False) :
    codeC (model P w) callerA (.call (.ref fa) ⟨[.ref a], []⟩) (fun r s' => r = .ok (.ret (.bool true)) ∧ OldK s₁.heap s'.heap ∧ s'.os = s₁.os ∧ AllBare s'.gens) s₁ := by
  have rv := vals_ints hi
  have lenV := hi.length

  have core : ∀ H : Hp, Only H → SqL K H a (ns.map V.int) → HOk P w H s₁.heap → (∀ b, H b ≠ none → b = a) → (H a ≠ none → K.lookup a = none) →
      codeC (model P w) callerA (.call (.ref fa) ⟨[.ref a], []⟩) (fun r s' => r = .ok (.ret (.bool true)) ∧ OldK s₁.heap s'.heap ∧ s'.os = s₁.os ∧ AllBare s'.gens) s₁ := by
    intro H hO hS hok hA hK
    have base_of : ∀ {b : Addr} {o : Obj}, s₁.heap.get? b = some o → H b = none → (hidT s₁.heap H).get? b = some o := fun e n => hidT_get e n
    have noA : ∀ {b : Addr} {o : Obj} {es : Array DictEntry} {ep : Nat}, s₁.heap.get? b = some o → o.data = .dict es ep → H b = none := fun {b o es ep} e d => by
      cases q : H b with
      | none => rfl
      | some u =>
        have e' : b = a := hA b (by rw [q]; simp)
        subst e'
        rw [ha] at e; cases e
        have d' : Data.seq vs.toArray _ = Data.dict es ep := d
        cases d'
    have nsK : ∀ {b : Addr} {m : Str → Option Value}, s₁.heap.Ns b m → (hidT s₁.heap H).Ns b m := fun {b m} ⟨o, es, ep, e, d, r⟩ => ⟨o, es, ep, base_of e (noA e d), d, r⟩
    have hKb : K.In (hidT s₁.heap H) := fun b o e => base_of (KX b o e) (by
      cases q : H b with
      | none => rfl
      | some u =>
        have e' : b = a := hA b (by rw [q]; simp)
        subst e'
        rw [hK (by rw [q]; simp)] at e; cases e)
    have hM : Mod K mg (hidT s₁.heap H) := ⟨hKb, nsK hns, ⟨mb, nsK hb, hbb⟩, let ⟨mc, h1, h2⟩ := hlim; ⟨mc, nsK h1, h2⟩⟩
    have e0 : Env0 P w K mg (hidT s₁.heap H) callerA [] { s₁ with toks := s₁.toks + 1 } H := ⟨rfl, hM, fun b o e => of_hidT e, Nat.le_of_eq (hidT_size _ _), trivial, fun b hb => absurd (show b ∈ ([] : List Addr) from hb) (by simp), hok, .of_eq hg, Nat.succ_pos _⟩
    refine codeC.mono ((F _ hKb (nsK hns)).run callerA [] s₁ H ⟨[.ref a], []⟩ [.ref a] [.ref a] _ _ hr e0 (hbind s₁ (.ref a)) (.cons rfl .nil) (hsp H hO hS)) fun r s' h => ?_
    cases r with
    | error e => exact False.elim h
    | ok fl =>
      cases fl with
      | next => exact False.elim h
      | brk => exact False.elim h
      | cont => exact False.elim h
      | ret u =>
        obtain ⟨v, H', os, bare, un, hok', r', q⟩ := h
        have q' : v = .bl true := q
        subst q'
        obtain rfl : u = Value.bool true := r'
        refine ⟨rfl, OldK.of_keep fun b o e => ?_, os, bare⟩
        cases q : H b with
        | none => exact un.keep b o e q (by intro z; exact absurd (show b ∈ ([] : List Addr) from z) (by simp)) (by simp)
        | some u =>
          rcases hO b with z | ⟨ob, xs, z⟩
          · rw [q] at z; cases z
          · have z2 := un.frzs b ob _ z
            obtain ⟨e1, _⟩ := hok b _ z
            obtain ⟨e2, _⟩ := hok' b _ z2
            rw [e] at e1; cases e1
            exact e2
  cases hk : K.lookup a with
  | some o =>

    have e := KX a o hk
    rw [ha] at e
    cases e
    refine core (fun _ => none) (fun _ => .inl rfl) (.inr ⟨_, vs.toArray, _, hk, rfl, rfl, rfl, by rw [List.size_toArray, lenV]; exact hl, by simpa using rv⟩) (fun b u z => by have z' : (none : Option HO) = some u := z; cases z') (fun b z => absurd rfl z) fun z => absurd rfl z
  | none =>
    refine core (fun b => if b = a then some (.frz { cls := .type "list", data := .seq vs.toArray } (.lst (ns.map V.int))) else none) (fun b => ?_) (.inl (.inr ⟨{ cls := .type "list", data := .seq vs.toArray }, if_pos rfl⟩)) (fun b u z => ?_) (fun b z => ?_) fun _ => hk
    · by_cases hb : b = a
      · exact .inr ⟨_, _, if_pos hb⟩
      · exact .inl (if_neg hb)
    · by_cases hb : b = a
      · have z' := (if_pos hb).symm.trans z
        cases z'
        subst hb
        exact ⟨ha, by rw [List.length_map]; exact hl, vs, _, rv, ha⟩
      · have z' := (if_neg hb).symm.trans z
        cases z'
    · by_cases hb : b = a
      · exact hb
      · exact absurd (if_neg hb) z
theorem walk_ofC {l : PySem.W.OpenLaw} {n k : Nat} {q : Program} {loose : List Str} {XP : (Str → Option Value) → Heap → Prop} {YP : World → Heap → Prop} {d : DefRec} {K : Params → PySem.W.Frag} {sp : World → Sp} {x : Str}
    (hn : l.most = some n) (hn2 : n ≤ sizeLine) (hdf : d.params.defaults = []) (hr : Room k callerA) (hY : ∀ (w : World) (h : Heap), YP w h → (K w.params).In h)
    (F : ∀ (w : World) (mg : Str → Option Value) (fa : Addr) (h : Heap), (K w.params).In h → h.Ns mainGlobals mg → mg d.name = some (.ref fa) →
      ∃ fd : FuncData, (∀ (s : Shared) (u : Value), BindsTo s fd ⟨[u], []⟩ [(x, u)]) ∧ ∀ base : Heap, (K w.params).In base → base.Ns mainGlobals mg → FnOkLC l.prog w (K w.params) mg base k fa fd [x] (sp w))
    (hsp : ∀ (w : World) (H : Hp) (a : Addr) (ns : List Int), ns.length ≤ n → Only H → SqL (K w.params) H a (ns.map V.int) → sp w [.ref a] H (fun v _ => v = .bl true) fun _ _ _ => False) : WalkC q loose XP YP l.row.toRowW d [] := by
  intro w s₀ s₁ mg mb G Y fa o pm cd doc dV kV ho hd hcd hD hmg hg args vals as hpre hlay hrd hwl hlo
  obtain rfl : dV = .none := Dflts.none hD hdf
  obtain rfl : kV = .none := Dflts.noKw hD
  obtain ⟨a, vs, ns, rfl, rfl, hobj, hints, hlen⟩ := Att.script_of hn hpre hwl
  have KX := hY w _ Y
  obtain ⟨fd, hb, hF⟩ := F w mg fa _ KX G.T.g hmg
  refine ⟨wpC.call (codeC.mono (law_callC KX G.T.g G.T.b G.T.builtins G.T.nolimit hg hobj hints (Nat.le_trans hlen hn2) hr hF hb (fun H hO hS => hsp w H a ns hlen hO hS)) fun r s' hq => ?_), ?_⟩
  · obtain ⟨rfl, h2, h3, h4⟩ := hq
    exact ⟨.inl ⟨.bool true, .bool true, [], rfl, fun _ => rfl, .bool true, Att.post_true l _, fun _ => ⟨List.Pairwise.nil, fun _ hm => (nomatch hm)⟩⟩, h2, h3, h4⟩
  · exact ⟨.inl ⟨.bool true, .bool true, [], rfl, fun _ => rfl, .bool true, Att.post_true l _, fun _ => ⟨List.Pairwise.nil, fun _ hm => (nomatch hm)⟩⟩, OldK.refl _, rfl, .of_eq hg⟩
end L2


namespace L2
open PySem PySem.Spec PyProof.Rows
section
variable {X : Cx}
theorem strs_of : ∀ {ys : List Str} {its : List Value}, Vals (ys.map V.str) its → StrsAre its ys
  | [], _, .nil => .nil
  | y :: ys, _, .cons ⟨t, e⟩ r => by subst e; exact .cons y t (strs_of r)
noncomputable def XJoin (K : PySem.W.Frag) (x : V) (xs : List V) (H : Hp) (Q : VK) : Prop := ∃ (i : Str) (a : Addr) (ys : List Str), x = .str i ∧ xs = [.ref a] ∧ SqL K H a (ys.map V.str) ∧ i.length ≤ 16 ∧ (ys.map (·.length)).sum + ys.length ≤ 1048576 ∧ Q (.str (Txt.join i ys)) H
theorem mt_join : MtR X "str.join" (fun x xs H Q => XJoin X.K x xs H Q) := by
  intro pins s σ H x xs v us Q I rx r h
  obtain ⟨i, a, ys, rfl, rfl, hq, h1, h2, q⟩ := h
  obtain ⟨t, rfl⟩ := rx
  obtain ⟨u0, rfl, ru⟩ := Vals.one r
  cases ru
  obtain ⟨its, rv, pl, hz⟩ := I.list hq
  exact wpT I.tk (join_listW pl.isList (strs_of rv) h1 h2 fun t' k ht => ⟨.str _, H, I.tok _ ht, ⟨_, rfl⟩, q⟩)
end
end L2
namespace Zf
open PySem L2 PySem.NumText
noncomputable def spAsked (K : PySem.W.Frag) : Sp := fun vs H Q _ => ∃ (a : Addr) (ns : List Int), vs = [.ref a] ∧ SqL K H a (ns.map V.int) ∧ ns.length ≤ 63 ∧ ∀ (x : Str) (H' : Hp), Same H H' → Asc 540 x → Q (.str x) H'
theorem Asc.mono {m n : Nat} {x : Str} (h : Asc m x) (hm : m ≤ n) : Asc n x := ⟨Nat.le_trans h.1 hm, h.2⟩
theorem Asc.append {m n : Nat} {x y : Str} (h : Asc m x) (k : Asc n y) : Asc (m + n) (x ++ y) := by
  refine ⟨?_, fun c hc => ?_⟩
  · rw [Str.length_append]; have := h.1; have := k.1; omega
  · have e : (x ++ y).cps.toList = x.cps.toList ++ y.cps.toList := by
      show (x.cps ++ y.cps).toList = _
      exact Array.toList_append
    rw [e] at hc
    rcases List.mem_append.mp hc with z | z
    · exact h.2 c z
    · exact k.2 c z
theorem join_asc {e : Str} (he : Asc 0 e) : ∀ ys : List Str, (∀ y ∈ ys, Asc 3 y) → Asc (3 * ys.length) (Txt.join e ys) := by
  have key : ∀ ys : List Str, (∀ y ∈ ys, Asc 3 y) → Asc (3 * ys.length) (Str.join e ys) := by
    intro ys
    induction ys with
    | nil => intro _; exact ⟨Nat.le_refl _, fun c hc => absurd hc (by simp [Str.join, Str.empty])⟩
    | cons y ys ih =>
      intro h
      cases ys with
      | nil => exact h y List.mem_cons_self
      | cons z zs =>
        have h1 := h y List.mem_cons_self
        have h2 := ih fun u hu => h u (List.mem_cons_of_mem _ hu)
        exact ((h1.append he).append h2).mono (by simp only [List.length_cons]; omega)
  intro ys h
  have := key ys h
  rw [← StrLaws.glued_eq_join] at this
  exact this
theorem txt_fromN (T : List Nat) (n : Nat) : Txt.slice (ofL T) (some (n : Int)) none = ofL (T.drop n) := by
  by_cases h : n ≤ T.length
  · exact txt_from h
  · have e : Builtin.Str.strSliceIndices (some (n : Int)) none 1 (ofL T).length = Builtin.Str.strSliceIndices (some (T.length : Int)) none 1 (ofL T).length := by
      rw [ofL_length]
      have h1 : ¬ ((n : Int) < 0) := by omega
      have h2 : ¬ ((T.length : Int) < 0) := by omega
      have h3 : max 0 (min (n : Int) (T.length : Int)) = (T.length : Int) := by omega
      have h4 : max 0 (min (T.length : Int) (T.length : Int)) = (T.length : Int) := by omega
      simp [Builtin.Str.strSliceIndices, h1, h2, h3, h4]
    have e2 : Txt.slice (ofL T) (some (n : Int)) none = Txt.slice (ofL T) (some (T.length : Int)) none := by
      show StrLaws.sliceText _ _ _ = StrLaws.sliceText _ _ _
      unfold StrLaws.sliceText
      rw [e]
    rw [e2, txt_from (Nat.le_refl _), List.drop_eq_nil_of_le (Nat.le_refl _), List.drop_eq_nil_of_le (by omega)]
theorem full_sign {c : List Int} : ∀ m, ∀ x ∈ fullUp c m, x ≠ 0 ∧ x < 128
  | 0, x, h => nomatch h
  | m + 1, x, h => by
    rcases List.mem_append.mp h with h | h
    · unfold tmL at h
      split at h
      · cases h
      · rcases List.mem_cons.mp h with e | e
        · subst e
          rcases sgL_sign (c.getD m 0) with z | z <;> rw [z] <;> decide
        · have := body_sign e; omega
    · exact full_sign m x h
theorem line_asc {c : List Int} (hb : ∀ x ∈ c, Bd 200 x) (hl : c.length ≤ 8) : AscL 536 (lineL c) := by
  have l1 := full_len hb c.length (by omega)
  unfold lineL
  split
  · exact ⟨by simp, fun c hc => by rw [List.mem_singleton.mp hc]; decide⟩
  · have key : ∀ l : List Nat, (stripP l).length ≤ l.length ∧ ∀ x ∈ stripP l, x ∈ l := fun l => by
      cases l with
      | nil => exact ⟨Nat.le_refl _, fun x h => h⟩
      | cons y r =>
        by_cases h43 : y = 43
        · rw [show stripP (y :: r) = r from if_pos h43]
          exact ⟨by rw [List.length_cons]; omega, fun x h => List.mem_cons_of_mem _ h⟩
        · rw [show stripP (y :: r) = y :: r from if_neg h43]
          exact ⟨Nat.le_refl _, fun x h => h⟩
    exact ⟨by have := (key (fullUp c c.length)).1; omega, fun x h => full_sign _ x ((key _).2 x h)⟩
theorem Asc.one {x : Str} {n c : Nat} {k : Int} (h : Asc n x) (e : atI x.cps.toList k = some c) : Asc 1 ⟨#[c]⟩ := by
  refine ⟨Nat.le_refl _, fun d hd => ?_⟩
  have : d = c := by simpa using hd
  subst this
  obtain ⟨j, h1, h2, _⟩ := atI_get e
  exact h.2 d (List.mem_of_getElem? (by first | exact h2 | exact h1))

noncomputable def litOk (n : Nat) (x : Str) : Bool := decide (x.length ≤ n) && x.cps.toList.all fun c => decide (c ≠ 0) && decide (c < 128)
theorem Asc.lit {n : Nat} {x : Str} (h : litOk n x = true) : Asc n x := by
  unfold litOk at h
  rw [Bool.and_eq_true] at h
  refine ⟨of_decide_eq_true h.1, fun c hc => ?_⟩
  have := List.all_eq_true.mp h.2 c hc
  rw [Bool.and_eq_true] at this
  exact ⟨of_decide_eq_true this.1, of_decide_eq_true this.2⟩
theorem Asc.ofL {n : Nat} {x : Str} (h : Asc n x) : AscL n x.cps.toList ∧ x = Zf.ofL x.cps.toList := ⟨⟨by have := h.1; simpa [Str.length] using this, h.2⟩, rfl⟩
end Zf
namespace Zf
open PySem L2 PySem.NumText
noncomputable def pcs12 : List Str := ["x", "x2", "x10", "3", "1", "0", "01", "+", "-", "4x", "7x3", "1x"]
noncomputable def menA : List Str := ["0", "-0", "+x", "x0", "x1", "1x", "0x", "x01", "xx", "2x2+0", "x-x", "-x2"]
noncomputable def menB : List Str := ["5", "-12x+1", "", "x1000", "x1001", "x+", "--x", "x02"]
theorem at_strs {n : Nat} (ys : List Str) {k : Int} (h0 : 0 ≤ k) (h : k < (ys.length : Int)) (hall : ys.all (litOk n) = true) : ∃ y : Str, atI (ys.map V.str) k = some (.str y) ∧ Asc n y := by
  have hk : k.toNat < ys.length := by omega
  obtain ⟨m, rfl⟩ : ∃ m : Nat, k = (m : Int) := ⟨k.toNat, by omega⟩
  have hm : m < ys.length := by omega
  refine ⟨ys[m], atI_nat ?_, Asc.lit (List.all_eq_true.mp hall _ (List.getElem_mem hm))⟩
  rw [List.getElem?_map, List.getElem?_eq_getElem hm]
  rfl
theorem at_some {α : Type} (xs : List α) {k : Int} (h0 : 0 ≤ k) (h : k < (xs.length : Int)) : ∃ c, atI xs k = some c := by
  obtain ⟨m, rfl⟩ : ∃ m : Nat, k = (m : Int) := ⟨k.toNat, by omega⟩
  have hm : m < xs.length := by omega
  exact ⟨xs[m], atI_nat (List.getElem?_eq_getElem hm)⟩
theorem strs_ex {n : Nat} : ∀ vs : List V, (∀ v ∈ vs, ∃ y : Str, v = .str y ∧ Asc n y) → ∃ ys : List Str, vs = ys.map V.str ∧ ys.length = vs.length ∧ ∀ y ∈ ys, Asc n y
  | [], _ => ⟨[], rfl, rfl, fun _ h => nomatch h⟩
  | v :: vs, h => by
    obtain ⟨y, rfl, hy⟩ := h v List.mem_cons_self
    obtain ⟨ys, e, l, a⟩ := strs_ex vs fun u hu => h u (List.mem_cons_of_mem _ hu)
    refine ⟨y :: ys, by rw [e]; rfl, by simp [l], fun z hz => ?_⟩
    rcases List.mem_cons.mp hz with q | q
    · rw [q]; exact hy
    · exact a z q
theorem sum_asc {n : Nat} : ∀ ys : List Str, (∀ y ∈ ys, Asc n y) → (ys.map (·.length)).sum ≤ n * ys.length
  | [], _ => Nat.le_refl _
  | y :: ys, h => by
    have h1 := (h y List.mem_cons_self).1
    have h2 := sum_asc ys fun z hz => h z (List.mem_cons_of_mem _ hz)
    rw [List.map_cons, List.sum_cons, List.length_cons, Nat.mul_succ]
    omega
inductive SpAre12 (K : PySem.W.Frag) (vs : List V) (H : Hp) (Q : VK) : Prop
  | mk (a d : Addr) (xs : List Int) (h0 : vs = [.ref a, .ref d]) (h1 : SqL K H a (xs.map V.int)) (h2 : SqL K H d (xs.map V.int)) (h3 : xs.length ≤ 1001) (h4 : Q (.bl true) H) : SpAre12 K vs H Q
noncomputable def spAre12 (K : PySem.W.Frag) : Sp := fun vs H Q _ => SpAre12 K vs H Q
end Zf
namespace Zf
open PySem L2 PySem.NumText
theorem line_pcs {c : List Int} (hg : GoodL c) (h : c.length ≤ 1001) (ha : AscL 540 (lineL c)) : (fpL (repL (lineL c))).map (fun T => (((powX T).getD 0).toNat, (numX T).getD 0)) = pcsL c := by
  have hm : ∀ p ∈ pcsL c, pcL p ∈ fpL (repL (lineL c)) := fun p hp => by rw [pieces hg]; exact List.mem_map_of_mem hp
  rw [pieces hg, List.map_map]
  refine Eq.trans (List.map_congr_left fun p hp => ?_) (List.map_id _)
  have hk : p.1 ≤ 1000 := by
    unfold pcsL at hp
    split at hp
    · have : p = (0, 0) := by simpa using hp
      subst this
      decide
    · have := ts_mem hp
      omega
  have hlen := (fp_asc ha (pcL p) (hm p hp)).1
  have := pc_digs (k := p.1) (n := p.2) hlen
  show (((powX (pcL p)).getD 0).toNat, (numX (pcL p)).getD 0) = p
  rw [pow_pc (k := p.1) (n := p.2) hk, num_pc (k := p.1) (n := p.2) (by omega)]
  rfl
theorem line_inj {c c' : List Int} (hg : GoodL c) (hg' : GoodL c') (h : c.length ≤ 1001) (h' : c'.length ≤ 1001) (ha : AscL 540 (lineL c)) (e : lineL c = lineL c') : c = c' := by
  have e1 : pcsL c = pcsL c' := by rw [← line_pcs hg h ha, ← line_pcs hg' h' (by rw [← e]; exact ha), e]
  refine co_inj hg hg' ?_
  rw [← filled (N := 1001) h (by decide), ← filled (N := 1001) h' (by decide), e1]
end Zf
namespace Zf
open PySem L2
theorem bt_VE : bootBuiltins "ValueError" = some (.type "ValueError") := by decide +kernel
end Zf
namespace Zf
open PySem L2
theorem exm_of {K : PySem.W.Frag} {D c0 : Addr} {cd : ClassData} (h1 : PySem.W.subIn K (.ref c0) (.type "BaseException") = some true) (h2 : PySem.W.clsIn K c0 = some cd) (h3 : PySem.W.typeIn K (.ref c0) = some (.type "type")) (h4 : PySem.W.subIn K (.ref D) (.ref c0) = some true) : PySem.W.exmOne K (.ref D) (.ref c0) = some true := by
  unfold PySem.W.exmOne PySem.W.kitCls
  rw [h1, if_pos (by decide)]
  show (if ((PySem.W.clsIn K c0).isSome && PySem.W.typeIn K (.ref c0) == some (.type "type")) = true then PySem.W.subIn K (.ref D) (.ref c0) else none) = some true
  rw [h2, h3, h4]
  rfl
end Zf
namespace L2
open PySem PySem.Spec PyProof.Rows
theorem pa_str {X : Cx} {x : Str} {j : Nat} {pos : Pos} {es : List Expr} {t : TA} (h : PA X es t) : PA X (.Constant (.str x) j pos :: es) (tCons (tC (.str x)) t) := pa_cons pe_str h rfl
theorem ps_lst {X : Cx} {i : Nat} {x : Str} {pos' pos p2 : Pos} {es : List Expr} {t : TA} (hN : X.N.Nodup) (hi : X.N[i]? = some x) (hx : Loc X.env.scope x) (ha : PA X es t) (hf : X.fn x = true ∨ X.env.scope.names.lookup x = some .local) : PS X (.Assign [.Name x pos'] (.List es p2) pos) (tAsg (tLst t) (gName i)) :=
  ps_set hN hi hx (pe_lst ha) rfl hf
theorem ps_catl {X : Cx} {i : Nat} {x : Str} {pos' pos p1 p2 p3 : Pos} {es : List Expr} {t : TA} (hN : X.N.Nodup) (hi : X.N[i]? = some x) (hx : Loc X.env.scope x) (hv : PE X (.Name x p1) (tVar i)) (ha : PA X es t) (hf : X.fn x = true ∨ X.env.scope.names.lookup x = some .local) : PS X (.Assign [.Name x pos'] (.BinOp (.Name x p1) .Add (.List es p2) p3) pos) (tAsg (tOp rCat (tVar i) (tLst t)) (gName i)) :=
  ps_set hN hi hx (pe_op op_cat hv (pe_lst ha)) rfl hf
end L2

namespace K12
open PySem L2 Zf
noncomputable def top (i : Nat) : Stmt := PySem.Challenge.pw_zerofence_k12_lines_read_or_refused.main.body.getD i (.Pass ⟨0, 0, 0, 0⟩)
noncomputable abbrev sCheckCurve : Stmt := top 9
noncomputable abbrev sTrimmed : Stmt := top 11
noncomputable abbrev sShown : Stmt := top 14
noncomputable abbrev sShSign : Stmt := top 15
noncomputable abbrev sShFig : Stmt := top 16
noncomputable abbrev sShPow : Stmt := top 17
noncomputable abbrev sRead : Stmt := top 18
noncomputable abbrev sTerms : Stmt := top 19
noncomputable abbrev sRNum : Stmt := top 20
noncomputable abbrev sRPow : Stmt := top 21
noncomputable abbrev sWholeP : Stmt := top 22
noncomputable abbrev sWhole : Stmt := top 24
noncomputable abbrev sAt : Stmt := top 25
noncomputable abbrev sAre : Stmt := top 26
noncomputable abbrev sDrawn : Stmt := top 27
noncomputable abbrev sLineOf : Stmt := top 28
noncomputable abbrev s_law_are_figures : Stmt := top 29
noncomputable abbrev s_law_one_term : Stmt := top 30
noncomputable abbrev s_law_read_beside : Stmt := top 31
noncomputable abbrev s_law_asked : Stmt := top 32
noncomputable abbrev sAny : Stmt := top 33
noncomputable abbrev sLaw : Stmt := top 34
end K12
namespace K12
open PySem L2 Zf
section
variable {P : Program} {w : World} {K : PySem.W.Frag} {mg : Str → Option Value} {base : Heap} {f : Addr} {fd : FuncData}
theorem scAny : FnScope ["_law_cell", "_law_size"] ["_law_cell"] (defScope sAny) := ⟨rfl, rfl, rfl, by decide +kernel, rfl, by decide +kernel, by decide +kernel⟩
theorem ok_any (F : Fun K "_law_any" "_law_any" sAny f fd) : FnOk P w K mg base CX0 1 f fd ["_law_cell"] spAny := by
  refine F.ok scAny (fun vs H Q E h => ?_) (fun cdv A outer s H vs Q E hr h => ?_)
  · obtain ⟨c, rfl, _⟩ := h
    rfl
  obtain ⟨c, rfl, q⟩ := h
  refine ⟨_, (pss_cons (ps_set (i := 1) scAny.nd rfl (Or.inl rfl) (pe_op op_mod (pe_op op_fdivK (pv 0) pe_int) (pe_op op_pow pe_int pe_int)))
  (pss_one (ps_ret (pe_op op_mulK (pv 1) (pe_ix ix_list (pe_lst (pa_cons pe_int (pa_cons (pe_un un_neg pe_int) pa_nil))) (pe_op op_mod (pv 0) pe_int) (fun _ _ => rfl)))))), ?_⟩
  have h10 : (0 : Int) < 10 ^ (59 : Int).toNat := by decide
  refine ⟨_, rfl, _, _, rfl, rfl, divLit (by decide) (by decide), _, _, rfl, rfl, ⟨by decide, by decide, by decide⟩, _, _, rfl, rfl, h10, ?_⟩
  refine ⟨_, rfl, _, rfl, (by show 2 ≤ sizeLine; decide), fun p hp => ?_⟩
  obtain ⟨e, he, hb⟩ : ∃ e : Int, atI ([.int 1, .int (-1)] : List V) (c % 2) = some (.int e) ∧ Bd 1 e := by
    rcases (by omega : c % 2 = 0 ∨ c % 2 = 1) with h | h
    · rw [h]; exact ⟨1, rfl, by unfold Bd; decide⟩
    · rw [h]; exact ⟨-1, rfl, by unfold Bd; decide⟩
  have b1 : Bd 197 (c / 2 % 10 ^ (59 : Int).toNat) := by
    have h1 := Int.emod_nonneg (c / 2) (Int.ne_of_gt h10)
    have h2 := Int.emod_lt_of_pos (c / 2) h10
    have h3 : (10 : Int) ^ (59 : Int).toNat = 100000000000000000000000000000000000000000000000000000000000 := by decide
    rw [h3] at h1 h2 ⊢
    unfold Bd
    omega
  refine ⟨_, rfl, _, _, rfl, rfl, (by show (0 : Int) < 2; decide), p, _, _, _, rfl, rfl, SqL.of upd_same, he, _, _, rfl, rfl, b1.mulOk hb, ?_⟩
  exact q _ _ (same_new hp _) ((b1.mul hb).mono (by decide))

theorem scWhole : FnScope ["_law_found"] ["_law_found"] (defScope sWhole) := ⟨rfl, rfl, rfl, by decide +kernel, rfl, by decide +kernel, by decide +kernel⟩
theorem ok_whole (B : Bl mg) (F : Fun K "_law_whole" "_law_whole" sWhole f fd) : FnOk P w K mg base CX0 1 f fd ["_law_found"] spWhole := by
  refine F.ok scWhole (fun vs H Q E h => ?_) (fun cdv A outer s H vs Q E hr h => ?_)
  · obtain ⟨n, rfl, _⟩ := h
    rfl
  obtain ⟨n, rfl, q⟩ := h
  refine ⟨_, pss_one (ps_ret (pe_and (pe_callB call_isi rfl B.isinstance_ bt_isinstance (pa_cons (pv 0) (pa_cons (pe_bltn (v := .ty "int") rfl B.int_ bt_int rfl) pa_nil)))
    (pe_one (pe_not (pe_callB call_isi rfl B.isinstance_ bt_isinstance (pa_cons (pv 0) (pa_cons (pe_bltn (v := .ty "bool") rfl B.bool_ bt_bool rfl) pa_nil))))))), ?_⟩
  exact ⟨_, rfl, .inl ⟨n, rfl, true, rfl, iteT ⟨_, rfl, .inr (.inl ⟨n, rfl, false, rfl, q⟩)⟩⟩⟩

theorem scAt : FnScope ["_law_script", "_law_k"] ["_law_script", "_law_k"] (defScope sAt) := ⟨rfl, rfl, rfl, by decide +kernel, rfl, by decide +kernel, by decide +kernel⟩
theorem ok_at (B : Bl mg) (F : Fun K "_law_at" "_law_at" sAt f fd) : FnOk P w K mg base CX0 1 f fd ["_law_script", "_law_k"] (spAt K) := by
  refine F.ok scAt (fun vs H Q E h => ?_) (fun cdv A outer s H vs Q E hr h => ?_)
  · obtain ⟨a, ns, k, rfl, _⟩ := h
    rfl
  obtain ⟨a, ns, k, rfl, hS, h0, q⟩ := h
  refine ⟨_, (pss_cons (ps_if (pt_cmpR op_lt (pv 1) (pe_callB call_len_seq rfl B.len_ bt_len (pa_cons (pv 0) pa_nil)) (nomark _))
    (pss_one (ps_ret (pe_ix ix_list (pv 0) (pv 1) (fun _ _ => rfl))))
    pss_nil)
  (pss_one (ps_ret pe_int))), ?_⟩
  have hl : (ns.map V.int).length = ns.length := List.length_map _
  refine ⟨_, rfl, _, rfl, a, _, rfl, .inl hS, _, _, rfl, rfl, _, rfl, ?_⟩
  refine ite2 (fun c => ?_) (fun c => ?_)
  · have c' : k < (((ns.map V.int).length : Nat) : Int) := of_decide_eq_true c
    rw [hl] at c'
    exact ⟨_, rfl, _, rfl, a, _, _, _, rfl, rfl, hS, atI_ints h0 c', q⟩
  · have c' : ¬ k < (((ns.map V.int).length : Nat) : Int) := of_decide_eq_false (Bool.eq_false_iff.mpr c)
    rw [hl] at c'
    rw [getD_out (by omega)] at q
    exact q

theorem scDrawn : FnScope ["_law_cells", "_law_made", "_law_k", "_law_number"] ["_law_cells"] (defScope sDrawn) := ⟨rfl, rfl, rfl, by decide +kernel, rfl, by decide +kernel, by decide +kernel⟩
theorem ok_drawn (B : Bl mg) (F_law_any : FnAt P w K mg base 1 "_law_any" ["_law_cell"] spAny) (F : Fun K "_law_drawn_curve" "_law_drawn_curve" sDrawn f fd) : FnOk P w K mg base CX0 2 f fd ["_law_cells"] (spDrawn K) := by
  refine F.ok scDrawn (fun vs H Q E h => ?_) (fun cdv A outer s H vs Q E hr h => ?_)
  · obtain ⟨a, ns, rfl, _⟩ := h
    rfl
  obtain ⟨a, ns, rfl, hS, h63, q⟩ := h
  have hu := hr.units0
  refine ⟨_, (pss_cons (ps_set (i := 1) scDrawn.nd rfl (Or.inl rfl) (pe_lst pa_nil))
  (pss_cons (ps_for PassesOwn.never rfl (pi_range1 rfl B.range_ (pa_cons (pe_callB call_len_seq rfl B.len_ bt_len (pa_cons (pv 0) pa_nil)) pa_nil)) (pg_name (i := 2) scDrawn.nd rfl (Or.inl rfl))
    (pss_cons (ps_set (i := 3) scDrawn.nd rfl (Or.inl rfl) (pe_op op_sub (pe_op op_mod (pe_op op_add (pe_ix ix_list (pv 0) (pv 2) (fun _ _ => rfl)) (pv 2)) pe_int) pe_int))
    (pss_cons (ps_if (pt_cmpR op_eq (pe_op op_mod (pe_ix ix_list (pv 0) (pv 2) (fun _ _ => rfl)) pe_int) pe_int (nomark _))
      (pss_one (ps_set (i := 3) scDrawn.nd rfl (Or.inl rfl) (pe_callF F_law_any hr rfl (pa_cons (pe_op op_fdivK (pe_ix ix_list (pv 0) (pv 2) (fun _ _ => rfl)) pe_int) pa_nil))))
      pss_nil)
    (pss_one (ps_expr (pe_bm PySem.F.plainAttrs_list PySem.F.slot_list_append PySem.F.type_list_append mt_append (pv 1) (pa_cons (pv 3) pa_nil)))))))
  (pss_cons (ps_if (PW.pt (pw_and (pt_cmpR (op_neL hu) (pv 1) (pe_lst pa_nil) (nomark _)) (pw_and1 (pt_cmpR op_eq (pe_ix ix_list (pv 1) (pe_un un_neg pe_int) (fun _ _ => rfl)) pe_int (nomark _)))))
    (pss_one (ps_asg pe_int (pg_sub (pv 1) (pe_un un_neg pe_int) set_list)))
    pss_nil)
  (pss_one (ps_ret (pv 1)))))), ?_⟩
  have hl : (ns.map V.int).length = ns.length := List.length_map _
  refine ⟨(by show 0 ≤ sizeLine; decide), fun r hr0 => ?_⟩
  have g0 : Same H (upd H r (.lst [])) := same_new hr0 _
  refine ⟨_, rfl, a, _, rfl, .inl (g0.seq hS), _, rfl, by omega, by omega, for_range (lo := 0) (n := (((ns.map V.int).length : Nat) : Int).toNat)
    (fun i σ H2 => ∃ (out : List Int) (v2 v3 : Option V), σ = [some (.ref a), some (.ref r), v2, v3] ∧ Same H H2 ∧ H2 r = some (IL out) ∧ out.length = i ∧ ∀ x ∈ out, Bd 200 x)
    ⟨[], none, none, rfl, g0, upd_same, rfl, by simp⟩ ?_ ?_⟩
  · rintro i σ H2 hi ⟨out, v2, v3, rfl, s2, hr2, ho, hb⟩
    rw [hl] at hi
    have hi' : i < ns.length := by omega
    have hix : atI (ns.map V.int) (0 + (i : Int)) = some (.int (ns.getD (0 + (i : Int)).toNat 0)) := atI_ints (by omega) (by omega)
    refine ⟨_, rfl, _, rfl, a, _, _, _, rfl, rfl, s2.seq hS, hix, _, rfl, _, _, rfl, rfl, _, _, rfl, rfl, (by show (0 : Int) < 11; decide), _, _, rfl, rfl, ?_⟩
    refine ⟨_, rfl, _, rfl, a, _, _, _, rfl, rfl, s2.seq hS, hix, _, _, rfl, rfl, (by show (0 : Int) < 31; decide), rfl, _, rfl, ?_⟩
    have step : ∀ (H3 : Hp) (v : Int), Same H2 H3 → Bd 200 v → Same H (upd H3 r (.lst (out.map V.int ++ [V.int v]))) ∧ upd H3 r (.lst (out.map V.int ++ [V.int v])) r = some (IL (out ++ [v])) ∧ (out ++ [v]).length = i + 1 ∧ ∀ x ∈ out ++ [v], Bd 200 x := by
      intro H3 v s3 hv
      refine ⟨fun b o e => ?_, by rw [upd_same, map_snoc], by rw [List.length_append, ho]; rfl, fun x hx => ?_⟩
      · rw [upd_ne (ne_of_none e hr0)]
        exact s3 _ _ (s2 _ _ e)
      · rcases List.mem_append.mp hx with hx | hx
        · exact hb x hx
        · rw [List.mem_singleton.mp hx]; exact hv
    have hz : (out.map V.int).length < sizeLine := by rw [List.length_map, ho]; exact small1000 (by omega)
    refine ite2 (fun _ => ?_) (fun _ => ?_)
    · refine ⟨_, rfl, _, rfl, a, _, _, _, rfl, rfl, s2.seq hS, hix, _, _, rfl, rfl, divLit (by decide) (by decide), _, rfl, fun H3 v s3 hv => ?_⟩
      obtain ⟨t1, t2, t3, t4⟩ := step H3 v s3 (hv.mono (by decide))
      exact ⟨_, rfl, .inl ⟨rfl, _, SqL.of (s3 _ _ hr2)⟩, _, rfl, r, _, _, rfl, rfl, s3 _ _ hr2, hz, out ++ [v], _, _, rfl, t1, t2, t3, t4⟩
    · have hv : Bd 200 ((ns.getD (0 + (i : Int)).toNat 0 + (0 + (i : Int))) % 11 - 5) := by
        refine Bd.of_le 11 (by omega) (by decide)
      obtain ⟨t1, t2, t3, t4⟩ := step H2 _ (Same.refl _) hv
      exact ⟨_, rfl, .inl ⟨rfl, _, SqL.of hr2⟩, _, rfl, r, _, _, rfl, rfl, hr2, hz, out ++ [_], _, _, rfl, t1, t2, t3, t4⟩
  · rintro σ H2 ⟨out, v2, v3, rfl, s2, hr2, ho, hb⟩
    rw [hl] at ho
    have ho' : out.length = ns.length := by omega
    refine ⟨_, rfl, (by show 0 ≤ sizeLine; decide), fun p hp => ?_⟩
    have s3 : Same H2 (upd H2 p (.lst [])) := same_new hp _
    have hr3 := s3 _ _ hr2
    refine ⟨r, p, out, [], rfl, rfl, SqL.of hr3, SqL.of upd_same, _, rfl, ?_⟩
    by_cases he : out = []
    · rw [decide_eq_true he]
      refine iteF (iteF ⟨_, rfl, ?_⟩)
      exact q r _ out (s2.trans s3) hr0 hr3 ho' hb (fun h => absurd he h)
    · rw [decide_eq_false he]
      refine iteT ⟨_, rfl, _, rfl, r, _, _, _, rfl, rfl, SqL.of hr3, atI_last_ints he, rfl, _, rfl, ?_⟩
      have hn : out.length ≠ 0 := fun h => he (List.eq_nil_of_length_eq_zero h)
      refine ite2 (fun c => ?_) (fun c => ?_)
      · refine ⟨_, rfl, _, rfl, r, _, _, _, rfl, rfl, hr3, ixN_last (by rw [List.length_map]; exact hn), ?_⟩
        refine ⟨_, rfl, q r _ (out.set (out.length - 1) 7) (fun b o e => ?_) hr0 ?_ (by rw [List.length_set]; exact ho') (fun x hx => ?_) (fun _ => ?_)⟩
        · rw [upd_ne (ne_of_none e hr0)]
          exact s3 _ _ (s2 _ _ e)
        · rw [upd_same, map_set, List.length_map]
        · rcases List.mem_or_eq_of_mem_set hx with hx | hx
          · exact hb x hx
          · rw [hx]; exact Bd.of_le 7 (by decide) (by decide)
        · rw [List.length_set, List.getD_eq_getElem?_getD, List.getElem?_set_self (by omega)]
          decide
      · refine ⟨_, rfl, q r _ out (s2.trans s3) hr0 hr3 ho' hb (fun _ z => ?_)⟩
        exact c (decide_eq_true (by rw [z]))

theorem scAre : FnScope ["_law_found", "_law_due", "_law_k"] ["_law_found", "_law_due"] (defScope sAre) := ⟨rfl, rfl, rfl, by decide +kernel, rfl, by decide +kernel, by decide +kernel⟩
theorem ok_are12 (B : Bl mg) (F_law_whole : FnAt P w K mg base 1 "_law_whole" ["_law_found"] spWhole) (F : Fun K "_law_numbers_are" "_law_numbers_are" sAre f fd) : FnOk P w K mg base CX0 2 f fd ["_law_found", "_law_due"] (spAre12 K) := by
  refine F.ok scAre (fun vs H Q E h => ?_) (fun cdv A outer s H vs Q E hr h => ?_)
  · obtain ⟨a, d, xs, rfl, _⟩ := h
    rfl
  obtain ⟨a, d, xs, rfl, hA, hD, hz, q⟩ := h
  refine ⟨_, (pss_cons (ps_if (PW.pt (pw_or (pt_not (pt_val (pe_callB call_isi rfl B.isinstance_ bt_isinstance (pa_cons (pv 0) (pa_cons (pe_bltn (v := .ty "list") rfl B.list_ bt_list rfl) pa_nil))))) (pw_or1 (pt_cmpR op_ne (pe_callB call_len_seq rfl B.len_ bt_len (pa_cons (pv 0) pa_nil)) (pe_callB call_len_seq rfl B.len_ bt_len (pa_cons (pv 1) pa_nil)) (nomark _)))))
    (pss_one (ps_ret pe_bl))
    pss_nil)
  (pss_cons (ps_for PassesOwn.never rfl (pi_range1 rfl B.range_ (pa_cons (pe_callB call_len_seq rfl B.len_ bt_len (pa_cons (pv 1) pa_nil)) pa_nil)) (pg_name (i := 2) scAre.nd rfl (Or.inl rfl))
    (pss_one (ps_if (PW.pt (pw_or (pt_not (pt_val (pe_callF F_law_whole hr rfl (pa_cons (pe_ix ix_list (pv 0) (pv 2) (fun _ _ => rfl)) pa_nil)))) (pw_or1 (pt_cmpR op_ne (pe_ix ix_list (pv 0) (pv 2) (fun _ _ => rfl)) (pe_ix ix_list (pv 1) (pv 2) (fun _ _ => rfl)) (nomark _)))))
      (pss_one (ps_ret pe_bl))
      pss_nil)))
  (pss_one (ps_ret pe_bl)))), ?_⟩
  have hl : (xs.map V.int).length = xs.length := List.length_map _
  refine ⟨_, rfl, .inr (.inr (.inl ⟨a, _, rfl, hA, true, rfl, iteF ?_⟩))⟩
  refine ⟨_, rfl, a, _, rfl, .inl hA, _, rfl, d, _, rfl, .inl hD, rfl, _, rfl, iteNS rfl ?_⟩
  refine ⟨_, rfl, d, _, rfl, .inl hD, _, rfl, by omega, by omega, for_range (lo := 0) (n := (((xs.map V.int).length : Nat) : Int).toNat)
    (fun i σ H2 => ∃ (v2 : Option V), σ = [some (.ref a), some (.ref d), v2] ∧ H2 = H) ⟨none, rfl, rfl⟩ ?_ ?_⟩
  · rintro i σ H2 hi ⟨v2, rfl, rfl⟩
    rw [hl] at hi
    have hix : atI (xs.map V.int) (0 + (i : Int)) = some (.int (xs.getD (0 + (i : Int)).toNat 0)) := atI_ints (by omega) (by omega)
    refine ⟨_, rfl, _, rfl, a, _, _, _, rfl, rfl, hA, hix, _, rfl, true, rfl, iteF ?_⟩
    refine ⟨_, rfl, _, rfl, a, _, _, _, rfl, rfl, hA, hix, _, rfl, _, rfl, d, _, _, _, rfl, rfl, hD, hix, rfl, _, rfl, iteNS rfl ?_⟩
    exact ⟨_, rfl, rfl⟩
  · rintro σ H2 ⟨v2, rfl, rfl⟩
    exact q

theorem scCC : FnScope ["curve"] ["curve"] (defScope sCheckCurve) := ⟨rfl, rfl, rfl, by decide +kernel, rfl, by decide +kernel, by decide +kernel⟩
theorem ok_cc (B : Bl mg) (F : Fun K "check_curve" "check_curve" sCheckCurve f fd) : FnOk P w K mg base CX0 1 f fd ["curve"] (spCheckCurve K) := by
  refine F.ok scCC (fun vs H Q E h => ?_) (fun cdv A outer s H vs Q E hr h => ?_)
  · obtain ⟨a, c, rfl, _⟩ := h
    rfl
  obtain ⟨a, c, rfl, hA, hg, q⟩ := h
  refine ⟨_, (pss_one (ps_if (PW.pt (pw_and (pt_cmpR op_gt (pe_callB call_len_seq rfl B.len_ bt_len (pa_cons (pv 0) pa_nil)) pe_int (nomark _)) (pw_and1 (pt_cmpR op_eq (pe_ix ix_list (pv 0) (pe_un un_neg pe_int) (fun _ _ => rfl)) pe_int (nomark _)))))
    (pss_one (ps_never))
    pss_nil)), ?_⟩
  have hl : (c.map V.int).length = c.length := List.length_map _
  refine ⟨_, rfl, a, _, rfl, .inl hA, _, _, rfl, rfl, _, rfl, ?_⟩
  refine ite2 (fun e => ?_) (fun e => ?_)
  · have e' : (0 : Int) < (((c.map V.int).length : Nat) : Int) := of_decide_eq_true e
    rw [hl] at e'
    have hne : c ≠ [] := fun z => by rw [z] at e'; exact absurd e' (by decide)
    refine ⟨_, rfl, _, rfl, a, _, _, _, rfl, rfl, hA, atI_last_ints hne, rfl, _, rfl, ?_⟩
    refine ite2 (fun z => ?_) (fun z => q)
    have z' := of_decide_eq_true z
    injection z' with z'
    exact absurd z' (hg hne)
  · exact iteF q

theorem scTrim : FnScope ["numbers", "end"] ["numbers"] (defScope sTrimmed) := ⟨rfl, rfl, rfl, by decide +kernel, rfl, by decide +kernel, by decide +kernel⟩
theorem ok_trimL (B : Bl mg) (F : Fun K "trimmed" "trimmed" sTrimmed f fd) : FnOk P w K mg base CX0 1 f fd ["numbers"] (spTrimL K) := by
  refine F.ok scTrim (fun vs H Q E h => ?_) (fun cdv A outer s H vs Q E hr h => ?_)
  · obtain ⟨a, xs, rfl, _⟩ := h
    rfl
  obtain ⟨a, xs, rfl, hA, hz, q⟩ := h
  refine ⟨_, (pss_cons (ps_set (i := 1) scTrim.nd rfl (Or.inl rfl) (pe_callB call_len_seq rfl B.len_ bt_len (pa_cons (pv 0) pa_nil)))
  (pss_cons (ps_while PassesOwn.never (PW.pt (pw_and (pt_cmpR op_gt (pv 1) pe_int (nomark _)) (pw_and1 (pt_cmpR op_eq (pe_ix ix_list (pv 0) (pe_op op_sub (pv 1) pe_int) (fun _ _ => rfl)) pe_int (nomark _)))))
    (pss_one (ps_set (i := 1) scTrim.nd rfl (Or.inl rfl) (pe_op op_sub (pv 1) pe_int))))
  (pss_one (ps_ret (pe_slice sl_list (pv 0) po_none (po_some (pv 1))))))), ?_⟩
  have hl : (xs.map V.int).length = xs.length := List.length_map _
  refine ⟨_, rfl, a, _, rfl, .inl hA, ?_⟩
  refine ⟨fun m σ2 H2 => σ2 = [some (.ref a), some (.int (m : Nat))] ∧ H2 = H ∧ m ≤ xs.length ∧ ∀ t, m ≤ t → xs.getD t 0 = 0, ⟨xs.length, by rw [← hl]; rfl, rfl, Nat.le_refl _, fun t ht => getD_out ht⟩, ?_⟩
  rintro m σ2 H2 ⟨rfl, rfl, hm, h0⟩
  refine ⟨_, rfl, _, _, rfl, rfl, _, rfl, ?_⟩
  have fin : ∀ e : Nat, e = m → Trim xs e → tVar 0 [some (V.ref a), some (V.int (m : Nat))] H2 fun v H2 => tNoPart [some (V.ref a), some (V.int (m : Nat))] H2 fun l H3 => tPart (tVar 1) [some (V.ref a), some (V.int (m : Nat))] H3 fun u H4 => rSlL K v l u H4 Q := fun e he ht => by
    subst he
    refine ⟨_, rfl, _, rfl, _, rfl, a, _, rfl, hA, fun p hp => ?_⟩
    exact q p _ e hp (same_new hp _) ht (by rw [upd_same, cut_take ht.1])
  refine ite2 (fun c => ?_) (fun c => ?_)
  · have c' : (0 : Int) < (m : Nat) := of_decide_eq_true c
    have hix : atI (xs.map V.int) (((m : Nat) : Int) - 1) = some (.int (xs.getD (m - 1) 0)) := by
      have := atI_ints (ns := xs) (k := ((m : Nat) : Int) - 1) (by omega) (by omega)
      rw [this, show (((m : Nat) : Int) - 1).toNat = m - 1 by omega]
    refine ⟨_, rfl, _, rfl, _, _, rfl, rfl, a, _, _, _, rfl, rfl, hA, hix, rfl, _, rfl, ite2 (fun d => ?_) (fun d => ?_)⟩
    · have d' := of_decide_eq_true d
      injection d' with d'
      refine ⟨fun σ' H' => σ' = [some (.ref a), some (.int (((m : Nat) : Int) - 1))] ∧ H' = H2, fun σ' H' ⟨a1, a2⟩ => ⟨m - 1, by omega, ?_, a2, by omega, fun t ht => ?_⟩, ?_⟩
      · rw [a1, show (((m : Nat) : Int) - 1) = ((m - 1 : Nat) : Int) by omega]
      · by_cases ht' : t = m - 1
        · rw [ht']; exact d'
        · exact h0 t (by omega)
      · exact ⟨_, rfl, _, _, rfl, rfl, rfl, rfl⟩
    · exact fin m rfl ⟨hm, h0, fun _ z => d (decide_eq_true (by rw [z]))⟩
  · have c' : ¬ (0 : Int) < (m : Nat) := of_decide_eq_false (Bool.eq_false_iff.mpr c)
    exact iteF (fin m rfl ⟨hm, h0, fun z => absurd (show m = 0 by omega) z⟩)

theorem scShS : FnScope ["number", "line"] ["number", "line"] (defScope sShSign) := ⟨rfl, rfl, rfl, by decide +kernel, rfl, by decide +kernel, by decide +kernel⟩
theorem ok_shsign (F : Fun K "shown_sign" "shown_sign" sShSign f fd) : FnOk P w K mg base CX0 1 f fd ["number", "line"] spShSign := by
  refine F.ok scShS (fun vs H Q E h => ?_) (fun cdv A outer s H vs Q E hr h => ?_)
  · obtain ⟨n, l, rfl, _⟩ := h
    rfl
  obtain ⟨n, l, rfl, q⟩ := h
  refine ⟨_, (pss_cons (ps_if (pt_cmpR op_lt (pv 0) pe_int (nomark _))
    (pss_one (ps_ret pe_str))
    pss_nil)
  (pss_one (ps_ret (pe_ifExp (pt_cmpR op_eq (pv 1) pe_str (nomark _)) pe_str pe_str)))), ?_⟩
  refine ⟨_, rfl, _, _, rfl, rfl, _, rfl, ite2 (fun z => ?_) (fun z => ?_)⟩
  · have z' : n < 0 := of_decide_eq_true z
    rw [if_pos z'] at q
    exact lit45 ▸ q
  · have z' : ¬ n < 0 := of_decide_eq_false (Bool.eq_false_iff.mpr z)
    rw [if_neg z'] at q
    refine ⟨_, rfl, rfl, _, rfl, ite2 (fun y => ?_) (fun y => ?_)⟩
    · have y' := of_decide_eq_true y
      injection y' with y'
      rw [if_pos (ofL_inj (y'.trans lit0))] at q
      exact lit0 ▸ q
    · rw [if_neg (fun e => y (decide_eq_true (by rw [e, lit0])))] at q
      exact lit43 ▸ q

theorem scShF : FnScope ["number", "power"] ["number", "power"] (defScope sShFig) := ⟨rfl, rfl, rfl, by decide +kernel, rfl, by decide +kernel, by decide +kernel⟩
theorem ok_shfig12 (B : Bl mg) (hstr : mg "str" = none) (F : Fun K "shown_figures" "shown_figures" sShFig f fd) : FnOk P w K mg base CX0 1 f fd ["number", "power"] spShFig12 := by
  refine F.ok scShF (fun vs H Q E h => ?_) (fun cdv A outer s H vs Q E hr h => ?_)
  · obtain ⟨n, k, rfl, _⟩ := h
    rfl
  obtain ⟨n, k, rfl, hb, q⟩ := h
  have ea : (if n < 0 then -n else n) = ((n.natAbs : Nat) : Int) := by split <;> omega
  refine ⟨_, (pss_cons (ps_if (PW.pt (pw_and (pt_cmpR op_gt (pv 1) pe_int (nomark _)) (pw_and1 (pt_cmpR op_eq (pe_callB call_abs rfl B.abs_ bt_abs (pa_cons (pv 0) pa_nil)) pe_int (nomark _)))))
    (pss_one (ps_ret pe_str))
    pss_nil)
  (pss_one (ps_ret (pe_callTy call_str_int rfl hstr bt_str (pa_cons (pe_callB call_abs rfl B.abs_ bt_abs (pa_cons (pv 0) pa_nil)) pa_nil))))), ?_⟩
  have last : ¬ (0 < k ∧ n.natAbs = 1) → tCB (fun xs H Q => ∃ i, xs = [.int i] ∧ i.natAbs.log2 < 1920 ∧ Q (.str (toString i)) H) (tCons (tCB (fun xs H Q => XAbs xs H Q) (tCons (tVar 0) tNil)) tNil) [some (.int n), some (.int (k : Int))] H Q := by
    intro hn
    rw [show figL k n = digs n.natAbs from if_neg hn, ← lit_nat] at q
    refine ⟨_, rfl, _, rfl, _, rfl, ?_, ?_⟩
    · rw [ea, Int.natAbs_natCast]
      exact Nat.lt_trans (log_lt (by decide) hb) (by decide)
    · rw [ea]; exact q
  refine ⟨_, rfl, _, _, rfl, rfl, _, rfl, ite2 (fun z => ?_) (fun z => ?_)⟩
  · have z' : (0 : Int) < (k : Int) := of_decide_eq_true z
    refine ⟨_, rfl, _, rfl, rfl, _, rfl, ite2 (fun y => ?_) (fun y => ?_)⟩
    · have y' := of_decide_eq_true y
      injection y' with y'
      rw [show figL k n = [] from if_pos ⟨by omega, by rw [ea] at y'; omega⟩] at q
      exact lit0 ▸ q
    · exact last fun e => y (decide_eq_true (by rw [ea, e.2]; rfl))
  · have z' : ¬ (0 : Int) < (k : Int) := of_decide_eq_false (Bool.eq_false_iff.mpr z)
    exact iteF (last fun e => z' (by omega))

theorem scShP : FnScope ["power"] ["power"] (defScope sShPow) := ⟨rfl, rfl, rfl, by decide +kernel, rfl, by decide +kernel, by decide +kernel⟩
theorem ok_shpow (hstr : mg "str" = none) (F : Fun K "shown_power" "shown_power" sShPow f fd) : FnOk P w K mg base CX0 1 f fd ["power"] spShPow := by
  refine F.ok scShP (fun vs H Q E h => ?_) (fun cdv A outer s H vs Q E hr h => ?_)
  · obtain ⟨k, rfl, _⟩ := h
    rfl
  obtain ⟨k, rfl, hb, q⟩ := h
  refine ⟨_, (pss_cons (ps_if (pt_cmpR op_eq (pv 0) pe_int (nomark _))
    (pss_one (ps_ret pe_str))
    pss_nil)
  (pss_one (ps_ret (pe_ifExp (pt_cmpR op_eq (pv 0) pe_int (nomark _)) pe_str (pe_op op_add_str pe_str (pe_callTy call_str_int rfl hstr bt_str (pa_cons (pv 0) pa_nil))))))), ?_⟩
  refine ⟨_, rfl, rfl, _, rfl, ite2 (fun z => ?_) (fun z => ?_)⟩
  · have z' := of_decide_eq_true z
    injection z' with z'
    rw [show powL k = [] from if_pos (by omega)] at q
    exact lit0 ▸ q
  · have k0 : k ≠ 0 := fun e => z (decide_eq_true (by rw [e]; rfl))
    refine ⟨_, rfl, rfl, _, rfl, ite2 (fun y => ?_) (fun y => ?_)⟩
    · have y' := of_decide_eq_true y
      injection y' with y'
      rw [show powL k = [120] from (if_neg k0).trans (if_pos (by omega))] at q
      exact lit120 ▸ q
    · have k1 : k ≠ 1 := fun e => y (decide_eq_true (by rw [e]; rfl))
      have e : powL k = [120] ++ digs k := (if_neg k0).trans (if_neg k1)
      rw [e, ← ofL_append, ← lit120, ← lit_nat] at q
      refine ⟨_, rfl, _, rfl, ?_, _, _, rfl, rfl, ?_, q⟩
      · rw [Int.natAbs_natCast]
        exact Nat.lt_trans (log_lt (by decide) (show k < 2 ^ 10 by omega)) (by decide)
      · rw [lit120, lit_nat, ofL_length, ofL_length, sizeLine_eq]
        have := digs_len 4 k (by decide) (by omega)
        simp only [List.length_cons, List.length_nil]; omega

theorem scSh : FnScope ["curve", "line", "power"] ["curve"] (defScope sShown) := ⟨rfl, rfl, rfl, by decide +kernel, rfl, by decide +kernel, by decide +kernel⟩
theorem ok_shown12 (B : Bl mg) (F_check_curve : FnAt P w K mg base 1 "check_curve" ["curve"] (spCheckCurve K)) (F_shown_sign : FnAt P w K mg base 1 "shown_sign" ["number", "line"] spShSign) (F_shown_figures : FnAt P w K mg base 1 "shown_figures" ["number", "power"] spShFig12) (F_shown_power : FnAt P w K mg base 1 "shown_power" ["power"] spShPow)
    (F : Fun K "shown" "shown" sShown f fd) : FnOk P w K mg base CX0 2 f fd ["curve"] (spShown12 K) := by
  refine F.ok scSh (fun vs H Q E h => ?_) (fun cdv A outer s H vs Q E hr h => ?_)
  · obtain ⟨a, c, rfl, _⟩ := h
    rfl
  obtain ⟨a, c, rfl, hA, hg, hz, hb, q⟩ := h
  refine ⟨_, (pss_cons (ps_expr (pe_callF F_check_curve hr rfl (pa_cons (pv 0) pa_nil)))
  (pss_cons (ps_if (pt_cmpR op_eq (pe_callB call_len_seq rfl B.len_ bt_len (pa_cons (pv 0) pa_nil)) pe_int (nomark _))
    (pss_one (ps_ret pe_str))
    pss_nil)
  (pss_cons (ps_set (i := 1) scSh.nd rfl (Or.inl rfl) pe_str)
  (pss_cons (ps_for PassesOwn.never rfl (pi_range3 rfl B.range_ (pa_cons (pe_op op_sub (pe_callB call_len_seq rfl B.len_ bt_len (pa_cons (pv 0) pa_nil)) pe_int) (pa_cons (pe_un un_neg pe_int) (pa_cons (pe_un un_neg pe_int) pa_nil)))) (pg_name (i := 2) scSh.nd rfl (Or.inl rfl))
    (pss_one (ps_if (pt_cmpR op_ne (pe_ix ix_list (pv 0) (pv 2) (fun _ _ => rfl)) pe_int (nomark _))
      (pss_one (ps_set (i := 1) scSh.nd rfl (Or.inl rfl) (pe_op op_add_str (pe_op op_add_str (pe_op op_add_str (pv 1) (pe_callF F_shown_sign hr rfl (pa_cons (pe_ix ix_list (pv 0) (pv 2) (fun _ _ => rfl)) (pa_cons (pv 1) pa_nil)))) (pe_callF F_shown_figures hr rfl (pa_cons (pe_ix ix_list (pv 0) (pv 2) (fun _ _ => rfl)) (pa_cons (pv 2) pa_nil)))) (pe_callF F_shown_power hr rfl (pa_cons (pv 2) pa_nil)))))
      pss_nil)))
  (pss_one (ps_ret (pv 1))))))), ?_⟩
  have hl : (c.map V.int).length = c.length := List.length_map _
  refine ⟨_, rfl, a, c, rfl, hA, hg, ?_⟩
  refine ⟨_, rfl, a, _, rfl, .inl hA, rfl, _, rfl, ite2 (fun z => ?_) (fun z => ?_)⟩
  · have z' := of_decide_eq_true z
    injection z' with z'
    have e : c = [] := List.eq_nil_of_length_eq_zero (by rw [hl] at z'; omega)
    subst e
    exact lit48 ▸ q
  have hne : c ≠ [] := fun e => z (decide_eq_true (by rw [e]; rfl))
  have c1 := List.length_pos_iff.mpr hne
  refine ⟨_, rfl, a, _, rfl, .inl hA, _, _, rfl, rfl, _, rfl, _, rfl, _, _, rfl, ⟨by omega, by omega, by omega, by omega⟩, for_down (hi := (((c.map V.int).length : Nat) : Int) - 1) (n := ((((c.map V.int).length : Nat) : Int) - 1 - -1).toNat)
    (fun i σ H2 => ∃ (v2 : Option V), σ = [some (.ref a), some (.str (ofL (stripP (dnL c c.length i)))), v2] ∧ H2 = H) ⟨none, by show _ = [_, some (V.str (ofL [])), _]; rw [← lit0]; rfl, rfl⟩ ?_ ?_⟩
  · rintro i σ H2 hi ⟨v2, rfl, rfl⟩
    rw [hl] at hi
    have hi' : i < c.length := by omega
    obtain ⟨p, hp⟩ : ∃ p : Nat, p = c.length - 1 - i := ⟨_, rfl⟩
    have hp2 : (((c.map V.int).length : Nat) : Int) - 1 - (i : Int) = (p : Int) := by rw [hl]; omega
    dsimp only
    rw [hp2]
    have hix : atI (c.map V.int) (p : Int) = some (.int (c.getD p 0)) := by
      have := atI_ints (ns := c) (k := (p : Int)) (by omega) (by omega)
      rw [this, Int.toNat_natCast]
    have hbp := bd_getDW hb p
    have hd := dn_lenW hb (show c.length ≤ 1001 by omega) i
    have hs := strip_len (dnL c c.length i)
    refine ⟨_, rfl, _, rfl, a, _, _, _, rfl, rfl, hA, hix, rfl, _, rfl, ite2 (fun z => ?_) (fun z => ?_)⟩
    · have n0 : c.getD p 0 ≠ 0 := fun e => by rw [e] at z; exact absurd z (by decide)
      have l1 := fig_lenW (k := p) hbp
      have l2 := pow_len (k := p) (by omega)
      refine ⟨_, rfl, _, rfl, _, rfl, a, _, _, _, rfl, rfl, hA, hix, _, rfl, _, stripP (dnL c c.length i), rfl, ?_⟩
      have hsg : (if c.getD p 0 < 0 then [45] else if stripP (dnL c c.length i) = [] then [] else [43] : List Nat).length ≤ 1 := by split; simp; split <;> simp
      have key := strip_turn (k := p) (dn_tms c c.length i) n0
      have e : dnL c c.length (i + 1) = dnL c c.length i ++ tmL p (c.getD p 0) := by rw [dnL, ← hp]
      generalize (if c.getD p 0 < 0 then [45] else if stripP (dnL c c.length i) = [] then [] else [43] : List Nat) = sg at hsg key
      refine ⟨_, _, rfl, rfl, by rw [ofL_length, ofL_length, sizeLine_eq]; omega, _, rfl, _, rfl, a, _, _, _, rfl, rfl, hA, hix, _, rfl, _, p, rfl, hbp, ?_⟩
      rw [ofL_append]
      refine ⟨_, _, rfl, rfl, by rw [ofL_length, ofL_length, List.length_append, sizeLine_eq]; omega, _, rfl, p, rfl, by omega, ?_⟩
      rw [ofL_append]
      refine ⟨_, _, rfl, rfl, by rw [ofL_length, ofL_length, List.length_append, List.length_append, sizeLine_eq]; omega, ?_⟩
      rw [ofL_append]
      refine ⟨some (.int (p : Int)), ?_, rfl⟩
      rw [e, key]
      simp [List.append_assoc]
    · have n0 : c.getD p 0 = 0 := Classical.byContradiction fun e => z (by rw [decide_eq_false (fun h => e (by injection h))]; rfl)
      refine ⟨some (.int (p : Int)), ?_, rfl⟩
      rw [dnL, ← hp, n0, show tmL p 0 = [] from if_pos rfl, List.append_nil]
      rfl
  · rintro σ H2 ⟨v2, rfl, rfl⟩
    have e : ((((c.map V.int).length : Nat) : Int) - 1 - -1).toNat = c.length := by rw [hl]; omega
    rw [e, dn_full]
    rw [show lineL c = stripP (fullUp c c.length) from if_neg fun z => hne ((full_nil hg).mp z)] at q
    exact ⟨_, rfl, q⟩

theorem scWhT : FnScope ["figures"] ["figures"] (defScope sWholeP) := ⟨rfl, rfl, rfl, by decide +kernel, rfl, by decide +kernel, by decide +kernel⟩
theorem ok_whole12c {NL : Addr} (B : Bl mg) (hve : mg "ValueError" = none) (R : Rf K mg "NoLine" NL) (F : Fun K "whole" "whole" sWholeP f fd) : FnOkC P w K mg base (CXE P w) 1 f fd ["figures"] (spWhole12 NL) := by
  refine F.okC scWhT (fun vs H Q E h => ?_) (fun cdv A outer s H vs Q E hr h => ?_)
  · obtain ⟨x, rfl, _⟩ := h
    rfl
  obtain ⟨x, rfl, ⟨hl, ha⟩, hg, hb⟩ := h
  cases hn : intText? x with
  | some n =>
    refine ⟨_, PSs.c (pss_one (ps_try (pss_one (ps_ret (pe_callTy call_int_text rfl B.int_ bt_int (pa_cons (pv 0) pa_nil)))))), ?_⟩
    exact ⟨_, rfl, _, n, rfl, hn, by omega, hg n hn⟩
  | none =>
    refine ⟨_, (pssc_one (psc_refused (H := H) (pssc_one (psc_ret (pec_callTy (call_int_refC rfl (by omega) hn ha) rfl B.int_ bt_int (pa_cons (pv 0) pa_nil)))) PySem.F.excBase_ValueError rfl hve rfl R.at_ R.ex (hb hn))), ?_⟩
    exact ⟨_, rfl, rfl, rfl⟩

theorem scRN : FnScope ["term", "head"] ["term"] (defScope sRNum) := ⟨rfl, rfl, rfl, by decide +kernel, rfl, by decide +kernel, by decide +kernel⟩
theorem ok_rnum12c {NL : Addr} (F_whole : FnAtC P w K mg base 1 "whole" ["figures"] (spWhole12 NL)) (F : Fun K "read_number" "read_number" sRNum f fd) : FnOkC P w K mg base (CXE P w) 2 f fd ["term"] (spRNum12 NL) := by
  refine F.okC scRN (fun vs H Q E h => ?_) (fun cdv A outer s H vs Q E hr h => ?_)
  · obtain ⟨T, rfl, _⟩ := h
    rfl
  obtain ⟨T, rfl, ⟨hl, ha⟩, hg, hb⟩ := h
  refine ⟨_, (pssc_cons (PS.c (ps_set (i := 1) scRN.nd rfl (Or.inl rfl) (pe_ix ix_tup (pe_bm PySem.F.plainAttrs_str PySem.F.slot_str_partition PySem.F.type_str_partition mt_partition (pv 0) (pa_cons pe_str pa_nil)) pe_int (fun _ _ => rfl))))
  (pssc_cons (psc_if (PW.pt (pw_and (pt_cmpR op_in_str pe_str (pv 0) rfl) (pw_and1 (pt_cmpR op_in_seq (pv 1) (pe_tup (pa_cons pe_str (pa_cons pe_str pa_nil))) rfl))))
    (pssc_one (psc_ret (pec_callC F_whole hr rfl passE (pa_cons (pe_op op_add_str (pv 1) pe_str) pa_nil))))
    (PSs.c pss_nil))
  (pssc_one (psc_ret (pec_callC F_whole hr rfl passE (pa_cons (pv 1) pa_nil)))))), ?_⟩
  obtain ⟨p1, _⟩ := part_hd T
  obtain ⟨l1, m1⟩ := hdX_sub (T := T)
  rw [lit120] at *
  refine ⟨_, rfl, rfl, _, _, rfl, rfl, rfl, by rw [ofL_length, sizeLine_eq]; omega, fun t ht => ?_⟩
  have s1 : Same H (upd H t (.tup [.str (Txt.partition (ofL T) (ofL [120])).1, .str (Txt.partition (ofL T) (ofL [120])).2.1, .str (Txt.partition (ofL T) (ofL [120])).2.2])) := same_new ht _
  refine ⟨t, _, _, _, rfl, rfl, SqT.of upd_same, rfl, ?_⟩
  dsimp only
  rw [p1] at s1 ⊢
  generalize upd H t _ = G at s1 ⊢
  have asc1 : Asc 600 (ofL (hdX T)) := AscL.str ⟨by omega, fun c hc => ha c (m1 c hc)⟩
  have last : ¬ (120 ∈ T ∧ (hdX T = [] ∨ hdX T = [45])) → ∀ G' : Hp, Same H G' → tCall (spWhole12 NL) [] E (tCons (tVar 1) tNil) [some (.str (ofL T)), some (.str (ofL (hdX T)))] G' Q := by
    intro hn G' s'
    have e : numX T = PySem.intText? (ofL (hdX T)) := if_neg hn
    exact ⟨_, rfl, _, rfl, asc1, fun n q => hg n (e.trans q) G' s', fun q => hb (e.trans q) G' s'⟩
  refine ⟨_, rfl, _, _, rfl, rfl, _, rfl, ?_⟩
  rw [has_one]
  refine ite2 (fun z => ?_) (fun z => ?_)
  · have z' : 120 ∈ T := of_decide_eq_true z
    rw [lit0, lit45]
    refine ⟨_, rfl, by show 2 ≤ sizeLine; decide, fun t2 ht2 => ?_⟩
    have s2 : Same G (upd G t2 (.tup [.str (ofL []), .str (ofL [45])])) := same_new ht2 _
    refine ⟨t2, _, rfl, .inr (SqT.of upd_same), rfl, rfl, _, rfl, ?_⟩
    generalize upd G t2 _ = G2 at s2 ⊢
    have s12 := s1.trans s2
    have e1 : inV (V.str (ofL (hdX T))) [V.str (ofL []), V.str (ofL [45])] = decide (hdX T = [] ∨ hdX T = [45]) := by
      have a1 : (ofL [] = ofL (hdX T)) ↔ hdX T = [] := ⟨fun e => (ofL_inj e).symm, fun e => by rw [e]⟩
      have a2 : (ofL [45] = ofL (hdX T)) ↔ hdX T = [45] := ⟨fun e => (ofL_inj e).symm, fun e => by rw [e]⟩
      simp only [inV, eqV, List.any_cons, List.any_nil, Bool.or_false]
      rw [Bool.eq_iff_iff]
      simp only [Bool.or_eq_true, beq_iff_eq, decide_eq_true_eq, a1, a2]
    dsimp only
    rw [if_neg Bool.false_ne_true, e1]
    refine ite2 (fun y => ?_) (fun y => ?_)
    · have y' := of_decide_eq_true y
      have e : numX T = PySem.intText? (ofL (hdX T ++ [49])) := if_pos ⟨z', y'⟩
      refine ⟨_, rfl, _, _, rfl, rfl, ?_, ?_⟩
      · rw [lit49, ofL_length, ofL_length, sizeLine_eq]; simp only [List.length_cons, List.length_nil]; omega
      · rw [lit49, ofL_append]
        refine ⟨_, rfl, AscL.str ⟨by rw [List.length_append, List.length_singleton]; omega, fun c hc => ?_⟩, fun n q => hg n (e.trans q) _ s12, fun q => hb (e.trans q) _ s12⟩
        rcases List.mem_append.mp hc with q | q
        · exact ha c (m1 c q)
        · rw [List.mem_singleton.mp q]; decide
    · exact last (fun q => y (decide_eq_true q.2)) _ s12
  · exact iteF (last (fun q => z (decide_eq_true q.1)) _ s1)

theorem scRP : FnScope ["term", "figures", "power"] ["term"] (defScope sRPow) := ⟨rfl, rfl, rfl, by decide +kernel, rfl, by decide +kernel, by decide +kernel⟩
theorem ok_rpow12c {NL : Addr} (h_HIGHEST_POWER : ∃ t, mg "HIGHEST_POWER" = some (.int 1000 t)) (R : Rf K mg "NoLine" NL) (F_whole : FnAtC P w K mg base 1 "whole" ["figures"] (spWhole12 NL)) (F : Fun K "read_power" "read_power" sRPow f fd) : FnOkC P w K mg base (CXE P w) 2 f fd ["term"] (spRPow12 NL) := by
  obtain ⟨tt, h_HIGHEST_POWER⟩ := h_HIGHEST_POWER
  refine F.okC scRP (fun vs H Q E h => ?_) (fun cdv A outer s H vs Q E hr h => ?_)
  · obtain ⟨T, rfl, _⟩ := h
    rfl
  obtain ⟨T, rfl, ⟨hl, ha⟩, hg, hb⟩ := h
  refine ⟨_, (pssc_cons (PS.c (ps_if (pt_cmpR op_notin_str pe_str (pv 0) rfl)
    (pss_one (ps_ret pe_int))
    pss_nil))
  (pssc_cons (PS.c (ps_set (i := 1) scRP.nd rfl (Or.inl rfl) (pe_ix ix_tup (pe_bm PySem.F.plainAttrs_str PySem.F.slot_str_partition PySem.F.type_str_partition mt_partition (pv 0) (pa_cons pe_str pa_nil)) pe_int (fun _ _ => rfl))))
  (pssc_cons (psc_set (i := 2) scRP.nd rfl (Or.inl rfl) (pec_ifExp (pt_cmpR op_eq (pv 1) pe_str (nomark _)) (PE.c pe_int) (pec_callC F_whole hr rfl passE (pa_cons (pv 1) pa_nil))))
  (PSs.c (pss_cons (ps_if (pt_cmpR op_gt (pv 2) (pe_glob (v := .int 1000) rfl h_HIGHEST_POWER ⟨_, rfl⟩) (nomark _))
    (pss_one (ps_raiseE PySem.F.excBase_ValueError rfl R.at_ R.ex (pa_cons pe_str pa_nil)))
    pss_nil)
  (pss_one (ps_ret (pv 2)))))))), ?_⟩
  obtain ⟨_, p2⟩ := part_hd T
  obtain ⟨l1, m1⟩ := tlX_sub (T := T)
  rw [lit120] at *
  rw [lit0]
  refine ⟨_, rfl, _, _, rfl, rfl, _, rfl, ?_⟩
  rw [has_one]
  by_cases hx : 120 ∈ T
  · have p2 := p2 hx
    rw [decide_eq_true hx]
    refine iteF ?_
    refine ⟨_, rfl, rfl, _, _, rfl, rfl, rfl, by rw [ofL_length, sizeLine_eq]; omega, fun t ht => ?_⟩
    have s1 : Same H (upd H t (.tup [.str (Txt.partition (ofL T) (ofL [120])).1, .str (Txt.partition (ofL T) (ofL [120])).2.1, .str (Txt.partition (ofL T) (ofL [120])).2.2])) := same_new ht _
    refine ⟨t, _, _, _, rfl, rfl, SqT.of upd_same, rfl, ?_⟩
    dsimp only
    rw [p2] at s1 ⊢
    generalize upd H t _ = G at s1 ⊢
    have asc1 : Asc 600 (ofL (tlX T)) := AscL.str ⟨by omega, fun c hc => ha c (m1 c hc)⟩
    refine ⟨_, rfl, rfl, _, rfl, ite2 (fun y => ?_) (fun y => ?_)⟩
    · have y' := of_decide_eq_true y
      injection y' with y'
      have e0 := ofL_inj y'
      have e : powX T = some 1 := by rw [powX, if_pos hx, if_pos e0]
      exact ⟨_, rfl, _, _, rfl, rfl, _, rfl, iteF ⟨_, rfl, hg 1 e (by decide) _ s1⟩⟩
    · have e0 : ¬ tlX T = [] := fun e => y (decide_eq_true (by rw [e]))
      have e : powX T = PySem.intText? (ofL (tlX T)) := by rw [powX, if_pos hx, if_neg e0]
      refine ⟨_, rfl, _, rfl, asc1, fun n q => ?_, fun q => hb (.inl (e.trans q)) _ s1⟩
      refine ⟨_, rfl, _, _, rfl, rfl, _, rfl, ite2 (fun z => ?_) (fun z => ?_)⟩
      · have z' : (1000 : Int) < n := of_decide_eq_true z
        exact ⟨by show 1 ≤ sizeLine; decide, hb (.inr ⟨n, e.trans q, z'⟩) _ s1⟩
      · have z' : ¬ (1000 : Int) < n := fun q => z (decide_eq_true q)
        exact ⟨_, rfl, hg n (e.trans q) (by omega) _ s1⟩
  · rw [decide_eq_false hx]
    exact hg 0 (by rw [powX, if_neg hx]) (by decide) _ (Same.refl _)

theorem scTe : FnScope ["line"] ["line"] (defScope sTerms) := ⟨rfl, rfl, rfl, by decide +kernel, rfl, by decide +kernel, by decide +kernel⟩
theorem ok_terms12 (F : Fun K "terms" "terms" sTerms f fd) : FnOk P w K mg base CX0 1 f fd ["line"] spTerms12 := by
  refine F.ok scTe (fun vs H Q E h => ?_) (fun cdv A outer s H vs Q E hr h => ?_)
  · obtain ⟨c, rfl, _⟩ := h
    rfl
  obtain ⟨L, rfl, hz, q⟩ := h
  refine ⟨_, (pss_one (ps_ret (pe_lcg (xs := ["term"]) (N := []) (fr := []) (compOkG (by with_unfolding_all rfl) (by decide +kernel) rfl (by decide +kernel) (by decide +kernel) all0 rfl trivial rfl rfl)
    (pi_list (pe_bm PySem.F.plainAttrs_str PySem.F.slot_str_split PySem.F.type_str_split mt_split (pe_repl (by decide +kernel) (pv 0)) (pa_cons pe_str pa_nil)))
    (fun _ _ _ _ _ => pg_name (i := 0) (show List.Nodup (["term"] : List Str) from by decide +kernel) rfl (Or.inl rfl)) (fun _ _ _ _ _ => pts1 (pt_cmpR op_ne (pv 0) pe_str (nomark _))) (fun _ _ _ _ _ => pv 0)))), ?_⟩
  rw [lit43, lit45, lit4345, lit0]
  have hr2 := rep_len L
  refine ⟨_, rfl, _, rfl, ?_, rfl, _, _, rfl, rfl, rfl, ?_, fun l hl0 => ?_⟩
  · rw [ofL_length, ofL_length, List.length_cons, List.length_cons, List.length_nil]; omega
  · rw [txt_rep, ofL_length, sizeLine_eq]; omega
  have hp := txt_piecesX L
  have hn : (Txt.split (Txt.replace (ofL L) (ofL [45]) (ofL [43, 45])) (ofL [43])).length ≤ 600 := by
    rw [txt_rep, txt_split, List.length_map, split_len]
    have := cnt_rep L
    omega
  generalize Txt.split (Txt.replace (ofL L) (ofL [45]) (ofL [43, 45])) (ofL [43]) = ps at *
  have s1 : Same H (upd H l (.lst (ps.map V.str))) := same_new hl0 _
  have e1 : upd H l (.lst (ps.map V.str)) l = some (.lst (ps.map V.str)) := upd_same
  generalize upd H l (.lst (ps.map V.str)) = G at s1 e1
  have geti : ∀ (i : Nat) (y : V), (ps.map V.str)[i]? = some y → y = .str (ps.getD i (ofL [])) := fun i y hy => by
    rw [List.getElem?_map] at hy
    cases hi : ps[i]? with
    | none => rw [hi] at hy; cases hy
    | some z => rw [hi] at hy; rw [List.getD_eq_getElem?_getD, hi]; exact (Option.some.inj hy).symm
  refine ⟨l, rfl, ⟨_, SqL.of e1⟩, lcg_all (K := K) (xs := ["term"]) (ws := ps.map V.str) (fun i => decide (ps.getD i (ofL []) ≠ ofL [])) (fun _ i v _ => v = .str (ps.getD i (ofL []))) (fun i => [(ps.map V.str)[i]?]) (SqL.of e1) (by rw [List.length_map]; omega) (fun _ _ _ _ _ _ h => h) (fun _ => rfl) ?_ ?_ ?_ ?_⟩
  · intro i y σ0 H6 Q2 hy s6 l0 q2
    obtain ⟨u, rfl⟩ := List.length_eq_one_iff.mp l0
    rw [hy] at q2
    exact q2
  · intro i y H6 Q2 hy s6 q2
    have hy2 := geti i y hy
    rw [hy, hy2]
    refine ⟨_, rfl, rfl, _, rfl, ?_⟩
    have := q2 H6 (Same.refl _)
    have e : (!decide (V.str (ps.getD i (ofL [])) = V.str (ofL []))) = decide (ps.getD i (ofL []) ≠ ofL []) := by
      by_cases z : ps.getD i (ofL []) = ofL []
      · rw [z]; simp
      · rw [decide_eq_false (fun h => z (by injection h)), decide_eq_true z]; rfl
    rw [e]
    exact this
  · intro D acc i y H6 Q2 hD hd hy _ s6 q2
    have hy2 := geti i y hy
    rw [hy]
    exact ⟨_, rfl, q2 _ H6 (Same.refl _) hy2⟩
  · intro D H6 vs n6 s6 e6 hl6 hr6
    rw [List.length_map] at hl6 hr6
    refine q D H6 (s1.trans s6) (s1.free n6) ?_
    rw [e6, vals_eqV hl6 hr6, filter_getD (fun x => decide (x ≠ ofL [])) (ofL []) ps, hp, List.map_map]
    rfl

theorem scRe : FnScope ["line", "numbers", "term", "curve"] ["line"] (defScope sRead) := ⟨rfl, rfl, rfl, by decide +kernel, rfl, by decide +kernel, by decide +kernel⟩
theorem ok_read12c {NL : Addr} (h_HIGHEST_POWER : ∃ t, mg "HIGHEST_POWER" = some (.int 1000 t)) (R : Rf K mg "NoLine" NL) (F_terms : FnAt P w K mg base 1 "terms" ["line"] spTerms12) (F_read_number : FnAtC P w K mg base 2 "read_number" ["term"] (spRNum12 NL)) (F_read_power : FnAtC P w K mg base 2 "read_power" ["term"] (spRPow12 NL))
    (F_trimmed : FnAt P w K mg base 1 "trimmed" ["numbers"] (spTrimL K)) (F_shown : FnAt P w K mg base 2 "shown" ["curve"] (spShown12 K)) (F : Fun K "read" "read" sRead f fd) : FnOkC P w K mg base (CXE P w) 3 f fd ["line"] (spRead12 NL) := by
  obtain ⟨tt, h_HIGHEST_POWER⟩ := h_HIGHEST_POWER
  refine F.okC scRe (fun vs H Q E h => ?_) (fun cdv A outer s H vs Q E hr h => ?_)
  · obtain ⟨L, rfl, _⟩ := h
    rfl
  obtain ⟨L, rfl, hasc, hgood, hbad⟩ := h
  refine ⟨_, (pssc_cons (PS.c (ps_set (i := 1) scRe.nd rfl (Or.inl rfl) (pe_op op_rep (pe_lst (pa_cons pe_int pa_nil)) (pe_op op_add (pe_glob (v := .int 1000) rfl h_HIGHEST_POWER ⟨_, rfl⟩) pe_int))))
  (pssc_cons (psc_for PassesOwn.leaving rfl (pi_list (pe_callF F_terms hr rfl (pa_cons (pv 0) pa_nil))) (pg_name (i := 2) scRe.nd rfl (Or.inl rfl))
    (pssc_one (psc_sub (pec_callC F_read_number hr rfl passE (pa_cons (pv 2) pa_nil)) (pv 1) (pec_callC F_read_power hr rfl passE (pa_cons (pv 2) pa_nil)) set_list)))
  (PSs.c (pss_cons (ps_set (i := 3) scRe.nd rfl (Or.inl rfl) (pe_callF F_trimmed hr rfl (pa_cons (pv 1) pa_nil)))
  (pss_cons (ps_if (pt_cmpR op_ne (pe_callF F_shown hr rfl (pa_cons (pv 3) pa_nil)) (pv 0) (nomark _))
    (pss_one (ps_raiseE PySem.F.excBase_ValueError rfl R.at_ R.ex (pa_cons pe_str pa_nil)))
    pss_nil)
  (pss_one (ps_ret (pv 3)))))))), ?_⟩
  have ascT : ∀ T ∈ fpL (repL L), AscL 560 T := fun T hT => ⟨Nat.le_trans (fp_asc hasc T hT).1 (by decide), (fp_asc hasc T hT).2⟩
  have ofLine : ∀ c, GoodL c → c.length ≤ 1001 → L = lineL c → fpL (repL L) = (pcsL c).map pcL ∧ ∀ p ∈ pcsL c, p.1 ≤ 1000 ∧ numX (pcL p) = some p.2 ∧ powX (pcL p) = some (p.1 : Int) := by
    intro c hg hz e
    have e1 : fpL (repL L) = (pcsL c).map pcL := by rw [e]; exact pieces hg
    refine ⟨e1, fun p hp => ?_⟩
    have hk : p.1 ≤ 1000 := by
      unfold pcsL at hp
      split at hp
      · have : p = (0, 0) := by simpa using hp
        subst this
        decide
      · have := ts_mem hp
        omega
    have hlen := (ascT (pcL p) (by rw [e1]; exact List.mem_map_of_mem hp)).1
    have := pc_digs (k := p.1) (n := p.2) hlen
    exact ⟨hk, num_pc (by omega), pow_pc hk⟩
  generalize hTs : fpL (repL L) = Ts at ascT ofLine
  refine ⟨by show 1 ≤ sizeLine; decide, fun pz hp => ?_⟩
  have s0 : Same H (upd H pz (.lst [.int 0])) := same_new hp _
  refine ⟨_, _, rfl, rfl, pz, _, _, rfl, rfl, upd_same, by decide, by decide, by show 1 * _ ≤ sizeLine; decide, fun r hr1 => ?_⟩
  have hnr : H r = none := s0.free hr1
  have start : (List.replicate ((1000 : Int) + 1).toNat [V.int 0]).flatten = (List.replicate 1001 (0 : Int)).map V.int := by
    show (List.replicate 1001 [V.int 0]).flatten = _
    refine List.ext_getElem (by simp) fun i h1 h2 => ?_
    simp
  dsimp only
  rw [start]
  have g0 : Same H (upd (upd H pz (.lst [.int 0])) r (.lst ((List.replicate 1001 (0 : Int)).map V.int))) := s0.trans (same_new hr1 _)
  have e0 : upd (upd H pz (.lst [.int 0])) r (.lst ((List.replicate 1001 (0 : Int)).map V.int)) r = some (IL (List.replicate 1001 0)) := upd_same
  generalize upd (upd H pz (.lst [.int 0])) r (.lst ((List.replicate 1001 (0 : Int)).map V.int)) = G0 at g0 e0 ⊢
  refine ⟨_, rfl, L, rfl, by have := hasc.1; omega, fun rt G1 s1 nt e1 => ?_⟩
  rw [hTs] at e1
  have hrt : rt ≠ r := fun e => by rw [e, e0] at nt; cases nt
  have e01 := s1 _ _ e0
  have g1 := g0.trans s1
  refine ⟨rt, rfl, ⟨_, SqL.of e1⟩, for_list (K := K) (xs := Ts.map fun T => V.str (ofL T))
    (fun i σ H2 => ∃ (v2 : Option V) (ps : List (Nat × Int)), σ = [some (.str (ofL L)), some (.ref r), v2, none] ∧ Same H H2 ∧ H2 rt = some (.lst (Ts.map fun T => V.str (ofL T))) ∧ H2 r = some (IL (setT (List.replicate 1001 0) ps)) ∧ ps.length = i ∧ (∀ x ∈ setT (List.replicate 1001 0) ps, Bd 1900 x) ∧ ∀ j T, j < i → Ts[j]? = some T → ∃ p, ps[j]? = some p ∧ numX T = some p.2 ∧ powX T = some (p.1 : Int))
    ⟨none, [], rfl, g1, e1, e01, rfl, fun x hx => ?_, fun j T hj => absurd hj (Nat.not_lt_zero _)⟩ (fun i σ H2 _ ⟨v2, ps, _, _, e, _⟩ => SqL.of e) ?_ ?_⟩
  · rw [(List.mem_replicate.mp (show x ∈ List.replicate 1001 (0 : Int) from hx)).2]; exact Bd.zero _
  · rintro i x σ H2 hx ⟨v2, ps, rfl, s2, e2, er, hpl, hbd, hps⟩
    rw [List.getElem?_map] at hx
    cases hi : Ts[i]? with
    | none => rw [hi] at hx; cases hx
    | some T =>
    rw [hi] at hx
    have hx' := Option.some.inj hx
    subst hx'
    have hTm := List.mem_of_getElem? hi
    have bad : (∀ p : Nat × Int, p.1 ≤ 1000 → numX T = some p.2 → powX T = some (p.1 : Int) → False) → ∀ c, GoodL c → c.length ≤ 1001 → L ≠ lineL c := by
      intro hn c hg hz e
      obtain ⟨q1, q2⟩ := ofLine c hg hz e
      rw [q1] at hTm
      obtain ⟨p, hp, rfl⟩ := List.mem_map.mp hTm
      obtain ⟨a1, a2, a3⟩ := q2 p hp
      exact hn p a1 a2 a3
    refine ⟨_, rfl, T, rfl, ascT T hTm, fun n hn G3 s3 => ?_, fun hn G3 s3 => hbad (bad fun p _ z _ => by rw [hn] at z; cases z) _ (s2.trans s3)⟩
    have er3 := s3 _ _ er
    have hlen : (setT (List.replicate 1001 0) ps).length = 1001 := by rw [setT_length, List.length_replicate]
    refine ⟨_, rfl, _, rfl, T, rfl, ascT T hTm, fun k hk hk1 G4 s4 => ?_, fun hn G4 s4 => hbad (bad fun p p1 _ z => ?_) _ (s2.trans (s3.trans s4))⟩
    · have k0 : 0 ≤ k := pow_nn (by rw [hTs]; exact hTm) (ascT T hTm) hk
      obtain ⟨m, rfl⟩ := Int.eq_ofNat_of_zero_le k0
      have er4 := s4 _ _ er3
      refine ⟨r, _, _, m, rfl, rfl, er4, ?_, ?_⟩
      · unfold ixN
        rw [if_pos (by omega), if_pos (by rw [List.length_map, hlen]; omega), Int.toNat_natCast]
      · refine ⟨some _, ps ++ [(m, n)], rfl, fun b o e => ?_, ?_, ?_, ?_, ?_, ?_⟩
        · rw [upd_ne (ne_of_none e hnr)]
          exact s4 _ _ (s3 _ _ (s2 _ _ e))
        · rw [upd_ne hrt]
          exact s4 _ _ (s3 _ _ e2)
        · rw [upd_same, map_set, setT_snoc]
        · rw [List.length_append, hpl]; rfl
        · rw [setT_snoc]
          intro x hx
          rcases List.mem_or_eq_of_mem_set hx with q | q
          · exact hbd x q
          · rw [q]; exact num_bd (ascT T hTm) hn
        · intro j T' hj hT'
          by_cases hji : j < i
          · obtain ⟨p, q1, q2⟩ := hps j T' hji hT'
            exact ⟨p, by rw [List.getElem?_append_left (by omega)]; exact q1, q2⟩
          · have : j = i := by omega
            subst this
            rw [hi] at hT'
            obtain rfl := Option.some.inj hT'
            exact ⟨(m, n), by rw [List.getElem?_append_right (by omega), hpl, Nat.sub_self]; rfl, hn, hk⟩
    · rcases hn with q | ⟨k, q, q2⟩
      · rw [q] at z; cases z
      · rw [q] at z; have z := Option.some.inj z; omega
  · rintro σ H2 ⟨v2, ps, rfl, s2, e2, er, hpl, hbd, hps⟩
    rw [List.length_map] at hpl hps
    have hlen : (setT (List.replicate 1001 0) ps).length = 1001 := by rw [setT_length, List.length_replicate]
    refine ⟨_, rfl, r, _, rfl, SqL.of er, by rw [hlen]; decide, fun rc G3 e nc s3 ht e3 => ?_⟩
    have hcl : ((setT (List.replicate 1001 0) ps).take e).length ≤ 1001 := by rw [List.length_take]; omega
    have hcg := ht.good
    refine ⟨_, rfl, rc, _, rfl, SqL.of e3, hcg, hcl, fun x hx => hbd x (List.mem_of_mem_take hx), ?_⟩
    refine ⟨_, rfl, rfl, _, rfl, ite2 (fun z => ?_) (fun z => ?_)⟩
    · refine ⟨by show 1 ≤ sizeLine; decide, hbad (fun c hg hz eL => ?_) _ (s2.trans s3)⟩
      obtain ⟨q1, q2⟩ := ofLine c hg hz eL
      have eps : ps = pcsL c := by
        refine List.ext_getElem? fun j => ?_
        by_cases hj : j < Ts.length
        · obtain ⟨p, a1, a2, a3⟩ := hps j Ts[j] hj (List.getElem?_eq_getElem hj)
          have hj2 : j < (pcsL c).length := by rw [q1, List.length_map] at hj; exact hj
          have eT : Ts[j] = pcL (pcsL c)[j] := by
            have : Ts[j]? = some (pcL (pcsL c)[j]) := by rw [q1, List.getElem?_map, List.getElem?_eq_getElem hj2]; rfl
            rw [List.getElem?_eq_getElem hj] at this
            exact Option.some.inj this
          obtain ⟨_, b2, b3⟩ := q2 _ (List.getElem_mem hj2)
          rw [eT, b2] at a2
          rw [eT, b3] at a3
          rw [a1, List.getElem?_eq_getElem hj2]
          have c2 := Option.some.inj a2
          have c1 := Int.ofNat.inj (Option.some.inj a3)
          exact congrArg some (Prod.ext c1.symm c2.symm)
        · rw [List.getElem?_eq_none (by omega), List.getElem?_eq_none (by rw [q1, List.length_map] at hj; omega)]
      rw [eps] at ht z
      rw [filled_trim hg hz (by decide) ht, ← eL] at z
      exact absurd z (by simp)
    · have z' : lineL ((setT (List.replicate 1001 0) ps).take e) = L := Classical.byContradiction fun y => z (by rw [decide_eq_false (fun h => y (ofL_inj (by injection h)))]; rfl)
      exact ⟨_, rfl, hgood _ hcg hcl z'.symm rc G3 (s2.trans s3) (s2.free nc) e3⟩

theorem scLO : FnScope ["_law_curve", "_law_line", "_law_k", "_law_number", "_law_figures", "_law_power"] ["_law_curve"] (defScope sLineOf) := ⟨rfl, rfl, rfl, by decide +kernel, rfl, by decide +kernel, by decide +kernel⟩
theorem ok_lineof (B : Bl mg) (hstr : mg "str" = none) (F : Fun K "_law_line_of" "_law_line_of" sLineOf f fd) : FnOk P w K mg base CX0 1 f fd ["_law_curve"] (spLineOf K) := by
  refine F.ok scLO (fun vs H Q E h => ?_) (fun cdv A outer s H vs Q E hr h => ?_)
  · obtain ⟨a, c, rfl, _⟩ := h
    rfl
  obtain ⟨a, c, rfl, hA, hg, hz, hb, q⟩ := h
  refine ⟨_, (pss_cons (ps_set (i := 1) scLO.nd rfl (Or.inl rfl) pe_str)
  (pss_cons (ps_for PassesOwn.never rfl (pi_range1 rfl B.range_ (pa_cons (pe_callB call_len_seq rfl B.len_ bt_len (pa_cons (pv 0) pa_nil)) pa_nil)) (pg_name (i := 2) scLO.nd rfl (Or.inl rfl))
    (pss_cons (ps_set (i := 3) scLO.nd rfl (Or.inl rfl) (pe_ix ix_list (pv 0) (pv 2) (fun _ _ => rfl)))
    (pss_cons (ps_set (i := 4) scLO.nd rfl (Or.inl rfl) (pe_callTy call_str_int rfl hstr bt_str (pa_cons (pe_callB call_abs rfl B.abs_ bt_abs (pa_cons (pv 3) pa_nil)) pa_nil)))
    (pss_cons (ps_J (ps_if (PW.pt (pw_and (pt_cmpR op_gt (pv 2) pe_int (nomark _)) (pw_and1 (pt_cmpR op_eq (pe_callB call_abs rfl B.abs_ bt_abs (pa_cons (pv 3) pa_nil)) pe_int (nomark _)))))
      (pss_one (ps_set (i := 4) scLO.nd rfl (Or.inl rfl) pe_str))
      pss_nil))
    (pss_cons (ps_set (i := 5) scLO.nd rfl (Or.inl rfl) (pe_ix ix_list (pe_lst (pa_cons pe_str (pa_cons pe_str (pa_cons (pe_op op_add_str pe_str (pe_callTy call_str_int rfl hstr bt_str (pa_cons (pv 2) pa_nil))) pa_nil)))) (pe_callB (call_min2 rfl) rfl B.min_ bt_min (pa_cons (pv 2) (pa_cons pe_int pa_nil))) (fun _ _ => rfl)))
    (pss_one (ps_if (pt_cmpR op_lt (pv 3) pe_int (nomark _))
      (pss_one (ps_set (i := 1) scLO.nd rfl (Or.inl rfl) (pe_op op_add_str (pe_op op_add_str (pe_op op_add_str pe_str (pv 4)) (pv 5)) (pv 1))))
      (pss_one (ps_if (pt_cmpR op_gt (pv 3) pe_int (nomark _))
        (pss_one (ps_set (i := 1) scLO.nd rfl (Or.inl rfl) (pe_op op_add_str (pe_op op_add_str (pe_op op_add_str pe_str (pv 4)) (pv 5)) (pv 1))))
        pss_nil)))))))))
  (pss_cons (ps_if (pt_cmpR op_eq (pv 1) pe_str (nomark _))
    (pss_one (ps_ret pe_str))
    pss_nil)
  (pss_cons (ps_if (pt_cmpR op_eq (pe_ix ix_str (pv 1) pe_int (fun _ _ => rfl)) pe_str (nomark _))
    (pss_one (ps_ret (pe_slice sl_str (pv 1) (po_some pe_int) po_none)))
    pss_nil)
  (pss_one (ps_ret (pv 1))))))), ?_⟩
  have hl : (c.map V.int).length = c.length := List.length_map _
  refine ⟨_, rfl, a, _, rfl, .inl hA, _, rfl, by omega, by omega, for_range (lo := 0) (n := (((c.map V.int).length : Nat) : Int).toNat)
    (fun i σ H2 => ∃ (v2 v3 v4 v5 : Option V), σ = [some (.ref a), some (.str (ofL (fullUp c i))), v2, v3, v4, v5] ∧ Same H H2) ⟨none, none, none, none, by rw [fullUp, ← lit0]; rfl, Same.refl _⟩ ?_ ?_⟩
  · rintro i σ H2 hi ⟨v2, v3, v4, v5, rfl, s2⟩
    rw [hl] at hi
    have hi' : i < c.length := by omega
    have h0i : (0 + (i : Int)) = (i : Int) := by omega
    rw [h0i]
    have hix : atI (c.map V.int) (i : Int) = some (.int (c.getD i 0)) := by
      have := atI_ints (ns := c) (k := (i : Int)) (by omega) (by omega)
      rw [this, Int.toNat_natCast]
    have hbi := bd_getD hb i
    generalize hn : c.getD i 0 = n at *
    have ea : (if n < 0 then -n else n) = ((n.natAbs : Nat) : Int) := by split <;> omega
    have l1 := fig_len (k := i) hbi
    have l2 := pow_len (k := i) (by omega)
    have l3 := full_len hb i (by omega)
    refine ⟨_, rfl, _, rfl, a, _, _, _, rfl, rfl, s2.seq hA, hix, ?_⟩
    refine ⟨_, rfl, _, rfl, _, rfl, ?_, ?_⟩
    · rw [ea, Int.natAbs_natCast]
      exact Nat.lt_trans (log_lt (by decide) hbi) (by decide)
    dsimp only
    rw [ea, lit_nat]
    refine ⟨fun σ H' => σ = [some (.ref a), some (.str (ofL (fullUp c i))), some (.int (i : Int)), some (.int n), some (.str (ofL (figL i n))), v5] ∧ H' = H2, ?_, ?_⟩
    · refine ⟨_, rfl, _, _, rfl, rfl, _, rfl, ite2 (fun z => ?_) (fun z => ?_)⟩
      · have z' : (0 : Int) < (i : Int) := of_decide_eq_true z
        refine ⟨_, rfl, _, rfl, rfl, _, rfl, ite2 (fun y => ?_) (fun y => ?_)⟩
        · have y' := of_decide_eq_true y
          injection y' with y'
          refine ⟨?_, rfl⟩
          rw [show figL i n = [] from if_pos ⟨by omega, by rw [ea] at y'; omega⟩, ← lit0]
          rfl
        · refine ⟨?_, rfl⟩
          rw [show figL i n = digs n.natAbs from if_neg fun e => y (decide_eq_true (by rw [ea, e.2]; rfl))]
          rfl
      · have z' : ¬ (0 : Int) < (i : Int) := of_decide_eq_false (Bool.eq_false_iff.mpr z)
        refine iteF ⟨?_, rfl⟩
        rw [show figL i n = digs n.natAbs from if_neg fun e => z' (by omega)]
        rfl
    · rintro σ H' ⟨rfl, rfl⟩
      have d4 := digs_len 4 i (by decide) (by omega)
      have ix3 : ∀ G : Hp, Same H' G → ∀ t3, G t3 = some (.lst [.str (ofL []), .str (ofL [120]), .str (ofL (120 :: digs i))]) → atI [V.str (ofL []), V.str (ofL [120]), V.str (ofL (120 :: digs i))] (if (2 : Int) < (i : Int) then 2 else (i : Int)) = some (.str (ofL (powL i))) := fun G _ t3 _ => by
        by_cases h2 : (2 : Int) < (i : Int)
        · rw [if_pos h2, show powL i = 120 :: digs i from (if_neg (by omega)).trans (if_neg (by omega))]; rfl
        · rw [if_neg h2]
          have : i = 0 ∨ i = 1 ∨ i = 2 := by omega
          rcases this with rfl | rfl | rfl
          · rfl
          · rfl
          · rfl
      refine ⟨_, rfl, _, rfl, ?_, _, _, rfl, rfl, ?_, ?_⟩
      · rw [Int.natAbs_natCast]
        exact Nat.lt_trans (log_lt (by decide) (show i < 2 ^ 10 by omega)) (by decide)
      · rw [lit120, lit_nat, ofL_length, ofL_length, sizeLine_eq]
        simp only [List.length_cons, List.length_nil]; omega
      dsimp only
      rw [lit120, lit_nat, lit0, ofL_append]
      refine ⟨by show 3 ≤ sizeLine; decide, fun t3 h3 => ?_⟩
      have s3 : Same H' (upd H' t3 (.lst [.str (ofL []), .str (ofL [120]), .str (ofL ([120] ++ digs i))])) := same_new h3 _
      have e3 : upd H' t3 (.lst [.str (ofL []), .str (ofL [120]), .str (ofL ([120] ++ digs i))]) t3 = some (.lst [.str (ofL []), .str (ofL [120]), .str (ofL ([120] ++ digs i))]) := upd_same
      generalize upd H' t3 (.lst [.str (ofL []), .str (ofL [120]), .str (ofL ([120] ++ digs i))]) = G at s3 e3
      refine ⟨_, rfl, _, _, rfl, t3, _, _, _, rfl, rfl, SqL.of e3, ix3 G s3 t3 e3, ?_⟩
      have sG := s2.trans s3
      have step : ∀ sg : Nat, n ≠ 0 → sgL n = sg → ofL ([sg] ++ figL i n ++ powL i ++ fullUp c i) = ofL (fullUp c (i + 1)) := fun sg h0 h1 => by
        rw [fullUp, hn, tm_ne h0, h1]
        simp [List.append_assoc]
      refine ⟨_, rfl, _, _, rfl, rfl, _, rfl, ite2 (fun z => ?_) (fun z => ?_)⟩
      · have z' : n < 0 := of_decide_eq_true z
        rw [lit45]
        refine ⟨_, rfl, _, _, rfl, rfl, by rw [ofL_length, ofL_length, sizeLine_eq]; simp only [List.length_cons, List.length_nil]; omega, ?_⟩
        rw [ofL_append]
        refine ⟨_, rfl, _, _, rfl, rfl, by rw [ofL_length, ofL_length, sizeLine_eq]; simp only [List.length_append, List.length_cons, List.length_nil]; omega, ?_⟩
        rw [ofL_append]
        refine ⟨_, rfl, _, _, rfl, rfl, by rw [ofL_length, ofL_length, sizeLine_eq]; simp only [List.length_append, List.length_cons, List.length_nil]; omega, ?_⟩
        rw [ofL_append]
        refine ⟨some (.int (i : Int)), some (.int n), some (.str (ofL (figL i n))), some (.str (ofL (powL i))), ?_, sG⟩
        rw [step 45 (by omega) (if_pos z')]
        rfl
      · have z' : ¬ n < 0 := of_decide_eq_false (Bool.eq_false_iff.mpr z)
        refine ⟨_, rfl, _, _, rfl, rfl, _, rfl, ite2 (fun y => ?_) (fun y => ?_)⟩
        · have y' : 0 < n := of_decide_eq_true y
          rw [lit43]
          refine ⟨_, rfl, _, _, rfl, rfl, by rw [ofL_length, ofL_length, sizeLine_eq]; simp only [List.length_cons, List.length_nil]; omega, ?_⟩
          rw [ofL_append]
          refine ⟨_, rfl, _, _, rfl, rfl, by rw [ofL_length, ofL_length, sizeLine_eq]; simp only [List.length_append, List.length_cons, List.length_nil]; omega, ?_⟩
          rw [ofL_append]
          refine ⟨_, rfl, _, _, rfl, rfl, by rw [ofL_length, ofL_length, sizeLine_eq]; simp only [List.length_append, List.length_cons, List.length_nil]; omega, ?_⟩
          rw [ofL_append]
          refine ⟨some (.int (i : Int)), some (.int n), some (.str (ofL (figL i n))), some (.str (ofL (powL i))), ?_, sG⟩
          rw [step 43 (by omega) (if_neg z')]
          rfl
        · have y' : ¬ 0 < n := of_decide_eq_false (Bool.eq_false_iff.mpr y)
          have n0 : n = 0 := by omega
          refine ⟨some (.int (i : Int)), some (.int n), some (.str (ofL (figL i n))), some (.str (ofL (powL i))), ?_, sG⟩
          rw [fullUp, hn, n0, show tmL i 0 = [] from if_pos rfl, List.nil_append]
          rfl
  · rintro σ H2 ⟨v2, v3, v4, v5, rfl, s2⟩
    have e : (((c.map V.int).length : Nat) : Int).toNat = c.length := by rw [hl]; omega
    rw [e]
    have l3 := full_len hb c.length (by omega)
    rw [lit0]
    refine ⟨_, rfl, rfl, _, rfl, ite2 (fun z => ?_) (fun z => ?_)⟩
    · have z' := of_decide_eq_true z
      injection z' with z'
      have := ofL_inj z'
      have q' := q H2 s2
      rw [show lineL c = [48] from if_pos this] at q'
      exact lit48 ▸ q'
    · have hne : fullUp c c.length ≠ [] := fun e => z (decide_eq_true (by rw [e]))
      have q' := q H2 s2
      rw [show lineL c = stripP (fullUp c c.length) from if_neg hne] at q'
      generalize fullUp c c.length = l at *
      cases l with
      | nil => exact absurd rfl hne
      | cons x r =>
        rw [lit43]
        refine ⟨_, rfl, _, _, x, rfl, rfl, by rw [ofL_length, sizeLine_eq]; omega, by rw [ofL_list]; exact (by simp [atI, ixN]), rfl, _, rfl, ite2 (fun y => ?_) (fun y => ?_)⟩
        · have y' := of_decide_eq_true y
          injection y' with y'
          have y2 : x = 43 := by
            have := congrArg (fun z : Str => z.cps.toList) y'
            simpa [ofL] using this
          subst y2
          refine ⟨_, rfl, _, rfl, _, rfl, by rw [ofL_length, sizeLine_eq]; omega, ?_⟩
          rw [txt_tail]
          exact q'
        · have y2 : x ≠ 43 := fun e => y (decide_eq_true (by rw [e]; rfl))
          rw [stripP, if_neg y2] at q'
          exact ⟨_, rfl, q'⟩

theorem scAf : FnScope ["_law_text", "_law_sign"] ["_law_text"] (defScope s_law_are_figures) := ⟨rfl, rfl, rfl, by decide +kernel, rfl, by decide +kernel, by decide +kernel⟩
theorem litDigs : (Str.ofString "0123456789" : Str) = ofL [48, 49, 50, 51, 52, 53, 54, 55, 56, 57] := by decide +kernel
theorem ok_aref12 (F : Fun K "_law_are_figures" "_law_are_figures" s_law_are_figures f fd) : FnOk P w K mg base CX0 1 f fd ["_law_text"] spAreFig := by
  refine F.ok scAf (fun vs H Q E h => ?_) (fun cdv A outer s H vs Q E hr h => ?_)
  · obtain ⟨T, rfl, _⟩ := h
    rfl
  obtain ⟨T, rfl, ⟨hl, ha⟩, q⟩ := h
  refine ⟨_, (pss_cons (ps_for PassesOwn.never rfl (pi_str (pv 0)) (pg_name (i := 1) scAf.nd rfl (Or.inl rfl))
    (pss_one (ps_if (pt_cmpR op_notin_str (pv 1) pe_str rfl)
      (pss_one (ps_ret pe_bl))
      pss_nil)))
  (pss_one (ps_ret (pe_and (pe_cmpR op_ne (pv 0) pe_str (nomark _)) (pe_one (pe_cmpR op_ne (pe_ix ix_str (pv 0) pe_int (fun _ _ => rfl)) pe_str (nomark _))))))), ?_⟩
  rw [litDigs, lit0, lit48]
  have cl : ∀ i, (ofL T).cps[i]? = T[i]? := fun i => by rw [← Array.getElem?_toList, ofL_list]
  refine ⟨_, rfl, _, rfl, by rw [← Array.all_toList, ofL_list, List.all_eq_true]; exact fun c hc => decide_eq_true (ha c hc).2, for_str
    (fun i σ H2 => ∃ v1 : Option V, σ = [some (.str (ofL T)), v1] ∧ H2 = H ∧ ∀ j c, j < i → T[j]? = some c → 48 ≤ c ∧ c ≤ 57) ⟨none, rfl, rfl, fun j c hj => absurd hj (Nat.not_lt_zero _)⟩ ?_ ?_⟩
  · rintro i c σ H2 hc ⟨v1, rfl, rfl, hp⟩
    rw [cl] at hc
    refine ⟨_, rfl, _, _, rfl, rfl, _, rfl, ?_⟩
    have e : (⟨#[c]⟩ : Str) = ofL [c] := rfl
    rw [e, has_one]
    by_cases hm : c ∈ [48, 49, 50, 51, 52, 53, 54, 55, 56, 57]
    · rw [decide_eq_true hm]
      have hd : 48 ≤ c ∧ c ≤ 57 := by
        simp only [List.mem_cons, List.not_mem_nil, or_false] at hm
        omega
      refine iteF ⟨_, rfl, rfl, fun j c' hj hc' => ?_⟩
      by_cases hji : j < i
      · exact hp j c' hji hc'
      · have : j = i := by omega
        subst this
        rw [hc] at hc'
        cases hc'
        exact hd
    · rw [decide_eq_false hm]
      have n : ¬ isFig T := fun z => hm (by
        have := z.2.1 c (List.mem_of_getElem? hc)
        simp only [List.mem_cons, List.not_mem_nil, or_false]
        omega)
      rw [decide_eq_false n] at q
      exact q
  · rintro σ H2 ⟨v1, rfl, rfl, hp⟩
    have all : NumText.AllDigits T := fun c hc => by
      obtain ⟨j, hj⟩ := List.getElem?_of_mem hc
      have := hp j c (by
        have h1 := (List.getElem?_eq_some_iff.mp hj).1
        have h2 : (ofL T).cps.size = T.length := by rw [← Array.length_toList, ofL_list]
        omega) hj
      omega
    refine ⟨_, rfl, rfl, ?_⟩
    refine ⟨_, rfl, ?_⟩
    cases T with
    | nil =>
      rw [decide_eq_false (fun z : isFig [] => z.1 rfl)] at q
      rw [decide_eq_true rfl]
      exact iteF q
    | cons c r =>
      have n0 : ¬ V.str (ofL (c :: r)) = V.str (ofL []) := fun z => by
        injection z with z
        have := ofL_inj z
        cases this
      rw [decide_eq_false n0]
      refine iteT ⟨_, rfl, _, _, c, rfl, rfl, by rw [ofL_length, sizeLine_eq]; omega, by rw [ofL_list]; unfold atI ixN; simp, rfl, ?_⟩
      have e : (!decide (V.str (⟨#[c]⟩ : Str) = V.str (ofL [48]))) = decide (isFig (c :: r)) := by
        by_cases z : c = 48
        · subst z
          rw [decide_eq_true (show V.str (⟨#[48]⟩ : Str) = V.str (ofL [48]) from rfl), decide_eq_false (fun y : isFig (48 :: r) => y.2.2 rfl)]
          rfl
        · rw [decide_eq_false (fun y => z (by
            injection y with y
            have := ofL_inj (show ofL [c] = ofL [48] from y)
            injection this)), decide_eq_true (show isFig (c :: r) from ⟨(by simp), all, fun y => z (by simpa using y)⟩)]
          rfl
      rw [← e] at q
      exact q

theorem scOn : FnScope ["_law_text", "_law_spot", "_law_ahead", "_law_behind", "_law_number", "_law_power"] ["_law_text"] (defScope s_law_one_term) := ⟨rfl, rfl, rfl, by decide +kernel, rfl, by decide +kernel, by decide +kernel⟩
theorem ok_one12 (B : Bl mg) (F_law_are_figures : FnAt P w K mg base 1 "_law_are_figures" ["_law_text"] spAreFig) (F : Fun K "_law_one_term" "_law_one_term" s_law_one_term f fd) : FnOk P w K mg base CX0 2 f fd ["_law_text"] spOneTerm := by
  refine F.ok scOn (fun vs H Q E h => ?_) (fun cdv A outer s H vs Q E hr h => ?_)
  · obtain ⟨T, rfl, _⟩ := h
    rfl
  obtain ⟨T, rfl, ⟨hl, ha⟩, qn, qs⟩ := h
  refine ⟨_, (pss_cons (ps_if (pt_cmpR op_notin_str pe_str (pv 0) rfl)
    (pss_cons (ps_if (pt_not (pt_val (pe_callF F_law_are_figures hr rfl (pa_cons (pv 0) pa_nil))))
      (pss_one (ps_ret pe_non))
      pss_nil)
    (pss_one (ps_ret (pe_tup (pa_cons (pe_callTy call_int_text rfl B.int_ bt_int (pa_cons (pv 0) pa_nil)) (pa_cons pe_int pa_nil))))))
    pss_nil)
  (pss_cons (ps_set (i := 1) scOn.nd rfl (Or.inl rfl) (pe_bm PySem.F.plainAttrs_str PySem.F.slot_str_find PySem.F.type_str_find mt_find (pv 0) (pa_cons pe_str pa_nil)))
  (pss_cons (ps_set (i := 2) scOn.nd rfl (Or.inl rfl) (pe_slice sl_str (pv 0) po_none (po_some (pv 1))))
  (pss_cons (ps_set (i := 3) scOn.nd rfl (Or.inl rfl) (pe_slice sl_str (pv 0) (po_some (pe_op op_add (pv 1) pe_int)) po_none))
  (pss_cons (ps_if (PW.pt (pw_and (pt_cmpR op_ne (pv 2) pe_str (nomark _)) (pw_and1 (PW.pt (pw_or (pt_not (pt_val (pe_callF F_law_are_figures hr rfl (pa_cons (pv 2) pa_nil)))) (pw_or1 (pt_cmpR op_eq (pv 2) pe_str (nomark _))))))))
    (pss_one (ps_ret pe_non))
    pss_nil)
  (pss_cons (ps_if (PW.pt (pw_and (pt_cmpR op_ne (pv 3) pe_str (nomark _)) (pw_and1 (PW.pt (pw_or (pt_not (pt_val (pe_callF F_law_are_figures hr rfl (pa_cons (pv 3) pa_nil)))) (pw_or1 (pt_cmpR op_eq (pv 3) pe_str (nomark _))))))))
    (pss_one (ps_ret pe_non))
    pss_nil)
  (pss_cons (ps_set (i := 4) scOn.nd rfl (Or.inl rfl) pe_int)
  (pss_cons (ps_if (pt_cmpR op_ne (pv 2) pe_str (nomark _))
    (pss_one (ps_set (i := 4) scOn.nd rfl (Or.inl rfl) (pe_callTy call_int_text rfl B.int_ bt_int (pa_cons (pv 2) pa_nil))))
    pss_nil)
  (pss_cons (ps_set (i := 5) scOn.nd rfl (Or.inl rfl) pe_int)
  (pss_cons (ps_if (pt_cmpR op_ne (pv 3) pe_str (nomark _))
    (pss_one (ps_set (i := 5) scOn.nd rfl (Or.inl rfl) (pe_callTy call_int_text rfl B.int_ bt_int (pa_cons (pv 3) pa_nil))))
    pss_nil)
  (pss_one (ps_ret (pe_tup (pa_cons (pv 4) (pa_cons (pv 5) pa_nil))))))))))))))), ?_⟩
  rw [lit120, lit0]
  have int_of : ∀ t : List Nat, t.length ≤ 600 → isFig t → PySem.intText? (ofL t) = some (NumText.digitsVal t : Int) := fun t ht hf => by
    have := PySem.intText_digits (x := ofL t) (by rw [ofL_list]; exact hf.2.1) (by rw [ofL_list]; exact hf.1) (by rw [ofL_length]; omega)
    rw [this, ofL_list]
  refine ⟨_, rfl, _, _, rfl, rfl, _, rfl, ?_⟩
  rw [has_one]
  by_cases hx : 120 ∈ T
  · have c12 : T = hdX T ++ 120 :: tlX T ∧ 120 ∉ hdX T := cut_x hx
    obtain ⟨l1, m1⟩ := hdX_sub (T := T)
    obtain ⟨l2, m2⟩ := tlX_sub (T := T)
    have lT : T.length = (hdX T).length + ((tlX T).length + 1) := by
      conv => lhs; rw [c12.1]
      rw [List.length_append, List.length_cons]
    have eA : T.take (hdX T).length = hdX T := by
      conv => lhs; rw [c12.1]
      exact List.take_left' (by rw [← c12.1])
    rw [decide_eq_true hx]
    refine iteF ⟨_, rfl, rfl, _, _, rfl, rfl, ?_⟩
    dsimp only
    rw [find_x hx]
    refine ⟨_, rfl, _, rfl, _, rfl, _, rfl, by rw [ofL_length, sizeLine_eq]; omega, ?_⟩
    rw [txt_to (by omega), eA]
    have eB : T.drop ((hdX T).length + 1) = tlX T := by
      conv => lhs; rw [c12.1]
      rw [← List.drop_drop, List.drop_left' (by rw [← c12.1])]; rfl
    refine ⟨_, rfl, _, rfl, _, _, rfl, rfl, _, rfl, _, rfl, by rw [ofL_length, sizeLine_eq]; omega, ?_⟩
    rw [show ((hdX T).length : Int) + 1 = (((hdX T).length + 1 : Nat) : Int) from rfl, txt_from (by omega), eB]
    have ascA : AscL 560 (hdX T) := ⟨by omega, fun c hc => ha c (m1 c hc)⟩
    have ascB : AscL 560 (tlX T) := ⟨by omega, fun c hc => ha c (m2 c hc)⟩
    have eo : otL T = if hdX T ≠ [] ∧ (¬ isFig (hdX T) ∨ hdX T = [49]) then none else if tlX T ≠ [] ∧ (¬ isFig (tlX T) ∨ tlX T = [49]) then none else some (if hdX T ≠ [] then NumText.digitsVal (hdX T) else 1, if tlX T ≠ [] then NumText.digitsVal (tlX T) else 1) := if_pos hx
    generalize hdX T = a at *
    generalize tlX T = b at *
    have ne : ∀ t u : List Nat, (!decide (V.str (ofL t) = V.str (ofL u))) = decide (t ≠ u) := fun t u => by
      by_cases z : t = u
      · subst z; simp
      · rw [decide_eq_false (fun h => z (ofL_inj (by injection h))), decide_eq_true z]; rfl
    refine ⟨_, rfl, rfl, _, rfl, ?_⟩
    rw [ne, lit49]
    by_cases bad1 : a ≠ [] ∧ (¬ isFig a ∨ a = [49])
    · rw [if_pos bad1] at eo
      rw [decide_eq_true bad1.1]
      refine iteT ⟨_, rfl, a, rfl, ascA, _, rfl, ?_⟩
      by_cases z : isFig a
      · rw [decide_eq_true z]
        refine iteF ⟨_, rfl, rfl, _, rfl, ?_⟩
        rw [decide_eq_true (by rw [bad1.2.resolve_left (fun y => y z)])]
        exact iteT (qn eo _ (Same.refl _))
      · rw [decide_eq_false z]
        exact iteT (iteT (qn eo _ (Same.refl _)))
    rw [if_neg bad1] at eo
    have pickA : a = [] ∨ (a ≠ [] ∧ isFig a ∧ a ≠ [49]) := by
      by_cases z : a = []
      · exact .inl z
      · exact .inr ⟨z, Classical.byContradiction fun y => bad1 ⟨z, .inl y⟩, fun y => bad1 ⟨z, .inr y⟩⟩
    have lA := ascA.1
    have lB := ascB.1
    have dn : ∀ t u : List Nat, t ≠ u → decide (V.str (ofL t) = V.str (ofL u)) = false := fun t u z => decide_eq_false fun h => z (ofL_inj (by injection h))
    have pickB : ¬ (b ≠ [] ∧ (¬ isFig b ∨ b = [49])) → b = [] ∨ (b ≠ [] ∧ isFig b ∧ b ≠ [49]) := fun bad2 => by
      by_cases z : b = []
      · exact .inl z
      · exact .inr ⟨z, Classical.byContradiction fun y => bad2 ⟨z, .inl y⟩, fun y => bad2 ⟨z, .inr y⟩⟩
    rcases pickA with a0 | ⟨a1, a2, a3⟩
    · rw [decide_eq_false (fun h => h a0)]
      refine iteF (iteF ⟨_, rfl, rfl, _, rfl, ?_⟩)
      rw [ne]
      by_cases bad2 : b ≠ [] ∧ (¬ isFig b ∨ b = [49])
      · rw [if_pos bad2] at eo
        rw [decide_eq_true bad2.1]
        refine iteT ⟨_, rfl, b, rfl, ascB, _, rfl, ?_⟩
        by_cases z : isFig b
        · rw [decide_eq_true z]
          refine iteF ⟨_, rfl, rfl, _, rfl, ?_⟩
          rw [decide_eq_true (by rw [bad2.2.resolve_left (fun y => y z)])]
          exact iteT (qn eo _ (Same.refl _))
        · rw [decide_eq_false z]
          exact iteT (iteT (qn eo _ (Same.refl _)))
      rw [if_neg bad2] at eo
      rcases pickB bad2 with b0 | ⟨b1, b2, b3⟩
      · rw [decide_eq_false (fun h => h b0)]
        refine iteF (iteF ⟨_, rfl, rfl, _, rfl, ?_⟩)
        rw [ne]
        rw [if_neg (fun h => h a0)] at eo
        rw [decide_eq_false (fun h => h a0)]
        refine iteF ⟨_, rfl, rfl, _, rfl, ?_⟩
        rw [ne]
        rw [if_neg (fun h => h b0)] at eo
        rw [decide_eq_false (fun h => h b0)]
        refine iteF ⟨_, rfl, _, rfl, by show 2 ≤ sizeLine; decide, fun r hr0 => ?_⟩
        exact qs _ _ eo r _ (same_new hr0 _) hr0 upd_same
      · rw [decide_eq_true b1]
        refine iteT ⟨_, rfl, b, rfl, ascB, _, rfl, ?_⟩
        rw [decide_eq_true b2]
        refine iteF ⟨_, rfl, rfl, _, rfl, ?_⟩
        rw [dn _ _ b3]
        refine iteF ⟨_, rfl, rfl, _, rfl, ?_⟩
        rw [ne]
        rw [if_neg (fun h => h a0)] at eo
        rw [decide_eq_false (fun h => h a0)]
        refine iteF ⟨_, rfl, rfl, _, rfl, ?_⟩
        rw [ne]
        rw [if_pos b1] at eo
        rw [decide_eq_true b1]
        refine iteT ⟨_, rfl, _, _, rfl, int_of b (by omega) b2, by rw [ofL_length]; omega, ⟨_, rfl, _, rfl, by show 2 ≤ sizeLine; decide, fun r hr0 => ?_⟩⟩
        exact qs _ _ eo r _ (same_new hr0 _) hr0 upd_same
    · rw [decide_eq_true a1]
      refine iteT ⟨_, rfl, a, rfl, ascA, _, rfl, ?_⟩
      rw [decide_eq_true a2]
      refine iteF ⟨_, rfl, rfl, _, rfl, ?_⟩
      rw [dn _ _ a3]
      refine iteF ⟨_, rfl, rfl, _, rfl, ?_⟩
      rw [ne]
      by_cases bad2 : b ≠ [] ∧ (¬ isFig b ∨ b = [49])
      · rw [if_pos bad2] at eo
        rw [decide_eq_true bad2.1]
        refine iteT ⟨_, rfl, b, rfl, ascB, _, rfl, ?_⟩
        by_cases z : isFig b
        · rw [decide_eq_true z]
          refine iteF ⟨_, rfl, rfl, _, rfl, ?_⟩
          rw [decide_eq_true (by rw [bad2.2.resolve_left (fun y => y z)])]
          exact iteT (qn eo _ (Same.refl _))
        · rw [decide_eq_false z]
          exact iteT (iteT (qn eo _ (Same.refl _)))
      rw [if_neg bad2] at eo
      rcases pickB bad2 with b0 | ⟨b1, b2, b3⟩
      · rw [decide_eq_false (fun h => h b0)]
        refine iteF (iteF ⟨_, rfl, rfl, _, rfl, ?_⟩)
        rw [ne]
        rw [if_pos a1] at eo
        rw [decide_eq_true a1]
        refine iteT ⟨_, rfl, _, _, rfl, int_of a (by omega) a2, by rw [ofL_length]; omega, ⟨_, rfl, rfl, _, rfl, ?_⟩⟩
        rw [ne]
        rw [if_neg (fun h => h b0)] at eo
        rw [decide_eq_false (fun h => h b0)]
        refine iteF ⟨_, rfl, _, rfl, by show 2 ≤ sizeLine; decide, fun r hr0 => ?_⟩
        exact qs _ _ eo r _ (same_new hr0 _) hr0 upd_same
      · rw [decide_eq_true b1]
        refine iteT ⟨_, rfl, b, rfl, ascB, _, rfl, ?_⟩
        rw [decide_eq_true b2]
        refine iteF ⟨_, rfl, rfl, _, rfl, ?_⟩
        rw [dn _ _ b3]
        refine iteF ⟨_, rfl, rfl, _, rfl, ?_⟩
        rw [ne]
        rw [if_pos a1] at eo
        rw [decide_eq_true a1]
        refine iteT ⟨_, rfl, _, _, rfl, int_of a (by omega) a2, by rw [ofL_length]; omega, ⟨_, rfl, rfl, _, rfl, ?_⟩⟩
        rw [ne]
        rw [if_pos b1] at eo
        rw [decide_eq_true b1]
        refine iteT ⟨_, rfl, _, _, rfl, int_of b (by omega) b2, by rw [ofL_length]; omega, ⟨_, rfl, _, rfl, by show 2 ≤ sizeLine; decide, fun r hr0 => ?_⟩⟩
        exact qs _ _ eo r _ (same_new hr0 _) hr0 upd_same
  · have eo : otL T = if isFig T then some (NumText.digitsVal T, 0) else none := if_neg hx
    rw [decide_eq_false hx]
    refine iteT ⟨_, rfl, T, rfl, ⟨hl, ha⟩, ?_⟩
    by_cases hf : isFig T
    · rw [if_pos hf] at eo
      rw [decide_eq_true hf]
      refine ⟨_, rfl, iteF ⟨_, rfl, _, _, rfl, int_of T (by omega) hf, by rw [ofL_length]; omega, by show 2 ≤ sizeLine; decide, fun r hr0 => ?_⟩⟩
      exact qs _ _ eo r _ (same_new hr0 _) hr0 upd_same
    · rw [if_neg hf] at eo
      rw [decide_eq_false hf]
      exact ⟨_, rfl, iteT (qn eo _ (Same.refl _))⟩

theorem scBe : FnScope ["_law_line", "_law_spots", "_law_made", "_law_least", "_law_k", "_law_part"] ["_law_line"] (defScope s_law_read_beside) := ⟨rfl, rfl, rfl, by decide +kernel, rfl, by decide +kernel, by decide +kernel⟩
theorem ok_beside12 (B : Bl mg) (F_law_one_term : FnAt P w K mg base 2 "_law_one_term" ["_law_text"] spOneTerm) (F : Fun K "_law_read_beside" "_law_read_beside" s_law_read_beside f fd) : FnOk P w K mg base CX0 3 f fd ["_law_line"] spBeside := by
  refine F.ok scBe (fun vs H Q E h => ?_) (fun cdv A outer s H vs Q E hr h => ?_)
  · obtain ⟨L, rfl, _⟩ := h
    rfl
  obtain ⟨L, rfl, hA, qs, qn⟩ := h
  have hu := hr.units0
  refine ⟨_, (pss_cons (ps_if (pt_cmpR op_eq (pv 0) pe_str (nomark _))
    (pss_one (ps_ret (pe_lst pa_nil)))
    pss_nil)
  (pss_cons (ps_J (ps_if (pt_cmpR op_ne (pe_slice sl_str (pv 0) po_none (po_some pe_int)) pe_str (nomark _))
    (pss_one (ps_set (i := 0) scBe.nd rfl (Or.inr rfl) (pe_op op_add_str pe_str (pv 0))))
    pss_nil))
  (pss_cons (ps_set (i := 1) scBe.nd rfl (Or.inl rfl) (pe_op op_cat (pe_lcg (xs := ["_law_k"]) (N := ["_law_line"]) (fr := [0]) (compOkG (by with_unfolding_all rfl) (by decide +kernel) rfl (by decide +kernel) (by decide +kernel) (allC rfl all0) rfl ⟨⟨rfl, rfl, rfl⟩, trivial⟩ rfl rfl)
      (pi_range1 rfl B.range_ (pa_cons (pe_callB call_len_str rfl B.len_ bt_len (pa_cons (pv 0) pa_nil)) pa_nil))
      (fun _ _ _ _ _ => pg_name (i := 0) (show List.Nodup (["_law_k", "_law_line"] : List Str) from by decide +kernel) rfl (Or.inl rfl)) (fun _ _ _ _ _ => pts1 (pt_cmpR op_in_str (pe_ix (r := rIxS) ix_str (pv 1) (pv 0) (fun _ _ => rfl)) pe_str rfl)) (fun _ _ _ _ _ => pv 0))
    (pe_lst (pa_cons (pe_callB call_len_str rfl B.len_ bt_len (pa_cons (pv 0) pa_nil)) pa_nil))))
  (pss_cons (ps_set (i := 2) scBe.nd rfl (Or.inl rfl) (pe_lst pa_nil))
  (pss_cons (ps_set (i := 3) scBe.nd rfl (Or.inl rfl) pe_int)
  (pss_cons (ps_for PassesOwn.never rfl (pi_range1 rfl B.range_ (pa_cons (pe_op op_sub (pe_callB call_len_seq rfl B.len_ bt_len (pa_cons (pv 1) pa_nil)) pe_int) pa_nil)) (pg_name (i := 4) scBe.nd rfl (Or.inl rfl))
    (pss_cons (ps_set (i := 5) scBe.nd rfl (Or.inl rfl) (pe_callF F_law_one_term hr rfl (pa_cons (pe_slice sl_str (pv 0) (po_some (pe_op op_add (pe_ix ix_list (pv 1) (pv 4) (fun _ _ => rfl)) pe_int)) (po_some (pe_ix ix_list (pv 1) (pe_op op_add (pv 4) pe_int) (fun _ _ => rfl)))) pa_nil)))
    (pss_cons (ps_if (PW.pt (pw_or (pt_cmpR op_isN (pv 5) pe_non rfl) (pw_or1 (pt_cmpR op_ge (pe_ix ix_tup (pv 5) pe_int (fun _ _ => rfl)) (pv 3) (nomark _)))))
      (pss_one (ps_ret pe_non))
      pss_nil)
    (pss_cons (ps_set (i := 3) scBe.nd rfl (Or.inl rfl) (pe_ix ix_tup (pv 5) pe_int (fun _ _ => rfl)))
    (pss_cons (ps_J (ps_if (pt_cmpR (op_eqL hu) (pv 2) (pe_lst pa_nil) (nomark _))
      (pss_one (ps_set (i := 2) scBe.nd rfl (Or.inl rfl) (pe_op op_rep (pe_lst (pa_cons pe_int pa_nil)) (pe_op op_add (pv 3) pe_int))))
      pss_nil))
    (pss_one (ps_asg (pe_op op_mulK (pe_ix ix_tup (pv 5) pe_int (fun _ _ => rfl)) (pe_ix ix_list (pe_lst (pa_cons pe_int (pa_cons (pe_un un_neg pe_int) pa_nil))) (pe_callTy call_int1 rfl B.int_ bt_int (pa_cons (pe_cmpR op_eq (pe_ix ix_str (pv 0) (pe_ix ix_list (pv 1) (pv 4) (fun _ _ => rfl)) (fun _ _ => rfl)) pe_str (nomark _)) pa_nil)) (fun _ _ => rfl))) (pg_sub (pv 2) (pv 3) set_list))))))))
  (pss_one (ps_ret (pv 2))))))))), ?_⟩
  rw [lit48, lit45, lit43, lit4345]
  have dec : ∀ t u : List Nat, decide (V.str (ofL t) = V.str (ofL u)) = decide (t = u) := fun t u => by
    by_cases z : t = u
    · subst z; simp
    · rw [decide_eq_false (fun h => z (ofL_inj (by injection h))), decide_eq_false z]
  have lA := hA.1
  obtain ⟨lS, aS⟩ := sgnd_asc hA
  have sL := sp_len L
  refine ⟨_, rfl, rfl, _, rfl, ?_⟩
  rw [dec]
  by_cases h0 : L = [48]
  · rw [decide_eq_true h0]
    refine iteT ⟨by show 0 ≤ sizeLine; decide, fun r hr0 => ?_⟩
    exact qs [] (fun z => absurd rfl z) (by decide) h0 r _ (same_new hr0 _) hr0 upd_same
  rw [decide_eq_false h0]
  refine iteF ⟨fun σ H2 => σ = [some (.str (ofL (sgnd L))), none, none, none, none, none] ∧ H = H2, ?_, ?_⟩
  · refine ⟨_, rfl, _, rfl, _, rfl, by rw [ofL_length, sizeLine_eq]; omega, rfl, _, rfl, ?_⟩
    rw [txt_one, dec, sgnd_if]
    by_cases z : L.take 1 = [45]
    · rw [decide_eq_true z, if_pos z]
      exact iteF ⟨rfl, rfl⟩
    · rw [decide_eq_false z, if_neg z]
      refine iteT ⟨_, rfl, _, _, rfl, rfl, by rw [ofL_length, ofL_length, sizeLine_eq, List.length_singleton]; omega, ?_, rfl⟩
      rw [ofL_append]; rfl
  rintro σ H2 ⟨rfl, rfl⟩
  generalize hl : sgnd L = l at *
  have lz : (ofL l).length = l.length := ofL_length l
  refine ⟨_, rfl, _, rfl, by rw [lz, sizeLine_eq]; omega, _, rfl, by omega, by omega, ?_⟩
  have hn : (((ofL l).length : Nat) : Int).toNat = l.length := by rw [lz, Int.toNat_natCast]
  refine lcg_rng (x := "_law_k") (n := (((ofL l).length : Nat) : Int).toNat) (sgAt l) (fun i => .int (i : Int)) (by omega) (fun i u H2 Q2 h => h) (fun i H2 Q2 hi s2 q2 => ?_) (fun i H2 Q2 hi s2 q2 => ⟨_, rfl, q2⟩) (fun D H2 hD s2 e2 => ?_)
  · have hi' : i < l.length := by omega
    have hc : l[i]? = some l[i] := List.getElem?_eq_getElem hi'
    refine ⟨_, rfl, _, rfl, _, _, l[i], rfl, rfl, by rw [lz, sizeLine_eq]; omega, atI_txt hc, _, _, rfl, rfl, _, rfl, ?_⟩
    rw [one_txt, has_one, sg_in hc]
    exact q2
  rw [hn] at e2
  refine ⟨_, rfl, _, rfl, by rw [lz, sizeLine_eq]; omega, by show 1 ≤ sizeLine; decide, fun D1 hD1 => ?_⟩
  have n1 : D1 ≠ D := fun e => by rw [e, e2] at hD1; cases hD1
  have fl := List.length_filter_le (sgAt l) (List.range l.length)
  rw [List.length_range] at fl
  refine ⟨D, D1, _, _, rfl, rfl, (upd_ne n1.symm).trans e2, upd_same, by rw [List.length_map, sizeLine_eq]; simp only [List.length_cons, List.length_nil]; omega, fun sp hsp => ?_⟩
  have s1 : Same H2 (upd H2 D1 (.lst [.int (((ofL l).length : Nat) : Int)])) := same_new hD1 _
  have eS : upd (upd H2 D1 (.lst [.int (((ofL l).length : Nat) : Int)])) sp (.lst (((List.range l.length).filter (sgAt l)).map (fun (i : Nat) => V.int (i : Int)) ++ [.int (((ofL l).length : Nat) : Int)])) sp = some (.lst ((spL L).map fun (k : Nat) => V.int (k : Int))) := by
    rw [upd_same]
    unfold spL spotsF
    rw [hl, List.map_append, lz]
    rfl
  have sS : Same H (upd (upd H2 D1 (.lst [.int (((ofL l).length : Nat) : Int)])) sp (.lst (((List.range l.length).filter (sgAt l)).map (fun (i : Nat) => V.int (i : Int)) ++ [.int (((ofL l).length : Nat) : Int)]))) := (s2.trans s1).trans (same_new hsp _)
  generalize upd (upd H2 D1 (.lst [.int (((ofL l).length : Nat) : Int)])) sp (.lst (((List.range l.length).filter (sgAt l)).map (fun (i : Nat) => V.int (i : Int)) ++ [.int (((ofL l).length : Nat) : Int)])) = G at eS sS ⊢
  refine ⟨by show 0 ≤ sizeLine; decide, fun am0 ham0 => ?_⟩
  have hlS : ((spL L).map fun (k : Nat) => V.int (k : Int)).length = (spL L).length := List.length_map _
  have sM : Same G (upd G am0 (.lst [])) := same_new ham0 _
  refine ⟨_, rfl, sp, _, rfl, .inl (SqL.of (sM _ _ eS)), _, _, rfl, rfl, _, rfl, by omega, by omega, ?_⟩
  have hn2 : (((((spL L).map fun (k : Nat) => V.int (k : Int)).length : Nat) : Int) - 1).toNat = (spL L).length - 1 := by rw [hlS]; omega
  have eS1 := sM _ _ eS
  have nsp : am0 ≠ sp := fun e => by rw [e, eS] at ham0; cases ham0
  refine for_range (lo := 0) (n := (((((spL L).map fun (k : Nat) => V.int (k : Int)).length : Nat) : Int) - 1).toNat)
    (fun i σ H3 => ∃ (ts : List (Nat × Int)) (am : Addr) (v4 v5 : Option V), σ = [some (.str (ofL l)), some (.ref sp), some (.ref am), some (.int (leastT ts : Int)), v4, v5] ∧ RdT L i ts ∧ Same H H3 ∧ H am = none ∧ am ≠ sp ∧ H3 sp = some (.lst ((spL L).map fun (k : Nat) => V.int (k : Int))) ∧ H3 am = some (IL (madeT ts)))
    ⟨[], am0, none, none, rfl, rd0 L, sS.trans sM, sS.free ham0, nsp, eS1, upd_same⟩ ?_ ?_
  · rintro i σ H3 hi ⟨ts, am, v4, v5, rfl, rd, s3, nam, nasp, e3s, e3a⟩
    rw [hn2] at hi
    obtain ⟨a, ha⟩ : ∃ a, (spL L)[i]? = some a := ⟨_, List.getElem?_eq_getElem (by omega)⟩
    obtain ⟨b, hb⟩ : ∃ b, (spL L)[i + 1]? = some b := ⟨_, List.getElem?_eq_getElem (by omega)⟩
    obtain ⟨ab, bn, pa, mid⟩ := spots_step _ _ _ _ _ ha hb
    rw [hl] at bn pa mid
    have h0i : (0 + (i : Int)) = (i : Int) := by omega
    rw [h0i]
    have hA1 : atI ((spL L).map fun (k : Nat) => V.int (k : Int)) (i : Int) = some (.int (a : Int)) := atI_nat (by rw [List.getElem?_map, ha]; rfl)
    have hB1 : atI ((spL L).map fun (k : Nat) => V.int (k : Int)) ((i : Int) + 1) = some (.int (b : Int)) := atI_nat (j := i + 1) (by rw [List.getElem?_map, hb]; rfl)
    have ascT : AscL 560 ((l.take b).drop (a + 1)) := by
      refine ⟨by rw [List.length_drop, List.length_take]; omega, fun c hc => aS c ?_⟩
      exact List.mem_of_mem_take (List.mem_of_mem_drop hc)
    refine ⟨_, rfl, _, rfl, _, rfl, sp, _, _, _, rfl, rfl, SqL.of e3s, hA1, _, _, rfl, rfl, _, rfl, _, rfl, _, rfl, _, _, rfl, rfl, sp, _, _, _, rfl, rfl, SqL.of e3s, hB1, _, rfl, _, rfl, by rw [lz, sizeLine_eq]; omega, ?_⟩
    rw [show ((a : Int) + 1) = ((a + 1 : Nat) : Int) from rfl, txt_mid (by omega) bn]
    refine ⟨_, rfl, ascT, fun ho H4 s4 => ?_, fun n k ho r H4 s4 n4 e4 => ?_⟩
    · refine ⟨_, rfl, rfl, _, rfl, ?_⟩
      rw [decide_eq_true rfl]
      exact iteT (iteT (qn (rd_bad rd ha hb h0 (.inl (by rw [hl]; exact ho))) _ (s3.trans s4)))
    have ho' : otL (((sgnd L).take b).drop (a + 1)) = some (n, k) := by rw [hl]; exact ho
    have e4s := s4 _ _ e3s
    have e4a := s4 _ _ e3a
    have g4 := s3.trans s4
    have nra : r ≠ am := fun e => by rw [e, e3a] at n4; cases n4
    have nrs : r ≠ sp := fun e => by rw [e, e3s] at n4; cases n4
    refine ⟨_, rfl, rfl, _, rfl, ?_⟩
    rw [decide_eq_false (fun h => nomatch h)]
    refine iteF ⟨_, rfl, r, _, _, _, rfl, rfl, SqT.of e4, rfl, _, rfl, _, _, rfl, rfl, _, rfl, ite2 (fun z => ?_) (fun z => ?_)⟩
    · have z' := of_decide_eq_true z
      exact qn (rd_bad rd ha hb h0 (.inr ⟨n, k, ho', by omega⟩)) _ g4
    have z' : k < leastT ts := by
      rcases Nat.lt_or_ge k (leastT ts) with y | y
      · exact y
      · exact absurd (decide_eq_true (show (leastT ts : Int) ≤ (k : Int) by omega)) z
    have rd' := rd_step rd ha hb h0 ho' z'
    rw [hl] at rd'
    refine ⟨_, rfl, r, _, _, _, rfl, rfl, SqT.of e4, rfl, ?_⟩
    refine ⟨fun σ H5 => ∃ am' : Addr, σ = [some (.str (ofL l)), some (.ref sp), some (.ref am'), some (.int (k : Int)), some (.int (i : Int)), some (.ref r)] ∧ Same H H5 ∧ H am' = none ∧ am' ≠ sp ∧ H5 sp = some (.lst ((spL L).map fun (k : Nat) => V.int (k : Int))) ∧ H5 am' = some (IL (if ts = [] then List.replicate (k + 1) 0 else madeT ts)) ∧ H5 r = some (.tup [.int (n : Int), .int (k : Int)]), ?_, ?_⟩
    · refine ⟨_, rfl, by show 0 ≤ sizeLine; decide, fun p hp => ?_⟩
      have s5 : Same H4 (upd H4 p (.lst [])) := same_new hp _
      have e5p : upd H4 p (.lst []) p = some (.lst []) := upd_same
      have e5s := s5 _ _ e4s
      have e5a := s5 _ _ e4a
      have e5r := s5 _ _ e4
      have g5 := g4.trans s5
      generalize upd H4 p (.lst []) = G5 at s5 e5p e5s e5a e5r g5 ⊢
      refine ⟨am, p, madeT ts, [], rfl, rfl, SqL.of e5a, SqL.of e5p, _, rfl, ite2 (fun y => ?_) (fun y => ?_)⟩
      · have y' : ts = [] := made_nil.mp (of_decide_eq_true y)
        refine ⟨by show 1 ≤ sizeLine; decide, fun p1 hp1 => ?_⟩
        have s6 : Same G5 (upd G5 p1 (.lst [.int 0])) := same_new hp1 _
        have e6p : upd G5 p1 (.lst [.int 0]) p1 = some (.lst [.int 0]) := upd_same
        have e6s := s6 _ _ e5s
        have e6r := s6 _ _ e5r
        have g6 := g5.trans s6
        generalize upd G5 p1 (.lst [.int 0]) = G6 at s6 e6p e6s e6r g6 ⊢
        have kl := least_le rd.low
        refine ⟨_, rfl, _, _, rfl, rfl, p1, _, _, rfl, rfl, e6p, by omega, by omega, by rw [sizeLine_eq]; simp only [List.length_cons, List.length_nil]; omega, fun p2 hp2 => ?_⟩
        have s7 : ∀ o, Same G6 (upd G6 p2 o) := fun o => same_new hp2 _
        refine ⟨p2, rfl, g6.trans (s7 _), g6.free hp2, (fun e => by rw [e, e6s] at hp2; cases hp2), s7 _ _ _ e6s, ?_, s7 _ _ _ e6r⟩
        rw [upd_same, if_pos y', show ((k : Int) + 1).toNat = k + 1 by omega]
        refine congrArg (fun z => some (HO.lst z)) ?_
        refine List.ext_getElem (by simp) fun j h1 h2 => ?_
        simp
      · have y' : ts ≠ [] := fun e => y (decide_eq_true (made_nil.mpr e))
        exact ⟨am, rfl, g5, nam, nasp, e5s, by rw [if_neg y']; exact e5a, e5r⟩
    · rintro σ H5 ⟨am', rfl, g5, nam', nasp', e5s, e5a, e5r⟩
      have hA2 : l[a]? = some l[a] := List.getElem?_eq_getElem (by omega)
      refine ⟨_, rfl, r, _, _, _, rfl, rfl, SqT.of e5r, rfl, _, rfl, by show 2 ≤ sizeLine; decide, fun p hp => ?_⟩
      have s6 : Same H5 (upd H5 p (.lst [.int 1, .int (-1)])) := same_new hp _
      have e6p : upd H5 p (.lst [.int 1, .int (-1)]) p = some (.lst [.int 1, .int (-1)]) := upd_same
      have e6s := s6 _ _ e5s
      have e6a := s6 _ _ e5a
      have g6 := g5.trans s6
      generalize upd H5 p (.lst [.int 1, .int (-1)]) = G6 at s6 e6p e6s e6a g6 ⊢
      obtain ⟨e, he, hev, hbd⟩ : ∃ e : Int, atI ([.int 1, .int (-1)] : List V) (if decide (V.str ⟨#[l[a]]⟩ = V.str (ofL [45])) = true then 1 else 0) = some (.int e) ∧ (n : Int) * e = (if l[a]? = some 45 then -(n : Int) else (n : Int)) ∧ -1 ≤ e ∧ e ≤ 1 := by
        rw [one_txt, dec, hA2]
        by_cases c45 : l[a] = 45
        · refine ⟨-1, ?_, ?_, by decide, by decide⟩
          · rw [if_pos (decide_eq_true (by rw [c45]))]; rfl
          · rw [if_pos (by rw [c45])]; omega
        · refine ⟨1, ?_, ?_, by decide, by decide⟩
          · rw [if_neg (fun h => c45 (by have := of_decide_eq_true h; simpa using this))]; rfl
          · rw [if_neg (fun h => c45 (Option.some.inj h))]; omega
      refine ⟨_, rfl, _, rfl, _, rfl, sp, _, _, _, rfl, rfl, SqL.of e6s, hA1, _, _, l[a], rfl, rfl, by rw [lz, sizeLine_eq]; omega, atI_txt hA2, rfl, .inr ⟨_, rfl, p, _, _, _, rfl, rfl, SqL.of e6p, he, _, _, rfl, rfl, IntMulOk.of_right (intBits_le_64 (by omega) (by omega)), ?_⟩⟩
      have mk := made_len rd'.fall
      have hix : ixN ((if ts = [] then List.replicate (k + 1) 0 else madeT ts).map V.int).length (k : Int) = some k := by
        unfold ixN
        rw [List.length_map, if_pos (by omega), if_pos (by omega), Int.toNat_natCast]
      refine ⟨_, rfl, _, rfl, am', _, _, k, rfl, rfl, e6a, hix, ?_⟩
      refine ⟨_, am', some (.int (i : Int)), some (.ref r), by rw [least_snoc], rd', fun b' o e' => ?_, nam', nasp', ?_, ?_⟩
      · rw [upd_ne (ne_of_none e' nam')]
        exact g6 _ _ e'
      · rw [upd_ne (Ne.symm nasp')]
        exact e6s
      · rw [upd_same, made_snoc, hev]
        show some (HO.lst _) = some (HO.lst (List.map V.int _))
        rw [List.map_set]
  · rintro σ H3 ⟨ts, am, v4, v5, rfl, rd, s3, nam, nasp, e3s, e3a⟩
    rw [hn2] at rd
    obtain ⟨g1, g2, g3⟩ := rd_end rd (by omega)
    exact ⟨_, rfl, qs _ g1 g2 g3 am H3 s3 nam e3a⟩

theorem scAs : FnScope ["_law_script", "_law_way", "_law_cell", "_law_pieces", "_law_menu", "_law_line", "_law_spot", "_law_sign", "_law_signs"] ["_law_script"] (defScope s_law_asked) := ⟨rfl, rfl, rfl, by decide +kernel, rfl, by decide +kernel, by decide +kernel⟩
theorem ok_asked12 (B : Bl mg) (F_law_at : FnAt P w K mg base 1 "_law_at" ["_law_script", "_law_k"] (spAt K)) (F_law_drawn_curve : FnAt P w K mg base 2 "_law_drawn_curve" ["_law_cells"] (spDrawn K)) (F_law_line_of : FnAt P w K mg base 1 "_law_line_of" ["_law_curve"] (spLineOf K))
    (F : Fun K "_law_asked" "_law_asked" s_law_asked f fd) : FnOkM P w K mg base 3 f fd ["_law_script"] (spAsked K) := by
  refine F.okM scAs (fun vs H Q E h => ?_) (fun cdv A outer s H vs Q E hr h => ?_)
  · obtain ⟨a, ns, rfl, _⟩ := h
    rfl
  obtain ⟨a, ns, rfl, hS, h63, q⟩ := h
  refine ⟨_, (pss_consL (ps_setL (i := 1) scAs.nd rfl (Or.inl rfl) (pe_opL op_mod (pe_callFL2 (i := 0) F_law_at hr rfl) pe_int))
  (pss_cons (ps_set (i := 2) scAs.nd rfl (Or.inl rfl) (pe_callF F_law_at hr rfl (pa_cons (pv 0) (pa_cons pe_int pa_nil))))
  (pss_cons (ps_if (pt_cmpR op_eq (pv 1) pe_int (nomark _))
    (@pss_cons _ _ _ _ _ (@ps_lst _ 3 _ _ _ _ _ _ scAs.nd rfl (Or.inr rfl) (@pa_str _ _ _ _ _ _ (@pa_str _ _ _ _ _ _ (@pa_str _ _ _ _ _ _ (@pa_str _ _ _ _ _ _ (@pa_str _ _ _ _ _ _ (@pa_str _ _ _ _ _ _ (@pa_str _ _ _ _ _ _ (@pa_str _ _ _ _ _ _ (@pa_str _ _ _ _ _ _ (@pa_str _ _ _ _ _ _ (@pa_str _ _ _ _ _ _ (@pa_str _ _ _ _ _ _ pa_nil)))))))))))) (Or.inl rfl))
    (pss_one (ps_ret (pe_bm PySem.F.plainAttrs_str PySem.F.slot_str_join PySem.F.type_str_join mt_join pe_str (pa_cons (pe_lcg (xs := ["_law_one"]) (N := ["_law_pieces"]) (fr := [3]) (compOkG (by with_unfolding_all rfl) (by decide +kernel) rfl (by decide +kernel) (by decide +kernel) (allC rfl all0) rfl ⟨⟨rfl, rfl, rfl⟩, trivial⟩ rfl rfl)
      (pi_list (pe_slice sl_list (pv 0) (po_some pe_int) (po_some pe_int)))
      (fun _ _ _ _ _ => pg_name (i := 0) (show List.Nodup (["_law_one", "_law_pieces"] : List Str) from by decide +kernel) rfl (Or.inl rfl)) (fun _ _ _ _ _ => pts0) (fun _ _ _ _ _ => pe_ix (r := rIxL K) ix_list (pv 1) (pe_op op_mod (pv 0) pe_int) (fun _ _ => rfl))) pa_nil)))))
    pss_nil)
  (pss_cons (ps_if (pt_cmpR op_eq (pv 1) pe_int (nomark _))
    (@pss_cons _ _ _ _ _ (@ps_lst _ 4 _ _ _ _ _ _ scAs.nd rfl (Or.inl rfl) (@pa_str _ _ _ _ _ _ (@pa_str _ _ _ _ _ _ (@pa_str _ _ _ _ _ _ (@pa_str _ _ _ _ _ _ (@pa_str _ _ _ _ _ _ (@pa_str _ _ _ _ _ _ (@pa_str _ _ _ _ _ _ (@pa_str _ _ _ _ _ _ (@pa_str _ _ _ _ _ _ (@pa_str _ _ _ _ _ _ (@pa_str _ _ _ _ _ _ (@pa_str _ _ _ _ _ _ pa_nil)))))))))))) (Or.inl rfl))
    (@pss_cons _ _ _ _ _ (@ps_catl _ 4 _ _ _ _ _ _ _ _ scAs.nd rfl (Or.inl rfl) (pv 4) (@pa_str _ _ _ _ _ _ (@pa_str _ _ _ _ _ _ (@pa_str _ _ _ _ _ _ (@pa_str _ _ _ _ _ _ (@pa_str _ _ _ _ _ _ (@pa_str _ _ _ _ _ _ (@pa_str _ _ _ _ _ _ (@pa_str _ _ _ _ _ _ pa_nil)))))))) (Or.inl rfl))
    (pss_one (ps_ret (pe_ix ix_list (pv 4) (pe_op op_mod (pv 2) pe_int) (fun _ _ => rfl))))))
    pss_nil)
  (pss_cons (ps_set (i := 5) scAs.nd rfl (Or.inl rfl) (pe_callF F_law_line_of hr rfl (pa_cons (pe_callF F_law_drawn_curve hr rfl (pa_cons (pe_slice sl_list (pv 0) (po_some pe_int) (po_some pe_int)) pa_nil)) pa_nil)))
  (pss_cons (ps_set (i := 6) scAs.nd rfl (Or.inl rfl) (pe_op op_mod (pv 2) (pe_op op_add (pe_callB call_len_str rfl B.len_ bt_len (pa_cons (pv 5) pa_nil)) pe_int)))
  (pss_cons (ps_set (i := 7) scAs.nd rfl (Or.inl rfl) (pe_ix ix_str pe_str (pe_op op_mod (pe_callF F_law_at hr rfl (pa_cons (pv 0) (pa_cons pe_int pa_nil))) pe_int) (fun _ _ => rfl)))
  (pss_cons (ps_J (ps_if (pt_cmpR op_eq (pe_op op_mod (pe_op op_fdivK (pe_callF F_law_at hr rfl (pa_cons (pv 0) (pa_cons pe_int pa_nil))) pe_int) pe_int) pe_int (nomark _))
    (pss_cons (ps_set (i := 8) scAs.nd rfl (Or.inl rfl) pe_str)
    (pss_cons (ps_set (i := 8) scAs.nd rfl (Or.inl rfl) (pe_op op_add_str (pv 8) pe_str))
    (pss_one (ps_set (i := 7) scAs.nd rfl (Or.inl rfl) (pe_ix ix_str (pv 8) (pe_op op_mod (pe_callF F_law_at hr rfl (pa_cons (pv 0) (pa_cons pe_int pa_nil))) (pe_callB call_len_str rfl B.len_ bt_len (pa_cons (pv 8) pa_nil))) (fun _ _ => rfl))))))
    pss_nil))
  (pss_cons (ps_if (pt_cmpR op_eq (pv 1) pe_int (nomark _))
    (pss_one (ps_ret (pe_op op_add_str (pe_op op_add_str (pe_slice sl_str (pv 5) po_none (po_some (pv 6))) (pv 7)) (pe_slice sl_str (pv 5) (po_some (pe_op op_add (pv 6) pe_int)) po_none))))
    pss_nil)
  (pss_cons (ps_if (pt_cmpR op_eq (pv 1) pe_int (nomark _))
    (pss_one (ps_ret (pe_op op_add_str (pe_slice sl_str (pv 5) po_none (po_some (pv 6))) (pe_slice sl_str (pv 5) (po_some (pe_op op_add (pv 6) pe_int)) po_none))))
    pss_nil)
  (pss_cons (ps_if (pt_cmpR op_eq (pv 1) pe_int (nomark _))
    (pss_one (ps_ret (pe_op op_add_str (pe_op op_add_str (pe_slice sl_str (pv 5) po_none (po_some (pv 6))) (pv 7)) (pe_slice sl_str (pv 5) (po_some (pv 6)) po_none))))
    pss_nil)
  (pss_one (ps_ret (pv 5)))))))))))))), ?_⟩
  refine ⟨_, rfl, a, ns, 0, rfl, hS, by decide, _, _, rfl, rfl, (by show (0 : Int) < 6; decide), ?_⟩
  refine ⟨_, rfl, a, ns, 1, rfl, hS, by decide, ?_⟩
  generalize (ns.getD (0 : Int).toNat 0 % 6) = way
  generalize (ns.getD (1 : Int).toNat 0) = cell
  refine ⟨_, rfl, rfl, _, rfl, ite2 (fun _ => ?_) (fun _ => ?_)⟩
  · refine ⟨by show 12 ≤ sizeLine; decide, fun p hp => ?_⟩
    rw [show ([.str "x", .str "x2", .str "x10", .str "3", .str "1", .str "0", .str "01", .str "+", .str "-", .str "4x", .str "7x3", .str "1x"] : List V) = pcs12.map V.str from rfl]
    have s1 : Same H (upd H p (.lst (pcs12.map V.str))) := same_new hp _
    have e1 : upd H p (.lst (pcs12.map V.str)) p = some (.lst (pcs12.map V.str)) := upd_same
    generalize upd H p (.lst (pcs12.map V.str)) = G1 at s1 e1 ⊢
    refine ⟨rfl, _, rfl, _, rfl, _, rfl, a, _, rfl, s1.seq hS, fun r0 n0 => ?_⟩
    obtain ⟨cs, hcs, hcl⟩ : ∃ cs : List Int, cutV (ns.map V.int) (some 2) (some 14) = cs.map V.int ∧ cs.length ≤ 12 := cut_ints ns (by decide) (by decide) (by decide)
    rw [hcs]
    have s0 : Same G1 (upd G1 r0 (.lst (cs.map V.int))) := same_new n0 _
    have e0 : upd G1 r0 (.lst (cs.map V.int)) r0 = some (.lst (cs.map V.int)) := upd_same
    have e1' := s0 _ _ e1
    have g0 := s1.trans s0
    generalize upd G1 r0 (.lst (cs.map V.int)) = G0 at s0 e0 e1' g0 ⊢
    refine ⟨r0, rfl, ⟨_, SqL.of e0⟩, lcg_all (K := K) (xs := ["_law_one"]) (ws := cs.map V.int) (fun _ => true) (fun _ i v _ => ∃ y : Str, v = .str y ∧ Asc 3 y) (fun i => [(cs.map V.int)[i]?]) (SqL.of e0) (by rw [List.length_map]; omega) (fun _ _ _ _ _ _ h => h) (fun _ => rfl) ?_ ?_ ?_ ?_⟩
    · intro i y σ0 H6 Q2 hy s6 l0 q2
      obtain ⟨u, rfl⟩ := List.length_eq_one_iff.mp l0
      rw [hy] at q2
      exact q2
    · intro i y H6 Q2 hy s6 q2
      exact q2 H6 (Same.refl _)
    · intro D acc i y H6 Q2 hD6 hd hy _ s6 q2
      obtain ⟨n, rfl⟩ : ∃ n : Int, y = .int n := by
        rw [List.getElem?_map] at hy
        cases hi : cs[i]? with
        | none => rw [hi] at hy; cases hy
        | some z => rw [hi] at hy; exact ⟨z, (Option.some.inj hy).symm⟩
      obtain ⟨w1, hw, aw⟩ := at_strs (n := 3) pcs12 (k := n % 12) (by omega) (by show _ < (12 : Int); omega) (by decide +kernel)
      rw [hy]
      exact ⟨_, rfl, _, rfl, _, _, rfl, rfl, (by show (0 : Int) < 12; decide), p, _, _, _, rfl, rfl, SqL.of (s6 _ _ e1'), hw, q2 _ H6 (Same.refl _) ⟨w1, rfl, aw⟩⟩
    · intro D H6 vs n6 s6 e6 hl6 hr6
      have hf : ((List.range (cs.map V.int).length).filter fun _ => true) = List.range (cs.map V.int).length := List.filter_eq_self.mpr fun _ _ => rfl
      rw [hf] at hl6 hr6
      rw [List.length_range] at hl6
      obtain ⟨ys, evs, ly, ay⟩ := strs_ex (n := 3) vs fun v hv => by
        obtain ⟨j, hj, rfl⟩ := List.getElem_of_mem hv
        exact hr6 j vs[j] j (List.getElem?_eq_getElem hj) (List.getElem?_range (by omega))
      have l12 : ys.length ≤ 12 := by rw [ly, hl6, List.length_map]; exact hcl
      have hsum := sum_asc ys ay
      rw [evs] at e6
      exact ⟨_, D, ys, rfl, rfl, SqL.of e6, by decide, by omega, q _ H6 (g0.trans s6) ((join_asc (Asc.lit (by decide +kernel)) ys ay).mono (by omega))⟩
  refine ⟨_, rfl, rfl, _, rfl, ite2 (fun _ => ?_) (fun _ => ?_)⟩
  · refine ⟨by show 12 ≤ sizeLine; decide, fun p hp => ?_⟩
    refine ⟨_, rfl, by show 8 ≤ sizeLine; decide, fun p2 hp2 => ?_⟩
    have n2 : p2 ≠ p := fun e => by rw [e, upd_same] at hp2; cases hp2
    refine ⟨p, p2, _, _, rfl, rfl, (upd_ne n2.symm).trans upd_same, upd_same, by show 20 ≤ sizeLine; decide, fun p3 hp3 => ?_⟩
    obtain ⟨y, hy, ay⟩ := at_strs (n := 6) (menA ++ menB) (k := cell % 20) (by omega) (by show _ < (20 : Int); omega) (by decide +kernel)
    refine ⟨_, rfl, _, rfl, _, _, rfl, rfl, (by show (0 : Int) < 20; decide), p3, _, _, _, rfl, rfl, SqL.of upd_same, hy, ?_⟩
    exact q y _ (((same_new hp _).trans (same_new hp2 _)).trans (same_new hp3 _)) (ay.mono (by decide))
  refine ⟨_, rfl, _, rfl, _, rfl, a, _, rfl, hS, fun r0 n0 => ?_⟩
  obtain ⟨cs, hcs, hcl⟩ : ∃ cs : List Int, cutV (ns.map V.int) (some 3) (some 11) = cs.map V.int ∧ cs.length ≤ 8 := cut_ints ns (by decide) (by decide) (by decide)
  rw [hcs]
  have s0 : Same H (upd H r0 (.lst (cs.map V.int))) := same_new n0 _
  have e0 : upd H r0 (.lst (cs.map V.int)) r0 = some (IL cs) := upd_same
  generalize upd H r0 (.lst (cs.map V.int)) = G0 at s0 e0 ⊢
  refine ⟨r0, _, rfl, SqL.of e0, by omega, fun r1 G1 c s1 n1 e1 hlc hb hg => ?_⟩
  refine ⟨r1, c, rfl, SqL.of e1, hg, by omega, hb, fun G2 s2 => ?_⟩
  have asc := line_asc hb (by omega)
  have g2 := (s0.trans s1).trans s2
  have hS2 := g2.seq hS
  generalize lineL c = L at asc
  have lz : (ofL L).length = L.length := ofL_length L
  have lL := asc.1
  refine ⟨_, rfl, _, rfl, _, rfl, by rw [lz, sizeLine_eq]; omega, _, _, rfl, rfl, _, _, rfl, rfl, (by show (0 : Int) < _; omega), ?_⟩
  obtain ⟨m, hm, hmL⟩ : ∃ m : Nat, cell % ((((ofL L).length : Nat) : Int) + 1) = (m : Int) ∧ m ≤ L.length := by
    have h1 := Int.emod_nonneg cell (show ((((ofL L).length : Nat) : Int) + 1) ≠ 0 by omega)
    have h2 := Int.emod_lt_of_pos cell (show (0 : Int) < (((ofL L).length : Nat) : Int) + 1 by omega)
    rw [lz] at h1 h2 ⊢
    exact ⟨(cell % ((L.length : Int) + 1)).toNat, by omega, by omega⟩
  rw [hm]
  have a9 : Asc 9 (Str.ofString "x+-0127a ") := Asc.lit (by decide +kernel)
  have l9 : (Str.ofString "x+-0127a ").cps.toList.length = 9 := by decide +kernel
  obtain ⟨c0, hc0⟩ := at_some (Str.ofString "x+-0127a ").cps.toList (k := ns.getD (2 : Int).toNat 0 % 9) (by omega) (by rw [l9]; omega)
  refine ⟨_, rfl, a, ns, 2, rfl, hS2, by decide, _, _, rfl, rfl, (by show (0 : Int) < 9; decide), _, _, c0, rfl, rfl, by have := a9.1; rw [sizeLine_eq]; omega, hc0, ?_⟩
  refine ⟨fun σ H3 => ∃ (sg : Str) (v8 : Option V), σ = [some (.ref a), some (.int way), some (.int cell), none, none, some (.str (ofL L)), some (.int (m : Int)), some (.str sg), v8] ∧ Asc 1 sg ∧ G2 = H3, ?_, ?_⟩
  · refine ⟨_, rfl, a, ns, 2, rfl, hS2, by decide, _, _, rfl, rfl, divLit (by decide) (by decide), _, _, rfl, rfl, (by show (0 : Int) < 3; decide), rfl, _, rfl, ite2 (fun _ => ?_) (fun _ => ?_)⟩
    · obtain ⟨sg, hsg⟩ : ∃ z : Str, z = Str.ofString "!\"#$&'()*+,-./0123456789:;<=>?@ABCDEFGHIJKLMNOPQRSTUVWXYZ" ++ Str.ofString "[\\]^_`abcdefghijklmnopqrstuvwxyz{|}~ " := ⟨_, rfl⟩
      have ag : Asc 140 sg := by rw [hsg]; exact Asc.append (m := 70) (n := 70) (Asc.lit (by decide +kernel)) (Asc.lit (by decide +kernel))
      have lg : 0 < sg.length := by rw [hsg]; decide +kernel
      have lg2 : sg.cps.toList.length = sg.length := by simp [Str.length]
      have lg3 := ag.1
      refine ⟨_, rfl, _, _, rfl, rfl, ?_, ?_⟩
      · rw [← Str.length_append, ← hsg, sizeLine_eq]; omega
      · dsimp only
        rw [← hsg]
        obtain ⟨c1, hc1⟩ := at_some sg.cps.toList (k := ns.getD (2 : Int).toNat 0 % (sg.length : Int)) (Int.emod_nonneg _ (by omega)) (by rw [lg2]; exact Int.emod_lt_of_pos _ (by omega))
        exact ⟨_, rfl, _, rfl, a, ns, 2, rfl, hS2, by decide, _, rfl, _, rfl, by rw [sizeLine_eq]; omega, _, _, rfl, rfl, (by show (0 : Int) < (sg.length : Int); omega), _, _, c1, rfl, rfl, by rw [sizeLine_eq]; omega, hc1, _, _, rfl, ag.one hc1, rfl⟩
    · exact ⟨_, _, rfl, a9.one hc0, rfl⟩
  rintro σ H3 ⟨sg, v8, rfl, asg, rfl⟩
  have lsg := asg.1
  have aT : Asc m (ofL (L.take m)) := AscL.str ⟨by rw [List.length_take]; omega, fun c hc => asc.2 c (List.mem_of_mem_take hc)⟩
  have aD : ∀ k, Asc (L.length - k) (ofL (L.drop k)) := fun k => AscL.str ⟨by rw [List.length_drop]; exact Nat.le_refl _, fun c hc => asc.2 c (List.mem_of_mem_drop hc)⟩
  have lT : (ofL (L.take m)).length ≤ 536 := Nat.le_trans aT.1 (by omega)
  have lD : ∀ k, (ofL (L.drop k)).length ≤ 536 := fun k => Nat.le_trans (aD k).1 (by omega)
  have sz : (ofL L).length ≤ sizeLine := by rw [lz, sizeLine_eq]; omega
  have m1 : ((m : Int) + 1) = ((m + 1 : Nat) : Int) := rfl
  refine ⟨_, rfl, rfl, _, rfl, ite2 (fun _ => ?_) (fun _ => ?_)⟩
  · refine ⟨_, rfl, _, rfl, _, rfl, _, rfl, sz, ?_⟩
    rw [txt_to hmL]
    refine ⟨_, rfl, _, _, rfl, rfl, by rw [sizeLine_eq]; omega, ?_⟩
    refine ⟨_, rfl, _, rfl, _, _, rfl, rfl, _, rfl, _, rfl, sz, ?_⟩
    rw [m1, txt_fromN]
    have := lD (m + 1)
    exact ⟨_, _, rfl, rfl, by rw [Str.length_append, sizeLine_eq]; omega, q _ _ g2 (((aT.append asg).append (aD (m + 1))).mono (by omega))⟩
  refine ⟨_, rfl, rfl, _, rfl, ite2 (fun _ => ?_) (fun _ => ?_)⟩
  · refine ⟨_, rfl, _, rfl, _, rfl, _, rfl, sz, ?_⟩
    rw [txt_to hmL]
    refine ⟨_, rfl, _, rfl, _, _, rfl, rfl, _, rfl, _, rfl, sz, ?_⟩
    rw [m1, txt_fromN]
    have := lD (m + 1)
    exact ⟨_, _, rfl, rfl, by rw [sizeLine_eq]; omega, q _ _ g2 ((aT.append (aD (m + 1))).mono (by omega))⟩
  refine ⟨_, rfl, rfl, _, rfl, ite2 (fun _ => ?_) (fun _ => ?_)⟩
  · refine ⟨_, rfl, _, rfl, _, rfl, _, rfl, sz, ?_⟩
    rw [txt_to hmL]
    refine ⟨_, rfl, _, _, rfl, rfl, by rw [sizeLine_eq]; omega, ?_⟩
    refine ⟨_, rfl, _, rfl, _, rfl, _, rfl, sz, ?_⟩
    rw [txt_fromN]
    have := lD m
    exact ⟨_, _, rfl, rfl, by rw [Str.length_append, sizeLine_eq]; omega, q _ _ g2 (((aT.append asg).append (aD m)).mono (by omega))⟩
  exact ⟨_, rfl, q _ _ g2 (asc.str.mono (by decide))⟩

theorem scLaw : FnScope ["_law_script", "_law_line", "_law_due", "_law_found", "_law_refused", "e"] ["_law_script"] (defScope sLaw) := ⟨rfl, rfl, rfl, by decide +kernel, rfl, by decide +kernel, by decide +kernel⟩
theorem ok_law12 {c0 NL NC NN NP NS NF : Addr} (B : Bl mg) (hve : mg "ValueError" = none) (hFE : mg "FenceError" = some (.ref c0)) (R : Rf K mg "NoLine" NL) (h1 : mg "NoCurve" = some (.ref NC)) (h2 : mg "Nought" = some (.ref NN)) (h3 : mg "NoPlace" = some (.ref NP)) (h4 : mg "NoStretch" = some (.ref NS)) (h5 : mg "NoFine" = some (.ref NF))
    (zc : PySem.W.exmOne K (.ref NL) (.ref c0) = some true) (z0 : PySem.W.kitOne K (.ref NL) (.ref NL) = some true) (zv : PySem.W.kitOne K (.ref NL) (.type "ValueError") = some true) (z1 : PySem.W.kitOne K (.ref NL) (.ref NC) = some false) (z2 : PySem.W.kitOne K (.ref NL) (.ref NN) = some false) (z3 : PySem.W.kitOne K (.ref NL) (.ref NP) = some false) (z4 : PySem.W.kitOne K (.ref NL) (.ref NS) = some false) (z5 : PySem.W.kitOne K (.ref NL) (.ref NF) = some false)
    (F_law_asked : FnAtM P w K mg base 3 "_law_asked" ["_law_script"] (spAsked K)) (F_law_read_beside : FnAt P w K mg base 3 "_law_read_beside" ["_law_line"] spBeside) (F_law_numbers_are : FnAt P w K mg base 2 "_law_numbers_are" ["_law_found", "_law_due"] (spAre12 K)) (F_read : FnAtC P w K mg base 3 "read" ["line"] (spRead12 NL))
    (F : Fun K "law" "law" sLaw f fd) : FnOkLC P w K mg base 4 f fd ["_law_script"] (spLaw K) := by
  refine F.okLC scLaw (fun vs H Q E h => ?_) (fun cdv A outer s H vs Q E hr h => ?_)
  · obtain ⟨a, ns, rfl, _⟩ := h
    rfl
  obtain ⟨a, ns, rfl, hS, h63, q⟩ := h
  refine ⟨_, (pssLc_cons (ps_setL (i := 1) scLaw.nd rfl (Or.inl rfl) (pe_callML (i := 0) F_law_asked hr rfl))
  (pssc_cons (PS.c (ps_J (ps_set (i := 2) scLaw.nd rfl (Or.inl rfl) (pe_callF F_law_read_beside hr rfl (pa_cons (pv 1) pa_nil)))))
  (pssc_cons (PS.c (ps_set (i := 3) scLaw.nd rfl (Or.inl rfl) pe_non))
  (pssc_cons (PS.c (ps_set (i := 4) scLaw.nd rfl (Or.inl rfl) pe_bl))
  (pssc_cons (psc_tryE (i := 5) (Ew := fun σ C _ H' => ∃ L : List Nat, σ = [some (.ref a), some (.str (ofL L)), some .non, some .non, some (.bl false), none] ∧ C = .ref NL) rfl rfl scLaw.nd rfl rfl rfl hFE
      (fun pn => (pssc_one (psc_set (i := 3) scLaw.nd rfl (Or.inl rfl) (pec_callS F_read hr rfl (pa_cons (pv 1) pa_nil)))))
      (fun e1 => (pss_cons (ps_set (i := 4) scLaw.nd rfl (Or.inl rfl) (pe_and (pe_callB (call_isK (K := K) rfl) rfl B.isinstance_ bt_isinstance (pa_cons (pv 5) (pa_cons (pe_glob (v := .ref NL) rfl R.at_ rfl) pa_nil))) (pe_one (pe_callB (call_isK (K := K) rfl) rfl B.isinstance_ bt_isinstance (pa_cons (pv 5) (pa_cons (pe_bltn (v := .ty "ValueError") rfl hve bt_VE rfl) pa_nil))))))
      (pss_cons (ps_if (PW.pt (pw_or (pt_val (pe_callB (call_isK (K := K) rfl) rfl B.isinstance_ bt_isinstance (pa_cons (pv 5) (pa_cons (pe_glob (v := .ref NC) rfl h1 rfl) pa_nil)))) (pw_or (pt_val (pe_callB (call_isK (K := K) rfl) rfl B.isinstance_ bt_isinstance (pa_cons (pv 5) (pa_cons (pe_glob (v := .ref NN) rfl h2 rfl) pa_nil)))) (pw_or1 (pt_val (pe_callB (call_isK (K := K) rfl) rfl B.isinstance_ bt_isinstance (pa_cons (pv 5) (pa_cons (pe_glob (v := .ref NP) rfl h3 rfl) pa_nil))))))))
        (pss_one (ps_set (i := 4) scLaw.nd rfl (Or.inl rfl) pe_bl)) pss_nil)
      (pss_one (ps_if (PW.pt (pw_or (pt_val (pe_callB (call_isK (K := K) rfl) rfl B.isinstance_ bt_isinstance (pa_cons (pv 5) (pa_cons (pe_glob (v := .ref NS) rfl h4 rfl) pa_nil)))) (pw_or1 (pt_val (pe_callB (call_isK (K := K) rfl) rfl B.isinstance_ bt_isinstance (pa_cons (pv 5) (pa_cons (pe_glob (v := .ref NF) rfl h5 rfl) pa_nil)))))))
        (pss_one (ps_set (i := 4) scLaw.nd rfl (Or.inl rfl) pe_bl)) pss_nil))))))
  (PSs.c (pss_cons (ps_if (pt_cmpR op_isN (pv 2) pe_non rfl)
    (pss_one (ps_ret (pv 4)))
    pss_nil)
  (pss_one (ps_ret (pe_and (pe_not (pv 4)) (pe_one (pe_callF F_law_numbers_are hr rfl (pa_cons (pv 3) (pa_cons (pv 2) pa_nil)))))))))))))), ?_⟩
  refine ⟨_, rfl, a, ns, rfl, hS, h63, fun x H1 s1 asc => ?_⟩
  obtain ⟨ascL, ex⟩ := asc.ofL
  generalize x.cps.toList = L at ascL ex
  subst ex
  refine ⟨fun σ H2 => ∃ v : V, σ = [some (.ref a), some (.str (ofL L)), some v, none, none, none] ∧ ((∃ (c : List Int) (r : Addr), GoodL c ∧ c.length ≤ 1001 ∧ L = lineL c ∧ v = .ref r ∧ H2 r = some (IL c)) ∨ ((∀ c, GoodL c → c.length ≤ 1001 → L ≠ lineL c) ∧ v = .non)), ?_, ?_⟩
  · refine ⟨_, rfl, L, rfl, ascL, fun c hg hl e r H2 s2 n2 e2 => ?_, fun hno H2 s2 => ?_⟩
    · exact ⟨_, rfl, .inl ⟨c, r, hg, hl, e, rfl, e2⟩⟩
    · exact ⟨_, rfl, .inr ⟨hno, rfl⟩⟩
  rintro σ H2 ⟨v, rfl, hv⟩
  refine ⟨?_, ?_⟩
  · rcases hv with ⟨c, r, hg, hl, e, rfl, e2⟩ | ⟨hno, rfl⟩
    · refine ⟨_, rfl, L, rfl, ascL, fun c' hg' hl' e' r' H3 s3 n3 e3 => ?_, fun hno => absurd e (hno c hg hl)⟩
      have ec : c' = c := line_inj hg' hg hl' hl (by rw [← e']; exact ascL) (e'.symm.trans e)
      subst ec
      refine ⟨_, rfl, rfl, _, rfl, iteF ?_⟩
      refine ⟨_, rfl, _, rfl, true, rfl, iteT ?_⟩
      exact ⟨_, rfl, _, rfl, r', r, _, rfl, SqL.of e3, SqL.of (s3 _ _ e2), hl', q _⟩
    · exact ⟨_, rfl, L, rfl, ascL, fun c hg hl e => absurd e (hno c hg hl), fun _ H3 s3 => ⟨L, rfl, rfl⟩⟩
  · rintro σ' C H3 ⟨L', rfl, rfl⟩
    refine ⟨NL, rfl, zc, fun e1 he => ?_⟩
    have eH : upd H3 e1 (excO e1 NL) e1 = some (excO e1 NL) := upd_same
    generalize upd H3 e1 (excO e1 NL) = G at eH ⊢
    refine ⟨_, rfl, e1, NL, .ref NL, .ref NL, true, rfl, eH, R.k, fun _ h => h, z0, true, rfl, iteT ?_⟩
    refine ⟨_, rfl, e1, NL, .ty "ValueError", .type "ValueError", true, rfl, eH, R.k, fun _ h => h, zv, ?_⟩
    refine ⟨_, rfl, e1, NL, .ref NC, .ref NC, false, rfl, eH, R.k, fun _ h => h, z1, false, rfl, iteF ?_⟩
    refine ⟨_, rfl, e1, NL, .ref NN, .ref NN, false, rfl, eH, R.k, fun _ h => h, z2, false, rfl, iteF ?_⟩
    refine ⟨_, rfl, e1, NL, .ref NP, .ref NP, false, rfl, eH, R.k, fun _ h => h, z3, false, rfl, iteF ?_⟩
    refine ⟨_, rfl, e1, NL, .ref NS, .ref NS, false, rfl, eH, R.k, fun _ h => h, z4, false, rfl, iteF ?_⟩
    refine ⟨_, rfl, e1, NL, .ref NF, .ref NF, false, rfl, eH, R.k, fun _ h => h, z5, false, rfl, iteF ?_⟩
    exact ⟨_, rfl, rfl, _, rfl, iteT ⟨_, rfl, q _⟩⟩

end
end K12
namespace K12
open PySem L2 Zf
theorem all_mk {l : PySem.W.OpenLaw} {w : World} {K : PySem.W.Frag} {h : Heap} {mg : Str → Option Value} {fa f1 f2 f3 f4 f5 f6 f7 f8 f9 f10 f11 f12 f13 f14 f15 f16 f17 f18 f19 f20 f21 f22 : Addr} (X : K.In h) (G : h.Ns mainGlobals mg) (hfa : mg "law" = some (.ref fa))
    {od1 an1 od2 an2 od3 an3 od4 an4 od5 an5 od6 an6 od7 an7 od8 an8 od9 an9 od10 an10 od11 an11 od12 an12 od13 an13 od14 an14 od15 an15 od16 an16 od17 an17 od18 an18 od19 an19 od20 an20 od21 an21 od22 an22 : Option Addr} {sl1 sl2 sl3 sl4 sl5 sl6 sl7 sl8 sl9 sl10 sl11 sl12 sl13 sl14 sl15 sl16 sl17 sl18 sl19 sl20 sl21 sl22 : Array (Option Value)} {oc1 kV1 dc1 pm1 cd1 ct1 oc2 kV2 dc2 pm2 cd2 ct2 oc3 kV3 dc3 pm3 cd3 ct3 oc4 kV4 dc4 pm4 cd4 ct4 oc5 kV5 dc5 pm5 cd5 ct5 oc6 kV6 dc6 pm6 cd6 ct6 oc7 kV7 dc7 pm7 cd7 ct7 oc8 kV8 dc8 pm8 cd8 ct8 oc9 kV9 dc9 pm9 cd9 ct9 oc10 kV10 dc10 pm10 cd10 ct10 oc11 kV11 dc11 pm11 cd11 ct11 oc12 kV12 dc12 pm12 cd12 ct12 oc13 kV13 dc13 pm13 cd13 ct13 oc14 kV14 dc14 pm14 cd14 ct14 oc15 kV15 dc15 pm15 cd15 ct15 oc16 kV16 dc16 pm16 cd16 ct16 oc17 kV17 dc17 pm17 cd17 ct17 oc18 kV18 dc18 pm18 cd18 ct18 oc19 kV19 dc19 pm19 cd19 ct19 oc20 kV20 dc20 pm20 cd20 ct20 oc21 kV21 dc21 pm21 cd21 ct21 oc22 kV22 dc22 pm22 cd22 ct22 : Value}
    (a1 : PySem.W.nsIn K mainGlobals "_law_any" = some (some (.ref f1))) (l1 : K.lookup f1 = some ⟨oc1, od1, .func (PySem.W.fnOf "_law_any" "_law_any" (defArgs sAny) (defBody sAny) (defScope sAny) .none kV1 dc1 pm1 an1 cd1 ct1), sl1⟩) (c1 : PySem.W.codeIn K cd1 "_law_any" = true) (k1 : PySem.W.keepIn K (.ref f1) = true)
    (a2 : PySem.W.nsIn K mainGlobals "_law_whole" = some (some (.ref f2))) (l2 : K.lookup f2 = some ⟨oc2, od2, .func (PySem.W.fnOf "_law_whole" "_law_whole" (defArgs sWhole) (defBody sWhole) (defScope sWhole) .none kV2 dc2 pm2 an2 cd2 ct2), sl2⟩) (c2 : PySem.W.codeIn K cd2 "_law_whole" = true) (k2 : PySem.W.keepIn K (.ref f2) = true)
    (a3 : PySem.W.nsIn K mainGlobals "_law_at" = some (some (.ref f3))) (l3 : K.lookup f3 = some ⟨oc3, od3, .func (PySem.W.fnOf "_law_at" "_law_at" (defArgs sAt) (defBody sAt) (defScope sAt) .none kV3 dc3 pm3 an3 cd3 ct3), sl3⟩) (c3 : PySem.W.codeIn K cd3 "_law_at" = true) (k3 : PySem.W.keepIn K (.ref f3) = true)
    (a4 : PySem.W.nsIn K mainGlobals "_law_drawn_curve" = some (some (.ref f4))) (l4 : K.lookup f4 = some ⟨oc4, od4, .func (PySem.W.fnOf "_law_drawn_curve" "_law_drawn_curve" (defArgs sDrawn) (defBody sDrawn) (defScope sDrawn) .none kV4 dc4 pm4 an4 cd4 ct4), sl4⟩) (c4 : PySem.W.codeIn K cd4 "_law_drawn_curve" = true) (k4 : PySem.W.keepIn K (.ref f4) = true)
    (a5 : PySem.W.nsIn K mainGlobals "_law_numbers_are" = some (some (.ref f5))) (l5 : K.lookup f5 = some ⟨oc5, od5, .func (PySem.W.fnOf "_law_numbers_are" "_law_numbers_are" (defArgs sAre) (defBody sAre) (defScope sAre) .none kV5 dc5 pm5 an5 cd5 ct5), sl5⟩) (c5 : PySem.W.codeIn K cd5 "_law_numbers_are" = true) (k5 : PySem.W.keepIn K (.ref f5) = true)
    (a6 : PySem.W.nsIn K mainGlobals "check_curve" = some (some (.ref f6))) (l6 : K.lookup f6 = some ⟨oc6, od6, .func (PySem.W.fnOf "check_curve" "check_curve" (defArgs sCheckCurve) (defBody sCheckCurve) (defScope sCheckCurve) .none kV6 dc6 pm6 an6 cd6 ct6), sl6⟩) (c6 : PySem.W.codeIn K cd6 "check_curve" = true) (k6 : PySem.W.keepIn K (.ref f6) = true)
    (a7 : PySem.W.nsIn K mainGlobals "trimmed" = some (some (.ref f7))) (l7 : K.lookup f7 = some ⟨oc7, od7, .func (PySem.W.fnOf "trimmed" "trimmed" (defArgs sTrimmed) (defBody sTrimmed) (defScope sTrimmed) .none kV7 dc7 pm7 an7 cd7 ct7), sl7⟩) (c7 : PySem.W.codeIn K cd7 "trimmed" = true) (k7 : PySem.W.keepIn K (.ref f7) = true)
    (a8 : PySem.W.nsIn K mainGlobals "shown_sign" = some (some (.ref f8))) (l8 : K.lookup f8 = some ⟨oc8, od8, .func (PySem.W.fnOf "shown_sign" "shown_sign" (defArgs sShSign) (defBody sShSign) (defScope sShSign) .none kV8 dc8 pm8 an8 cd8 ct8), sl8⟩) (c8 : PySem.W.codeIn K cd8 "shown_sign" = true) (k8 : PySem.W.keepIn K (.ref f8) = true)
    (a9 : PySem.W.nsIn K mainGlobals "shown_figures" = some (some (.ref f9))) (l9 : K.lookup f9 = some ⟨oc9, od9, .func (PySem.W.fnOf "shown_figures" "shown_figures" (defArgs sShFig) (defBody sShFig) (defScope sShFig) .none kV9 dc9 pm9 an9 cd9 ct9), sl9⟩) (c9 : PySem.W.codeIn K cd9 "shown_figures" = true) (k9 : PySem.W.keepIn K (.ref f9) = true)
    (a10 : PySem.W.nsIn K mainGlobals "shown_power" = some (some (.ref f10))) (l10 : K.lookup f10 = some ⟨oc10, od10, .func (PySem.W.fnOf "shown_power" "shown_power" (defArgs sShPow) (defBody sShPow) (defScope sShPow) .none kV10 dc10 pm10 an10 cd10 ct10), sl10⟩) (c10 : PySem.W.codeIn K cd10 "shown_power" = true) (k10 : PySem.W.keepIn K (.ref f10) = true)
    (a11 : PySem.W.nsIn K mainGlobals "shown" = some (some (.ref f11))) (l11 : K.lookup f11 = some ⟨oc11, od11, .func (PySem.W.fnOf "shown" "shown" (defArgs sShown) (defBody sShown) (defScope sShown) .none kV11 dc11 pm11 an11 cd11 ct11), sl11⟩) (c11 : PySem.W.codeIn K cd11 "shown" = true) (k11 : PySem.W.keepIn K (.ref f11) = true)
    (a12 : PySem.W.nsIn K mainGlobals "whole" = some (some (.ref f12))) (l12 : K.lookup f12 = some ⟨oc12, od12, .func (PySem.W.fnOf "whole" "whole" (defArgs sWholeP) (defBody sWholeP) (defScope sWholeP) .none kV12 dc12 pm12 an12 cd12 ct12), sl12⟩) (c12 : PySem.W.codeIn K cd12 "whole" = true) (k12 : PySem.W.keepIn K (.ref f12) = true)
    (a13 : PySem.W.nsIn K mainGlobals "read_number" = some (some (.ref f13))) (l13 : K.lookup f13 = some ⟨oc13, od13, .func (PySem.W.fnOf "read_number" "read_number" (defArgs sRNum) (defBody sRNum) (defScope sRNum) .none kV13 dc13 pm13 an13 cd13 ct13), sl13⟩) (c13 : PySem.W.codeIn K cd13 "read_number" = true) (k13 : PySem.W.keepIn K (.ref f13) = true)
    (a14 : PySem.W.nsIn K mainGlobals "read_power" = some (some (.ref f14))) (l14 : K.lookup f14 = some ⟨oc14, od14, .func (PySem.W.fnOf "read_power" "read_power" (defArgs sRPow) (defBody sRPow) (defScope sRPow) .none kV14 dc14 pm14 an14 cd14 ct14), sl14⟩) (c14 : PySem.W.codeIn K cd14 "read_power" = true) (k14 : PySem.W.keepIn K (.ref f14) = true)
    (a15 : PySem.W.nsIn K mainGlobals "terms" = some (some (.ref f15))) (l15 : K.lookup f15 = some ⟨oc15, od15, .func (PySem.W.fnOf "terms" "terms" (defArgs sTerms) (defBody sTerms) (defScope sTerms) .none kV15 dc15 pm15 an15 cd15 ct15), sl15⟩) (c15 : PySem.W.codeIn K cd15 "terms" = true) (k15 : PySem.W.keepIn K (.ref f15) = true)
    (a16 : PySem.W.nsIn K mainGlobals "read" = some (some (.ref f16))) (l16 : K.lookup f16 = some ⟨oc16, od16, .func (PySem.W.fnOf "read" "read" (defArgs sRead) (defBody sRead) (defScope sRead) .none kV16 dc16 pm16 an16 cd16 ct16), sl16⟩) (c16 : PySem.W.codeIn K cd16 "read" = true) (k16 : PySem.W.keepIn K (.ref f16) = true)
    (a17 : PySem.W.nsIn K mainGlobals "_law_line_of" = some (some (.ref f17))) (l17 : K.lookup f17 = some ⟨oc17, od17, .func (PySem.W.fnOf "_law_line_of" "_law_line_of" (defArgs sLineOf) (defBody sLineOf) (defScope sLineOf) .none kV17 dc17 pm17 an17 cd17 ct17), sl17⟩) (c17 : PySem.W.codeIn K cd17 "_law_line_of" = true) (k17 : PySem.W.keepIn K (.ref f17) = true)
    (a18 : PySem.W.nsIn K mainGlobals "_law_are_figures" = some (some (.ref f18))) (l18 : K.lookup f18 = some ⟨oc18, od18, .func (PySem.W.fnOf "_law_are_figures" "_law_are_figures" (defArgs s_law_are_figures) (defBody s_law_are_figures) (defScope s_law_are_figures) .none kV18 dc18 pm18 an18 cd18 ct18), sl18⟩) (c18 : PySem.W.codeIn K cd18 "_law_are_figures" = true) (k18 : PySem.W.keepIn K (.ref f18) = true)
    (a19 : PySem.W.nsIn K mainGlobals "_law_one_term" = some (some (.ref f19))) (l19 : K.lookup f19 = some ⟨oc19, od19, .func (PySem.W.fnOf "_law_one_term" "_law_one_term" (defArgs s_law_one_term) (defBody s_law_one_term) (defScope s_law_one_term) .none kV19 dc19 pm19 an19 cd19 ct19), sl19⟩) (c19 : PySem.W.codeIn K cd19 "_law_one_term" = true) (k19 : PySem.W.keepIn K (.ref f19) = true)
    (a20 : PySem.W.nsIn K mainGlobals "_law_read_beside" = some (some (.ref f20))) (l20 : K.lookup f20 = some ⟨oc20, od20, .func (PySem.W.fnOf "_law_read_beside" "_law_read_beside" (defArgs s_law_read_beside) (defBody s_law_read_beside) (defScope s_law_read_beside) .none kV20 dc20 pm20 an20 cd20 ct20), sl20⟩) (c20 : PySem.W.codeIn K cd20 "_law_read_beside" = true) (k20 : PySem.W.keepIn K (.ref f20) = true)
    (a21 : PySem.W.nsIn K mainGlobals "_law_asked" = some (some (.ref f21))) (l21 : K.lookup f21 = some ⟨oc21, od21, .func (PySem.W.fnOf "_law_asked" "_law_asked" (defArgs s_law_asked) (defBody s_law_asked) (defScope s_law_asked) .none kV21 dc21 pm21 an21 cd21 ct21), sl21⟩) (c21 : PySem.W.codeIn K cd21 "_law_asked" = true) (k21 : PySem.W.keepIn K (.ref f21) = true)
    (a22 : PySem.W.nsIn K mainGlobals "law" = some (some (.ref f22))) (l22 : K.lookup f22 = some ⟨oc22, od22, .func (PySem.W.fnOf "law" "law" (defArgs sLaw) (defBody sLaw) (defScope sLaw) .none kV22 dc22 pm22 an22 cd22 ct22), sl22⟩) (c22 : PySem.W.codeIn K cd22 "law" = true) (k22 : PySem.W.keepIn K (.ref f22) = true)
    (z1 : PySem.W.nsIn K mainGlobals "len" = some none)
    (z2 : PySem.W.nsIn K mainGlobals "abs" = some none)
    (z3 : PySem.W.nsIn K mainGlobals "range" = some none)
    (z4 : PySem.W.nsIn K mainGlobals "list" = some none)
    (z5 : PySem.W.nsIn K mainGlobals "int" = some none)
    (z6 : PySem.W.nsIn K mainGlobals "bool" = some none)
    (z7 : PySem.W.nsIn K mainGlobals "isinstance" = some none)
    (z8 : PySem.W.nsIn K mainGlobals "sorted" = some none)
    (z9 : PySem.W.nsIn K mainGlobals "min" = some none)
    (z10 : PySem.W.nsIn K mainGlobals "enumerate" = some none)
    (z11 : PySem.W.nsIn K mainGlobals "str" = some none)
    (z12 : PySem.W.nsIn K mainGlobals "ValueError" = some none)
    {tHP : Tok} (gHP : PySem.W.nsIn K mainGlobals "HIGHEST_POWER" = some (some (.int 1000 tHP)))
    {c0 NL NC NN NP NS NF : Addr} {cd0 cdl : ClassData}
    (qFE : PySem.W.nsIn K mainGlobals "FenceError" = some (some (.ref c0)))
    (qNL : PySem.W.nsIn K mainGlobals "NoLine" = some (some (.ref NL)))
    (qNC : PySem.W.nsIn K mainGlobals "NoCurve" = some (some (.ref NC)))
    (qNN : PySem.W.nsIn K mainGlobals "Nought" = some (some (.ref NN)))
    (qNP : PySem.W.nsIn K mainGlobals "NoPlace" = some (some (.ref NP)))
    (qNS : PySem.W.nsIn K mainGlobals "NoStretch" = some (some (.ref NS)))
    (qNF : PySem.W.nsIn K mainGlobals "NoFine" = some (some (.ref NF)))
    (c0b : PySem.W.subIn K (.ref c0) (.type "BaseException") = some true)
    (c0c : PySem.W.clsIn K c0 = some cd0)
    (c0t : PySem.W.typeIn K (.ref c0) = some (.type "type"))
    (hs : PySem.W.specialIn K (.builtin "object.__class__") "__get__" = some (some (.builtin "getset_descriptor.__get__")))
    (ht : PySem.W.takesIn K (.builtin "object.__class__") = some true)
    (xl : PySem.W.excIn K NL bmV "ValueError.__new__" = true)
    (ulc : PySem.W.clsIn K NL = some cdl)
    (ulg : PySem.W.findIn K (.ref NL) "__getattribute__" = some (some (.builtin "BaseException.__getattribute__")))
    (uln : PySem.W.findIn K (.ref NL) "__getattr__" = some none)
    (ulb : PySem.W.subIn K (.ref NL) (.type "BaseException") = some true)
    (ulf : PySem.W.findIn K (.ref NL) "__class__" = some (some (.builtin "object.__class__")))
    (ulm : PySem.W.mroIn K NL (.type "object") = some true)
    (uls : PySem.W.subIn K (.ref NL) (.ref c0) = some true)
    (w0 : PySem.W.kitOne K (.ref NL) (.ref NL) = some true)
    (wv : PySem.W.kitOne K (.ref NL) (.type "ValueError") = some true)
    (w1 : PySem.W.kitOne K (.ref NL) (.ref NC) = some false)
    (w2 : PySem.W.kitOne K (.ref NL) (.ref NN) = some false)
    (w3 : PySem.W.kitOne K (.ref NL) (.ref NP) = some false)
    (w4 : PySem.W.kitOne K (.ref NL) (.ref NS) = some false)
    (w5 : PySem.W.kitOne K (.ref NL) (.ref NF) = some false)
    : ∃ fd : FuncData, (∀ (s : Shared) (v : Value), BindsTo s fd ⟨[v], []⟩ [("_law_script", v)]) ∧ ∀ base : Heap, K.In base → base.Ns mainGlobals mg → FnOkLC l.prog w K mg base 4 fa fd ["_law_script"] (spLaw K) := by
  have e := hfa.symm.trans (PySem.W.mg_of X G a22)
  cases e
  have h_HP : ∃ t, mg "HIGHEST_POWER" = some (.int 1000 t) := ⟨_, PySem.W.mg_of X G gHP⟩
  have hFE : mg "FenceError" = some (.ref c0) := PySem.W.mg_of X G qFE
  have h1 : mg "NoCurve" = some (.ref NC) := PySem.W.mg_of X G qNC
  have h2 : mg "Nought" = some (.ref NN) := PySem.W.mg_of X G qNN
  have h3 : mg "NoPlace" = some (.ref NP) := PySem.W.mg_of X G qNP
  have h4 : mg "NoStretch" = some (.ref NS) := PySem.W.mg_of X G qNS
  have h5 : mg "NoFine" = some (.ref NF) := PySem.W.mg_of X G qNF
  have R : Rf K mg "NoLine" NL := ⟨PySem.W.mg_of X G qNL, xl, ⟨by rw [ulc]; rfl, ulg, uln, ulb, ulf, hs, ht, ulm⟩⟩
  have B : Bl mg := ⟨PySem.W.mg_none_of X G z1, PySem.W.mg_none_of X G z2, PySem.W.mg_none_of X G z3, PySem.W.mg_none_of X G z4, PySem.W.mg_none_of X G z5, PySem.W.mg_none_of X G z6, PySem.W.mg_none_of X G z7, PySem.W.mg_none_of X G z8, PySem.W.mg_none_of X G z9, PySem.W.mg_none_of X G z10⟩
  have hstr : mg "str" = none := PySem.W.mg_none_of X G z11
  have hValueError : mg "ValueError" = none := PySem.W.mg_none_of X G z12
  have F1 := fun_mk (st := sAny) l1 c1 k1
  have F2 := fun_mk (st := sWhole) l2 c2 k2
  have F3 := fun_mk (st := sAt) l3 c3 k3
  have F4 := fun_mk (st := sDrawn) l4 c4 k4
  have F5 := fun_mk (st := sAre) l5 c5 k5
  have F6 := fun_mk (st := sCheckCurve) l6 c6 k6
  have F7 := fun_mk (st := sTrimmed) l7 c7 k7
  have F8 := fun_mk (st := sShSign) l8 c8 k8
  have F9 := fun_mk (st := sShFig) l9 c9 k9
  have F10 := fun_mk (st := sShPow) l10 c10 k10
  have F11 := fun_mk (st := sShown) l11 c11 k11
  have F12 := fun_mk (st := sWholeP) l12 c12 k12
  have F13 := fun_mk (st := sRNum) l13 c13 k13
  have F14 := fun_mk (st := sRPow) l14 c14 k14
  have F15 := fun_mk (st := sTerms) l15 c15 k15
  have F16 := fun_mk (st := sRead) l16 c16 k16
  have F17 := fun_mk (st := sLineOf) l17 c17 k17
  have F18 := fun_mk (st := s_law_are_figures) l18 c18 k18
  have F19 := fun_mk (st := s_law_one_term) l19 c19 k19
  have F20 := fun_mk (st := s_law_read_beside) l20 c20 k20
  have F21 := fun_mk (st := s_law_asked) l21 c21 k21
  have F22 := fun_mk (st := sLaw) l22 c22 k22
  have b1 := F1.binds (ps := ["_law_cell"]) fun _ _ _ _ _ _ us hl => by1 (us := us) hl (fun _ => rfl)
  have b2 := F2.binds (ps := ["_law_found"]) fun _ _ _ _ _ _ us hl => by1 (us := us) hl (fun _ => rfl)
  have b3 := F3.binds (ps := ["_law_script", "_law_k"]) fun _ _ _ _ _ _ us hl => by2 (us := us) hl (fun _ _ => rfl)
  have b4 := F4.binds (ps := ["_law_cells"]) fun _ _ _ _ _ _ us hl => by1 (us := us) hl (fun _ => rfl)
  have b5 := F5.binds (ps := ["_law_found", "_law_due"]) fun _ _ _ _ _ _ us hl => by2 (us := us) hl (fun _ _ => rfl)
  have b6 := F6.binds (ps := ["curve"]) fun _ _ _ _ _ _ us hl => by1 (us := us) hl (fun _ => rfl)
  have b7 := F7.binds (ps := ["numbers"]) fun _ _ _ _ _ _ us hl => by1 (us := us) hl (fun _ => rfl)
  have b8 := F8.binds (ps := ["number", "line"]) fun _ _ _ _ _ _ us hl => by2 (us := us) hl (fun _ _ => rfl)
  have b9 := F9.binds (ps := ["number", "power"]) fun _ _ _ _ _ _ us hl => by2 (us := us) hl (fun _ _ => rfl)
  have b10 := F10.binds (ps := ["power"]) fun _ _ _ _ _ _ us hl => by1 (us := us) hl (fun _ => rfl)
  have b11 := F11.binds (ps := ["curve"]) fun _ _ _ _ _ _ us hl => by1 (us := us) hl (fun _ => rfl)
  have b12 := F12.binds (ps := ["figures"]) fun _ _ _ _ _ _ us hl => by1 (us := us) hl (fun _ => rfl)
  have b13 := F13.binds (ps := ["term"]) fun _ _ _ _ _ _ us hl => by1 (us := us) hl (fun _ => rfl)
  have b14 := F14.binds (ps := ["term"]) fun _ _ _ _ _ _ us hl => by1 (us := us) hl (fun _ => rfl)
  have b15 := F15.binds (ps := ["line"]) fun _ _ _ _ _ _ us hl => by1 (us := us) hl (fun _ => rfl)
  have b16 := F16.binds (ps := ["line"]) fun _ _ _ _ _ _ us hl => by1 (us := us) hl (fun _ => rfl)
  have b17 := F17.binds (ps := ["_law_curve"]) fun _ _ _ _ _ _ us hl => by1 (us := us) hl (fun _ => rfl)
  have b18 := F18.binds (ps := ["_law_text"]) fun _ _ _ _ _ _ us hl => by1 (us := us) hl (fun _ => rfl)
  have b19 := F19.binds (ps := ["_law_text"]) fun _ _ _ _ _ _ us hl => by1 (us := us) hl (fun _ => rfl)
  have b20 := F20.binds (ps := ["_law_line"]) fun _ _ _ _ _ _ us hl => by1 (us := us) hl (fun _ => rfl)
  have b21 := F21.binds (ps := ["_law_script"]) fun _ _ _ _ _ _ us hl => by1 (us := us) hl (fun _ => rfl)
  refine ⟨PySem.W.fnOf "law" "law" (defArgs sLaw) (defBody sLaw) (defScope sLaw) .none kV22 dc22 pm22 an22 cd22 ct22, fun s v => .of_eq rfl, fun base _ _ => ?_⟩
  have A_any : FnAt l.prog w K mg base 1 "_law_any" ["_law_cell"] spAny := ⟨f1, _, ok_any F1, b1, k1, PySem.W.mg_of X G a1⟩
  have A_whole : FnAt l.prog w K mg base 1 "_law_whole" ["_law_found"] spWhole := ⟨f2, _, ok_whole B F2, b2, k2, PySem.W.mg_of X G a2⟩
  have A_at : FnAt l.prog w K mg base 1 "_law_at" ["_law_script", "_law_k"] (spAt K) := ⟨f3, _, ok_at B F3, b3, k3, PySem.W.mg_of X G a3⟩
  have A_drawn : FnAt l.prog w K mg base 2 "_law_drawn_curve" ["_law_cells"] (spDrawn K) := ⟨f4, _, ok_drawn B A_any F4, b4, k4, PySem.W.mg_of X G a4⟩
  have A_are : FnAt l.prog w K mg base 2 "_law_numbers_are" ["_law_found", "_law_due"] (spAre12 K) := ⟨f5, _, ok_are12 B A_whole F5, b5, k5, PySem.W.mg_of X G a5⟩
  have A_cc : FnAt l.prog w K mg base 1 "check_curve" ["curve"] (spCheckCurve K) := ⟨f6, _, ok_cc B F6, b6, k6, PySem.W.mg_of X G a6⟩
  have A_trim : FnAt l.prog w K mg base 1 "trimmed" ["numbers"] (spTrimL K) := ⟨f7, _, ok_trimL B F7, b7, k7, PySem.W.mg_of X G a7⟩
  have A_sgn : FnAt l.prog w K mg base 1 "shown_sign" ["number", "line"] spShSign := ⟨f8, _, ok_shsign F8, b8, k8, PySem.W.mg_of X G a8⟩
  have A_fig : FnAt l.prog w K mg base 1 "shown_figures" ["number", "power"] spShFig12 := ⟨f9, _, ok_shfig12 B hstr F9, b9, k9, PySem.W.mg_of X G a9⟩
  have A_pow : FnAt l.prog w K mg base 1 "shown_power" ["power"] spShPow := ⟨f10, _, ok_shpow hstr F10, b10, k10, PySem.W.mg_of X G a10⟩
  have A_shown : FnAt l.prog w K mg base 2 "shown" ["curve"] (spShown12 K) := ⟨f11, _, ok_shown12 B A_cc A_sgn A_fig A_pow F11, b11, k11, PySem.W.mg_of X G a11⟩
  have C_whole : FnAtC l.prog w K mg base 1 "whole" ["figures"] (spWhole12 NL) := ⟨f12, _, ok_whole12c B hValueError R F12, b12, k12, PySem.W.mg_of X G a12⟩
  have C_rnum : FnAtC l.prog w K mg base 2 "read_number" ["term"] (spRNum12 NL) := ⟨f13, _, ok_rnum12c C_whole F13, b13, k13, PySem.W.mg_of X G a13⟩
  have C_rpow : FnAtC l.prog w K mg base 2 "read_power" ["term"] (spRPow12 NL) := ⟨f14, _, ok_rpow12c h_HP R C_whole F14, b14, k14, PySem.W.mg_of X G a14⟩
  have A_terms : FnAt l.prog w K mg base 1 "terms" ["line"] spTerms12 := ⟨f15, _, ok_terms12 F15, b15, k15, PySem.W.mg_of X G a15⟩
  have C_read : FnAtC l.prog w K mg base 3 "read" ["line"] (spRead12 NL) := ⟨f16, _, ok_read12c h_HP R A_terms C_rnum C_rpow A_trim A_shown F16, b16, k16, PySem.W.mg_of X G a16⟩
  have A_lineof : FnAt l.prog w K mg base 1 "_law_line_of" ["_law_curve"] (spLineOf K) := ⟨f17, _, ok_lineof B hstr F17, b17, k17, PySem.W.mg_of X G a17⟩
  have A_aref : FnAt l.prog w K mg base 1 "_law_are_figures" ["_law_text"] spAreFig := ⟨f18, _, ok_aref12 F18, b18, k18, PySem.W.mg_of X G a18⟩
  have A_one : FnAt l.prog w K mg base 2 "_law_one_term" ["_law_text"] spOneTerm := ⟨f19, _, ok_one12 B A_aref F19, b19, k19, PySem.W.mg_of X G a19⟩
  have A_beside : FnAt l.prog w K mg base 3 "_law_read_beside" ["_law_line"] spBeside := ⟨f20, _, ok_beside12 B A_one F20, b20, k20, PySem.W.mg_of X G a20⟩
  have M_asked : FnAtM l.prog w K mg base 3 "_law_asked" ["_law_script"] (spAsked K) := ⟨f21, _, ok_asked12 B A_at A_drawn A_lineof F21, b21, k21, PySem.W.mg_of X G a21⟩
  exact ok_law12 B hValueError hFE R h1 h2 h3 h4 h5 (exm_of c0b c0c c0t uls) w0 wv w1 w2 w3 w4 w5 M_asked A_beside A_are C_read F22

theorem walk {l : PySem.W.OpenLaw} {q : Program} {loose : List Str} {XP : (Str → Option Value) → Heap → Prop} {YP : World → Heap → Prop} {d : DefRec} {K : Params → PySem.W.Frag} (hn : l.most = some 63) (hdf : d.params.defaults = [])
    (hY : ∀ (w : World) (h : Heap), YP w h → (K w.params).In h)
    (F : ∀ (w : World) (mg : Str → Option Value) (fa : Addr) (h : Heap), (K w.params).In h → h.Ns mainGlobals mg → mg d.name = some (.ref fa) →
      ∃ fd : FuncData, (∀ (s : Shared) (u : Value), BindsTo s fd ⟨[u], []⟩ [("_law_script", u)]) ∧ ∀ base : Heap, (K w.params).In base → base.Ns mainGlobals mg → FnOkLC l.prog w (K w.params) mg base 4 fa fd ["_law_script"] (spLaw (K w.params))) :
    L2.WalkC q loose XP YP l.row.toRowW d [] :=
  L2.walk_ofC (n := 63) (k := 4) (x := "_law_script") (sp := fun w => spLaw (K w.params)) hn (by decide) hdf ⟨rfl, by decide, by decide⟩ hY F fun _ _ a ns hl _ hS => ⟨a, ns, rfl, hS, hl, fun _ => rfl⟩
end K12
namespace Kc
open PySem PySem.W PyProof.Rows
set_option maxRecDepth 100000 in
set_option maxHeartbeats 0 in
theorem held : PySem.Challenge.rw_zerofence_k12_lines_read_or_refused.Holds := by
  w_on; o_law; k_head; (case hw => w_witness2)
  k_fill
  refine K12.walk (l := PySem.Challenge.rw_zerofence_k12_lines_read_or_refused) rfl rfl (fun w h Y => PySem.W.kIn_of Y) ?F
  case F =>
    intro w mg fa h KX G hmg
    refine' K12.all_mk KX G hmg ?a1 ?l1 ?c1 ?k1 ?a2 ?l2 ?c2 ?k2 ?a3 ?l3 ?c3 ?k3 ?a4 ?l4 ?c4 ?k4 ?a5 ?l5 ?c5 ?k5 ?a6 ?l6 ?c6 ?k6 ?a7 ?l7 ?c7 ?k7 ?a8 ?l8 ?c8 ?k8 ?a9 ?l9 ?c9 ?k9 ?a10 ?l10 ?c10 ?k10 ?a11 ?l11 ?c11 ?k11 ?a12 ?l12 ?c12 ?k12 ?a13 ?l13 ?c13 ?k13 ?a14 ?l14 ?c14 ?k14 ?a15 ?l15 ?c15 ?k15 ?a16 ?l16 ?c16 ?k16 ?a17 ?l17 ?c17 ?k17 ?a18 ?l18 ?c18 ?k18 ?a19 ?l19 ?c19 ?k19 ?a20 ?l20 ?c20 ?k20 ?a21 ?l21 ?c21 ?k21 ?a22 ?l22 ?c22 ?k22 ?z1 ?z2 ?z3 ?z4 ?z5 ?z6 ?z7 ?z8 ?z9 ?z10 ?z11 ?z12 ?gHP ?qFE ?qNL ?qNC ?qNN ?qNP ?qNS ?qNF ?c0b ?c0c ?c0t ?hs ?ht ?xl ?ulc ?ulg ?uln ?ulb ?ulf ?ulm ?uls ?w0 ?wv ?w1 ?w2 ?w3 ?w4 ?w5
    (case a1 => k_is)
    (case l1 => k_is)
    (case c1 => k_is)
    (case k1 => k_is)
    (case a2 => k_is)
    (case l2 => k_is)
    (case c2 => k_is)
    (case k2 => k_is)
    (case a3 => k_is)
    (case l3 => k_is)
    (case c3 => k_is)
    (case k3 => k_is)
    (case a4 => k_is)
    (case l4 => k_is)
    (case c4 => k_is)
    (case k4 => k_is)
    (case a5 => k_is)
    (case l5 => k_is)
    (case c5 => k_is)
    (case k5 => k_is)
    (case a6 => k_is)
    (case l6 => k_is)
    (case c6 => k_is)
    (case k6 => k_is)
    (case a7 => k_is)
    (case l7 => k_is)
    (case c7 => k_is)
    (case k7 => k_is)
    (case a8 => k_is)
    (case l8 => k_is)
    (case c8 => k_is)
    (case k8 => k_is)
    (case a9 => k_is)
    (case l9 => k_is)
    (case c9 => k_is)
    (case k9 => k_is)
    (case a10 => k_is)
    (case l10 => k_is)
    (case c10 => k_is)
    (case k10 => k_is)
    (case a11 => k_is)
    (case l11 => k_is)
    (case c11 => k_is)
    (case k11 => k_is)
    (case a12 => k_is)
    (case l12 => k_is)
    (case c12 => k_is)
    (case k12 => k_is)
    (case a13 => k_is)
    (case l13 => k_is)
    (case c13 => k_is)
    (case k13 => k_is)
    (case a14 => k_is)
    (case l14 => k_is)
    (case c14 => k_is)
    (case k14 => k_is)
    (case a15 => k_is)
    (case l15 => k_is)
    (case c15 => k_is)
    (case k15 => k_is)
    (case a16 => k_is)
    (case l16 => k_is)
    (case c16 => k_is)
    (case k16 => k_is)
    (case a17 => k_is)
    (case l17 => k_is)
    (case c17 => k_is)
    (case k17 => k_is)
    (case a18 => k_is)
    (case l18 => k_is)
    (case c18 => k_is)
    (case k18 => k_is)
    (case a19 => k_is)
    (case l19 => k_is)
    (case c19 => k_is)
    (case k19 => k_is)
    (case a20 => k_is)
    (case l20 => k_is)
    (case c20 => k_is)
    (case k20 => k_is)
    (case a21 => k_is)
    (case l21 => k_is)
    (case c21 => k_is)
    (case k21 => k_is)
    (case a22 => k_is)
    (case l22 => k_is)
    (case c22 => k_is)
    (case k22 => k_is)
    (case z1 => k_is)
    (case z2 => k_is)
    (case z3 => k_is)
    (case z4 => k_is)
    (case z5 => k_is)
    (case z6 => k_is)
    (case z7 => k_is)
    (case z8 => k_is)
    (case z9 => k_is)
    (case z10 => k_is)
    (case z11 => k_is)
    (case z12 => k_is)
    (case gHP => k_is)
    (case qFE => k_is)
    (case qNL => k_is)
    (case qNC => k_is)
    (case qNN => k_is)
    (case qNP => k_is)
    (case qNS => k_is)
    (case qNF => k_is)
    (case c0b => k_is)
    (case c0c => k_is)
    (case c0t => k_is)
    (case hs => k_is)
    (case ht => k_is)
    (case xl => k_exc)
    (case ulc => k_is)
    (case ulg => k_is)
    (case uln => k_is)
    (case ulb => k_is)
    (case ulf => k_is)
    (case ulm => k_is)
    (case uls => k_is)
    (case w0 => kit_is)
    (case wv => kit_is)
    (case w1 => kit_is)
    (case w2 => kit_is)
    (case w3 => kit_is)
    (case w4 => kit_is)
    (case w5 => kit_is)
end Kc
theorem PySem.Challenge.cw_zerofence_k12_lines_read_or_refused_holds : PySem.Challenge.rw_zerofence_k12_lines_read_or_refused.Holds := by
  exact Kc.held
