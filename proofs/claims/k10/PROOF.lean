import PyProof.Rows.All
import KE.KIsAll
import PyProof.ExcAttrAll.ValueError
import KE.KTryMore
import KE.KListMore
import PyProof.StrLawsReplace
import PyProof.StrLawsTight
import PyProof.StrLawsIdx
import PyProof.StrBlockI
import PyProof.Rows.StrNews2
import KE.RegKIsAll
import Wide.All
import OpenK.AllK
import Wide.FinOn
import Lean
import PyProof.EqAt
import PyProof.EqKinds
import PyProof.TupleCall
import PyProof.NeKinds
import PyProof.EnumFor
import PyProof.EnumMake
import PyProof.CompFree
import PyProof.CompUse
import PyProof.CompMap
import KE.KMinKey
import PySem.Challenge.RW_zerofence_k10_refused
set_option Elab.async false
set_option linter.all false
set_option maxRecDepth 100000
set_option maxHeartbeats 4000000
local macro_rules | `(tactic| omega) => `(tactic| lia)
noncomputable def PySem.W.Fast.tw17927237268485792635 : Nat := 0
noncomputable def PySem.W.Fast.tw10123785768446494394 : Nat := 0
noncomputable def PySem.W.Fast.tw8310090820140622084 : Nat := 0
noncomputable def PySem.W.Fast.tw16377868989989765622 : Nat := 0
noncomputable def PySem.W.Fast.tw2488890032975368863 : Nat := 0
noncomputable def PySem.W.Fast.tw3515072030764604285 : Nat := 0
noncomputable def PySem.W.Fast.tw10035222639962270192 : Nat := 0
noncomputable def PySem.W.Fast.tw1535259377415358989 : Nat := 0
noncomputable def PySem.W.Fast.tw6766874344212779265 : Nat := 0
noncomputable def PySem.W.Fast.tw7757326008218818537 : Nat := 0
noncomputable def PySem.W.Fast.tw10951827734393399618 : Nat := 0
noncomputable def PySem.W.Fast.tw4439982553357312320 : Nat := 0
noncomputable def PySem.W.Fast.tw8961535767341884342 : Nat := 0
noncomputable def PySem.W.Fast.tw13881872137223156562 : Nat := 0
noncomputable def PySem.W.Fast.tw18295420842909630691 : Nat := 0
namespace Zf
noncomputable def Bd (n : Nat) (x : Int) : Prop := x.natAbs < 2 ^ n
theorem Bd.mono {m n : Nat} {x : Int} (h : Bd m x) (l : m <= n) : Bd n x := Nat.lt_of_lt_of_le h (Nat.pow_le_pow_right (by decide) l)
theorem Bd.mul {m n : Nat} {x y : Int} (h : Bd m x) (k : Bd n y) : Bd (m + n) (x * y) := by
  unfold Bd at *
  rw [Int.natAbs_mul, Nat.pow_add]
  exact Nat.mul_lt_mul'' h k
theorem Bd.add {n : Nat} {x y : Int} (h : Bd n x) (k : Bd n y) : Bd (n + 1) (x + y) := by
  unfold Bd at *
  have := Int.natAbs_add_le x y
  rw [Nat.pow_succ]
  omega
theorem Bd.sub {n : Nat} {x y : Int} (h : Bd n x) (k : Bd n y) : Bd (n + 1) (x - y) := by
  unfold Bd at *
  have := Int.natAbs_sub_le x y
  rw [Nat.pow_succ]
  omega
theorem Bd.neg {n : Nat} {x : Int} (h : Bd n x) : Bd n (-x) := by
  unfold Bd at *
  rwa [Int.natAbs_neg]
theorem Bd.zero (n : Nat) : Bd n 0 := Nat.two_pow_pos n
theorem Bd.pow {n : Nat} {x : Int} (h : Bd n x) : ∀ k : Nat, Bd (n * k + 1) (x ^ k)
  | 0 => by unfold Bd; rw [Int.pow_zero]; show 1 < 2 ^ (n * 0 + 1); rw [Nat.mul_zero]; decide
  | k + 1 => by
    rw [Int.pow_succ]
    exact (Bd.mul (Bd.pow h k) h).mono (by rw [Nat.mul_succ]; omega)
theorem Bd.of_le {n : Nat} {x : Int} (m : Nat) (h : x.natAbs <= m) (k : m < 2 ^ n) : Bd n x := Nat.lt_of_le_of_lt h k
noncomputable def sumTo (f : Nat -> Int) : Nat -> Int
  | 0 => 0
  | n + 1 => sumTo f n + f n
theorem dD (f : Nat -> Int) (n : Nat) : sumTo f (n + 1) = sumTo f n + f n := rfl
theorem cD {f g : Nat -> Int} : ∀ {n : Nat}, (∀ k, k < n -> f k = g k) -> sumTo f n = sumTo g n
  | 0, _ => rfl
  | n + 1, h => by
    unfold sumTo
    rw [cD fun k hk => h k (Nat.lt_succ_of_lt hk), h n (Nat.lt_succ_self n)]
theorem jc (f : Nat -> Int) : ∀ n : Nat, sumTo f (n + 1) = f 0 + sumTo (fun k => f (k + 1)) n
  | 0 => by simp [sumTo]
  | n + 1 => by
    have := jc f n
    rw [sumTo, this]
    show _ = f 0 + (sumTo (fun k => f (k + 1)) n + f (n + 1))
    rw [Int.add_assoc]
theorem lG (f g : Nat -> Int) : ∀ n : Nat, sumTo (fun k => f k + g k) n = sumTo f n + sumTo g n
  | 0 => rfl
  | n + 1 => by
    unfold sumTo
    rw [lG f g n]
    omega
theorem lE (c : Int) (f : Nat -> Int) : ∀ n : Nat, sumTo (fun k => c * f k) n = c * sumTo f n
  | 0 => by simp [sumTo]
  | n + 1 => by
    unfold sumTo
    rw [lE c f n, Int.mul_add]
theorem dB {f : Nat -> Int} : ∀ {n : Nat}, (∀ k, k < n -> f k = 0) -> sumTo f n = 0
  | 0, _ => rfl
  | n + 1, h => by
    unfold sumTo
    rw [dB fun k hk => h k (Nat.lt_succ_of_lt hk), h n (Nat.lt_succ_self n)]
    rfl
theorem lF {f : Nat -> Int} {m n : Nat} (hl : m <= n) (h : ∀ k, m <= k -> k < n -> f k = 0) : sumTo f n = sumTo f m := by
  induction n with
  | zero => have : m = 0 := by omega
            rw [this]
  | succ n ih =>
    by_cases e : m = n + 1
    · rw [e]
    · rw [dD, ih (by omega) fun k h1 h2 => h k h1 (by omega), h n (by omega) (by omega), Int.add_zero]
noncomputable def hv (p q : Int) : List Int -> Int
  | [] => 0
  | c :: cs => hv p q cs * p + c * q ^ cs.length
theorem Jc (p q c : Int) (cs : List Int) : hv p q (c :: cs) = hv p q cs * p + c * q ^ cs.length := rfl
theorem J7 {p q : Int} {B : Nat} (hp : Bd B p) (hq : Bd B q) : ∀ {c : List Int}, (∀ x ∈ c, Bd B x) -> Bd ((B + 3) * c.length + 1) (hv p q c)
  | [], _ => Bd.zero _
  | c :: cs, h => by
    have ih := J7 hp hq (c := cs) fun x hx => h x (List.mem_cons_of_mem _ hx)
    have hc := h c List.mem_cons_self
    unfold hv
    have a1 := ih.mul hp
    have a2 := hc.mul (hq.pow cs.length)
    rw [List.length_cons]
    have : (B + 3) * (cs.length + 1) + 1 = ((B + 3) * cs.length + 1 + B + 2) + 1 := by rw [Nat.mul_succ]; omega
    rw [this]
    refine Bd.add (a1.mono (by omega)) (a2.mono ?_)
    have : B * cs.length <= (B + 3) * cs.length := Nat.mul_le_mul_right _ (by omega)
    omega
theorem Jb (p q : Int) (c : List Int) {i : Nat} (h : i < c.length) : hv p q (c.drop i) = hv p q (c.drop (i + 1)) * p + c.getD i 0 * q ^ (c.length - 1 - i) := by
  rw [List.drop_eq_getElem_cons h, hv, List.length_drop]
  have : c.length - (i + 1) = c.length - 1 - i := by omega
  rw [this, List.getD_eq_getElem?_getD, List.getElem?_eq_getElem h]
  rfl
noncomputable def sgn (x : Int) : Int := if x > 0 then 1 else if x < 0 then -1 else 0
end Zf
namespace Zf
theorem Hr {h l : Int} (h0 : 0 <= h) (l0 : 0 < l) : Int.gcd l (h % l) = Int.gcd h l := by
  obtain ⟨a, rfl⟩ : ∃ a : Nat, h = a := ⟨h.toNat, by omega⟩
  obtain ⟨b, rfl⟩ : ∃ b : Nat, l = b := ⟨l.toNat, by omega⟩
  have e : ((a : Int) % (b : Int)) = ((a % b : Nat) : Int) := (Int.natCast_emod a b).symm
  rw [e]
  show Nat.gcd b (a % b) = Nat.gcd a b
  rw [Nat.gcd_comm a b, Nat.gcd_comm b, <- Nat.gcd_rec]
noncomputable def ct (c : List Int) : Int := c.foldl (fun d x => ((Int.gcd d x : Nat) : Int)) 0
theorem iB (c : List Int) (x : Int) : ct (c ++ [x]) = ((Int.gcd (ct c) x : Nat) : Int) := by
  unfold ct
  rw [List.foldl_append]
  rfl
theorem Jo (c : List Int) {i : Nat} (h : i < c.length) : ct (c.take (i + 1)) = ((Int.gcd (ct (c.take i)) (c.getD i 0) : Nat) : Int) := by
  rw [List.take_succ_eq_append_getElem h, iB]
  rw [List.getD_eq_getElem?_getD, List.getElem?_eq_getElem h]
  rfl
theorem snoc_ind {p : List Int -> Prop} (h0 : p []) (h1 : ∀ c x, p c -> p (c ++ [x])) : ∀ c, p c := by
  intro c
  have : p c.reverse.reverse := by
    generalize c.reverse = d
    induction d with
    | nil => exact h0
    | cons x d ih => rw [List.reverse_cons]; exact h1 _ _ ih
  rwa [List.reverse_reverse] at this
theorem pq (c : List Int) : 0 <= ct c := by
  refine snoc_ind (p := fun c => 0 <= ct c) (by decide) (fun c x _ => ?_) c
  show 0 <= ct (c ++ [x])
  rw [iB]
  exact Int.natCast_nonneg _
theorem iT (c : List Int) : ∀ x ∈ c, ct c ∣ x := by
  refine snoc_ind (p := fun c => ∀ x ∈ c, ct c ∣ x) (by simp) (fun c y ih => ?_) c
  intro x hx
  rw [iB]
  rcases List.mem_append.mp hx with hx | hx
  · exact Int.dvd_trans (Int.gcd_dvd_left ..) (ih x hx)
  · rw [List.mem_singleton.mp hx]
    exact Int.gcd_dvd_right ..
theorem u9 {k : Int} : ∀ (c : List Int), (∀ x ∈ c, k ∣ x) -> k ∣ ct c := by
  intro c
  refine snoc_ind (p := fun c => (∀ x ∈ c, k ∣ x) -> k ∣ ct c) (fun _ => Int.dvd_zero _) (fun c y ih h => ?_) c
  show k ∣ ct (c ++ [y])
  rw [iB]
  exact Int.dvd_coe_gcd (ih fun x hx => h x (List.mem_append_left _ hx)) (h y (by simp))
theorem Ge {c : List Int} {x : Int} (hx : x ∈ c) (h0 : x ≠ 0) : 0 < ct c := by
  have h1 := pq c
  have h2 := iT c x hx
  rcases Int.lt_or_eq_of_le h1 with h | h
  · exact h
  · rw [<- h] at h2
    exact absurd (Int.zero_dvd.mp h2) h0
noncomputable def aF (c : List Int) : List Int := c.map (· / ct c)
noncomputable def tmc (c o : List Int) (t a : Nat) : Int := if a <= t then c.getD a 0 * o.getD (t - a) 0 else 0
noncomputable def mulL (c o : List Int) : List Int := (List.range (c.length + o.length - 1)).map fun t => sumTo (tmc c o t) c.length
theorem bZ {c : List Int} {i : Nat} (h : c.length <= i) : c.getD i 0 = 0 := by
  rw [List.getD_eq_getElem?_getD, List.getElem?_eq_none h]
  rfl
theorem Ie (c o : List Int) (t n : Nat) (h : c.length <= n) (h2 : t + 1 <= n) : sumTo (tmc c o t) c.length = sumTo (tmc c o t) (t + 1) := by
  have e1 : sumTo (tmc c o t) n = sumTo (tmc c o t) c.length := lF h fun k h1 _ => by
    unfold tmc
    rw [bZ h1]
    split <;> simp
  have e2 : sumTo (tmc c o t) n = sumTo (tmc c o t) (t + 1) := lF h2 fun k h1 _ => by
    unfold tmc
    rw [if_neg (by omega)]
  rw [<- e1, e2]
theorem tR (f : Nat -> Int) : ∀ n : Nat, sumTo f n = sumTo (fun k => f (n - 1 - k)) n
  | 0 => rfl
  | n + 1 => by
    rw [dD, tR f n, jc]
    have : sumTo (fun k => f (n + 1 - 1 - (k + 1))) n = sumTo (fun k => f (n - 1 - k)) n := cD fun k hk => by
      congr 1
      omega
    rw [this, Int.add_comm]
    rfl
theorem pK (c o : List Int) : (mulL c o).length = c.length + o.length - 1 := by
  unfold mulL
  rw [List.length_map, List.length_range]
noncomputable def part (c o : List Int) (i j t : Nat) : Int := sumTo (tmc c o t) i + (if i <= t /\ t - i < j then c.getD i 0 * o.getD (t - i) 0 else 0)
theorem o8 (c o : List Int) (i t : Nat) : part c o i 0 t = sumTo (tmc c o t) i := by
  unfold part
  rw [if_neg (by omega), Int.add_zero]
theorem CV (c o : List Int) (i t : Nat) : part c o i o.length t = sumTo (tmc c o t) (i + 1) := by
  unfold part
  rw [dD]
  congr 1
  unfold tmc
  by_cases h : i <= t
  · rw [if_pos h]
    by_cases h2 : t - i < o.length
    · rw [if_pos ⟨h, h2⟩]
    · rw [if_neg (fun z => h2 z.2), bZ (c := o) (by omega), Int.mul_zero]
  · rw [if_neg h, if_neg (fun z => h z.1)]
theorem CT (c o : List Int) (i j n : Nat) (h : i + j < n) :
    ((List.range n).map (part c o i j)).set (i + j) (part c o i j (i + j) + c.getD i 0 * o.getD j 0) = (List.range n).map (part c o i (j + 1)) := by
  refine List.ext_getElem (by simp) fun t h1 h2 => ?_
  rw [List.getElem_set]
  simp only [List.getElem_map, List.getElem_range]
  unfold part
  by_cases e : i + j = t
  · subst e
    rw [if_pos rfl, if_neg (by omega), if_pos (by omega), Int.add_zero]
    congr 2
    have : i + j - i = j := by omega
    rw [this]
  · rw [if_neg e]
    congr 1
    by_cases hc : i <= t /\ t - i < j
    · rw [if_pos hc, if_pos (by omega)]
    · rw [if_neg hc, if_neg (by omega)]
noncomputable def aM (c : List Int) : List Int := (List.range (c.length - 1)).map fun (i : Nat) => (1 + (i : Int)) * c.getD (i + 1) 0
end Zf
namespace Zf
noncomputable def PS := Nat -> Int
namespace PS
@[ext] theorem ext {f g : PS} (h : ∀ t, f t = g t) : f = g := funext h
noncomputable def conv (f g : PS) : PS := fun t => sumTo (fun a => f a * g (t - a)) (t + 1)
noncomputable def C (k : Int) : PS := fun t => if t = 0 then k else 0
noncomputable instance : Add PS := ⟨fun f g t => f t + g t⟩
noncomputable instance : Neg PS := ⟨fun f t => - f t⟩
noncomputable instance : Sub PS := ⟨fun f g t => f t - g t⟩
noncomputable instance : Mul PS := ⟨conv⟩
noncomputable instance : NatCast PS := ⟨fun n => C n⟩
noncomputable instance : IntCast PS := ⟨fun n => C n⟩
noncomputable instance (n : Nat) : OfNat PS n := ⟨C n⟩
noncomputable instance : SMul Nat PS := ⟨fun n f => (n : PS) * f⟩
noncomputable instance : SMul Int PS := ⟨fun n f => (n : PS) * f⟩
noncomputable def pw (f : PS) : Nat -> PS
  | 0 => 1
  | n + 1 => pw f n * f
noncomputable instance : HPow PS Nat PS := ⟨pw⟩
theorem fC (f g : PS) (t : Nat) : (f + g) t = f t + g t := rfl
theorem yS (f g : PS) (t : Nat) : (f - g) t = f t - g t := rfl
theorem za (f : PS) (t : Nat) : (-f) t = - f t := rfl
theorem cZ (f g : PS) (t : Nat) : (f * g) t = sumTo (fun a => f a * g (t - a)) (t + 1) := rfl
theorem G8 (n t : Nat) : (OfNat.ofNat n : PS) t = if t = 0 then (n : Int) else 0 := rfl
theorem dh (t : Nat) : (0 : PS) t = 0 := by
  rw [G8]
  split <;> rfl
theorem dW (k : Int) (f : PS) (t : Nat) : (C k * f) t = k * f t := by
  rw [cZ, jc, dB]
  · show (if (0 : Nat) = 0 then k else 0) * f (t - 0) + 0 = k * f t
    rw [if_pos rfl, Nat.sub_zero, Int.add_zero]
  · intro i _
    show (if i + 1 = 0 then k else 0) * _ = 0
    rw [if_neg (by omega), Int.zero_mul]
theorem mul_comm (f g : PS) : f * g = g * f := by
  ext t
  rw [cZ, cZ, tR]
  refine cD fun k hk => ?_
  have e1 : t + 1 - 1 - k = t - k := by omega
  have e2 : t - (t - k) = k := by omega
  rw [e1, e2, Int.mul_comm]
theorem mul_add (f g h : PS) : f * (g + h) = f * g + f * h := by
  ext t
  rw [fC, cZ, cZ, cZ, <- lG]
  exact cD fun k _ => Int.mul_add ..
theorem tri (G : Nat -> Nat -> Int) : ∀ n : Nat, sumTo (fun a => sumTo (fun b => G a b) (a + 1)) n = sumTo (fun b => sumTo (fun c => G (b + c) b) (n - b)) n
  | 0 => rfl
  | n + 1 => by
    rw [dD, tri G n]
    have e : sumTo (fun b => sumTo (fun c => G (b + c) b) (n + 1 - b)) (n + 1) = sumTo (fun b => sumTo (fun c => G (b + c) b) (n - b) + G n b) (n + 1) := cD fun b hb => by
      have e1 : n + 1 - b = (n - b) + 1 := by omega
      rw [e1, dD]
      have e2 : b + (n - b) = n := by omega
      rw [e2]
    rw [e, lG, dD (fun b => sumTo (fun c => G (b + c) b) (n - b)) n, Nat.sub_self]
    rw [show (sumTo (fun c => G (n + c) n) 0) = 0 from rfl, Int.add_zero]
theorem mul_assoc (f g h : PS) : f * g * h = f * (g * h) := by
  ext t
  rw [cZ, cZ]
  have e1 : sumTo (fun a => (f * g) a * h (t - a)) (t + 1) = sumTo (fun a => sumTo (fun b => f b * g (a - b) * h (t - a)) (a + 1)) (t + 1) := cD fun a _ => by
    rw [cZ, Int.mul_comm, <- lE]
    exact cD fun b _ => Int.mul_comm ..
  have e2 : sumTo (fun b => f b * (g * h) (t - b)) (t + 1) = sumTo (fun b => sumTo (fun c => f b * g (b + c - b) * h (t - (b + c))) (t + 1 - b)) (t + 1) := cD fun b hb => by
    rw [cZ, <- lE]
    have e : t + 1 - b = t - b + 1 := by omega
    rw [e]
    refine cD fun c hc => ?_
    have e3 : b + c - b = c := by omega
    have e4 : t - (b + c) = t - b - c := by omega
    rw [e3, e4, Int.mul_assoc]
  rw [e1, e2]
  exact tri (fun a b => f b * g (a - b) * h (t - a)) (t + 1)
theorem Ey (a b : Int) : C (a + b) = C a + C b := by
  ext t
  show (if t = 0 then a + b else 0) = (if t = 0 then a else 0) + (if t = 0 then b else 0)
  split <;> rfl
theorem Ae (a : Int) : C (-a) = - C a := by
  ext t
  show (if t = 0 then -a else 0) = -(if t = 0 then a else 0)
  split <;> rfl
theorem CC (a b : Int) : C a * C b = C (a * b) := by
  ext t
  rw [dW]
  show a * (if t = 0 then b else 0) = (if t = 0 then a * b else 0)
  split
  · rfl
  · exact Int.mul_zero a
noncomputable instance : Lean.Grind.CommRing PS where
  add_zero f := by ext t; rw [fC, dh, Int.add_zero]
  add_comm f g := by ext t; rw [fC, fC, Int.add_comm]
  add_assoc f g h := by ext t; simp only [fC]; omega
  mul_assoc := mul_assoc
  mul_one f := by ext t; rw [mul_comm]; exact (dW 1 f t).trans (Int.one_mul _)
  left_distrib := mul_add
  zero_mul f := by ext t; rw [dh]; exact (dW 0 f t).trans (Int.zero_mul _)
  mul_comm := mul_comm
  one_mul f := by ext t; exact (dW 1 f t).trans (Int.one_mul _)
  right_distrib f g h := by rw [mul_comm, mul_add, mul_comm h, mul_comm h]
  mul_zero f := by ext t; rw [mul_comm, dh]; exact (dW 0 f t).trans (Int.zero_mul _)
  pow_zero f := rfl
  pow_succ f n := rfl
  ofNat_succ n := by
    show C ((n + 1 : Nat) : Int) = C (n : Int) + C 1
    rw [<- Ey]
    rfl
  ofNat_eq_natCast n := rfl
  nsmul_eq_natCast_mul n f := rfl
  neg_add_cancel f := by ext t; rw [fC, za, dh]; omega
  sub_eq_add_neg f g := by ext t; rw [fC, za, yS]; omega
  neg_zsmul n f := by
    show C (-n) * f = -(C n * f)
    ext t
    rw [dW, za, dW, Int.neg_mul]
  zsmul_natCast_eq_nsmul n f := rfl
  intCast_ofNat n := rfl
  intCast_neg n := Ae n
example (f g : PS) : (f + g) * (f - g) = f * f - g * g := by grind
end PS
end Zf
namespace Zf
open PS
noncomputable def co (c : List Int) : PS := fun t => c.getD t 0
theorem mW (c : List Int) (t : Nat) : co c t = c.getD t 0 := rfl
theorem jU {c : List Int} {t : Nat} (h : c.length <= t) : co c t = 0 := bZ h
theorem Gf (c o : List Int) : co (mulL c o) = co c * co o := by
  ext t
  rw [cZ]
  have e : sumTo (fun a => co c a * co o (t - a)) (t + 1) = sumTo (tmc c o t) c.length := by
    rw [Ie c o t (c.length + t + 1) (by omega) (by omega)]
    refine cD fun a ha => ?_
    unfold tmc
    rw [if_pos (by omega)]
    rfl
  rw [e]
  unfold co mulL
  by_cases h : t < c.length + o.length - 1
  · rw [List.getD_eq_getElem?_getD, List.getElem?_map, List.getElem?_range h]
    rfl
  · rw [List.getD_eq_getElem?_getD, List.getElem?_eq_none (by simp; omega)]
    show (0 : Int) = _
    rw [dB]
    intro a ha
    unfold tmc
    split
    · rw [bZ (c := o) (by omega), Int.mul_zero]
    · rfl
noncomputable def bI (c : List Int) : Prop := c ≠ [] -> c.getD (c.length - 1) 0 ≠ 0
theorem Gg {c o : List Int} (hc : bI c) (ho : bI o) (h : co c = co o) : c = o := by
  have key : ∀ {c o : List Int}, bI c -> co c = co o -> c.length <= o.length := by
    intro c o hc h
    rcases Nat.lt_or_ge o.length c.length with hl | hl
    · have hne : c ≠ [] := fun z => by rw [z] at hl; exact absurd hl (by simp)
      have := congrFun h (c.length - 1)
      rw [jU (c := o) (by omega)] at this
      exact absurd this (hc hne)
    · exact hl
  have hl : c.length = o.length := Nat.le_antisymm (key hc h) (key ho h.symm)
  refine List.ext_getElem hl fun i h1 h2 => ?_
  have := congrFun h i
  unfold co at this
  simpa [List.getD_eq_getElem?_getD, h1, h2] using this
noncomputable def Dg (n : Nat) (f : PS) : Prop := ∀ t, n <= t -> f t = 0
theorem Dg.mono {m n : Nat} {f : PS} (h : Dg m f) (l : m <= n) : Dg n f := fun t ht => h t (by omega)
theorem Dg.co (c : List Int) : Dg c.length (co c) := fun _ h => jU h
theorem Dg.add {n : Nat} {f g : PS} (h : Dg n f) (k : Dg n g) : Dg n (f + g) := fun t ht => by rw [fC, h t ht, k t ht]; rfl
theorem Dg.sub {n : Nat} {f g : PS} (h : Dg n f) (k : Dg n g) : Dg n (f - g) := fun t ht => by rw [yS, h t ht, k t ht]; rfl
theorem Dg.smul {n : Nat} {f : PS} (k : Int) (h : Dg n f) : Dg n (C k * f) := fun t ht => by rw [dW, h t ht, Int.mul_zero]
theorem Dg.C (k : Int) : Dg 1 (C k) := fun t ht => by
  show (if t = 0 then k else 0) = 0
  rw [if_neg (by omega)]
theorem Dg.mul {m n : Nat} {f g : PS} (h : Dg m f) (k : Dg n g) : Dg (m + n) (f * g) := fun t ht => by
  rw [cZ]
  refine dB fun a ha => ?_
  by_cases hm : m <= a
  · rw [h a hm, Int.zero_mul]
  · rw [k (t - a) (by omega), Int.mul_zero]
noncomputable def xp (k : Nat) : PS := fun t => if t = k then 1 else 0
theorem Dg.xp (k : Nat) : Dg (k + 1) (xp k) := fun t ht => by
  show (if t = k then (1 : Int) else 0) = 0
  rw [if_neg (by omega)]
theorem uJ (k : Nat) (f : PS) (t : Nat) : (xp k * f) t = if k <= t then f (t - k) else 0 := by
  rw [cZ]
  by_cases h : k <= t
  · rw [if_pos h]
    have e1 : sumTo (fun a => xp k a * f (t - a)) (t + 1) = sumTo (fun a => xp k a * f (t - a)) (k + 1) := lF (by omega) fun a h1 _ => by
      show (if a = k then (1 : Int) else 0) * _ = 0
      rw [if_neg (by omega), Int.zero_mul]
    rw [e1, dD, dB]
    · show 0 + (if k = k then (1 : Int) else 0) * _ = _
      rw [if_pos rfl, Int.zero_add, Int.one_mul]
    · intro a ha
      show (if a = k then (1 : Int) else 0) * _ = 0
      rw [if_neg (by omega), Int.zero_mul]
  · rw [if_neg h]
    refine dB fun a ha => ?_
    show (if a = k then (1 : Int) else 0) * _ = 0
    rw [if_neg (by omega), Int.zero_mul]
theorem gP {m n : Nat} {f g : PS} (h : Dg (m + 1) f) (k : Dg (n + 1) g) : (f * g) (m + n) = f m * g n := by
  rw [cZ]
  have e1 : sumTo (fun a => f a * g (m + n - a)) (m + n + 1) = sumTo (fun a => f a * g (m + n - a)) (m + 1) := lF (by omega) fun a h1 _ => by
    rw [h a (by omega), Int.zero_mul]
  rw [e1, dD, dB]
  · rw [Int.zero_add, show m + n - m = n by omega]
  · intro a ha
    rw [k (m + n - a) (by omega), Int.mul_zero]
theorem jP {n : Nat} {f : PS} (h : Dg n f) (hf : f ≠ 0) : ∃ m, Dg (m + 1) f /\ f m ≠ 0 := by
  induction n with
  | zero =>
    refine absurd ?_ hf
    ext t
    rw [h t (Nat.zero_le t), dh]
  | succ n ih =>
    by_cases e : f n = 0
    · refine ih fun t ht => ?_
      by_cases ht' : t = n
      · rw [ht', e]
      · exact h t (by omega)
    · exact ⟨n, h, e⟩
theorem LK {m n : Nat} {f g : PS} (h : Dg m f) (k : Dg n g) (hf : f ≠ 0) (hg : g ≠ 0) : f * g ≠ 0 := by
  obtain ⟨a, ha, fa⟩ := jP h hf
  obtain ⟨b, hb, gb⟩ := jP k hg
  intro z
  have := gP ha hb
  rw [z, dh] at this
  rcases Int.mul_eq_zero.mp this.symm with q | q
  · exact fa q
  · exact gb q
theorem Cy {d n : Nat} {q g : PS} (hq : Dg d q) (hg : Dg (n + 1) g) (hn : g n ≠ 0) (hs : Dg n (q * g)) : q = 0 := by
  apply Classical.byContradiction
  intro hq0
  obtain ⟨a, ha, qa⟩ := jP hq hq0
  have := gP ha hg
  rw [hs (a + n) (by omega)] at this
  rcases Int.mul_eq_zero.mp this.symm with z | z
  · exact qa z
  · exact hn z
theorem plain_at (c : List Int) (i : Nat) : (aF c).getD i 0 = c.getD i 0 / ct c := by
  unfold aF
  by_cases h : i < c.length
  · simp [List.getD_eq_getElem?_getD, h]
  · rw [bZ (by simp; omega), bZ (by omega), Int.zero_ediv]
theorem bG (c : List Int) : (aF c).length = c.length := by simp [aF]
theorem gY {k : Int} {c : List Int} (h : ∀ x ∈ c, k ∣ x) (i : Nat) : k ∣ c.getD i 0 := by
  by_cases hi : i < c.length
  · refine h _ ?_
    rw [List.getD_eq_getElem?_getD, List.getElem?_eq_getElem hi]
    exact List.getElem_mem hi
  · rw [bZ (by omega)]; exact Int.dvd_zero _
theorem d9 (c : List Int) : C (ct c) * co (aF c) = co c := by
  ext t
  rw [dW, mW, plain_at]
  exact Int.mul_ediv_cancel' (gY (iT c) t)
theorem cL {c : List Int} (h : bI c) (hne : c ≠ []) : 0 < ct c := by
  have hl : c.length - 1 < c.length := by have := List.length_pos_iff.mpr hne; omega
  refine Ge (x := c.getD (c.length - 1) 0) ?_ (h hne)
  rw [List.getD_eq_getElem?_getD, List.getElem?_eq_getElem hl]
  exact List.getElem_mem hl
theorem eV {c : List Int} (h : bI c) : bI (aF c) := by
  intro hne
  have hc : c ≠ [] := fun z => hne (by rw [z]; rfl)
  rw [bG, plain_at]
  intro z
  have h1 := Int.mul_ediv_cancel' (gY (iT c) (c.length - 1))
  rw [z, Int.mul_zero] at h1
  exact h hc h1.symm
theorem Gy {a b : Int} {r s : List Int} (ha : 0 < a) (hb : 0 < b) (hr : bI r) (hs : bI s) (h : C b * co r = C a * co s) : aF r = aF s := by
  have hat : ∀ t, b * r.getD t 0 = a * s.getD t 0 := fun t => by
    have := congrFun h t
    rw [dW, dW] at this
    exact this
  have hl : r.length = s.length := by
    have key : ∀ {r s : List Int} {a b : Int}, 0 < b -> bI r -> (∀ t, b * r.getD t 0 = a * s.getD t 0) -> r.length <= s.length := by
      intro r s a b hb hr hat
      rcases Nat.lt_or_ge s.length r.length with hl | hl
      · have hne : r ≠ [] := fun z => by rw [z] at hl; exact absurd hl (by simp)
        have := hat (r.length - 1)
        rw [bZ (c := s) (by omega), Int.mul_zero] at this
        rcases Int.mul_eq_zero.mp this with z | z
        · omega
        · exact absurd z (hr hne)
      · exact hl
    exact Nat.le_antisymm (key hb hr hat) (key ha hs fun t => (hat t).symm)
  by_cases hne : r = []
  · subst hne
    have : s = [] := List.eq_nil_of_length_eq_zero (by rw [<- hl]; rfl)
    rw [this]
  have hne2 : s ≠ [] := fun z => hne (List.eq_nil_of_length_eq_zero (by rw [hl, z]; rfl))
  have c1 := cL hr hne
  have c2 := cL hs hne2
  have key2 : ∀ {r s : List Int} {a b : Int}, 0 < a -> (∀ t, b * r.getD t 0 = a * s.getD t 0) -> r.length = s.length -> a * ct s ∣ b * ct r \/ True := fun _ _ _ => .inr trivial
  have dv : ∀ {r s : List Int} {a b : Int}, 0 < a -> 0 < b -> (∀ t, b * r.getD t 0 = a * s.getD t 0) -> 0 < ct s -> b * ct r ∣ a * ct s := by
    intro r s a b ha hb hat hc
    have h1 : ∀ t, b * ct r ∣ a * s.getD t 0 := fun t => by
      rw [<- hat t]
      exact Int.mul_dvd_mul_left _ (gY (iT r) t)
    have h2 : ct (s.map (a * ·)) = a * ct s := by
      have nn : ∀ s : List Int, ct (s.map (a * ·)) = a * ct s := by
        intro s
        refine snoc_ind (p := fun s => ct (s.map (a * ·)) = a * ct s) ?_ (fun c x ih => ?_) s
        · show (0 : Int) = a * 0
          rw [Int.mul_zero]
        · show ct ((c ++ [x]).map (a * ·)) = a * ct (c ++ [x])
          rw [List.map_append, List.map_singleton, iB, iB, ih, Int.gcd_mul_left]
          rw [Int.natCast_mul, Int.natAbs_of_nonneg (by omega)]
      exact nn s
    rw [<- h2]
    refine u9 _ fun x hx => ?_
    obtain ⟨y, hy, rfl⟩ := List.mem_map.mp hx
    obtain ⟨i, hi, rfl⟩ := List.mem_iff_getElem.mp hy
    have := h1 i
    simpa [List.getD_eq_getElem?_getD, hi] using this
  have d1 := dv ha hb hat c2
  have d2 := dv hb ha (fun t => (hat t).symm) c1
  have e : b * ct r = a * ct s := Int.dvd_antisymm (by have := Int.mul_pos hb c1; omega) (by have := Int.mul_pos ha c2; omega) d1 d2
  refine List.ext_getElem (by rw [bG, bG, hl]) fun i h1 h2 => ?_
  have g1 : (aF r)[i] = (aF r).getD i 0 := by simp [List.getD_eq_getElem?_getD, h1]
  have g2 : (aF s)[i] = (aF s).getD i 0 := by simp [List.getD_eq_getElem?_getD, h2]
  rw [g1, g2, plain_at, plain_at]
  have x1 := Int.mul_ediv_cancel' (gY (iT r) i)
  have x2 := Int.mul_ediv_cancel' (gY (iT s) i)
  have x3 := hat i
  rw [<- x1, <- x2, <- Int.mul_assoc, <- Int.mul_assoc, e] at x3
  exact Int.eq_of_mul_eq_mul_left (by have := Int.mul_pos ha c2; omega) x3
noncomputable def Left (f g r : List Int) : Prop := bI r /\ r.length < g.length /\ ∃ (a : Int) (d : Nat) (q : PS), 0 < a /\ Dg d q /\ C a * co f = q * co g + co r
end Zf
namespace Zf
open PS
noncomputable def fW (num o : List Int) (k : Int) (s j : Nat) : List Int := (List.range num.length).map fun t => num.getD t 0 - (if s <= t /\ t - s < j then k * o.getD (t - s) 0 else 0)
theorem GX (num o : List Int) (k : Int) (s : Nat) : fW num o k s 0 = num := by
  refine List.ext_getElem (by simp [fW]) fun t h1 h2 => ?_
  simp only [fW, List.getElem_map, List.getElem_range]
  rw [if_neg (by omega), Int.sub_zero]
  simp [List.getD_eq_getElem?_getD, h2]
theorem jd (num o : List Int) (k : Int) (s j : Nat) : (fW num o k s j).length = num.length := by simp [fW]
theorem yZ (num o : List Int) (k : Int) (s j t : Nat) (h : t < num.length) : (fW num o k s j).getD t 0 = num.getD t 0 - (if s <= t /\ t - s < j then k * o.getD (t - s) 0 else 0) := by
  simp [fW, List.getD_eq_getElem?_getD, h]
theorem GZ (num o : List Int) (k : Int) (s j : Nat) (h : s + j < num.length) : (fW num o k s j).set (s + j) ((fW num o k s j).getD (s + j) 0 - k * o.getD j 0) = fW num o k s (j + 1) := by
  rw [yZ _ _ _ _ _ _ h, if_neg (by omega), Int.sub_zero]
  refine List.ext_getElem (by simp [fW]) fun t h1 h2 => ?_
  rw [List.getElem_set]
  simp only [fW, List.getElem_map, List.getElem_range]
  by_cases e : s + j = t
  · subst e
    rw [if_pos rfl, if_pos (by omega), show s + j - s = j by omega]
  · rw [if_neg e]
    congr 1
    by_cases hc : s <= t /\ t - s < j
    · rw [if_pos hc, if_pos (by omega)]
    · rw [if_neg hc, if_neg (by omega)]
theorem Ft (num o : List Int) (k : Int) (s : Nat) (h : s + o.length <= num.length) : co (fW num o k s o.length) = co num - C k * (xp s * co o) := by
  ext t
  rw [yS, dW, uJ]
  by_cases ht : t < num.length
  · show (fW num o k s o.length).getD t 0 = num.getD t 0 - _
    rw [yZ _ _ _ _ _ _ ht]
    congr 1
    by_cases hs : s <= t
    · rw [if_pos hs]
      by_cases h2 : t - s < o.length
      · rw [if_pos ⟨hs, h2⟩]
        rfl
      · rw [if_neg (fun z => h2 z.2), jU (by omega), Int.mul_zero]
    · rw [if_neg hs, if_neg (fun z => hs z.1), Int.mul_zero]
  · rw [jU (by rw [jd]; omega), jU (by omega)]
    by_cases hs : s <= t
    · rw [if_pos hs, jU (by omega), Int.mul_zero]
      rfl
    · rw [if_neg hs, Int.mul_zero]
      rfl
theorem Bg {n : Nat} {c : List Int} (h : ∀ x ∈ c, Bd n x) (i : Nat) : Bd n (c.getD i 0) := by
  by_cases hi : i < c.length
  · refine h _ ?_
    rw [List.getD_eq_getElem?_getD, List.getElem?_eq_getElem hi]
    exact List.getElem_mem hi
  · rw [bZ (by omega)]; exact Bd.zero _
theorem Fv {m n p : Nat} {num o : List Int} {k : Int} (hn : ∀ x ∈ num, Bd p x) (ho : ∀ x ∈ o, Bd n x) (hk : Bd m k) (hp : m + n <= p) (s j : Nat) : ∀ x ∈ fW num o k s j, Bd (p + 1) x := by
  intro x hx
  obtain ⟨t, _, rfl⟩ := List.mem_map.mp hx
  refine Bd.sub (Bg hn t) ?_
  split
  · exact (hk.mul (Bg ho _)).mono hp
  · exact Bd.zero _
noncomputable def Trim (xs : List Int) (e : Nat) : Prop := e <= xs.length /\ (∀ t, e <= t -> xs.getD t 0 = 0) /\ (e ≠ 0 -> xs.getD (e - 1) 0 ≠ 0)
theorem tQ (xs : List Int) (e t : Nat) : (xs.take e).getD t 0 = if t < e then xs.getD t 0 else 0 := by
  by_cases h : t < e
  · rw [if_pos h, List.getD_eq_getElem?_getD, List.getD_eq_getElem?_getD, List.getElem?_take_of_lt h]
  · rw [if_neg h, bZ (by rw [List.length_take]; omega)]
theorem Trim.co {xs : List Int} {e : Nat} (h : Trim xs e) : co (xs.take e) = co xs := by
  ext t
  show (xs.take e).getD t 0 = xs.getD t 0
  rw [tQ]
  by_cases ht : t < e
  · rw [if_pos ht]
  · rw [if_neg ht, h.2.1 t (by omega)]
theorem Trim.length {xs : List Int} {e : Nat} (h : Trim xs e) : (xs.take e).length = e := by rw [List.length_take]; have := h.1; omega
theorem Trim.good {xs : List Int} {e : Nat} (h : Trim xs e) : bI (xs.take e) := by
  intro hne
  have he : e ≠ 0 := fun z => hne (by rw [z]; rfl)
  rw [h.length, tQ, if_pos (by omega)]
  exact h.2.2 he
theorem Dw {f g r : List Int} {e : Nat} {l k : Int} {q : PS} {a : Int} {d : Nat} (ha : 0 < a) (hl : 0 < l) (hq : Dg d q) (he : C a * co f = q * co g + co r) (hgr : g.length <= r.length)
    (ht : Trim (fW (r.map (l * ·)) g k (r.length - g.length) g.length) e) :
    ∃ (a' : Int) (d' : Nat) (q' : PS), 0 < a' /\ Dg d' q' /\ C a' * co f = q' * co g + co ((fW (r.map (l * ·)) g k (r.length - g.length) g.length).take e) := by
  refine ⟨l * a, d + (r.length - g.length + 1), C l * q + C k * xp (r.length - g.length), Int.mul_pos hl ha, Dg.add ((hq.smul l).mono (by omega)) (((Dg.xp _).smul k).mono (by omega)), ?_⟩
  rw [ht.co, Ft _ _ _ _ (by rw [List.length_map]; omega)]
  have e1 : co (r.map (l * ·)) = C l * co r := by
    ext t
    rw [dW]
    show (r.map (l * ·)).getD t 0 = l * r.getD t 0
    by_cases h : t < r.length
    · simp [List.getD_eq_getElem?_getD, h]
    · rw [bZ (by simp; omega), bZ (by omega), Int.mul_zero]
  rw [e1, <- CC]
  have x1 : C l * (C a * co f) = C l * (q * co g + co r) := by rw [he]
  grind
end Zf
namespace Zf
open PS
end Zf
namespace Zf
open PS
noncomputable def Po (f : PS) : Prop := ∃ n, Dg n f
theorem Po.co (c : List Int) : Po (co c) := ⟨_, Dg.co c⟩
theorem Po.add {f g : PS} (h : Po f) (k : Po g) : Po (f + g) := let ⟨m, a⟩ := h; let ⟨n, b⟩ := k; ⟨m + n, Dg.add (a.mono (by omega)) (b.mono (by omega))⟩
theorem Po.sub {f g : PS} (h : Po f) (k : Po g) : Po (f - g) := let ⟨m, a⟩ := h; let ⟨n, b⟩ := k; ⟨m + n, Dg.sub (a.mono (by omega)) (b.mono (by omega))⟩
theorem Po.mul {f g : PS} (h : Po f) (k : Po g) : Po (f * g) := let ⟨_, a⟩ := h; let ⟨_, b⟩ := k; ⟨_, Dg.mul a b⟩
theorem Po.C (k : Int) : Po (C k) := ⟨1, Dg.C k⟩
theorem Po.zero : Po 0 := ⟨0, fun t _ => dh t⟩
theorem Po.one : Po 1 := Po.C 1
theorem El {a : Int} (h : a ≠ 0) : C a ≠ 0 := fun z => by
  have := congrFun z 0
  rw [dh] at this
  exact h this
theorem jt {f g : PS} (h : Po f) (k : Po g) (hf : f ≠ 0) (hg : g ≠ 0) : f * g ≠ 0 := let ⟨_, a⟩ := h; let ⟨_, b⟩ := k; LK a b hf hg
noncomputable def Dv (d f : PS) : Prop := ∃ (a : Int) (q : PS), a ≠ 0 /\ Po q /\ C a * f = q * d
noncomputable def Bz (g f h : PS) : Prop := ∃ (a : Int) (u v : PS), a ≠ 0 /\ Po u /\ Po v /\ C a * g = u * f + v * h
noncomputable def IsG (g f h : PS) : Prop := Dv g f /\ Dv g h /\ Bz g f h
theorem IsG.self (g : PS) : IsG g g 0 := ⟨⟨1, 1, by decide, Po.one, by rw [show C 1 = (1 : PS) from rfl]⟩, ⟨1, 0, by decide, Po.zero, by grind⟩, ⟨1, 1, 0, by decide, Po.one, Po.zero, by rw [show C 1 = (1 : PS) from rfl]; grind⟩⟩
theorem IsG.step {g x y r q : PS} {a k : Int} (ha : a ≠ 0) (hk : k ≠ 0) (hq : Po q) (e : C a * x = q * y + C k * r) (h : IsG g y r) : IsG g x y := by
  obtain ⟨⟨b, s, hb, hs, e1⟩, ⟨c, t, hc, ht, e2⟩, ⟨d, u, v, hd, hu, hv, e3⟩⟩ := h
  refine ⟨⟨b * c * a, C c * q * s + C b * C k * t, Int.mul_ne_zero (Int.mul_ne_zero hb hc) ha, ((Po.C c).mul hq |>.mul hs).add (((Po.C b).mul (Po.C k)).mul ht), ?_⟩, ⟨b, s, hb, hs, e1⟩, ⟨d * k, C a * v, C k * u - q * v, Int.mul_ne_zero hd hk, (Po.C a).mul hv, ((Po.C k).mul hu).sub (hq.mul hv), ?_⟩⟩
  · rw [<- CC, <- CC]
    have x1 : C b * C c * (C a * x) = C b * C c * (q * y + C k * r) := by rw [e]
    have x2 : C c * q * (C b * y) = C c * q * (s * g) := by rw [e1]
    have x3 : C b * C k * (C c * r) = C b * C k * (t * g) := by rw [e2]
    grind
  · rw [<- CC]
    have x1 : C k * (C d * g) = C k * (u * y + v * r) := by rw [e3]
    have x2 : v * (C a * x) = v * (q * y + C k * r) := by rw [e]
    grind
theorem IsG.scale {g g' f h : PS} {a b : Int} (ha : a ≠ 0) (hb : b ≠ 0) (e : C a * g' = C b * g) (x : IsG g f h) : IsG g' f h := by
  obtain ⟨⟨c, s, hc, hs, e1⟩, ⟨d, t, hd, ht, e2⟩, ⟨k, u, v, hk, hu, hv, e3⟩⟩ := x
  refine ⟨⟨b * c, C a * s, Int.mul_ne_zero hb hc, (Po.C a).mul hs, ?_⟩, ⟨b * d, C a * t, Int.mul_ne_zero hb hd, (Po.C a).mul ht, ?_⟩, ⟨k * a, C b * u, C b * v, Int.mul_ne_zero hk ha, (Po.C b).mul hu, (Po.C b).mul hv, ?_⟩⟩
  · rw [<- CC]
    have x1 : C b * (C c * f) = C b * (s * g) := by rw [e1]
    have x2 : s * (C a * g') = s * (C b * g) := by rw [e]
    grind
  · rw [<- CC]
    have x1 : C b * (C d * h) = C b * (t * g) := by rw [e2]
    have x2 : t * (C a * g') = t * (C b * g) := by rw [e]
    grind
  · rw [<- CC]
    have x1 : C b * (C k * g) = C b * (u * f + v * h) := by rw [e3]
    have x2 : C k * (C a * g') = C k * (C b * g) := by rw [e]
    grind
theorem Dv.J0 {d g f h : PS} (x : Bz g f h) (hf : Dv d f) (hh : Dv d h) : Dv d g := by
  obtain ⟨a, u, v, ha, hu, hv, e⟩ := x
  obtain ⟨b, s, hb, hs, e1⟩ := hf
  obtain ⟨c, t, hc, ht, e2⟩ := hh
  refine ⟨b * c * a, C c * u * s + C b * v * t, Int.mul_ne_zero (Int.mul_ne_zero hb hc) ha, (((Po.C c).mul hu).mul hs).add (((Po.C b).mul hv).mul ht), ?_⟩
  rw [<- CC, <- CC]
  have x1 : C b * C c * (C a * g) = C b * C c * (u * f + v * h) := by rw [e]
  have x2 : C c * u * (C b * f) = C c * u * (s * d) := by rw [e1]
  have x3 : C b * v * (C c * h) = C b * v * (t * d) := by rw [e2]
  grind
theorem Hy {p q : PS} {k : Int} (hp : Po p) (hq : Po q) (hk : k ≠ 0) (e : q * p = C k) : q = C (q 0) /\ q 0 ≠ 0 := by
  have q0 : q ≠ 0 := fun z => by rw [z] at e; exact El hk (by rw [<- e]; grind)
  have p0 : p ≠ 0 := fun z => by rw [z] at e; exact El hk (by rw [<- e]; grind)
  obtain ⟨_, hq'⟩ := hq
  obtain ⟨_, hp'⟩ := hp
  obtain ⟨m, hm, qm⟩ := jP hq' q0
  obtain ⟨n, hn, pn⟩ := jP hp' p0
  have t := gP hm hn
  rw [e] at t
  have m0 : m = 0 := by
    apply Classical.byContradiction
    intro hm0
    have : (C k) (m + n) = 0 := by
      show (if m + n = 0 then k else 0) = 0
      rw [if_neg (by omega)]
    rw [this] at t
    exact absurd t.symm (Int.mul_ne_zero qm pn)
  subst m0
  refine ⟨?_, qm⟩
  ext t
  show q t = if t = 0 then q 0 else 0
  by_cases ht : t = 0
  · rw [if_pos ht, ht]
  · rw [if_neg ht]
    exact hm t (by omega)
theorem cancel {f g h : PS} (hf : Po f) (hg : Po g) (hh : Po h) (h0 : h ≠ 0) (e : f * h = g * h) : f = g := by
  have e2 : (f - g) * h = 0 := by grind
  apply Classical.byContradiction
  intro hne
  have : f - g ≠ 0 := fun z => hne (by
    have : f = (f - g) + g := by grind
    rw [this, z]
    grind)
  exact jt (hf.sub hg) hh this h0 e2
theorem IsG.one {g g' f h : PS} (hg : Po g) (hg0 : g ≠ 0) (x : IsG g f h) (y : IsG g' f h) : ∃ a b : Int, a ≠ 0 /\ b ≠ 0 /\ C a * g = C b * g' := by
  obtain ⟨a, q, ha, hq, e1⟩ := Dv.J0 x.2.2 y.1 y.2.1
  obtain ⟨b, p, hb, hp, e2⟩ := Dv.J0 y.2.2 x.1 x.2.1
  have e3 : (q * p) * g = C (a * b) * g := by
    rw [<- CC]
    have x1 : C b * (C a * g) = C b * (q * g') := by rw [e1]
    have x2 : q * (C b * g') = q * (p * g) := by rw [e2]
    grind
  have e4 := cancel (hq.mul hp) (Po.C _) hg hg0 e3
  obtain ⟨e5, q0⟩ := Hy hp hq (Int.mul_ne_zero ha hb) e4
  exact ⟨a, q 0, ha, q0, by rw [e1, <- e5]⟩
theorem lX {c : List Int} (h : bI c) (hne : c ≠ []) : co c ≠ 0 := fun z => h hne (by
  have := congrFun z (c.length - 1)
  rw [dh] at this
  exact this)
theorem rN {c : List Int} (h : ct c = 1) : aF c = c := by
  unfold aF
  rw [h]
  simp
theorem zA {s d : List Int} {f h : PS} (hs : bI s) (hd : bI d) (hs0 : s ≠ []) (hd0 : d ≠ []) (cs : ct s = 1) (cd : ct d = 1) (ls : 0 < s.getD (s.length - 1) 0) (ld : 0 < d.getD (d.length - 1) 0) (x : IsG (co s) f h) (y : IsG (co d) f h) : s = d := by
  obtain ⟨a, b, ha, hb, e⟩ := IsG.one (Po.co s) (lX hs hs0) x y
  have hat : ∀ t, a * s.getD t 0 = b * d.getD t 0 := fun t => by
    have := congrFun e t
    rw [dW, dW] at this
    exact this
  have len : ∀ {s d : List Int} {a b : Int}, a ≠ 0 -> bI s -> s ≠ [] -> (∀ t, a * s.getD t 0 = b * d.getD t 0) -> s.length <= d.length := by
    intro s d a b ha hs hne hat
    rcases Nat.lt_or_ge d.length s.length with hl | hl
    · have := hat (s.length - 1)
      rw [bZ (c := d) (by omega), Int.mul_zero] at this
      rcases Int.mul_eq_zero.mp this with z | z
      · exact absurd z ha
      · exact absurd z (hs hne)
    · exact hl
  have hl : s.length = d.length := Nat.le_antisymm (len ha hs hs0 hat) (len hb hd hd0 fun t => (hat t).symm)
  have top := hat (s.length - 1)
  rw [hl] at top ls
  have pos : ∀ {a b : Int}, 0 < a -> 0 < b -> C a * co s = C b * co d -> s = d := by
    intro a b ha hb e
    have := Gy (a := b) (b := a) hb ha hs hd e
    rw [rN cs, rN cd] at this
    exact this
  rcases Int.lt_or_gt_of_ne ha with ha' | ha'
  · have hb' : b < 0 := by
      rcases Int.lt_or_gt_of_ne hb with z | z
      · exact z
      · exact absurd top (by
          have h1 := Int.mul_neg_of_neg_of_pos ha' ls
          have h2 := Int.mul_pos z ld
          omega)
    refine pos (a := -a) (b := -b) (by omega) (by omega) ?_
    rw [Ae, Ae]
    grind
  · have hb' : 0 < b := by
      rcases Int.lt_or_gt_of_ne hb with z | z
      · exact absurd top (by
          have h1 := Int.mul_pos ha' ls
          have h2 := Int.mul_neg_of_neg_of_pos z ld
          omega)
      · exact z
    exact pos ha' hb' e
theorem xK {c : List Int} (h : bI c) (hne : c ≠ []) : ct (aF c) = 1 := by
  have c0 := cL h hne
  have h1 : ct c * ct (aF c) ∣ ct c := by
    refine u9 _ fun x hx => ?_
    obtain ⟨i, hi, rfl⟩ := List.mem_iff_getElem.mp hx
    have e : ct c * (aF c).getD i 0 = c.getD i 0 := by rw [plain_at]; exact Int.mul_ediv_cancel' (gY (iT c) i)
    have g : c.getD i 0 = c[i] := by simp [List.getD_eq_getElem?_getD, hi]
    rw [<- g, <- e]
    exact Int.mul_dvd_mul_left _ (gY (iT _) i)
  have h2 := pq (aF c)
  obtain ⟨k, hk⟩ := h1
  have : ct (aF c) * k = 1 := by
    have h3 : ct c * (ct (aF c) * k) = ct c * 1 := by rw [<- Int.mul_assoc, <- hk, Int.mul_one]
    exact Int.eq_of_mul_eq_mul_left (by omega) h3
  have h5 : ct (aF c) ∣ 1 := ⟨k, this.symm⟩
  have h6 := Int.le_of_dvd (by decide) h5
  have h7 : ct (aF c) ≠ 0 := fun z => by rw [z, Int.zero_mul] at this; exact absurd this (by decide)
  omega
noncomputable def Cop (f g : PS) : Prop := ∃ (a : Int) (u v : PS), a ≠ 0 /\ Po u /\ Po v /\ C a = u * f + v * g
end Zf
namespace Zf
open PS
noncomputable def X1 : PS := xp 1
theorem eN (b : Int) (l : List Int) : co (b :: l) = C b + X1 * co l := by
  ext t
  rw [fC]
  show (b :: l).getD t 0 = (if t = 0 then b else 0) + (xp 1 * co l) t
  rw [uJ]
  cases t with
  | zero => rw [if_pos rfl, if_neg (by decide)]; simp
  | succ t =>
    rw [if_neg (by omega), if_pos (by omega)]
    show l.getD t 0 = 0 + l.getD (t + 1 - 1) 0
    rw [Int.zero_add]
    rfl
theorem gj : co [] = 0 := by
  ext t
  rw [dh]
  rfl
end Zf
namespace Zf
open PS
noncomputable def ig (c : List Int) : List Int := if c ≠ [] /\ c.getD (c.length - 1) 0 < 0 then c.map (- ·) else c
theorem vI (c : List Int) (t : Nat) : (c.map (- ·)).getD t 0 = - c.getD t 0 := by
  by_cases h : t < c.length
  · simp [List.getD_eq_getElem?_getD, h]
  · rw [bZ (by simp; omega), bZ (by omega)]
    rfl
theorem vd (c : List Int) : co (c.map (- ·)) = C (-1) * co c := by
  ext t
  rw [dW]
  show (c.map (- ·)).getD t 0 = -1 * c.getD t 0
  rw [vI]
  omega
theorem Ms (c : List Int) : ct (c.map (- ·)) = ct c := by
  refine snoc_ind (p := fun c => ct (c.map (- ·)) = ct c) rfl (fun c x ih => ?_) c
  show ct ((c ++ [x]).map (- ·)) = ct (c ++ [x])
  rw [List.map_append, List.map_singleton, iB, iB, ih, Int.gcd_neg]
noncomputable def Shared (c o s : List Int) : Prop := (c = [] /\ o = [] /\ s = []) \/ (s ≠ [] /\ bI s /\ ct s = 1 /\ 0 < s.getD (s.length - 1) 0 /\ IsG (co s) (co c) (co o))
theorem zB {c o x : List Int} (hx : x ≠ []) (hg : bI x) (h : IsG (co x) (co c) (co o)) : Shared c o (ig (aF x)) := by
  right
  have c0 := cL hg hx
  have pne : aF x ≠ [] := fun z => hx (List.eq_nil_of_length_eq_zero (by rw [<- bG, z]; rfl))
  have pg := eV hg
  have pl := pg pne
  have pc := xK hg hx
  have pm := d9 x
  have plen := List.length_pos_iff.mpr pne
  by_cases hs : aF x ≠ [] /\ (aF x).getD ((aF x).length - 1) 0 < 0
  · have e : ig (aF x) = (aF x).map (- ·) := by unfold ig; rw [if_pos hs]
    rw [e]
    have last : ((aF x).map (- ·)).getD (((aF x).map (- ·)).length - 1) 0 = - (aF x).getD ((aF x).length - 1) 0 := by rw [List.length_map, vI]
    refine ⟨fun z => pne (List.map_eq_nil_iff.mp z), fun _ => ?_, by rw [Ms]; exact pc, ?_, ?_⟩
    · rw [last]; omega
    · rw [last]; have := hs.2; omega
    · refine IsG.scale (g := co x) (a := ct x) (b := -1) (by omega) (by decide) ?_ h
      rw [vd, <- pm]
      grind
  · have e : ig (aF x) = aF x := by unfold ig; rw [if_neg hs]
    rw [e]
    refine ⟨pne, pg, pc, ?_, IsG.scale (g := co x) (a := ct x) (b := 1) (by omega) (by decide) (by rw [pm, show C 1 = (1 : PS) from rfl]; grind) h⟩
    have : ¬ (aF x).getD ((aF x).length - 1) 0 < 0 := fun z => hs ⟨pne, z⟩
    omega
theorem yq {c o s d : List Int} (h : Shared c o s) (hd : bI d) (hd0 : d ≠ []) (cd : ct d = 1) (ld : 0 < d.getD (d.length - 1) 0) (y : IsG (co d) (co c) (co o)) (hne : c ≠ [] \/ o ≠ []) : s = d := by
  rcases h with ⟨h1, h2, _⟩ | ⟨s1, s2, s3, s4, s5⟩
  · exact absurd hne (fun z => z.elim (fun q => q h1) (fun q => q h2))
  · exact zA s2 hd s1 hd0 s3 cd s4 ld s5 y
theorem Iv (r : List Int) (hg : bI r) : ∃ k : Int, k ≠ 0 /\ co r = C k * co (aF r) := by
  by_cases h : r = []
  · subst h
    exact ⟨1, by decide, by rw [show aF [] = [] from rfl, gj]; grind⟩
  · exact ⟨ct r, by have := cL hg h; omega, (d9 r).symm⟩
theorem gW {n : Nat} {c : List Int} (h : ∀ x ∈ c, Bd n x) : ∀ x ∈ aF c, Bd n x := by
  intro x hx
  obtain ⟨y, hy, rfl⟩ := List.mem_map.mp hx
  have hb := h y hy
  unfold Bd at hb ⊢
  refine Nat.lt_of_le_of_lt ?_ hb
  by_cases h0 : ct c = 0
  · rw [h0, Int.ediv_zero]
    exact Nat.zero_le _
  · have e : ct c * (y / ct c) = y := Int.mul_ediv_cancel' (iT c y hy)
    have e2 := congrArg Int.natAbs e
    rw [Int.natAbs_mul] at e2
    rw [<- e2]
    exact Nat.le_mul_of_pos_left _ (Int.natAbs_pos.mpr h0)
theorem Hh {x y r : List Int} (hl : Left x y r) {g : PS} (h : IsG g (co y) (co (aF r))) : IsG g (co x) (co y) := by
  obtain ⟨hg, _, a, d, q, ha, hq, e⟩ := hl
  obtain ⟨k, hk, e2⟩ := Iv r hg
  exact IsG.step (a := a) (k := k) (by omega) hk ⟨d, hq⟩ (by rw [e, e2]) h
noncomputable def gb : Nat -> Nat -> Nat -> Nat -> Nat -> Nat
  | 0, _, _, p, q => p + q
  | k + 1, La, l, p, q => if l = 0 then p + q else gb k l (min La (l - 1)) q (p + (q + 1) * La)
theorem Ad : ∀ (k La l p q : Nat), p + q <= gb k La l p q
  | 0, _, _, _, _ => Nat.le_refl _
  | k + 1, La, l, p, q => by
    unfold gb
    split
    · exact Nat.le_refl _
    · rename_i hl
      have h := Ad k l (min La (l - 1)) q (p + (q + 1) * La)
      omega
theorem Jf {k La l p q : Nat} (hl : l ≠ 0) : gb (k + 1) La l p q = gb k l (min La (l - 1)) q (p + (q + 1) * La) := by
  show (if l = 0 then _ else _) = _
  rw [if_neg hl]
end Zf
namespace Zf
open PS
theorem yr {c o s d : List Int} (h : Shared c o s) (k : Shared c o d) (hne : c ≠ [] \/ o ≠ []) : s = d := by
  rcases k with ⟨a, b, _⟩ | ⟨k1, k2, k3, k4, k5⟩
  · exact absurd hne (fun z => z.elim (fun q => q a) (fun q => q b))
  · exact yq h k2 k1 k3 k4 k5 hne
end Zf
namespace Zf
open PS
noncomputable def dv (f : PS) : PS := fun t => ((t : Int) + 1) * f (t + 1)
theorem lW (f : PS) (t : Nat) : dv f t = ((t : Int) + 1) * f (t + 1) := rfl
theorem mF (f g : PS) : dv (f * g) = dv f * g + f * dv g := by
  ext t
  rw [lW, fC, cZ, cZ, cZ]
  have e0 : ((t : Int) + 1) * sumTo (fun a => f a * g (t + 1 - a)) (t + 1 + 1) = sumTo (fun a => ((a : Int) * f a) * g (t + 1 - a)) (t + 1 + 1) + sumTo (fun a => f a * ((((t + 1 - a : Nat)) : Int) * g (t + 1 - a))) (t + 1 + 1) := by
    rw [<- lE, <- lG]
    refine cD fun a ha => ?_
    have h1 : ((t : Int) + 1) = (a : Int) + ((t + 1 - a : Nat) : Int) := by omega
    rw [h1]
    generalize ((t + 1 - a : Nat) : Int) = k
    grind
  rw [e0]
  congr 1
  · rw [jc]
    have z : ((0 : Nat) : Int) * f 0 * g (t + 1 - 0) = 0 := by simp
    rw [z, Int.zero_add]
    refine cD fun a ha => ?_
    rw [lW, show t + 1 - (a + 1) = t - a by omega]
    rw [show ((a + 1 : Nat) : Int) = (a : Int) + 1 by omega]
  · rw [dD]
    have z : f (t + 1) * ((((t + 1 - (t + 1) : Nat)) : Int) * g (t + 1 - (t + 1))) = 0 := by simp
    rw [z, Int.add_zero]
    refine cD fun a ha => ?_
    rw [lW, show t + 1 - a = t - a + 1 by omega]
    rw [show ((t - a + 1 : Nat) : Int) = ((t - a : Nat) : Int) + 1 by omega]
theorem HW (k : Int) : dv (C k) = 0 := by
  ext t
  rw [lW, dh]
  show _ * (if t + 1 = 0 then k else 0) = 0
  rw [if_neg (by omega), Int.mul_zero]
theorem FW : dv 1 = 0 := HW 1
theorem rC (k : Int) (f : PS) : dv (C k * f) = C k * dv f := by
  rw [mF, HW]
  grind
theorem FT (f : PS) : ∀ n : Nat, dv (f ^ (n + 1)) = C ((n : Int) + 1) * (f ^ n * dv f)
  | 0 => by
    have e : f ^ (0 + 1) = 1 * f := rfl
    have e2 : f ^ 0 = 1 := rfl
    rw [e, mF, FW, e2, show C (((0 : Nat) : Int) + 1) = (1 : PS) from rfl]
    grind
  | n + 1 => by
    have e : f ^ (n + 1 + 1) = f ^ (n + 1) * f := rfl
    have e2 : f ^ (n + 1) = f ^ n * f := rfl
    rw [e, mF, FT f n, e2, show (((n + 1 : Nat)) : Int) + 1 = ((n : Int) + 1) + 1 by omega, Ey ((n : Int) + 1) 1, show C 1 = (1 : PS) from rfl]
    grind
theorem Dg.dv {n : Nat} {f : PS} (h : Dg (n + 1) f) : Dg n (dv f) := fun t ht => by rw [lW, h (t + 1) (by omega), Int.mul_zero]
theorem Po.dv {f : PS} (h : Po f) : Po (dv f) := let ⟨n, a⟩ := h; ⟨n, Dg.dv (a.mono (Nat.le_succ n))⟩
theorem bW (c : List Int) : (aM c).length = c.length - 1 := by simp [aM]
theorem j6 (c : List Int) (t : Nat) : (aM c).getD t 0 = ((t : Int) + 1) * c.getD (t + 1) 0 := by
  by_cases h : t < c.length - 1
  · unfold aM
    rw [List.getD_eq_getElem?_getD, List.getElem?_map, List.getElem?_range h]
    show (1 + (t : Int)) * _ = _
    rw [Int.add_comm 1]
  · rw [bZ (by rw [bW]; omega), bZ (c := c) (by omega), Int.mul_zero]
theorem rF (c : List Int) : co (aM c) = dv (co c) := by
  ext t
  rw [mW, j6, lW, mW]
theorem eU {c : List Int} (h : bI c) : bI (aM c) := by
  intro hne
  have hl : 0 < (aM c).length := List.length_pos_iff.mpr hne
  rw [bW] at hl
  have hc : c ≠ [] := fun z => by rw [z] at hl; exact absurd hl (by simp)
  rw [bW, j6, show c.length - 1 - 1 + 1 = c.length - 1 by omega]
  exact Int.mul_ne_zero (by omega) (h hc)
theorem zR {m y : Int} (c : List Int) (h : ∀ x ∈ c, m ∣ y * x) : m ∣ y * ct c := by
  revert h
  refine snoc_ind (p := fun c => (∀ x ∈ c, m ∣ y * x) -> m ∣ y * ct c) ?_ (fun c x ih h => ?_) c
  · intro _
    show m ∣ y * 0
    rw [Int.mul_zero]
    exact Int.dvd_zero m
  · rw [iB]
    have h1 := ih fun z hz => h z (List.mem_append_left _ hz)
    have h2 := h x (List.mem_append_right _ (List.mem_singleton.mpr rfl))
    have h3 : m ∣ ((Int.gcd (y * ct c) (y * x) : Nat) : Int) := Int.dvd_coe_gcd h1 h2
    rw [Int.gcd_mul_left] at h3
    rw [Int.natCast_mul] at h3
    rcases Int.natAbs_eq y with e | e
    · rwa [<- e] at h3
    · have e2 : (y.natAbs : Int) = - y := by omega
      rw [e2, Int.neg_mul] at h3
      exact (Int.dvd_neg).mp h3
theorem J8 {m : Int} {g : List Int} (hg : ct g = 1) : ∀ (d : Nat) (q : PS), (∀ t, d <= t -> m ∣ q t) -> (∀ t, m ∣ (q * co g) t) -> ∀ t, m ∣ q t
  | 0, q, h, _ => fun t => h t (Nat.zero_le t)
  | d + 1, q, h, k => by
    have key : ∀ (n i : Nat), g.length <= i + n -> ∀ t, m ∣ co g i * q t := by
      intro n
      induction n with
      | zero =>
        intro i hi t
        rw [jU (by omega), Int.zero_mul]
        exact Int.dvd_zero m
      | succ n ih =>
        intro i hi
        have up : ∀ j, i < j -> ∀ t, m ∣ co g j * q t := fun j hj => ih j (by omega)
        have top : m ∣ q d * co g i := by
          have h1 := k (d + i)
          rw [cZ] at h1
          have split : ∀ (n : Nat), m ∣ (sumTo (fun a => q a * co g (d + i - a)) n - (if d < n then q d * co g i else 0)) \/ n > d + i + 1 := by
            intro n
            induction n with
            | zero => left; show m ∣ 0 - 0; exact Int.dvd_zero m
            | succ n ihn =>
              by_cases hn : n > d + i
              · right; omega
              · rcases ihn with ihn | ihn
                · left
                  rw [dD]
                  rcases Nat.lt_trichotomy n d with c1 | c1 | c1
                  · rw [if_neg (by omega)] at ihn ⊢
                    have := up (d + i - n) (by omega) n
                    rw [Int.mul_comm] at this
                    have := Int.dvd_add ihn this
                    rwa [show ∀ x y : Int, x - 0 + y = x + y - 0 by intros; omega] at this
                  · subst c1
                    rw [if_neg (by omega)] at ihn
                    rw [if_pos (by omega), show n + i - n = i by omega]
                    rwa [show ∀ x y : Int, x + y - y = x - 0 by intros; omega]
                  · rw [if_pos (by omega)] at ihn ⊢
                    have : m ∣ q n * co g (d + i - n) := Int.dvd_mul_of_dvd_left (h n (by omega))
                    have := Int.dvd_add ihn this
                    rwa [show ∀ x y z : Int, x - z + y = x + y - z by intros; omega] at this
                · right; omega
          rcases split (d + i + 1) with h2 | h2
          · rw [if_pos (by omega)] at h2
            have := Int.dvd_sub h1 h2
            rwa [show ∀ x y : Int, x - (x - y) = y by intros; omega] at this
          · omega
        have := J8 hg d (C (co g i) * q) (fun t ht => by
          rw [dW]
          rcases Nat.lt_or_ge d t with c1 | c1
          · exact Int.dvd_mul_of_dvd_right (h t (by omega))
          · have e : t = d := by omega
            rw [e, Int.mul_comm]
            exact top) (fun t => by
          rw [PS.mul_assoc, dW]
          exact Int.dvd_mul_of_dvd_right (k t))
        intro t
        have := this t
        rwa [dW] at this
    intro t
    have h1 : m ∣ q t * ct g := zR g fun x hx => by
      obtain ⟨i, hi, rfl⟩ := List.mem_iff_getElem.mp hx
      have := key g.length i (by omega) t
      rw [Int.mul_comm]
      simpa [co, List.getD_eq_getElem?_getD, hi] using this
    rwa [hg, Int.mul_one] at h1
theorem t_ {a : Int} {f q : PS} {g : List Int} (ha : a ≠ 0) (hg : ct g = 1) (hq : Po q) (e : C a * f = q * co g) : ∃ s, Po s /\ f = s * co g := by
  obtain ⟨d, hd⟩ := hq
  have h1 : ∀ t, a ∣ q t := J8 hg d q (fun t ht => by rw [hd t ht]; exact Int.dvd_zero a) fun t => by
    rw [<- e, dW]
    exact Int.dvd_mul_right a _
  let s : PS := fun t => q t / a
  have h2 : C a * s = q := by
    ext t
    rw [dW]
    exact Int.mul_ediv_cancel' (h1 t)
  refine ⟨s, ⟨d, fun t ht => by show q t / a = 0; rw [hd t ht, Int.zero_ediv]⟩, ?_⟩
  have h3 : C a * f = C a * (s * co g) := by rw [e, <- PS.mul_assoc, h2]
  ext t
  have h4 := congrFun h3 t
  rw [dW, dW] at h4
  exact Int.eq_of_mul_eq_mul_left ha h4
theorem Gs {f g : List Int} (hf : f ≠ []) (hg : g ≠ []) : (mulL f g).getD ((mulL f g).length - 1) 0 = f.getD (f.length - 1) 0 * g.getD (g.length - 1) 0 := by
  have lf := List.length_pos_iff.mpr hf
  have lg := List.length_pos_iff.mpr hg
  show co (mulL f g) ((mulL f g).length - 1) = _
  rw [Gf, pK, show f.length + g.length - 1 - 1 = (f.length - 1) + (g.length - 1) by omega]
  rw [gP (m := f.length - 1) (n := g.length - 1) (by rw [show f.length - 1 + 1 = f.length by omega]; exact Dg.co f) (by rw [show g.length - 1 + 1 = g.length by omega]; exact Dg.co g)]
  rfl
theorem DP {f g : List Int} (hf : bI f) (hg : bI g) (f0 : f ≠ []) (g0 : g ≠ []) : bI (mulL f g) := fun _ => by
  rw [Gs f0 g0]
  exact Int.mul_ne_zero (hf f0) (hg g0)
noncomputable def upto (S : PS) (n : Nat) : List Int := (List.range n).map fun t => S t
theorem j9 (S : PS) (n : Nat) : (upto S n).length = n := by simp [upto]
theorem Af (S : PS) (n t : Nat) : (upto S n).getD t 0 = if t < n then S t else 0 := by
  by_cases h : t < n
  · rw [if_pos h]
    unfold upto
    rw [List.getD_eq_getElem?_getD, List.getElem?_map, List.getElem?_range h]
    rfl
  · rw [if_neg h, bZ (by rw [j9]; omega)]
theorem mX {S : PS} {n : Nat} (h : Dg n S) : co (upto S n) = S := by
  ext t
  rw [mW, Af]
  by_cases ht : t < n
  · rw [if_pos ht]
  · rw [if_neg ht, h t (by omega)]
theorem Aq {S : PS} {c g : List Int} (hS : Po S) (hg : bI g) (g0 : g ≠ []) (e : co c = S * co g) : Dg (c.length + 1 - g.length) S := by
  have lg := List.length_pos_iff.mpr g0
  by_cases hz : S = 0
  · rw [hz]
    exact fun t _ => dh t
  obtain ⟨n, hn⟩ := hS
  obtain ⟨m, h1, h2⟩ := jP hn hz
  have h3 := gP (n := g.length - 1) h1 (by rw [show g.length - 1 + 1 = g.length by omega]; exact Dg.co g)
  rw [<- e] at h3
  have h4 : m + (g.length - 1) < c.length := by
    rcases Nat.lt_or_ge (m + (g.length - 1)) c.length with q | q
    · exact q
    · rw [jU q] at h3
      exact absurd h3.symm (Int.mul_ne_zero h2 (hg g0))
  exact h1.mono (by omega)
noncomputable def Simple (c s : List Int) : Prop := s ≠ [] /\ bI s /\ ct s = 1 /\ ∃ g, Shared c (aM c) g /\ co (aF c) = co s * co g
theorem yp {c s r : List Int} (hc : c ≠ []) (h : Simple c s) (k : Simple c r) : s = r := by
  obtain ⟨s1, s2, s3, g, s4, s5⟩ := h
  obtain ⟨r1, r2, r3, g', r4, r5⟩ := k
  have e := yr s4 r4 (.inl hc)
  subst e
  have g0 : g ≠ [] /\ bI g := by
    rcases s4 with ⟨z, _⟩ | ⟨a, b, _⟩
    · exact absurd z hc
    · exact ⟨a, b⟩
  exact Gg s2 r2 (cancel (Po.co s) (Po.co r) (Po.co g) (lX g0.2 g0.1) (by rw [<- s5, <- r5]))
theorem mJ {c g : List Int} (hc : c ≠ []) (hg : bI c) (h : Shared c (aM c) g) : g ≠ [] /\ bI g /\ g.length <= c.length /\ ∃ S : PS, Dg (c.length + 1 - g.length) S /\ co (aF c) = S * co g /\ Simple c (upto S (c.length + 1 - g.length)) := by
  have h0 := h
  rcases h with ⟨z, _⟩ | ⟨g0, g1, g2, g3, g4⟩
  · exact absurd z hc
  have lc := List.length_pos_iff.mpr hc
  have lg := List.length_pos_iff.mpr g0
  obtain ⟨a, q, ha, hq, e⟩ := g4.1
  have cp := cL hg hc
  have e2 : C (a * ct c) * co (aF c) = q * co g := by
    rw [<- CC, PS.mul_assoc, d9, e]
  obtain ⟨S, hS, e3⟩ := t_ (Int.mul_ne_zero ha (by omega)) g2 hq e2
  have hd := Aq hS g1 g0 e3
  rw [bG] at hd
  have e4 := mX hd
  have hl : g.length <= c.length := by
    rcases Nat.lt_or_ge c.length g.length with q | q
    · exfalso
      have z : S = 0 := by
        ext t
        rw [hd t (by omega), dh]
      rw [z] at e3
      have : co (aF c) = 0 := by rw [e3]; grind
      exact lX (eV hg) (fun z => hc (by have := bG c; rw [z] at this; exact List.eq_nil_of_length_eq_zero this.symm)) this
    · exact q
  refine ⟨g0, g1, hl, S, hd, e3, ?_, ?_, ?_, g, h0, by rw [e4, e3]⟩
  · intro z
    have := j9 S (c.length + 1 - g.length)
    rw [z] at this
    simp at this
    omega
  · intro _
    rw [j9, Af, if_pos (by omega)]
    intro z
    have t1 : co (aF c) ((c.length - g.length) + (g.length - 1)) = S (c.length - g.length) * co g (g.length - 1) := by
      rw [e3]
      exact gP (by rw [show c.length - g.length + 1 = c.length + 1 - g.length by omega]; exact hd) (by rw [show g.length - 1 + 1 = g.length by omega]; exact Dg.co g)
    rw [show c.length + 1 - g.length - 1 = c.length - g.length by omega] at z
    rw [z, Int.zero_mul, show c.length - g.length + (g.length - 1) = c.length - 1 by omega] at t1
    have pg := eV hg
    have : aF c ≠ [] := fun z => hc (by have := bG c; rw [z] at this; exact List.eq_nil_of_length_eq_zero this.symm)
    have := pg this
    rw [bG] at this
    exact this t1
  ·
    have c1 : ct (upto S (c.length + 1 - g.length)) ∣ ct (aF c) := u9 _ fun x hx => by
      obtain ⟨i, hi, rfl⟩ := List.mem_iff_getElem.mp hx
      have t1 : ct (upto S (c.length + 1 - g.length)) ∣ co (aF c) i := by
        rw [e3, cZ]
        have : ∀ n, ct (upto S (c.length + 1 - g.length)) ∣ sumTo (fun a => S a * co g (i - a)) n := by
          intro n
          induction n with
          | zero => exact Int.dvd_zero _
          | succ n ih =>
            rw [dD]
            refine Int.dvd_add ih (Int.dvd_mul_of_dvd_left ?_)
            have := gY (iT (upto S (c.length + 1 - g.length))) n
            have e5 : (upto S (c.length + 1 - g.length)).getD n 0 = S n := congrFun e4 n
            rwa [e5] at this
        exact this _
      simpa [co, List.getD_eq_getElem?_getD, hi] using t1
    rw [xK hg hc] at c1
    have h4 := pq (upto S (c.length + 1 - g.length))
    have := Int.le_of_dvd (by decide) c1
    have h5 : ct (upto S (c.length + 1 - g.length)) ≠ 0 := fun z => by rw [z] at c1; exact absurd (Int.zero_dvd.mp c1) (by decide)
    omega
end Zf
namespace Zf
open PS
theorem Gx (f : PS) : f ^ 1 = f := by
  have e : f ^ 1 = 1 * f := rfl
  rw [e]; grind
noncomputable def negL (c : List Int) : List Int := c.map (- ·)
theorem mK (c : List Int) : (negL c).length = c.length := List.length_map _
theorem G_ {c : List Int} (h : bI c) : bI (negL c) := fun hne => by
  have : c ≠ [] := fun z => hne (by rw [z]; rfl)
  unfold negL
  rw [vI, List.length_map]
  have := h this
  omega
inductive Steps : List Int -> List Int -> List (List Int) -> Prop
  | stop (a : List Int) : Steps a [] []
  | step (a b r : List Int) (ls : List (List Int)) : b ≠ [] -> Left a b r -> Steps b (negL (aF r)) ls -> Steps a b (b :: ls)
noncomputable def Chain (c : List Int) (ls : List (List Int)) : Prop := ∃ s l, Simple c s /\ ls = s :: l /\ Steps s (aF (aM s)) l
noncomputable def chg : Int -> List Int -> Int
  | _, [] => 0
  | a, s :: ss => (if a * s = -1 then 1 else 0) + chg (if s ≠ 0 then s else a) ss
noncomputable def Sg (x : Int) : Prop := x = 1 \/ x = 0 \/ x = -1
theorem K6 (x : Int) : Sg (sgn x) := by
  unfold sgn Sg
  split
  · exact .inl rfl
  · split
    · exact .inr (.inr rfl)
    · exact .inr (.inl rfl)
theorem uM {L : Int} (hL : L ≠ 0) : sgn L = 1 \/ sgn L = -1 := by
  unfold sgn
  rcases Int.lt_or_gt_of_ne hL with q | q
  · rw [if_neg (by omega), if_pos q]; exact .inr rfl
  · rw [if_pos q]; exact .inl rfl
end Zf
namespace L2
open PySem PySem.Spec PyProof.Rows
noncomputable abbrev Key := Sum Int Str
noncomputable def J4 : Key -> Value -> Bool
  | .inl k, v => Value.isInt k v
  | .inr x, v => Value.isStrOf x v
noncomputable def keyH (w : World) : Key -> Int
  | .inl k => hashInt k
  | .inr x => hashStr w x
theorem dY : ∀ {k : Key} {v : Value}, J4 k v = true -> (∃ i t, k = Sum.inl i /\ v = Value.int i t) \/ (∃ x t, k = Sum.inr x /\ v = Value.str x t)
  | .inl i, v, h => by
    obtain ⟨t, e⟩ := Value.isInt_shape (k := i) (v := v) h
    exact .inl ⟨i, t, rfl, e⟩
  | .inr x, v, h => by
    obtain ⟨t, e⟩ := Value.isStrOf_shape (x := x) (v := v) h
    exact .inr ⟨x, t, rfl, e⟩
theorem Ml (a b : Int) : decide ((Sum.inl a : Key) = Sum.inl b) = (a == b) := by
  by_cases e : a = b
  · subst e; simp
  · have h : ¬ (Sum.inl a : Key) = Sum.inl b := fun q => e (Sum.inl.inj q)
    rw [decide_eq_false h]
    exact (beq_eq_false_iff_ne.mpr e).symm
theorem Mh (a b : Str) : decide ((Sum.inr a : Key) = Sum.inr b) = decide (a = b) := by
  by_cases e : a = b
  · subst e; simp
  · have h : ¬ (Sum.inr a : Key) = Sum.inr b := fun q => e (Sum.inr.inj q)
    rw [decide_eq_false h, decide_eq_false e]
theorem Mj (a : Int) (b : Str) : decide ((Sum.inl a : Key) = Sum.inr b) = false := decide_eq_false (fun q => nomatch q)
theorem Mi (a : Str) (b : Int) : decide ((Sum.inr a : Key) = Sum.inl b) = false := decide_eq_false (fun q => nomatch q)
noncomputable def Ba (prog : Program) (w : World) : PySem.KeyKind prog w Key where
  is := J4
  hash := keyH w
  inj := fun v a b ha hb => by
    rcases dY ha with ⟨i, t, rfl, rfl⟩ | ⟨x, t, rfl, rfl⟩
    · rcases dY hb with ⟨j, u, rfl, e⟩ | ⟨y, u, rfl, e⟩
      · injection e with e1 _; rw [e1]
      · exact nomatch e
    · rcases dY hb with ⟨j, u, rfl, e⟩ | ⟨y, u, rfl, e⟩
      · exact nomatch e
      · injection e with e1 _; rw [e1]
  byValue := fun k v h => by
    rcases dY h with ⟨i, t, rfl, rfl⟩ | ⟨x, t, rfl, rfl⟩ <;> rfl
  pyHash := fun hv h => by
    rcases dY hv with ⟨i, t, rfl, rfl⟩ | ⟨x, t, rfl, rfl⟩
    · exact wpAny_pyHash_int h
    · exact wpAny_pyHash_str h
  eqBool := fun hu hv h => by
    rcases dY hu with ⟨i, t, rfl, rfl⟩ | ⟨x, t, rfl, rfl⟩
    · rcases dY hv with ⟨j, u, rfl, rfl⟩ | ⟨y, u, rfl, rfl⟩
      · rw [Ml] at h; exact wpAny_eqBool_int h
      · rw [Mj] at h; exact SeqAt.EqAt.int_str i t y u _ _ _ _ h
    · rcases dY hv with ⟨j, u, rfl, rfl⟩ | ⟨y, u, rfl, rfl⟩
      · rw [Mi] at h; exact SeqAt.EqAt.str_int x t j u _ _ _ _ h
      · rw [Mh] at h; exact wpAny_eqBool_str h
  «strs» := fun k x t v h => by
    rcases dY h with ⟨i, u, rfl, e⟩ | ⟨y, u, rfl, e⟩
    · exact nomatch e
    · injection e with e1 _
      subst e1
      cases v <;> rfl
end L2
namespace L2
open PySem PySem.Spec PyProof.Rows
inductive V where
  | non | bl (b : Bool) | int (i : Int) | str (x : Str) | byt (b : Array UInt8) | flt (b : UInt64) | ref (a : Addr) | ty (n : String)
  deriving DecidableEq
noncomputable def RelV : V -> Value -> Prop
  | .non, u => u = Value.none
  | .bl b, u => u = Value.bool b
  | .int i, u => ∃ t, u = Value.int i t
  | .str x, u => ∃ t, u = Value.str x t
  | .byt b, u => ∃ t, u = Value.bytes b t
  | .flt b, u => ∃ t, u = Value.float b t
  | .ref a, u => u = Value.ref a
  | .ty n, u => u = Value.type n
noncomputable abbrev Vals : List V -> List Value -> Prop := Paired RelV
theorem Vals.length {xs : List V} {us : List Value} (r : Vals xs us) : xs.length = us.length := Paired.length r
theorem Vals.get : ∀ {xs : List V} {us : List Value} {i : Nat} {x : V}, Vals xs us -> xs[i]? = some x -> ∃ u, us[i]? = some u /\ RelV x u
  | _, _, _, _, .nil, e => by simp at e
  | _, _, 0, _, .cons r _, e => by simp at e; subst e; exact ⟨_, rfl, r⟩
  | _, _, i + 1, x, .cons _ t, e => by
    obtain ⟨u, h1, h2⟩ := Vals.get (i := i) (x := x) t (by simpa using e)
    exact ⟨u, by simpa using h1, h2⟩
theorem Vals.set {x : V} {u : Value} (r : RelV x u) : ∀ {xs : List V} {us : List Value} (i : Nat), Vals xs us -> Vals (xs.set i x) (us.set i u)
  | _, _, _, .nil => .nil
  | _, _, 0, .cons _ t => .cons r t
  | _, _, i + 1, .cons q t => .cons q (Vals.set r i t)
theorem Vals.append : ∀ {xs ys : List V} {us ws : List Value}, Vals xs us -> Vals ys ws -> Vals (xs ++ ys) (us ++ ws)
  | _, _, _, _, .nil, s => s
  | _, _, _, _, .cons r t, s => .cons r (Vals.append t s)
theorem Vals.take : ∀ {xs : List V} {us : List Value} (n : Nat), Vals xs us -> Vals (xs.take n) (us.take n)
  | _, _, 0, _ => .nil
  | _, _, _ + 1, .nil => .nil
  | _, _, n + 1, .cons r t => .cons r (Vals.take n t)
theorem Vals.drop : ∀ {xs : List V} {us : List Value} (n : Nat), Vals xs us -> Vals (xs.drop n) (us.drop n)
  | _, _, 0, r => r
  | _, _, _ + 1, .nil => .nil
  | _, _, n + 1, .cons _ t => Vals.drop n t
noncomputable def RelO : Option V -> Option Value -> Prop
  | some v, some u => RelV v u
  | none, none => True
  | _, _ => False
noncomputable def KV {κ : Type} : List (κ × V) -> List (κ × Value) -> Prop := Paired fun (p : κ × V) (q : κ × Value) => p.1 = q.1 /\ RelV p.2 q.2
noncomputable def kV : Key -> V
  | .inl i => .int i
  | .inr x => .str x
inductive HO where
  | lst (xs : List V)
  | tup (xs : List V)
  | dK (kvs : List (Key × V)) | dT (kvs : List (List Key × V))
  | set (S : Int -> Bool) (n : Nat)
  | ins (C dx : Addr) (fs : List (Str × V))
  | own (x : Addr)
  | xd (fs : List (Str × V))
  | met (f x : Addr)
  | rng (lo hi : Int)
  | frz (o : Obj) (u : HO)
  | tbl (ps : Array Value)
  | ext (φ : Heap -> Prop)
noncomputable abbrev Hp := Addr -> Option HO
noncomputable def upd (H : Hp) (a : Addr) (o : HO) : Hp := fun b => if b = a then some o else H b
theorem aH {H : Hp} {a : Addr} {o : HO} : upd H a o a = some o := by unfold upd; rw [if_pos rfl]
theorem bK {H : Hp} {a b : Addr} {o : HO} (h : b ≠ a) : upd H a o b = H b := by unfold upd; rw [if_neg h]
theorem bU {H : Hp} {a b : Addr} {o : HO} (h : H a = some o) (h' : H b = none) : a ≠ b := by
  intro e; subst e; rw [h] at h'; cases h'
section
variable (P : Program) (w : World)
noncomputable def jl (H : Hp) (h : Heap) (a : Addr) : HO -> Prop
  | .lst xs => xs.length <= sizeLine /\ ∃ (its : List Value) (n : Nat), Vals xs its /\ h.get? a = some { cls := .type "list", data := .seq its.toArray n }
  | .tup xs => xs.length <= sizeLine /\ ∃ its : List Value, Vals xs its /\ IsTup h a its.toArray
  | .dK kvs => kvs.length <= sizeLine /\ (a == sysModules) = false /\ ∃ vs, KV kvs vs /\ h.DictOf (Ba P w) a vs
  | .dT kvs => kvs.length <= sizeLine /\ (a == sysModules) = false /\ ∃ xs : List (List Key × Addr × Value),
      Paired (fun (p : List Key × V) (q : List Key × Addr × Value) => p.1 = q.1 /\ H q.2.1 = some (.tup (p.1.map kV)) /\ RelV p.2 q.2.2) kvs xs /\
      ∃ o es ep, h.get? a = some o /\ o.ExactDict /\ o.data = .dict es ep /\ es.toList = xs.map (entryOfKey (tupleKind (Ba P w))) /\ (xs.map (·.1)).Nodup
  | .set S n => h.SetOf (intKind P w) a S n
  | .ins C dx fs => H dx = some (.own a) /\ fs.length <= 1000 /\ dx ≠ a /\ h.get? a = some (PySem.W.instObj C dx) /\
      ∃ mA, h.Ns1 dx mA /\ (∀ f, RelO (fs.lookup f) (mA f)) /\ PySem.Within mA (fs.map (·.1))
  | .own _ => ∃ o, h.get? a = some o
  | .xd fs => ∃ mA, h.Ns1 a mA /\ ∀ f, RelO (fs.lookup f) (mA f)
  | .rng lo hi => ∃ t u v, h.get? a = some { cls := .type "range", data := .fields #[.int lo t, .int hi u, .int 1 v] }
  | .frz o u => h.get? a = some o /\ jl H h a u
  | .tbl ps => h.get? a = some { cls := .none, data := .fields ps }
  | .met f x => h.get? a = some (PySem.W.methodObj (.ref f) (.ref x))
  | .ext φ => φ h /\ (∃ o, h.get? a = some o) /\ ∀ h1 h2 : Heap, φ h1 -> (∀ o, h1.get? a = some o -> h2.get? a = some o) -> φ h2
noncomputable def HOk (H : Hp) (h : Heap) : Prop := ∀ a o, H a = some o -> jl P w H h a o
end
section
variable {P : Program} {w : World} {H H' : Hp} {h h' : Heap} {a : Addr} {o : HO}
theorem jl.lt (x : jl P w H h a o) : a < h.objs.size := by
  cases o with
  | lst xs => obtain ⟨_, _, _, _, e⟩ := x; exact Heap.lt_size e
  | tup xs => obtain ⟨_, _, _, p⟩ := x; exact p.lt
  | dK kvs => obtain ⟨_, _, _, _, o, _, _, e, _⟩ := x; exact Heap.lt_size e
  | dT kvs => obtain ⟨_, _, _, _, o, _, _, e, _⟩ := x; exact Heap.lt_size e
  | set S n => obtain ⟨o, _, _, _, e, _⟩ := x; exact Heap.lt_size e
  | ins C dx fs => obtain ⟨_, _, _, e, _⟩ := x; exact Heap.lt_size e
  | own y => obtain ⟨_, e⟩ := x; exact Heap.lt_size e
  | xd fs => obtain ⟨_, ⟨_, _, _, e, _⟩, _⟩ := x; exact Heap.lt_size e
  | rng lo hi => obtain ⟨_, _, _, e⟩ := x; exact Heap.lt_size e
  | frz ob u => obtain ⟨e, _⟩ := x; exact Heap.lt_size e
  | tbl ps => exact Heap.lt_size (show h.get? a = some _ from x)
  | met f y => exact Heap.lt_size (show h.get? a = some _ from x)
  | ext φ => obtain ⟨_, ⟨_, e⟩, _⟩ := x; exact Heap.lt_size e
theorem Paired.mapP {α β : Type} {F G : α -> β -> Prop} : ∀ {l₁ : List α} {l₂ : List β}, Paired F l₁ l₂ -> (∀ a b, F a b -> G a b) -> Paired G l₁ l₂
  | _, _, .nil, _ => .nil
  | _, _, .cons r t, f => .cons (f _ _ r) (Paired.mapP t f)
theorem jl.stay (x : jl P w H h a o) (k : ∀ b u, (b = a \/ H b = some (.own a)) -> h.get? b = some u -> h'.get? b = some u)
    (ho : ∀ b, H b = some (.own a) -> H' b = some (.own a)) (ht : ∀ b xs, H b = some (.tup xs) -> H' b = some (.tup xs)) : jl P w H' h' a o := by
  induction o with
  | lst xs => obtain ⟨z, its, n, r, e⟩ := x; exact ⟨z, its, n, r, k _ _ (.inl rfl) e⟩
  | tup xs => obtain ⟨z, its, r, ob, e, c⟩ := x; exact ⟨z, its, r, ob, k _ _ (.inl rfl) e, c⟩
  | dK kvs => obtain ⟨z, y, vs, r, ob, es, ep, e, c⟩ := x; exact ⟨z, y, vs, r, ob, es, ep, k _ _ (.inl rfl) e, c⟩
  | dT kvs =>
    obtain ⟨z, y, xs, r, ob, es, ep, e, c⟩ := x
    exact ⟨z, y, xs, Paired.mapP r fun p q z => ⟨z.1, ht _ _ z.2.1, z.2.2⟩, ob, es, ep, k _ _ (.inl rfl) e, c⟩
  | set S n => obtain ⟨ob, es, ep, t, e, c⟩ := x; exact ⟨ob, es, ep, t, k _ _ (.inl rfl) e, c⟩
  | ins C dx fs =>
    obtain ⟨d, z, ne, e, mA, ⟨od, es, ep, e2, c⟩, r⟩ := x
    exact ⟨ho _ d, z, ne, k _ _ (.inl rfl) e, mA, ⟨od, es, ep, k _ _ (.inr d) e2, c⟩, r⟩
  | own y => obtain ⟨ob, e⟩ := x; exact ⟨ob, k _ _ (.inl rfl) e⟩
  | xd fs => obtain ⟨mA, ⟨od, es, ep, e, c⟩, r⟩ := x; exact ⟨mA, ⟨od, es, ep, k _ _ (.inl rfl) e, c⟩, r⟩
  | rng lo hi => obtain ⟨t, u, v, e⟩ := x; exact ⟨t, u, v, k _ _ (.inl rfl) e⟩
  | frz ob u ih => obtain ⟨e, q⟩ := x; exact ⟨k _ _ (.inl rfl) e, ih q⟩
  | tbl ps =>
    have e : h.get? a = some { cls := .none, data := .fields ps } := x
    show h'.get? a = some { cls := .none, data := .fields ps }
    exact k a _ (.inl rfl) e
  | met f y =>
    have e : h.get? a = some (PySem.W.methodObj (.ref f) (.ref y)) := x
    show h'.get? a = some (PySem.W.methodObj (.ref f) (.ref y))
    exact k a _ (.inl rfl) e
  | ext φ => obtain ⟨p, ⟨o, e⟩, st⟩ := x; exact ⟨st _ _ p fun o q => k _ _ (.inl rfl) q, ⟨o, k _ _ (.inl rfl) e⟩, st⟩
theorem HOk.lt (x : HOk P w H h) (e : H a = some o) : a < h.objs.size := (x a o e).lt
theorem HOk.fresh (x : HOk P w H h) (e : h.objs.size <= a) : H a = none := by
  cases q : H a with
  | none => rfl
  | some u => exact absurd (Nat.lt_of_lt_of_le (x.lt q) e) (Nat.lt_irrefl _)
theorem HOk.kept (x : HOk P w H h) (k : ∀ b u, h.get? b = some u -> h'.get? b = some u) : HOk P w H h' := fun a o e =>
  (x a o e).stay (fun b u _ q => k b u q) (fun _ q => q) fun _ _ q => q
theorem HOk.laid (x : HOk P w H h) (k : ∀ b u, h.get? b = some u -> h'.get? b = some u) (hp : h.objs.size <= a) (new : jl P w (upd H a o) h' a o) : HOk P w (upd H a o) h' := fun b u e => by
  have hn := x.fresh hp
  by_cases hb : b = a
  · subst hb; rw [aH] at e; cases e; exact new
  · rw [bK hb] at e
    exact (x b u e).stay (fun c v _ q => k c v q) (fun c q => by rw [bK (bU q hn)]; exact q) fun c xs q => by rw [bK (bU q hn)]; exact q
end
noncomputable def Rd (H : Hp) (a : Addr) (u : HO) : Prop := H a = some u \/ ∃ o, H a = some (.frz o u)
theorem Rd.ok {P : Program} {w : World} {H : Hp} {h : Heap} {a : Addr} {u : HO} (r : Rd H a u) (x : HOk P w H h) : jl P w H h a u := by
  rcases r with r | ⟨o, r⟩
  · exact x a u r
  · obtain ⟨_, q⟩ := x a _ r
    exact q
noncomputable def Mut : Option HO -> Prop
  | some (.lst _) => True
  | some (.dK _) => True
  | some (.dT _) => True
  | some (.set _ _) => True
  | some (.ins _ _ _) => True
  | some (.ext _) => True
  | _ => False
section
variable {P : Program} {w : World} {H : Hp} {h h' : Heap} {x e : Addr} {o' : HO}
theorem HOk.write (ok : HOk P w H h) (mu : Mut (H x)) (he : e = x \/ H e = some (.own x)) (k : ∀ b u, b ≠ e -> h.get? b = some u -> h'.get? b = some u) (heo : ∃ u, h'.get? e = some u)
    (new : jl P w (upd H x o') h' x o') : HOk P w (upd H x o') h' := fun b u q => by
  have nown : ∀ c y, H c = some (.own y) -> c ≠ x := fun c y r z => by subst z; rw [r] at mu; exact mu
  have ntup : ∀ c xs, H c = some (.tup xs) -> c ≠ x := fun c xs r z => by subst z; rw [r] at mu; exact mu
  by_cases hb : b = x
  · subst hb; rw [aH] at q; cases q; exact new
  · rw [bK hb] at q
    by_cases hbe : b = e
    · have q' : H b = some (.own x) := by
        rcases he with z | z
        · exact absurd (hbe.trans z) hb
        · rw [hbe]; exact z
      rw [q] at q'; cases q'
      obtain ⟨v, hv⟩ := heo
      exact ⟨v, by rw [hbe]; exact hv⟩
    · refine (ok b u q).stay (fun c v hc r => k c v ?_ r) (fun c r => by rw [bK (nown c b r)]; exact r) fun c xs r => by rw [bK (ntup c xs r)]; exact r
      rcases hc with rfl | hc
      · exact hbe
      · rintro rfl
        rcases he with z | z
        · exact nown c b hc z
        · rw [hc] at z; cases z; exact hb rfl
end
structure Un (fs ex : List Addr) (H H' : Hp) (h h' : Heap) : Prop where
  keep : ∀ b o, h.get? b = some o -> H b = none -> b ∉ fs -> b ∉ ex -> h'.get? b = some o
  slot : ∀ b o, h.get? b = some o -> H b = none -> b ∈ fs -> b ∉ ex -> ∃ sl, h'.get? b = some { o with slots := sl }
  free : ∀ b o, h.get? b = some o -> H b = none -> b ∉ ex -> H' b = none
  there : ∀ b o, h.get? b = some o -> b ∉ ex -> ∃ o', h'.get? b = some o'
  tups : ∀ b xs, H b = some (.tup xs) -> H' b = some (.tup xs)
  lY : ∀ b o u, H b = some (.frz o u) -> H' b = some (.frz o u)
  oh : ∀ b ps, H b = some (.tbl ps) -> ∃ more, H' b = some (.tbl (ps ++ more))
section
variable {fs fs' ex ex' : List Addr} {H H1 H2 : Hp} {h h1 h2 h' : Heap} {a x e : Addr} {o : HO}
theorem Un.any (u : Un fs ex H H1 h h1) {b : Addr} {ob : Obj} (q : h.get? b = some ob) (n : H b = none) (hx : b ∉ ex) : ∃ sl, h1.get? b = some { ob with slots := sl } := by
  by_cases hb : b ∈ fs
  · exact u.slot b ob q n hb hx
  · exact ⟨ob.slots, u.keep b ob q n hb hx⟩
theorem Un.kept (k : ∀ b u, h.get? b = some u -> h'.get? b = some u) : Un fs ex H H h h' :=
  ⟨fun b ob q _ _ _ => k b ob q, fun b ob q _ _ _ => ⟨ob.slots, k b ob q⟩, fun _ _ _ n _ => n, fun b ob q _ => ⟨ob, k b ob q⟩, fun _ _ q => q, fun _ _ _ q => q, fun _ ps q => ⟨#[], by rw [q]; simp⟩⟩
theorem Un.refl : Un fs ex H H h h := Un.kept fun _ _ q => q
theorem Un.laid (k : ∀ b u, h.get? b = some u -> h'.get? b = some u) (hp : h.objs.size <= a) (hn : H a = none) : Un fs ex H (upd H a o) h h' where
  keep := fun b u q _ _ _ => k b u q
  slot := fun b u q _ _ _ => ⟨u.slots, k b u q⟩
  free := fun b u q n _ => by rw [bK (Nat.ne_of_lt (Nat.lt_of_lt_of_le (Heap.lt_size q) hp))]; exact n
  there := fun b u q _ => ⟨u, k b u q⟩
  tups := fun b xs q => by rw [bK (bU q hn)]; exact q
  lY := fun b u xs q => by rw [bK (bU q hn)]; exact q
  oh := fun b ps q => ⟨#[], by rw [bK (bU q hn), q]; simp⟩
theorem Un.write (mu : Mut (H x)) (he : e = x \/ H e = some (.own x)) (k : ∀ b u, b ≠ e -> h.get? b = some u -> h'.get? b = some u) (heo : ∃ u, h'.get? e = some u) : Un fs ex H (upd H x o) h h' := by
  have hx : ∀ b, H b = none -> b ≠ x := fun b n z => by subst z; rw [n] at mu; exact mu
  have hb : ∀ b, H b = none -> b ≠ e := fun b n z => by
    subst z
    rcases he with r | r
    · exact hx b n r
    · rw [n] at r; cases r
  have hm : ∀ b u, H b = some u -> ¬ Mut (some u) -> b ≠ x := fun b u q nm z => by subst z; rw [q] at mu; exact nm mu
  refine ⟨fun b u q n _ _ => k b u (hb b n) q, fun b u q n _ _ => ⟨u.slots, k b u (hb b n) q⟩, fun b u q n _ => by rw [bK (hx b n)]; exact n, fun b u q _ => ?_,
    fun b xs q => by rw [bK (hm b _ q fun z => z)]; exact q, fun b u xs q => by rw [bK (hm b _ q fun z => z)]; exact q, fun b ps q => ⟨#[], by rw [bK (hm b _ q fun z => z), q]; simp⟩⟩
  by_cases hbe : b = e
  · subst hbe; exact heo
  · exact ⟨u, k b u hbe q⟩
end
noncomputable def trk (h : Heap) (H : Hp) : List Addr := (List.range h.objs.size).filter fun a => (H a).isSome
noncomputable def sV (h : Heap) (H : Hp) : Heap := PySem.W.hideAll h (trk h H)
theorem DK (h : Heap) (H : Hp) : (sV h H).objs.size = h.objs.size := PySem.W.hideAll_size _ _
theorem Hq {h : Heap} {H : Hp} {b : Addr} {o : Obj} (e : h.get? b = some o) (n : H b = none) : (sV h H).get? b = some o :=
  PySem.W.hideAll_get _ e fun hm => by
    have q : (H b).isSome = true := (List.mem_filter.mp hm).2
    rw [n] at q; simp at q
theorem IW {h : Heap} {H : Hp} {b : Addr} {o : Obj} (e : (sV h H).get? b = some o) : h.get? b = some o /\ H b = none := by
  have e' : h.get? b = some o := PySem.W.of_hideAll (trk h H) e
  refine ⟨e', ?_⟩
  cases q : H b with
  | none => rfl
  | some x =>
    have hm : b ∈ trk h H := List.mem_filter.mpr ⟨List.mem_range.mpr (Heap.lt_size e'), by simp [q]⟩
    have z : (sV h H).get? b = none := PySem.W.hideAll_none (trk h H) hm
    rw [z] at e; cases e
noncomputable def Ju (g h : Heap) (L : Addr) : List (Addr × Obj) := (List.range h.objs.size).filterMap fun a => if a = L \/ (g.get? a).isSome = true then none else (h.get? a).map fun o => (a, o)
noncomputable def rest (g h : Heap) (L d : Addr) : List (Addr × Obj) := (Ju g h L).filter fun p => decide (p.1 ≠ d)
end L2
namespace L2
open PySem PySem.Spec PyProof.Rows
structure Mod (K : PySem.W.Frag) (mg : Str -> Option Value) (base : Heap) : Prop where
  kin : K.In base
  glob : base.Ns mainGlobals mg
  blt : ∃ mb, base.Ns builtinsNs mb /\ ∀ x : Str, x ≠ "__name__" -> mb x = bootBuiltins x
  nolimit : base.NoLimit
structure Cx where
  prog : Program
  w : World
  K : PySem.W.Frag
  mg : Str -> Option Value
  base : Heap
  A : Around
  N : List Str
  s₀ : Shared
  H₀ : Hp
  env : Env
  outer : List Env
  stack : List Env
  ex : List Addr
  fn : Str -> Bool
  calm : Bool
  pn : List (Addr × Obj)
  xe : Value -> Shared -> Prop
noncomputable def frs (l : List Env) : List Addr := l.filterMap (·.frame)
noncomputable abbrev Cx.fs (X : Cx) : List Addr := frs X.outer
noncomputable def Vis (sc : Scope) (x : Str) : Prop := sc.names.lookup x = some .local \/ sc.names.lookup x = some .cell \/ sc.names.lookup x = some .free
noncomputable def Loc (sc : Scope) (x : Str) : Prop := sc.names.lookup x = some .local \/ sc.names.lookup x = some .cell
noncomputable def Look (env : Env) (h : Heap) (m : Str -> Option Value) (x : Str) (u : Value) : Prop :=
  (env.kindOf x = some .local /\ m x = some u) \/ ((env.kindOf x = some .cell \/ env.kindOf x = some .free) /\ ∃ c, env.cells.lookup x = some c /\ h.IsCell c (some u))
structure Cx.Ok (X : Cx) : Prop where
  mod : Mod X.K X.mg X.base
  kind : X.env.scope.kind = .function
  glob : X.env.globals = mainGlobals
  blt : X.env.builtins = builtinsNs
  above : X.s₀.heap.objs.size <= X.env.locals
  inj : ∀ x y c, X.env.cells.lookup x = some c -> X.env.cells.lookup y = some c -> x = y
  has : ∀ x, (X.env.kindOf x = some .cell \/ X.env.kindOf x = some .free) -> ∃ c, X.env.cells.lookup x = some c
  cab : ∀ x c, X.fn x = true -> X.env.cells.lookup x = some c -> X.s₀.heap.objs.size <= c
  hd : X.calm = true -> X.A.handled = none
  frames : X.A.frames = some X.stack
  stk : X.stack = X.outer \/ (X.stack = X.env :: X.outer /\ X.env.frame = some X.env.locals)
  exf : ∀ b ∈ X.ex, b ≠ X.env.locals /\ ∀ x c, X.env.cells.lookup x = some c -> c ≠ b
  bs : ∀ b o, X.base.get? b = some o -> X.s₀.heap.get? b = some o /\ X.H₀ b = none
  bsz : X.base.objs.size <= X.s₀.heap.objs.size
  yM : ∀ b o, X.base.get? b = some o -> b ∉ X.ex
  yO : ∀ b ∈ X.ex, b ∉ X.fs
  oE : X.s₀.heap.FunFrames X.base X.outer
  frf : ∀ b ∈ X.fs, X.H₀ b = none
structure Inv (X : Cx) (pins : List (Addr × Obj)) (σ : List (Option V)) (H : Hp) (s : Shared) : Prop where
  ok : X.Ok
  os : s.os = X.s₀.os
  bare : AllBare s.gens
  base : Un X.fs X.ex X.H₀ H X.s₀.heap s.heap
  loc : ∃ m, s.heap.Ns X.env.locals m /\ ∀ (i : Nat) (x : Str) (v : V), X.N[i]? = some x -> σ[i]? = some (some v) -> Vis X.env.scope x -> ∃ u, RelV v u /\ Look X.env s.heap m x u
  cell : ∀ x c, X.env.cells.lookup x = some c -> ∃ v, s.heap.IsCell c v
  free : H X.env.locals = none
  jk : ∀ x c, X.env.cells.lookup x = some c -> H c = none
  pin : ∀ p ∈ X.pn ++ pins, s.heap.get? p.1 = some p.2 /\ H p.1 = none /\ p.1 ≠ X.env.locals /\ p.1 ∉ X.fs /\ ∀ v, p.2.data ≠ .cell v
  hok : HOk X.prog X.w H s.heap
  len : σ.length = X.N.length
section
variable {X : Cx} {pins : List (Addr × Obj)} {σ : List (Option V)} {H H' : Hp} {s : Shared} {h' : Heap}
theorem Cx.Ok.nofr (ok : X.Ok) {b : Addr} {o : Obj} (e : X.base.get? b = some o) : b ∉ X.fs := fun hb => by
  have := (ok.oE.mem hb).1
  rw [e] at this; cases this
theorem Inv.bs (I : Inv X pins σ H s) : ∀ b o, X.base.get? b = some o -> s.heap.get? b = some o /\ H b = none := fun b o e =>
  ⟨I.base.keep b o (I.ok.bs b o e).1 (I.ok.bs b o e).2 (I.ok.nofr e) (I.ok.yM b o e), I.base.free b o (I.ok.bs b o e).1 (I.ok.bs b o e).2 (I.ok.yM b o e)⟩
theorem Inv.bk (I : Inv X pins σ H s) : ∀ b o, X.base.get? b = some o -> s.heap.get? b = some o := fun b o e => (I.bs b o e).1
theorem Inv.mod (I : Inv X pins σ H s) : Mod X.K X.mg X.base := I.ok.mod
theorem Inv.kIn (I : Inv X pins σ H s) : X.K.In s.heap := I.ok.mod.kin.keeps I.bk
theorem Inv.nolimit (I : Inv X pins σ H s) : s.heap.NoLimit := I.ok.mod.nolimit.keeps I.bk
theorem Inv.lt (I : Inv X pins σ H s) : X.env.locals < s.heap.objs.size := let ⟨_, hn, _⟩ := I.loc; hn.lt
theorem Inv.sz (I : Inv X pins σ H s) : X.s₀.heap.objs.size <= s.heap.objs.size := Nat.le_trans I.ok.above (Nat.le_of_lt I.lt)
theorem Inv.nofs (I : Inv X pins σ H s) {a : Addr} (h : s.heap.objs.size <= a) : a ∉ X.fs := fun hb => by
  obtain ⟨_, o, ho, _⟩ := I.ok.oE.mem hb
  exact absurd (Nat.lt_of_lt_of_le (Heap.lt_size ho) (Nat.le_trans I.sz h)) (Nat.lt_irrefl _)
theorem Inv.cne (I : Inv X pins σ H s) : ∀ x c, X.env.cells.lookup x = some c -> c ≠ X.env.locals := fun x c e z => by
  obtain ⟨v, o, ho, hd⟩ := I.cell x c e
  obtain ⟨m, ⟨o', es, ep, ho', hd', _⟩, _⟩ := I.loc
  rw [z, ho'] at ho; cases ho; rw [hd'] at hd; cases hd
theorem Inv.oE (I : Inv X pins σ H s) : s.heap.FunFrames X.base X.outer := by
  have all : ∀ (l : List Env), (∀ b ∈ frs l, b ∈ X.fs) -> X.s₀.heap.FunFrames X.base l -> s.heap.FunFrames X.base l := by
    intro l
    induction l with
    | nil => intro _ _; trivial
    | cons env r ih =>
      intro hs hl
      obtain ⟨hk, ⟨L, o, hf, hn, ho, hd⟩, hr⟩ := hl
      have hL : L ∈ X.fs := hs L (by unfold frs; rw [List.filterMap_cons, hf]; exact List.mem_cons_self)
      obtain ⟨sl, e⟩ := I.base.slot L o ho (I.ok.frf L hL) hL fun z => I.ok.yO L z hL
      exact ⟨hk, ⟨L, _, hf, hn, e, hd⟩, ih (fun b hb => hs b (by unfold frs; rw [List.filterMap_cons, hf]; exact List.mem_cons_of_mem _ hb)) hr⟩
  exact all X.outer (fun _ hb => hb) I.ok.oE
theorem Inv.stack (I : Inv X pins σ H s) : s.heap.FunFrames X.base X.stack := by
  rcases I.ok.stk with e | ⟨e, hf⟩
  · rw [e]; exact I.oE
  · rw [e]
    obtain ⟨m, hn, _⟩ := I.loc
    refine .cons (by rw [I.ok.kind]; decide) hf hn ?_ I.oE
    exact Heap.get?_none_of_le (Nat.le_trans I.ok.bsz I.ok.above)
theorem Inv.qD (I : Inv X pins σ H s) : ∀ b ∈ frs X.stack, b ∈ X.env.locals :: X.fs := fun b hb => by
  rcases I.ok.stk with e | ⟨e, hf⟩
  · rw [e] at hb; exact List.mem_cons_of_mem _ hb
  · rw [e] at hb
    unfold frs at hb
    rw [List.filterMap_cons, hf] at hb
    exact hb
theorem Inv.kO (I : Inv X pins σ H s) : ∀ b ∈ frs X.stack, H b = none := fun b hb => by
  rcases List.mem_cons.mp (I.qD b hb) with e | hb
  · rw [e]; exact I.free
  · obtain ⟨_, o, ho, _⟩ := I.ok.oE.mem hb
    exact I.base.free b o ho (I.ok.frf b hb) fun z => I.ok.yO b z hb
theorem Inv.step {g' : Array GenState} {t' : Nat} {d' : Drawn} {ch : List Addr} (I : Inv X pins σ H s)
    (hch : ∀ b ∈ ch, (b ∈ X.ex \/ X.s₀.heap.objs.size <= b) /\ b ≠ X.env.locals /\ (∀ x c, X.env.cells.lookup x = some c -> c ≠ b) /\ ∀ p ∈ X.pn ++ pins, p.1 ≠ b)
    (keep : ∀ b o, b ≠ X.env.locals -> b ∉ X.fs -> b ∉ ch -> s.heap.get? b = some o -> H b = none -> h'.get? b = some o)
    (slot : ∀ b o, b ≠ X.env.locals -> b ∈ X.fs -> b ∉ ch -> s.heap.get? b = some o -> H b = none -> ∃ sl, h'.get? b = some { o with slots := sl }) (free : ∀ b o, b ∉ ch -> s.heap.get? b = some o -> H b = none -> H' b = none)
    (there : ∀ b o, b ∉ ch -> s.heap.get? b = some o -> ∃ o', h'.get? b = some o')
    (tups : ∀ b xs, H b = some (.tup xs) -> H' b = some (.tup xs)) (lY : ∀ b o u, H b = some (.frz o u) -> H' b = some (.frz o u)) (oh : ∀ b ps, H b = some (.tbl ps) -> ∃ more, H' b = some (.tbl (ps ++ more)))
    (ns : ∀ m, s.heap.Ns X.env.locals m -> h'.Ns X.env.locals m) (hok : HOk X.prog X.w H' h') (hg : AllBare g') :
    Inv X pins σ H' { s with heap := h', gens := g', drawn := d', toks := t' } := by
  have neL : ∀ b o, X.s₀.heap.get? b = some o -> b ≠ X.env.locals := fun b o e => Nat.ne_of_lt (Nat.lt_of_lt_of_le (Heap.lt_size e) I.ok.above)
  have neC : ∀ b o, X.s₀.heap.get? b = some o -> b ∉ X.ex -> b ∉ ch := fun b o e hx hb => by
    rcases (hch b hb).1 with z | z
    · exact hx z
    · exact absurd (Nat.lt_of_lt_of_le (Heap.lt_size e) z) (Nat.lt_irrefl _)
  have cellK : ∀ x c, X.env.cells.lookup x = some c -> ∀ v, s.heap.IsCell c v -> h'.IsCell c v := fun x c e v ⟨o, ho, hd⟩ => by
    have nch : c ∉ ch := fun z => (hch c z).2.2.1 x c e rfl
    by_cases hc : c ∈ X.fs
    · obtain ⟨sl, q⟩ := slot c o (I.cne x c e) hc nch ho (I.jk x c e)
      exact ⟨_, q, hd⟩
    · exact ⟨o, keep c o (I.cne x c e) hc nch ho (I.jk x c e), hd⟩
  refine ⟨I.ok, I.os, hg, ⟨fun b o e n hb hx => ?_, fun b o e n hb hx => ?_, fun b o e n hx => ?_, fun b o e hx => ?_, fun b xs e => tups b xs (I.base.tups b xs e), fun b o xs e => lY b o xs (I.base.lY b o xs e), fun b ps e => ?_⟩, ?_, fun x c e => ?_, ?_, fun x c e => ?_, fun p hp => ?_, hok, I.len⟩
  · exact keep b o (neL b o e) hb (neC b o e hx) (I.base.keep b o e n hb hx) (I.base.free b o e n hx)
  · obtain ⟨sl, e1⟩ := I.base.slot b o e n hb hx
    obtain ⟨sl', e2⟩ := slot b _ (neL b o e) hb (neC b o e hx) e1 (I.base.free b o e n hx)
    exact ⟨sl', e2⟩
  · obtain ⟨o', e1⟩ := I.base.there b o e hx
    exact free b o' (neC b o e hx) e1 (I.base.free b o e n hx)
  · obtain ⟨o', e1⟩ := I.base.there b o e hx
    exact there b o' (neC b o e hx) e1
  · obtain ⟨m1, e1⟩ := I.base.oh b ps e
    obtain ⟨m2, e2⟩ := oh b _ e1
    exact ⟨m1 ++ m2, by rw [e2, Array.append_assoc]⟩
  · obtain ⟨m, hn, hl⟩ := I.loc
    refine ⟨m, ns m hn, fun i x v e1 e2 e3 => ?_⟩
    obtain ⟨u, r, l⟩ := hl i x v e1 e2 e3
    refine ⟨u, r, ?_⟩
    rcases l with l | ⟨k, c, e, z⟩
    · exact .inl l
    · exact .inr ⟨k, c, e, cellK x c e _ z⟩
  · obtain ⟨v, z⟩ := I.cell x c e
    exact ⟨v, cellK x c e v z⟩
  · obtain ⟨m, ⟨o, _, _, ho, _⟩, _⟩ := I.loc
    exact free _ o (fun z => (hch _ z).2.1 rfl) ho I.free
  · obtain ⟨v, o, ho, hd⟩ := I.cell x c e
    exact free c o (fun z => (hch c z).2.2.1 x c e rfl) ho (I.jk x c e)
  · obtain ⟨e, n, ne, nf, d⟩ := I.pin p hp
    have nch : p.1 ∉ ch := fun z => (hch p.1 z).2.2.2 p hp rfl
    exact ⟨keep p.1 p.2 ne nf nch e n, free p.1 p.2 nch e n, ne, nf, d⟩
theorem Inv.un {t' : Nat} (I : Inv X pins σ H s) (u : Un X.fs [] H H' s.heap h') (hok : HOk X.prog X.w H' h') : Inv X pins σ H' { s with heap := h', toks := t' } := by
  obtain ⟨m, ⟨o, es, ep, ho, r⟩, _⟩ := id I.loc
  obtain ⟨sl, hL⟩ := u.any ho I.free (by simp)
  exact I.step (g' := s.gens) (d' := s.drawn) (ch := []) (fun _ z => nomatch z) (fun b o _ hb _ e n => u.keep b o e n hb (by simp)) (fun b o _ hb _ e n => u.slot b o e n hb (by simp)) (fun b o _ e n => u.free b o e n (by simp)) (fun b o _ e => u.there b o e (by simp)) u.tups u.lY u.oh (fun m' hm => by
    obtain ⟨o', es', ep', ho', r'⟩ := hm
    rw [ho] at ho'; cases ho'
    exact ⟨_, es', ep', hL, r'⟩) hok I.bare
theorem Inv.call {g' : Array GenState} {t' : Nat} {d' : Drawn} {ch : List Addr} (I : Inv X pins σ H s) (u : Un (frs X.stack) ch H H' s.heap h') (hok : HOk X.prog X.w H' h') (hg : AllBare g')
    (hch : ∀ b ∈ ch, (b ∈ X.ex \/ X.s₀.heap.objs.size <= b) /\ b ≠ X.env.locals /\ (∀ x c, X.env.cells.lookup x = some c -> c ≠ b) /\ ∀ p ∈ X.pn ++ pins, p.1 ≠ b) :
    Inv X pins σ H' { s with heap := h', gens := g', drawn := d', toks := t' } := by
  obtain ⟨m, ⟨o, es, ep, ho, r⟩, _⟩ := id I.loc
  obtain ⟨sl, hL⟩ := u.any ho I.free fun z => (hch _ z).2.1 rfl
  exact I.step (ch := ch) hch (fun b o hL hb hc e n => u.keep b o e n (fun z => (List.mem_cons.mp (I.qD b z)).elim hL hb) hc) (fun b o _ _ hc e n => u.any e n hc) (fun b o hc e n => u.free b o e n hc) (fun b o hc e => u.there b o e hc) u.tups u.lY u.oh (fun m' hm => by
    obtain ⟨o', es', ep', ho', r'⟩ := hm
    rw [ho] at ho'; cases ho'
    exact ⟨_, es', ep', hL, r'⟩) hok hg
theorem Inv.turned {t' : Nat} {it : Addr} (I : Inv X pins σ H s) (k : ∀ b o, b ≠ it -> s.heap.get? b = some o -> h'.get? b = some o) (hn : H it = none) (hL : it ≠ X.env.locals)
    (h1 : it ∈ X.ex \/ X.s₀.heap.objs.size <= it) (h2 : ∀ x c, X.env.cells.lookup x = some c -> c ≠ it) (h3 : ∀ p ∈ X.pn ++ pins, p.1 ≠ it) : Inv X pins σ H { s with heap := h', toks := t' } := by
  have nit : ∀ b u, H b = some u -> b ≠ it := fun b u e z => by rw [z, hn] at e; cases e
  refine I.step (g' := s.gens) (d' := s.drawn) (ch := [it]) (fun b hb => ?_) (fun b o _ _ hc e _ => k b o (fun z => hc (by simp [z])) e) (fun b o _ _ hc e _ => ⟨o.slots, k b o (fun z => hc (by simp [z])) e⟩) (fun _ _ _ _ n => n)
    (fun b o hc e => ⟨o, k b o (fun z => hc (by simp [z])) e⟩) (fun _ _ e => e) (fun _ _ _ e => e) (fun b ps e => ⟨#[], by rw [e]; simp⟩) (fun m hm => ?_) (fun b u e => ?_) I.bare
  · have e : b = it := by simpa using hb
    subst e
    exact ⟨h1, hL, h2, h3⟩
  · obtain ⟨o, es, ep, ho, r⟩ := hm
    exact ⟨o, es, ep, k _ o (Ne.symm hL) ho, r⟩
  · refine (I.hok b u e).stay (fun c v hc q => k c v ?_ q) (fun _ q => q) fun _ _ q => q
    rcases hc with z | z
    · rw [z]; exact nit b u e
    · exact nit c _ z
theorem Inv.tok (I : Inv X pins σ H s) (t : Nat) : Inv X pins σ H { s with toks := t } := I.un (h' := s.heap) (t' := t) Un.refl I.hok
theorem Inv.kept {t' : Nat} (I : Inv X pins σ H s) (k : ∀ b u, s.heap.get? b = some u -> h'.get? b = some u) : Inv X pins σ H { s with heap := h', toks := t' } := I.un (Un.kept k) (I.hok.kept k)
theorem Inv.laid {a : Addr} {o : HO} {t' : Nat} (I : Inv X pins σ H s) (k : ∀ b u, s.heap.get? b = some u -> h'.get? b = some u) (hp : s.heap.objs.size <= a) (new : jl X.prog X.w (upd H a o) h' a o) :
    Inv X pins σ (upd H a o) { s with heap := h', toks := t' } := I.un (Un.laid k hp (I.hok.fresh hp)) (I.hok.laid k hp new)
theorem Inv.write {x e : Addr} {o : HO} {t' : Nat} (I : Inv X pins σ H s) (mu : Mut (H x)) (he : e = x \/ H e = some (.own x)) (k : ∀ b u, b ≠ e -> s.heap.get? b = some u -> h'.get? b = some u) (heo : ∃ u, h'.get? e = some u)
    (new : jl X.prog X.w (upd H x o) h' x o) : Inv X pins σ (upd H x o) { s with heap := h', toks := t' } := I.un (Un.write mu he k heo) (I.hok.write mu he k heo new)
theorem Inv.Ay {pins' : List (Addr × Obj)} (I : Inv X pins σ H s) (h : ∀ p ∈ pins', s.heap.get? p.1 = some p.2 /\ H p.1 = none /\ p.1 ≠ X.env.locals /\ p.1 ∉ X.fs /\ ∀ v, p.2.data ≠ .cell v) : Inv X pins' σ H s :=
  ⟨I.ok, I.os, I.bare, I.base, I.loc, I.cell, I.free, I.jk, fun p hp => (List.mem_append.mp hp).elim (fun z => I.pin p (List.mem_append_left _ z)) (h p), I.hok, I.len⟩
theorem qX {N : List Str} (hN : N.Nodup) {i j : Nat} {x : Str} (a : N[i]? = some x) (b : N[j]? = some x) : i = j := by
  obtain ⟨h1, e1⟩ := List.getElem?_eq_some_iff.mp a
  obtain ⟨h2, e2⟩ := List.getElem?_eq_some_iff.mp b
  exact (List.getElem_inj hN).mp (e1.trans e2.symm)
theorem tU {M : Model} {A : Around} {E : Value -> Shared -> Prop} {i : Nat} {x : Str} {v : V} {u : Value} {Q : Unit -> Shared -> Prop} (I : Inv X pins σ H s) (hN : X.N.Nodup) (hi : X.N[i]? = some x) (hx : Loc X.env.scope x) (r : RelV v u)
    (h : ∀ s', Inv X pins (σ.set i (some v)) H s' -> (∃ a, Heap.SameBut a s.heap s'.heap /\ (a = X.env.locals \/ X.env.cells.lookup x = some a)) -> Q () s') (hf : X.fn x = true \/ X.env.scope.names.lookup x = some .local := by first | exact .inl rfl | exact .inr rfl | assumption) : wpAny M A (storeName X.env x u) Q E s := by
  obtain ⟨m, hn, hl⟩ := id I.loc
  have hcls : (X.env.scope.kind == .class || (X.env.scope.kind == .module && X.env.locals != X.env.globals)) = false := by rw [I.ok.kind]; rfl
  have hiσ : i < σ.length := by rw [I.len]; exact (List.getElem?_eq_some_iff.mp hi).1
  have cne := I.cne
  have tracked : ∀ {a : Addr} {h' : Heap}, (∃ o, s.heap.get? a = some o /\ H a = none) -> Heap.SameBut a s.heap h' -> HOk X.prog X.w H h' := fun {a h'} ha hs b ob e => by
    obtain ⟨_, _, hfree⟩ := ha
    refine (I.hok b ob e).stay (fun c w' hc q => (hs.2 c ?_).trans q) (fun _ q => q) fun _ _ q => q
    rintro rfl
    rcases hc with rfl | hc
    · rw [hfree] at e; cases e
    · rw [hfree] at hc; cases hc
  rcases hx with hk | hk
  · refine wpAny_storeName_local hk hn (fun h' hn' hs => ?_) hcls
    obtain ⟨oL, _, _, hoL, _⟩ := id hn
    refine h _ ⟨I.ok, I.os, I.bare, ⟨fun b o e n hb hx => ?_, fun b o e n hb hx => ?_, I.base.free, fun b o e hx => ?_, I.base.tups, I.base.lY, I.base.oh⟩, ⟨_, hn', fun j y v' e1 e2 e3 => ?_⟩, fun y c e => ?_, I.free, I.jk, fun p hp => ?_, tracked ⟨oL, hoL, I.free⟩ hs, by simpa using I.len⟩ ⟨_, hs, .inl rfl⟩
    · exact (hs.2 b (Nat.ne_of_lt (Nat.lt_of_lt_of_le (Heap.lt_size e) I.ok.above))).trans (I.base.keep b o e n hb hx)
    · obtain ⟨sl, e1⟩ := I.base.slot b o e n hb hx
      exact ⟨sl, (hs.2 b (Nat.ne_of_lt (Nat.lt_of_lt_of_le (Heap.lt_size e) I.ok.above))).trans e1⟩
    · obtain ⟨o', e1⟩ := I.base.there b o e hx
      exact ⟨o', (hs.2 b (Nat.ne_of_lt (Nat.lt_of_lt_of_le (Heap.lt_size e) I.ok.above))).trans e1⟩
    · by_cases hj : j = i
      · subst hj
        rw [hi] at e1; cases e1
        rw [List.getElem?_set_self hiσ] at e2
        cases e2
        exact ⟨u, r, .inl ⟨hk, by simp⟩⟩
      · rw [List.getElem?_set_ne (Ne.symm hj)] at e2
        obtain ⟨u', r', q⟩ := hl j y v' e1 e2 e3
        refine ⟨u', r', ?_⟩
        rcases q with ⟨k, e⟩ | ⟨k, c, e, z⟩
        · refine .inl ⟨k, ?_⟩
          have : y ≠ x := fun e => hj (qX hN e1 (e ▸ hi))
          simp [this, e]
        · exact .inr ⟨k, c, e, z.sameBut hs (cne y c e)⟩
    · obtain ⟨w', z⟩ := I.cell y c e
      exact ⟨w', z.sameBut hs (cne y c e)⟩
    · obtain ⟨e, n, ne, nf, d⟩ := I.pin p hp
      exact ⟨(hs.2 p.1 ne).trans e, n, ne, nf, d⟩
  · have hfn : X.fn x = true := by
      rcases hf with z | z
      · exact z
      · rw [z] at hk; cases hk
    obtain ⟨c, hc⟩ := I.ok.has x (.inl hk)
    obtain ⟨w', z⟩ := I.cell x c hc
    refine wpAny_storeName_cell I.ok.kind hk hc z (fun h' hc' hs => ?_)
    obtain ⟨oc, hoc, hocd⟩ := id z
    refine h { s with heap := h' } ⟨I.ok, I.os, I.bare, ⟨fun b o e n hb hx => ?_, fun b o e n hb hx => ?_, I.base.free, fun b o e hx => ?_, I.base.tups, I.base.lY, I.base.oh⟩, ⟨m, hn.sameBut hs (Ne.symm (cne x c hc)), fun j y v' e1 e2 e3 => ?_⟩, fun y c' e => ?_, I.free, I.jk, fun p hp => ?_, tracked ⟨oc, hoc, I.jk x c hc⟩ hs, by simpa using I.len⟩ ⟨c, hs, .inr hc⟩
    · exact (hs.2 b (Nat.ne_of_lt (Nat.lt_of_lt_of_le (Heap.lt_size e) (I.ok.cab x c hfn hc)))).trans (I.base.keep b o e n hb hx)
    · obtain ⟨sl, e1⟩ := I.base.slot b o e n hb hx
      exact ⟨sl, (hs.2 b (Nat.ne_of_lt (Nat.lt_of_lt_of_le (Heap.lt_size e) (I.ok.cab x c hfn hc)))).trans e1⟩
    · obtain ⟨o', e1⟩ := I.base.there b o e hx
      exact ⟨o', (hs.2 b (Nat.ne_of_lt (Nat.lt_of_lt_of_le (Heap.lt_size e) (I.ok.cab x c hfn hc)))).trans e1⟩
    · by_cases hj : j = i
      · subst hj
        rw [hi] at e1; cases e1
        rw [List.getElem?_set_self hiσ] at e2
        cases e2
        exact ⟨u, r, .inr ⟨.inl hk, c, hc, hc'⟩⟩
      · rw [List.getElem?_set_ne (Ne.symm hj)] at e2
        obtain ⟨u', r', q⟩ := hl j y v' e1 e2 e3
        refine ⟨u', r', ?_⟩
        rcases q with q | ⟨k, c', e, z'⟩
        · exact .inl q
        · refine .inr ⟨k, c', e, z'.sameBut hs ?_⟩
          rintro rfl
          exact hj (qX hN e1 (I.ok.inj _ _ _ e hc ▸ hi))
    · by_cases hcc : c' = c
      · subst hcc; exact ⟨_, hc'⟩
      · obtain ⟨w2, z2⟩ := I.cell y c' e
        exact ⟨w2, z2.sameBut hs hcc⟩
    · obtain ⟨e, n, ne, nf, d⟩ := I.pin p hp
      refine ⟨(hs.2 p.1 ?_).trans e, n, ne, nf, d⟩
      intro q
      rw [q, hoc] at e
      have q' : oc = p.2 := Option.some.inj e
      exact d w' (by rw [<- q']; exact hocd)
theorem qK {M : Model} {A : Around} {E : Value -> Shared -> Prop} {i : Nat} {x : Str} {v : V} {u : Value} {Q : Unit -> Shared -> Prop} (I : Inv X pins σ H s) (hN : X.N.Nodup) (hi : X.N[i]? = some x) (hx : Loc X.env.scope x) (r : RelV v u)
    (h : ∀ s', Inv X pins (σ.set i (some v)) H s' -> Q () s') (hf : X.fn x = true \/ X.env.scope.names.lookup x = some .local := by first | exact .inl rfl | exact .inr rfl | assumption) : wpAny M A (storeName X.env x u) Q E s :=
  tU I hN hi hx r (fun s' I' _ => h s' I') hf
theorem Inv.call' {s' : Shared} {ch : List Addr} (I : Inv X pins σ H s) (ho : s'.os = s.os) (u : Un (frs X.stack) ch H H' s.heap s'.heap) (hok : HOk X.prog X.w H' s'.heap) (hg : AllBare s'.gens)
    (hch : ∀ b ∈ ch, (b ∈ X.ex \/ X.s₀.heap.objs.size <= b) /\ b ≠ X.env.locals /\ (∀ x c, X.env.cells.lookup x = some c -> c ≠ b) /\ ∀ p ∈ X.pn ++ pins, p.1 ≠ b) : Inv X pins σ H' s' := by
  obtain ⟨h', g', d', t', o'⟩ := s'
  have e : o' = s.os := ho
  subst e
  exact I.call (g' := g') (t' := t') (d' := d') u hok hg hch
end
noncomputable abbrev XK := Value -> Option Addr -> Hp -> Prop
noncomputable abbrev St := List (Option V)
noncomputable abbrev VK := V -> Hp -> Prop
noncomputable abbrev TE := St -> Hp -> VK -> Prop
noncomputable abbrev TT := St -> Hp -> (Bool -> Hp -> Prop) -> Prop
noncomputable abbrev TA := St -> Hp -> (List V -> Hp -> Prop) -> Prop
structure Ends where
  nx : St -> Hp -> Prop
  rt : VK
  bk : St -> Hp -> Prop := fun _ _ => False
  ct : St -> Hp -> Prop := fun _ _ => False
noncomputable abbrev TS := Ends -> St -> Hp -> Prop
noncomputable def EP (X : Cx) (pins : List (Addr × Obj)) (σ : St) (Q : VK) (u : Value) (s' : Shared) : Prop := ∃ v H', Inv X pins σ H' s' /\ RelV v u /\ Q v H'
noncomputable def TP (X : Cx) (pins : List (Addr × Obj)) (σ : St) (Q : Bool -> Hp -> Prop) (b : Bool) (s' : Shared) : Prop := ∃ H', Inv X pins σ H' s' /\ Q b H'
noncomputable def AP (X : Cx) (pins : List (Addr × Obj)) (σ : St) (Q : List V -> Hp -> Prop) (us : List Value) (s' : Shared) : Prop := ∃ vs H', Inv X pins σ H' s' /\ Vals vs us /\ Q vs H'
noncomputable def SP (X : Cx) (pins : List (Addr × Obj)) (D : Ends) (f : Flow) (s' : Shared) : Prop :=
  match f with
  | .next => ∃ σ' H', Inv X pins σ' H' s' /\ D.nx σ' H'
  | .brk => ∃ σ' H', Inv X pins σ' H' s' /\ D.bk σ' H'
  | .cont => ∃ σ' H', Inv X pins σ' H' s' /\ D.ct σ' H'
  | .ret u => ∃ v σ' H', Inv X pins σ' H' s' /\ RelV v u /\ D.rt v H'
noncomputable def PE (X : Cx) (e : Expr) (t : TE) : Prop :=
  ∀ (pins : List (Addr × Obj)) (s : Shared) (σ : St) (H : Hp) (Q : VK), Inv X pins σ H s -> t σ H Q -> wpAny (model X.prog X.w) X.A (eval e X.env) (EP X pins σ Q) X.xe s
noncomputable def PT (X : Cx) (e : Expr) (t : TT) : Prop :=
  ∀ (pins : List (Addr × Obj)) (s : Shared) (σ : St) (H : Hp) (Q : Bool -> Hp -> Prop), Inv X pins σ H s -> t σ H Q -> wpAny (model X.prog X.w) X.A (isTrue e X.env (eval e X.env)) (TP X pins σ Q) X.xe s
noncomputable def PW (X : Cx) (e : Expr) (t : TT) : Prop :=
  ∀ (whole : Sem Value) (pins : List (Addr × Obj)) (s : Shared) (σ : St) (H : Hp) (Q : Bool -> Hp -> Prop), Inv X pins σ H s -> t σ H Q -> wpAny (model X.prog X.w) X.A (isTrue e X.env whole) (TP X pins σ Q) X.xe s
theorem PW.pt {X : Cx} {e : Expr} {t : TT} (h : PW X e t) : PT X e t := h _
noncomputable def PA (X : Cx) (es : List Expr) (t : TA) : Prop :=
  ∀ (pos : Pos) (pins : List (Addr × Obj)) (s : Shared) (σ : St) (H : Hp) (Q : List V -> Hp -> Prop), Inv X pins σ H s -> t σ H Q -> wpAny (model X.prog X.w) X.A (spliced (backTo pos (starEach es X.env))) (AP X pins σ Q) X.xe s
noncomputable def PS (X : Cx) (st : Stmt) (t : TS) : Prop :=
  ∀ (pins : List (Addr × Obj)) (s : Shared) (σ : St) (H : Hp) (D : Ends), Inv X pins σ H s -> t D σ H -> wpAny (model X.prog X.w) X.A (exec st X.env) (SP X pins D) X.xe s
noncomputable def PSs (X : Cx) (st : List Stmt) (t : TS) : Prop :=
  ∀ (pins : List (Addr × Obj)) (s : Shared) (σ : St) (H : Hp) (D : Ends), Inv X pins σ H s -> t D σ H -> wpAny (model X.prog X.w) X.A (execs st X.env) (SP X pins D) X.xe s
theorem thn {α : Type} {t : Sem α} {Q Q' : α -> Shared -> Prop} {M : Model} {A : Around} {E : Value -> Shared -> Prop} {s : Shared} (h : wpAny M A t Q E s) (hQ : ∀ a s, Q a s -> Q' a s) : wpAny M A t Q' E s := wpAny_mono h hQ fun _ _ x => x
end L2
namespace L2
open PySem PySem.Spec PyProof.Rows
section
variable {X : Cx}
theorem bin {a b : Expr} {ta tb : TE} (ha : PE X a ta) (hb : PE X b tb) {pins : List (Addr × Obj)} {s : Shared} {σ : St} {H : Hp} {R : V -> V -> Hp -> Prop} (I : Inv X pins σ H s) (h : ta σ H fun x H1 => tb σ H1 fun y H2 => R x y H2)
    {α : Type} {Q : α -> Shared -> Prop} {f : Value -> Value -> Sem α}
    (hf : ∀ v u s2 x y H2, Inv X pins σ H2 s2 -> RelV x v -> RelV y u -> R x y H2 -> wpAny (model X.prog X.w) X.A (f v u) Q X.xe s2) :
    wpAny (model X.prog X.w) X.A (eval a X.env) (fun v s₁ => wpAny (model X.prog X.w) X.A (eval b X.env) (fun u s₂ => wpAny (model X.prog X.w) X.A (f v u) Q X.xe s₂) X.xe s₁) X.xe s := by
  refine thn (ha pins s σ H _ I h) fun v s1 ⟨x, H1, I1, r1, q1⟩ => ?_
  refine thn (hb pins s1 σ H1 _ I1 q1) fun u s2 ⟨y, H2, I2, r2, q2⟩ => ?_
  exact hf v u s2 x y H2 I2 r1 r2 q2
inductive XVar (i : Nat) (σ : St) (H : Hp) (Q : VK) : Prop
  | mk (v : V) (e : σ[i]? = some (some v)) (q : Q v H) : XVar i σ H Q
noncomputable def ou (i : Nat) : TE := fun σ H Q => XVar i σ H Q
noncomputable def tC (v : V) : TE := fun _ H Q => Q v H
theorem K_ {i : Nat} {x : Str} {pos : Pos} (hN : X.N[i]? = some x) (hv : Vis X.env.scope x) (hd : (x == ("__debug__" : Str)) = false := by decide) (hcd : (x == ("__classdict__" : Str)) = false := by decide) : PE X (.Name x pos) (ou i) := by
  intro pins s σ H Q I h
  obtain ⟨v, e, h⟩ := h
  obtain ⟨m, hn, hl⟩ := I.loc
  obtain ⟨u, r, l⟩ := hl i x v hN e hv
  have fin : EP X pins σ Q u s := ⟨v, H, I, r, h⟩
  rcases l with ⟨hk, hm⟩ | ⟨hk, c, hc, hcell⟩
  · exact wpAny_Name (wpAny_loadName_local I.ok.kind hk hn hm fin) hd
  · rcases hk with hk | hk
    · exact wpAny_Name (wpAny_loadName_cell I.ok.kind hk hc hcell fin) hd
    · exact wpAny_Name (wpAny_loadName_free I.ok.kind hk hc hcell fin hcd) hd
theorem au {i j pos} : PE X (.Constant (.int i) j pos) (tC (.int i)) := fun _ _ _ H _ I h => wpAny_Constant_int ⟨.int i, H, I.tok _, ⟨_, rfl⟩, h⟩
theorem pC {b j pos} : PE X (.Constant (.bool b) j pos) (tC (.bl b)) := fun _ _ _ H _ I h => Constant_bool ⟨.bl b, H, I, rfl, h⟩
theorem cA {x j pos} : PE X (.Constant (.str x) j pos) (tC (.str x)) := fun _ _ _ H _ I h => Calls.Constant_str ⟨.str x, H, I.tok _, ⟨_, rfl⟩, h⟩
noncomputable def Gl (X : Cx) (x : Str) : Prop := X.env.kindOf x = some .globalImplicit
theorem m_ {E : Value -> Shared -> Prop} {pins : List (Addr × Obj)} {s : Shared} {σ : St} {H : Hp} {x : Str} {u : Value} {pos : Pos} {Q : Value -> Shared -> Prop} (I : Inv X pins σ H s) (hg : Gl X x) (hm : X.mg x = some u) (h : Q u s)
    (hd : (x == ("__debug__" : Str)) = false := by decide) : wpAny (model X.prog X.w) X.A (eval (.Name x pos) X.env) Q E s :=
  Calls.Name_function_global I.ok.kind hg (Calls.loadGlobal_global (by rw [I.ok.glob]; exact I.mod.glob.keeps I.bk) hm h) hd
theorem jT {E : Value -> Shared -> Prop} {pins : List (Addr × Obj)} {s : Shared} {σ : St} {H : Hp} {x : Str} {u : Value} {pos : Pos} {Q : Value -> Shared -> Prop} (I : Inv X pins σ H s) (hg : Gl X x) (hm : X.mg x = none) (hv : bootBuiltins x = some u) (h : Q u s)
    (hn : x ≠ "__name__" := by decide) (hd : (x == ("__debug__" : Str)) = false := by decide) : wpAny (model X.prog X.w) X.A (eval (.Name x pos) X.env) Q E s := by
  obtain ⟨mb, h1, h2⟩ := I.mod.blt
  exact Calls.Name_function_global I.ok.kind hg (Calls.loadGlobal_builtin (by rw [I.ok.glob]; exact I.mod.glob.keeps I.bk) hm (by rw [I.ok.blt]; exact h1.keeps I.bk) ((h2 x hn).trans hv) h) hd
theorem dX {x : Str} {v : V} {u : Value} {pos : Pos} (hg : Gl X x) (hm : X.mg x = some u) (r : RelV v u) (hd : (x == ("__debug__" : Str)) = false := by decide) : PE X (.Name x pos) (tC v) :=
  fun _ _ _ H _ I h => m_ I hg hm ⟨v, H, I, r, h⟩ hd
theorem m9 {x : Str} {v : V} {u : Value} {pos : Pos} (hg : Gl X x) (hm : X.mg x = none) (hv : bootBuiltins x = some u) (r : RelV v u) (hn : x ≠ "__name__" := by decide) (hd : (x == ("__debug__" : Str)) = false := by decide) : PE X (.Name x pos) (tC v) :=
  fun _ _ _ H _ I h => jT I hg hm hv ⟨v, H, I, r, h⟩ hn hd
variable {a b : Expr} {ta tb : TE} {pos : Pos}
noncomputable def PC (X : Cx) (op : CmpOp) (a b : Expr) (t : TE) : Prop :=
  ∀ (pins : List (Addr × Obj)) (s : Shared) (σ : St) (H : Hp) (Q : VK), Inv X pins σ H s -> t σ H Q ->
    wpAny (model X.prog X.w) X.A (eval a X.env) (fun v s₁ => wpAny (model X.prog X.w) X.A (eval b X.env) (fun u s₂ => wpAny (model X.prog X.w) X.A (compareOp op v u) (EP X pins σ Q) X.xe s₂) X.xe s₁) X.xe s
theorem G9 (b : Expr) {op : CmpOp} (h : op ≠ .In) (h2 : op ≠ .NotIn) : behindInMarks op b = false := by
  have e1 : (op == CmpOp.In) = false := by cases op <;> first | rfl | exact absurd rfl h
  have e2 : (op == CmpOp.NotIn) = false := by cases op <;> first | rfl | exact absurd rfl h2
  cases b <;> simp [behindInMarks, e1, e2]
inductive XB (x : V) (H : Hp) (Q : Bool -> Hp -> Prop) : Prop
  | mk (c : Bool) (e : x = .bl c) (q : Q c H) : XB x H Q
noncomputable def tB (t : TE) : TT := fun σ H Q => t σ H fun x H1 => XB x H1 Q
theorem pt_cmp {op : CmpOp} {t : TE} (h : PC X op a b t) (h1 : behindInMarks op b = false := by first | exact G9 _ (by decide) (by decide) | rfl) : PT X (.Compare a [op] [b] pos) (tB t) := by
  intro pins s σ H Q I hw
  refine wpAny_isTrue_Compare1 (thn (h pins s σ H _ I hw) fun v s1 h1 => thn h1 fun u s2 h2 => thn h2 fun c s3 ⟨x, H1, I1, r1, q1⟩ => ?_) h1
  obtain ⟨d, rfl, q⟩ := q1
  cases r1
  exact wpAny_truthy_bool ⟨H1, I1, q⟩
theorem jh {e : Expr} {t : TE} (h : PE X e t) (he : ∀ whole, isTrue e X.env whole = (do let v <- whole; standAt e.pos; holding [v] (truthy v)) := by intro _; rfl) : PT X e (tB t) := by
  intro pins s σ H Q I hw
  refine isTrue_plain (thn (h pins s σ H _ I hw) fun v s1 ⟨x, H1, I1, r1, q1⟩ => ?_) (he _)
  obtain ⟨d, rfl, q⟩ := q1
  cases r1
  exact wpAny_truthy_bool ⟨H1, I1, q⟩
variable {tA tB' : TT} {rest : List Expr}
noncomputable def tAnd (t u : TT) : TT := fun σ H Q => t σ H fun c H1 => if c = true then u σ H1 Q else Q false H1
noncomputable def tOr (t u : TT) : TT := fun σ H Q => t σ H fun c H1 => if c = true then Q true H1 else u σ H1 Q
noncomputable def tNot (t : TT) : TT := fun σ H Q => t σ H fun c H1 => Q (!c) H1
theorem fj (ha : PT X a tA) : PW X (.BoolOp .And [a] pos) tA := by
  intro wh pins s σ H Q I h
  refine isTrue_and (thn (ha pins s σ H Q I h) fun c s1 e => ?_)
  cases c with
  | true => exact isTrue_and_nil e
  | false => exact e
theorem oO (ha : PT X a tA) : PW X (.BoolOp .Or [a] pos) tA := by
  intro wh pins s σ H Q I h
  refine isTrue_or (thn (ha pins s σ H Q I h) fun c s1 e => ?_)
  cases c with
  | false => exact isTrue_or_nil e
  | true => exact e
theorem gC (ha : PT X a tA) (hb : PW X (.BoolOp .And (b :: rest) pos) tB') : PW X (.BoolOp .And (a :: b :: rest) pos) (tAnd tA tB') := by
  intro wh pins s σ H Q I h
  refine isTrue_and (thn (ha pins s σ H _ I h) fun c s1 ⟨H1, I1, q1⟩ => ?_)
  cases c with
  | true => exact hb wh pins s1 σ H1 Q I1 q1
  | false => exact ⟨H1, I1, q1⟩
theorem tK (ha : PT X a tA) (hb : PW X (.BoolOp .Or (b :: rest) pos) tB') : PW X (.BoolOp .Or (a :: b :: rest) pos) (tOr tA tB') := by
  intro wh pins s σ H Q I h
  refine isTrue_or (thn (ha pins s σ H _ I h) fun c s1 ⟨H1, I1, q1⟩ => ?_)
  cases c with
  | true => exact ⟨H1, I1, q1⟩
  | false => exact hb wh pins s1 σ H1 Q I1 q1
theorem uQ (ha : PT X a tA) : PT X (.UnaryOp .Not a pos) (tNot tA) := by
  intro pins s σ H Q I h
  exact isTrue_not (ha pins s σ H (fun c H1 => Q (!c) H1) I h)
noncomputable def tAndV (ta tb : TE) : TE := fun σ H Q => ta σ H fun x H1 => ∃ c, x = .bl c /\ if c = true then tb σ H1 Q else Q (.bl false) H1
noncomputable def tNotV (ta : TE) : TE := fun σ H Q => ta σ H fun x H1 => ∃ c, x = .bl c /\ Q (.bl (!c)) H1
theorem Fg {op} {t : TE} (h : PE X a t) : PE X (.BoolOp op [a] pos) t := fun pins s σ H Q I hw => BoolOp_one (h pins s σ H Q I hw)
theorem Fl (ha : PE X a ta) (hb : PE X (.BoolOp .And (b :: rest) pos) tb) : PE X (.BoolOp .And (a :: b :: rest) pos) (tAndV ta tb) := by
  intro pins s σ H Q I h
  refine BoolOp_and (thn (ha pins s σ H _ I h) fun v s1 ⟨x, H1, I1, r1, q1⟩ => ?_)
  obtain ⟨c, rfl, q1⟩ := q1
  cases r1
  refine wpAny_truthy_bool ?_
  cases c with
  | true => exact hb pins s1 σ H1 Q I1 q1
  | false => exact ⟨.bl false, H1, I1, rfl, q1⟩
theorem Lb (ha : PE X a ta) : PE X (.UnaryOp .Not a pos) (tNotV ta) := by
  intro pins s σ H Q I h
  refine UnaryOp_ (thn (ha pins s σ H _ I h) fun v s1 ⟨x, H1, I1, r1, q1⟩ => ?_)
  obtain ⟨c, rfl, q1⟩ := q1
  cases r1
  exact not_of (wpAny_truthy_bool ⟨.bl (!c), H1, I1, rfl, q1⟩)
noncomputable def tIf (t : TT) (ta tb : TE) : TE := fun σ H Q => t σ H fun c H1 => if c = true then ta σ H1 Q else tb σ H1 Q
theorem qW {c : Expr} (hc : PT X c tA) (ha : PE X a ta) (hb : PE X b tb) : PE X (.IfExp c a b pos) (tIf tA ta tb) := by
  intro pins s σ H Q I h
  refine wpAny_IfExp (thn (hc pins s σ H _ I h) fun d s1 ⟨H1, I1, q1⟩ => ?_)
  cases d with
  | true => exact ha pins s1 σ H1 Q I1 q1
  | false => exact hb pins s1 σ H1 Q I1 q1
end
end L2
namespace L2
open PySem PySem.Spec PyProof.Rows
noncomputable def SqL (K : PySem.W.Frag) (H : Hp) (a : Addr) (xs : List V) : Prop :=
  Rd H a (.lst xs) \/
    ∃ (o : Obj) (its : Array Value) (n : Nat), K.lookup a = some o /\ o.cls = .type "list" /\ o.dict = none /\ o.data = .seq its n /\ its.size <= sizeLine /\ Vals xs its.toList
noncomputable def SqT (K : PySem.W.Frag) (H : Hp) (a : Addr) (xs : List V) : Prop :=
  Rd H a (.tup xs) \/
    ∃ (o : Obj) (its : Array Value) (n : Nat), K.lookup a = some o /\ o.cls = .type "tuple" /\ o.data = .seq its n /\ its.size <= sizeLine /\ Vals xs its.toList
noncomputable def absV : Value -> Option V
  | .none => some .non
  | .bool b => some (.bl b)
  | .int i _ => some (.int i)
  | .str x _ => some (.str x)
  | .bytes b _ => some (.byt b)
  | .float b _ => some (.flt b)
  | .ref a => some (.ref a)
  | .type n => some (.ty n)
  | _ => none
theorem RelV.abs {x : V} {u : Value} (r : RelV x u) : absV u = some x := by
  cases x with
  | non => cases r; rfl
  | bl _ => cases r; rfl
  | int _ => obtain ⟨t, rfl⟩ := r; rfl
  | str _ => obtain ⟨t, rfl⟩ := r; rfl
  | byt _ => obtain ⟨t, rfl⟩ := r; rfl
  | flt _ => obtain ⟨t, rfl⟩ := r; rfl
  | ref _ => cases r; rfl
  | ty _ => cases r; rfl
theorem RelV.inj {x y : V} {u : Value} (r : RelV x u) (q : RelV y u) : x = y := Option.some.inj (r.abs.symm.trans q.abs)
theorem Vals.inj : ∀ {xs ys : List V} {us : List Value}, Vals xs us -> Vals ys us -> xs = ys
  | _, _, _, .nil, .nil => rfl
  | _, _, _, .cons r t, .cons r' t' => by rw [r.inj r', Vals.inj t t']
section
variable {X : Cx} {pins : List (Addr × Obj)} {σ : St} {H : Hp} {s : Shared} {a : Addr} {xs ys : List V}
theorem SqL.of {K : PySem.W.Frag} (h : H a = some (.lst xs)) : SqL K H a xs := .inl (.inl h)
theorem SqT.of {K : PySem.W.Frag} (h : H a = some (.tup xs)) : SqT K H a xs := .inl (.inl h)
theorem Inv.list (I : Inv X pins σ H s) (h : SqL X.K H a xs) : ∃ its : List Value, Vals xs its /\ PlainL s.heap a its.toArray /\ xs.length <= sizeLine := by
  rcases h with h | ⟨o, its, n, hk, hc, hd, hs, hz, r⟩
  · obtain ⟨z, its, n, r, e⟩ := h.ok I.hok
    exact ⟨its, r, ⟨_, n, e, rfl, rfl, rfl⟩, z⟩
  · refine ⟨its.toList, r, ⟨o, n, I.kIn a o hk, hc, hd, by simpa using hs⟩, ?_⟩
    have e := r.length
    simp only [Array.length_toList] at e
    omega
theorem Inv.tuple (I : Inv X pins σ H s) (h : SqT X.K H a xs) : ∃ its : List Value, Vals xs its /\ IsTup s.heap a its.toArray /\ xs.length <= sizeLine := by
  rcases h with h | ⟨o, its, n, hk, hc, hs, hz, r⟩
  · obtain ⟨z, its, r, p⟩ := h.ok I.hok
    exact ⟨its, r, p, z⟩
  · refine ⟨its.toList, r, ⟨o, I.kIn a o hk, hc, n, by simpa using hs⟩, ?_⟩
    have e := r.length
    simp only [Array.length_toList] at e
    omega
theorem Inv.xG (I : Inv X pins σ H s) (h : SqL X.K H a xs) (h' : SqL X.K H a ys) : xs = ys := by
  obtain ⟨its, r, ⟨o, n, e, _, _, d⟩, _⟩ := I.list h
  obtain ⟨its', r', ⟨o', n', e', _, _, d'⟩, _⟩ := I.list h'
  rw [e] at e'; cases e'
  rw [d] at d'
  injection d' with d1 _
  have : its = its' := by simpa using congrArg Array.toList d1
  subst this
  exact r.inj r'
end
noncomputable abbrev Cx.wish (X : Cx) (E : Value -> Shared -> Prop) : Cx := { X with xe := E }
noncomputable abbrev Cx.nox (X : Cx) : Cx := X.wish fun _ _ => False
theorem Cx.Ok.wish {X : Cx} (ok : X.Ok) (E : Value -> Shared -> Prop) : (X.wish E).Ok :=
  ⟨ok.mod, ok.kind, ok.glob, ok.blt, ok.above, ok.inj, ok.has, ok.cab, ok.hd, ok.frames, ok.stk, ok.exf, ok.bs, ok.bsz, ok.yM, ok.yO, ok.oE, ok.frf⟩
theorem Cx.Ok.jO {X : Cx} {E : Value -> Shared -> Prop} (ok : (X.wish E).Ok) : X.Ok :=
  ⟨ok.mod, ok.kind, ok.glob, ok.blt, ok.above, ok.inj, ok.has, ok.cab, ok.hd, ok.frames, ok.stk, ok.exf, ok.bs, ok.bsz, ok.yM, ok.yO, ok.oE, ok.frf⟩
section
variable {X : Cx} {pins : List (Addr × Obj)} {σ : St} {H : Hp} {s : Shared} {E : Value -> Shared -> Prop}
theorem Inv.wish (I : Inv X pins σ H s) (E : Value -> Shared -> Prop) : Inv (X.wish E) pins σ H s := ⟨I.ok.wish E, I.os, I.bare, I.base, I.loc, I.cell, I.free, I.jk, I.pin, I.hok, I.len⟩
theorem Inv.jO (I : Inv (X.wish E) pins σ H s) : Inv X pins σ H s := ⟨I.ok.jO, I.os, I.bare, I.base, I.loc, I.cell, I.free, I.jk, I.pin, I.hok, I.len⟩
theorem SP.jO {D : Ends} {f : Flow} {s' : Shared} (h : SP (X.wish E) pins D f s') : SP X pins D f s' := by
  cases f with
  | next => obtain ⟨σ', H', I, q⟩ := h; exact ⟨σ', H', I.jO, q⟩
  | brk => obtain ⟨σ', H', I, q⟩ := h; exact ⟨σ', H', I.jO, q⟩
  | cont => obtain ⟨σ', H', I, q⟩ := h; exact ⟨σ', H', I.jO, q⟩
  | ret u => obtain ⟨v, σ', H', I, r, q⟩ := h; exact ⟨v, σ', H', I.jO, r, q⟩
theorem PSs.nox {st : List Stmt} {t : TS} (h : PSs X.nox st t) : PSs X st t := fun pins s σ H D I hw =>
  wpAny_mono (h pins s σ H D (I.wish _) hw) (fun _ _ q => q.jO) fun _ _ z => False.elim z
end
section
variable {X : Cx} {st : Stmt} {rest : List Stmt} {t u : TS} {e : Expr} {te : TE} {pos : Pos}
noncomputable def tNext : TS := fun D σ H => D.nx σ H
noncomputable def tSeq (t u : TS) : TS := fun D σ H => t { D with nx := u D } σ H
theorem bB : PSs X [] tNext := fun _ _ σ H _ I h => wpAny_execs_nil ⟨σ, H, I, h⟩
theorem ak (h1 : PS X st t) (h2 : PSs X rest u) : PSs X (st :: rest) (tSeq t u) := by
  intro pins s σ H D I h
  refine wpAny_execs_cons (thn (h1 pins s σ H { D with nx := u D } I h) fun f s1 q => ?_)
  cases f with
  | next =>
    obtain ⟨σ', H', I', q⟩ := q
    exact h2 pins s1 σ' H' D I' q
  | ret v => exact q
  | brk => exact q
  | cont => exact q
theorem aA (h1 : PS X st t) : PSs X [st] t := by
  intro pins s σ H D I h
  refine wpAny_execs_cons (thn (h1 pins s σ H D I h) fun f s1 q => ?_)
  cases f with
  | next => exact wpAny_execs_nil q
  | ret v => exact q
  | brk => exact q
  | cont => exact q
theorem Inv.quiet {pins : List (Addr × Obj)} {σ : St} {H : Hp} {s : Shared} (I : Inv X pins σ H s) : interactive X.env = false := by simp [interactive, I.ok.kind]
noncomputable def tDrop (te : TE) : TS := fun D σ H => te σ H fun _ H1 => D.nx σ H1
theorem aD (he : PE X e te) (hs : swapsWith e none pos.line X.env = pure false := by rfl) : PS X (.Expr e pos) (tDrop te) := by
  intro pins s σ H D I h
  exact wpAny_Expr_any (thn (he pins s σ H _ I h) fun v s1 ⟨x, H1, I1, r1, q1⟩ => ⟨σ, H1, I1, q1⟩) I.quiet hs
noncomputable def tRet (te : TE) : TS := fun D σ H => te σ H D.rt
theorem bA (he : PE X e te) : PS X (.Return (some e) pos) (tRet te) := by
  intro pins s σ H D I h
  exact wpAny_Return_some (thn (he pins s σ H _ I h) fun v s1 ⟨x, H1, I1, r1, q1⟩ => ⟨x, σ, H1, I1, r1, q1⟩)
noncomputable def tIfS (c : TT) (t u : TS) : TS := fun D σ H => c σ H fun b H1 => if b = true then t D σ H1 else u D σ H1
theorem bL {c : Expr} {a b : List Stmt} {tc : TT} (hc : PT X c tc) (ha : PSs X a t) (hb : PSs X b u) : PS X (.If c a b pos) (tIfS tc t u) := by
  intro pins s σ H D I h
  refine wpAny_If (thn (hc pins s σ H _ I h) fun d s1 ⟨H1, I1, q1⟩ => ?_)
  cases d with
  | true => exact ha pins s1 σ H1 D I1 q1
  | false => exact hb pins s1 σ H1 D I1 q1
noncomputable def E_ : TS := fun _ _ _ => False
theorem j7 : PS X st E_ := fun _ _ _ _ _ _ h => h.elim
theorem bC {sts : List Stmt} : PSs X sts E_ := fun _ _ _ _ _ _ h => h.elim
end
noncomputable abbrev TG := V -> St -> Hp -> (St -> Hp -> Prop) -> Prop
noncomputable abbrev TGs := List V -> St -> Hp -> (St -> Hp -> Prop) -> Prop
noncomputable def PG (X : Cx) (target : Expr) (t : TG) : Prop :=
  ∀ (pins : List (Addr × Obj)) (s : Shared) (σ : St) (H : Hp) (v : V) (u : Value) (Q : St -> Hp -> Prop), Inv X pins σ H s -> RelV v u -> t v σ H Q ->
    wpAny (model X.prog X.w) X.A (assign target X.env u) (fun _ s' => ∃ σ' H', Inv X pins σ' H' s' /\ Q σ' H') X.xe s
noncomputable def PGs (X : Cx) (ts : List Expr) (t : TGs) : Prop :=
  ∀ (pins : List (Addr × Obj)) (s : Shared) (σ : St) (H : Hp) (vs : List V) (us : List Value) (Q : St -> Hp -> Prop), Inv X pins σ H s -> Vals vs us -> t vs σ H Q ->
    wpAny (model X.prog X.w) X.A (assignInOrder ((assignEach ts X.env).map (·.2)) us) (fun _ s' => ∃ σ' H', Inv X pins σ' H' s' /\ Q σ' H') X.xe s
noncomputable abbrev KN := V -> V -> V -> Hp -> (Hp -> Prop) -> Prop
noncomputable def PSet (X : Cx) (t : KN) : Prop :=
  ∀ (pins : List (Addr × Obj)) (s : Shared) (σ : St) (H : Hp) (o i v : V) (ov iv u : Value) (Q : Hp -> Prop), Inv X pins σ H s -> RelV o ov -> RelV i iv -> RelV v u -> t o i v H Q ->
    wpAny (model X.prog X.w) X.A (setItem ov iv u) (fun _ s' => ∃ H', Inv X pins σ H' s' /\ Q H') X.xe s
section
variable {X : Cx} {pos : Pos}
noncomputable def pF (i : Nat) : TG := fun v σ H Q => Q (σ.set i (some v)) H
theorem cP {i : Nat} {x : Str} (hN : X.N.Nodup) (hi : X.N[i]? = some x) (hx : Loc X.env.scope x) (hf : X.fn x = true \/ X.env.scope.names.lookup x = some .local := by first | exact .inl rfl | exact .inr rfl | assumption) : PG X (.Name x pos) (pF i) := by
  intro pins s σ H v u Q I r h
  exact wpAny_assign_Name (qK I hN hi hx r (fun s' I' => ⟨_, H, I', h⟩) hf)
noncomputable def gNil : TGs := fun vs σ H Q => vs = [] /\ Q σ H
inductive Kh (t : TG) (u : TGs) (vs : List V) (σ : St) (H : Hp) (Q : St -> Hp -> Prop) : Prop
  | mk (v : V) (r : List V) (e : vs = v :: r) (q : t v σ H fun σ' H' => u r σ' H' Q) : Kh t u vs σ H Q
noncomputable def Et (t : TG) (u : TGs) : TGs := fun vs σ H Q => Kh t u vs σ H Q
theorem m8 : PGs X [] gNil := by
  intro pins s σ H vs us Q I r h
  obtain ⟨e, h⟩ := h
  subst e
  cases r
  exact assignInOrder_nil ⟨σ, H, I, h⟩
theorem fG {e : Expr} {es : List Expr} {t : TG} {u : TGs} (h1 : PG X e t) (h2 : PGs X es u)
    (hs : (assignEach (e :: es) X.env).map (·.2) = assign e X.env :: (assignEach es X.env).map (·.2) := by rfl) : PGs X (e :: es) (Et t u) := by
  intro pins s σ H vs us Q I r h
  obtain ⟨v, vr, e1, h⟩ := h
  subst e1
  cases r with
  | cons r rr =>
    rw [hs]
    refine assignInOrder_cons (thn (h1 pins s σ H _ _ _ I r h) fun _ s1 ⟨σ1, H1, I1, q1⟩ => ?_)
    exact h2 pins s1 σ1 H1 _ _ Q I1 rr q1
inductive XTup (K : PySem.W.Frag) (n : Nat) (t : TGs) (v : V) (σ : St) (H : Hp) (Q : St -> Hp -> Prop) : Prop
  | mk (a : Addr) (xs : List V) (e : v = .ref a) (s : SqT K H a xs) (l : xs.length = n) (q : t xs σ H Q) : XTup K n t v σ H Q
noncomputable def gTup (K : PySem.W.Frag) (n : Nat) (t : TGs) : TG := fun v σ H Q => XTup K n t v σ H Q
theorem qF {es : List Expr} {k : Nat} {t : TGs} {n : Nat} (hc : X.calm = true) (h : PGs X es t)
    (hn : (assignEach es X.env).length = n := by rfl) (hst : (assignEach es X.env).findIdx? (·.1) = none := by rfl) : PG X (.Tuple es k pos) (gTup X.K n t) := by
  intro pins s σ H v u Q I r hw
  obtain ⟨a, xs, e1, hq, hl, hw⟩ := hw
  subst e1
  cases r
  obtain ⟨its, rv, ht, hz⟩ := I.tuple hq
  refine assign_Tuple_tuple (I.ok.hd hc) ht (by simp [hn, <- hl, rv.length]) hst fun h' hx => ?_
  have I1 : Inv X pins σ H { s with heap := h' } := I.kept (t' := s.toks) fun b o e => hx b o (Nat.ne_of_lt (Heap.lt_size e)) e
  exact h pins _ σ H xs _ Q I1 (by simpa using rv) hw
noncomputable def gSub (to ti : TE) (t : KN) : TG := fun v σ H Q => to σ H fun o H1 => ti σ H1 fun i H2 => t o i v H2 fun H3 => Q σ H3
theorem uU {o i : Expr} {to ti : TE} {t : KN} (ho : PE X o to) (hi : PE X i ti) (hs : PSet X t)
    (ha : ∀ v, assign (.Subscript o i pos) X.env v = (do
      let ov <- holding [v] (eval o X.env)
      let iv <- holding [v, ov] (eval i X.env)
      standAt pos
      holding [v, ov, iv] (setItem ov iv v)
      release [v, ov, iv] []) := by intro _; rfl) : PG X (.Subscript o i pos) (gSub to ti t) := by
  intro pins s σ H v u Q I r h
  rw [ha]
  refine wpAny_bind (wpAny_holding (thn (ho pins s σ H _ I h) fun ov s1 ⟨x, H1, I1, r1, q1⟩ => ?_))
  refine wpAny_bind (wpAny_holding (thn (hi pins s1 σ H1 _ I1 q1) fun iv s2 ⟨y, H2, I2, r2, q2⟩ => ?_))
  refine wpAny_bind (wpAny_standAt (wpAny_bind (wpAny_holding (thn (hs pins s2 σ H2 x y v ov iv u _ I2 r1 r2 r q2) fun _ s3 ⟨H3, I3, q3⟩ => ?_))))
  exact wpAny_release ⟨σ, H3, I3, q3⟩
noncomputable def HJ (te : TE) (g : TG) : TS := fun D σ H => te σ H fun x H1 => g x σ H1 D.nx
theorem uR {tg e : Expr} {te : TE} {g : TG} (he : PE X e te) (hg : PG X tg g) (hs : swapsWithSole [tg] e pos.line X.env = pure false := by rfl) (hw : swappedStores [tg] e X.env = pure none := by rfl)
    (h1 : (assignEach [tg] X.env).map (·.2) = [assign tg X.env] := by rfl) : PS X (.Assign [tg] e pos) (HJ te g) := by
  intro pins s σ H D I h
  refine wpAny_Assign_stores (thn (he pins s σ H _ I h) fun v s1 ⟨x, H1, I1, r1, q1⟩ => ?_) hs hw
  rw [h1]
  exact thn (hg pins s1 σ H1 x v _ I1 r1 q1) fun _ s2 q => q
theorem aK {i : Nat} {x : Str} {e : Expr} {te : TE} {pos' : Pos} (hN : X.N.Nodup) (hi : X.N[i]? = some x) (hx : Loc X.env.scope x) (he : PE X e te) (hs : swapsWith e (some (.Name x pos')) pos.line X.env = pure false := by rfl) (hf : X.fn x = true \/ X.env.scope.names.lookup x = some .local := by first | exact .inl rfl | exact .inr rfl | assumption) :
    PS X (.Assign [.Name x pos'] e pos) (HJ te (pF i)) := by
  intro pins s σ H D I h
  refine wpAny_Assign_Name (thn (he pins s σ H _ I h) fun v s1 ⟨y, H1, I1, r1, q1⟩ => ?_) hs
  exact qK I1 hN hi hx r1 (fun s2 I2 => ⟨_, H1, I2, q1⟩) hf
end
section
variable {X : Cx} {pos : Pos}
noncomputable def EY (c : TT) (tb : TS) : TS := fun D σ H => ∃ W : Nat -> St -> Hp -> Prop, (∃ m, W m σ H) /\ ∀ m σ H, W m σ H ->
  c σ H fun b H1 => if b = true then ∃ N : St -> Hp -> Prop, (∀ σ' H', N σ' H' -> ∃ m', m' < m /\ W m' σ' H') /\ tb { D with nx := N, ct := N, bk := D.nx } σ H1 else D.nx σ H1
theorem gU {c : Expr} {body : List Stmt} {tc : TT} {tb : TS} (hp : PassesOwn (model X.prog X.w) X.A X.env X.xe) (hc : PT X c tc) (hb : PSs X body tb) : PS X (.While c body [] pos) (EY tc tb) := by
  intro pins s σ H D I h
  obtain ⟨W, ⟨m0, w0⟩, turn⟩ := h
  refine wpAny_While (codeAny_whileLoop (fun n s' => ∃ σ' H', Inv X pins σ' H' s' /\ W n σ' H') ?_ m0 ⟨σ, H, I, w0⟩)
  rintro n s1 ⟨σ1, H1, I1, w1⟩
  refine wpAny_passesOwn hp (thn (hc pins s1 σ1 H1 _ I1 (turn n σ1 H1 w1)) fun b s2 ⟨H2, I2, q2⟩ => ?_)
  cases b with
  | true =>
    obtain ⟨N, hN, q2⟩ := q2
    rw [if_pos rfl]
    refine wpAny_passesOwn hp (thn (hb pins s2 σ1 H2 _ I2 q2) fun f s3 q3 => ?_)
    cases f with
    | next =>
      obtain ⟨σ3, H3, I3, n3⟩ := q3
      obtain ⟨m', hm, w3⟩ := hN σ3 H3 n3
      exact ⟨m', hm, σ3, H3, I3, w3⟩
    | cont =>
      obtain ⟨σ3, H3, I3, n3⟩ := q3
      obtain ⟨m', hm, w3⟩ := hN σ3 H3 n3
      exact ⟨m', hm, σ3, H3, I3, w3⟩
    | brk => exact q3
    | ret v => exact q3
  | false =>
    rw [if_neg Bool.false_ne_true]
    exact wpAny_execs_nil ⟨σ1, H2, I2, q2⟩
end
structure It where
  go : Nat -> Hp -> Prop
  yld : Nat -> Hp -> V -> Hp -> Prop
  stop : Nat -> Hp -> Prop
noncomputable def pW (X : Cx) (pins : List (Addr × Obj)) (H : Hp) (b : Addr) : Prop :=
  H b = none /\ b ≠ X.env.locals /\ b ∉ X.fs /\ (b ∈ X.ex \/ X.s₀.heap.objs.size <= b) /\ (∀ x c, X.env.cells.lookup x = some c -> c ≠ b) /\ ∀ p ∈ X.pn ++ pins, p.1 ≠ b
theorem Inv.wD {X : Cx} {pins : List (Addr × Obj)} {σ : St} {H H' : Hp} {s : Shared} {b : Addr} (I : Inv X pins σ H s) (hb : s.heap.objs.size <= b) (hn : H' b = none) : pW X pins H' b := by
  refine ⟨hn, Nat.ne_of_gt (Nat.lt_of_lt_of_le I.lt hb), I.nofs hb, .inr (Nat.le_trans I.sz hb), fun x c e z => ?_, fun p hp z => ?_⟩
  · obtain ⟨v, q⟩ := I.cell x c e
    exact absurd (Nat.lt_of_lt_of_le q.lt (by rw [z]; exact hb)) (Nat.lt_irrefl _)
  · exact absurd (Nat.lt_of_lt_of_le (Heap.lt_size (I.pin p hp).1) (by rw [z]; exact hb)) (Nat.lt_irrefl _)
structure Turn (P : Program) (w : World) (K : PySem.W.Frag) (tg : Expr) (J : It) (fp : List Addr) (it : Addr) (tn : Nat -> Heap -> Prop) : Prop where
  mem : it ∈ fp
  obj : ∀ i h, tn i h -> ∀ b ∈ fp, ∃ o, h.get? b = some o /\ ∀ v, o.data ≠ .cell v
  keep : ∀ i h h', tn i h -> (∀ b ∈ fp, ∀ o, h.get? b = some o -> h'.get? b = some o) -> tn i h'
  item : ∀ (X : Cx), X.prog = P -> X.w = w -> X.K = K -> X.calm = true -> ∀ (i : Nat) (pins : List (Addr × Obj)) (s : Shared) (σ : St) (H : Hp) (E : Value -> Shared -> Prop), Inv X pins σ H s -> (∀ b ∈ fp, pW X pins H b) -> tn i s.heap -> J.go i H ->
    wpAny (model P w) X.A (pyNext (.ref it)) (fun r s1 => ∃ u, r = some u /\
      wpAny (model P w) X.A (letOwnedTupleGo tg (.ref it) u) (fun _ s2 => ∃ x H', Inv X pins σ H' s2 /\ RelV x u /\ J.yld i H x H' /\ tn (i + 1) s2.heap /\ ∀ b ∈ fp, H' b = none) E s1) E s
  done : ∀ (X : Cx), X.prog = P -> X.w = w -> X.K = K -> X.calm = true -> ∀ (i : Nat) (pins : List (Addr × Obj)) (s : Shared) (σ : St) (H : Hp) (E : Value -> Shared -> Prop), Inv X pins σ H s -> (∀ b ∈ fp, pW X pins H b) -> tn i s.heap -> J.stop i H ->
    wpAny (model P w) X.A (pyNext (.ref it)) (fun r s1 => r = none /\ Inv X pins σ H s1) E s
  self : ∀ (A : Around) (i : Nat) (s : Shared) (Q : Value -> Shared -> Prop) (E : Value -> Shared -> Prop), tn i s.heap -> Q (.ref it) s -> wpAny (model P w) A (pyIter (.ref it)) Q E s
noncomputable abbrev TI := St -> Hp -> (It -> Hp -> Prop) -> Prop
noncomputable def PIE (X : Cx) (pins : List (Addr × Obj)) (σ : St) (tg : Expr) (R : It -> Hp -> Prop) (itv : Value) (s2 : Shared) : Prop :=
  ∃ (it : Addr) (fp : List Addr) (tn : Nat -> Heap -> Prop) (J : It) (H' : Hp), itv = .ref it /\ Inv X pins σ H' s2 /\ Turn X.prog X.w X.K tg J fp it tn /\ tn 0 s2.heap /\ (∀ b ∈ fp, pW X pins H' b) /\ R J H'
noncomputable def PI (X : Cx) (tg iter : Expr) (wi : TI) : Prop :=
  ∀ (pins : List (Addr × Obj)) (s : Shared) (σ : St) (H : Hp) (R : It -> Hp -> Prop), Inv X pins σ H s -> wi σ H R ->
    wpAny (model X.prog X.w) X.A (eval iter X.env) (fun v s1 => wpAny (model X.prog X.w) X.A (pyIter v) (PIE X pins σ tg R) X.xe s1) X.xe s
theorem Es {M : Model} {A : Around} {E : Value -> Shared -> Prop} {s : Shared} {tg : Expr} {it : Addr} {u : Value} {o : Obj} {n : String} {vs : Array Value} {Q : Unit -> Shared -> Prop} (ho : s.heap.get? it = some o) (hc : o.cls = .type n) (hd : o.data = .fields vs)
    (hn : ["enumerate", "zip", "dict_itemiterator", "dict_reverseitemiterator", "odict_iterator", "itertools.zip_longest", "itertools.pairwise"].contains n = false) (hQ : Q () s) : wpAny M A (letOwnedTupleGo tg (.ref it) u) Q E s := by
  unfold letOwnedTupleGo
  cases tg <;> first
    | exact wpAny_pure hQ
    | (cases u <;> first
        | exact wpAny_pure hQ
        | (refine wpAny_bind (wpAny_load ho ?_)
           rw [hc, hd]
           show wpAny M A (if (["enumerate", "zip", "dict_itemiterator", "dict_reverseitemiterator", "odict_iterator", "itertools.zip_longest", "itertools.pairwise"].contains n && vs[0]? == some (rawInt _)) = true then _ else _) Q E s
           rw [if_neg (by intro h; rw [hn, Bool.false_and] at h; cases h)]
           exact wpAny_pure hQ))
noncomputable def Itl (K : PySem.W.Frag) (a : Addr) : It :=
  ⟨fun i H => ∃ xs x, SqL K H a xs /\ xs[i]? = some x, fun i H x H' => H' = H /\ ∀ xs, SqL K H a xs -> xs[i]? = some x, fun i H => ∃ xs, SqL K H a xs /\ xs.length <= i⟩
noncomputable def Itr (lo : Int) (n : Nat) : It := ⟨fun i _ => i < n, fun i H x H' => H' = H /\ x = .int (lo + i), fun i _ => n <= i⟩
theorem Cm {P : Program} {w : World} {K : PySem.W.Frag} {tg : Expr} (a it : Addr) : Turn P w K tg (Itl K a) [it] it (fun i h => h.IsListIter it a i) where
  mem := by simp
  obj := fun i h st b hb => by
    have e : b = it := by simpa using hb
    subst e
    obtain ⟨o, e, c, d⟩ := st
    exact ⟨o, e, fun v z => by rw [d] at z; cases z⟩
  keep := fun i h h' st k => st.at fun o e => k it (by simp) o e
  item := by
    intro X hP hw hK hc i pins s σ H E I hf st hg
    subst hP hw hK
    obtain ⟨xs, x, hq, hx⟩ := hg
    obtain ⟨its, rv, p, hz⟩ := I.list hq
    obtain ⟨u, hu, ru⟩ := rv.get hx
    obtain ⟨f0, f1, f2, f3, f4, f5⟩ := hf it (by simp)
    refine wpAny_pyNext_list_item st p.isList (x := u) (by simpa using hu) fun h' st' sb => ?_
    have I1 : Inv X pins σ H { s with heap := h' } := I.turned (t' := s.toks) (fun b o hb e => (sb.2 b hb).trans e) f0 f1 f3 f4 f5
    obtain ⟨o, e, c, d⟩ := id st'
    exact ⟨u, rfl, Es (s := { s with heap := h' }) e c d (by decide) ⟨x, H, I1, ru, ⟨rfl, fun ys hy => by rw [I.xG hy hq]; exact hx⟩, st', fun b hb => (hf b hb).1⟩⟩
  done := by
    intro X hP hw hK hc i pins s σ H E I hf st hg
    subst hP hw hK
    obtain ⟨xs, hq, hx⟩ := hg
    obtain ⟨its, rv, p, hz⟩ := I.list hq
    obtain ⟨f0, f1, f2, f3, f4, f5⟩ := hf it (by simp)
    have hl := rv.length
    exact wpAny_pyNext_list_end (I.ok.hd hc) st p.isList (by simp; omega) fun h' eb => ⟨rfl, I.turned (t' := s.toks) (fun b o hb e => eb b o hb e) f0 f1 f3 f4 f5⟩
  self := fun _ _ _ _ _ st h => wpAny_pyIter_listiter st h
theorem zx {P : Program} {w : World} {K : PySem.W.Frag} {tg : Expr} (it : Addr) (lo : Int) (n : Nat) : Turn P w K tg (Itr lo n) [it] it (fun i h => IsRangeIter h it (lo + (i : Nat) * 1) ((n : Int) - (i : Nat)) 1) where
  mem := by simp
  obj := fun i h st b hb => by
    have e : b = it := by simpa using hb
    subst e
    exact ⟨_, st, fun v z => by
      have z' : Data.fields _ = Data.cell v := z
      cases z'⟩
  keep := fun i h h' st k => k it (by simp) _ st
  item := by
    intro X hP hw hK hc i pins s σ H E I hf st hg
    subst hP hw hK
    obtain ⟨f0, f1, f2, f3, f4, f5⟩ := hf it (by simp)
    have W := Walks.range (prog := X.prog) (w := X.w) (I.ok.hd hc) it lo 1 n
    refine W.item i s _ _ hg st fun v h' tk hv st' kk => ?_
    obtain ⟨t, rfl⟩ := hv
    have I1 : Inv X pins σ H { s with heap := h', toks := tk } := I.turned (fun b o hb e => kk b o (by simpa using hb) e) f0 f1 f3 f4 f5
    refine ⟨_, rfl, Es (s := { s with heap := h', toks := tk }) (n := "range_iterator") st' rfl rfl (by decide) ⟨.int (lo + i), H, I1, ⟨t, ?_⟩, ⟨rfl, rfl⟩, st', fun b hb => (hf b hb).1⟩⟩
    rw [Int.mul_one]
  done := by
    intro X hP hw hK hc i pins s σ H E I hf st hg
    subst hP hw hK
    obtain ⟨f0, f1, f2, f3, f4, f5⟩ := hf it (by simp)
    exact wpAny_pyNext_range_end (I.ok.hd hc) st (by have : n <= i := hg; omega) fun h' eb => ⟨rfl, I.turned (t' := s.toks) (fun b o hb e => eb b o hb e) f0 f1 f3 f4 f5⟩
  self := fun _ _ _ _ _ st h => wpAny_pyIter_rangeiter st h
end L2
namespace L2
open PySem PySem.Spec PyProof.Rows
section
variable {X : Cx} {tg : Expr}
inductive XItl (K : PySem.W.Frag) (x : V) (H : Hp) (R : It -> Hp -> Prop) : Prop
  | mk (a : Addr) (e : x = .ref a) (s : ∃ xs, SqL K H a xs) (q : R (Itl K a) H) : XItl K x H R
noncomputable def J5 (K : PySem.W.Frag) (tl : TE) : TI := fun σ H R => tl σ H fun x H1 => XItl K x H1 R
theorem gq {l : Expr} {tl : TE} (hl : PE X l tl) : PI X tg l (J5 X.K tl) := by
  intro pins s σ H R I h
  refine thn (hl pins s σ H _ I h) fun v s1 ⟨x, H1, I1, r1, q1⟩ => ?_
  obtain ⟨a, e, ⟨xs, hq⟩, q⟩ := q1
  subst e
  cases r1
  obtain ⟨its, rv, p, hz⟩ := I1.list hq
  refine wpAny_pyIter_list p.isList ?_
  refine ⟨s1.heap.objs.size, [s1.heap.objs.size], _, _, H1, rfl, I1.kept (t' := s1.toks) fun b o e => Heap.get?_push_of_some _ e, Cm a _, ⟨_, Heap.get?_push_size _ rfl, rfl, rfl⟩, fun b hb => ?_, q⟩
  have e : b = s1.heap.objs.size := by simpa using hb
  subst e
  exact I1.wD (Nat.le_refl _) (I1.hok.fresh (Nat.le_refl _))
theorem wM {pins : List (Addr × Obj)} {σ : St} {H : Hp} {s : Shared} {R : It -> Hp -> Prop} {E : Value -> Shared -> Prop} {lo hi : Int} {t u v : Tok} {tk : Nat} (I : Inv X pins σ H s) (h1 : -(2 ^ 62) <= lo) (h2 : lo < 2 ^ 62) (h3 : -(2 ^ 62) <= hi) (h4 : hi < 2 ^ 62)
    (q : R (Itr lo (hi - lo).toNat) H) : wpAny (model X.prog X.w) X.A (pyIter (.ref s.heap.objs.size)) (PIE X pins σ tg R) E { s with heap := s.heap.push { cls := .type "range", data := .fields #[.int lo t, .int hi u, .int 1 v] }, toks := tk } := by
  refine wpAny_pyIter_range (IsRange.new ..) (small_one h1 h2 h3 h4) ?_
  have I1 : Inv X pins σ H { s with heap := s.heap.push { cls := .type "range", data := .fields #[.int lo t, .int hi u, .int 1 v] }, toks := tk } := I.kept fun b o e => Heap.get?_push_of_some _ e
  refine ⟨(s.heap.push { cls := .type "range", data := .fields #[.int lo t, .int hi u, .int 1 v] }).objs.size, [(s.heap.push { cls := .type "range", data := .fields #[.int lo t, .int hi u, .int 1 v] }).objs.size], _, _, H, rfl,
    I1.kept (t' := tk) fun b o e => Heap.get?_push_of_some _ e, zx _ lo (hi - lo).toNat, ?_, fun b hb => ?_, q⟩
  · have e1 : lo + ((0 : Nat) : Int) * 1 = lo := by simp
    have e2 : (((hi - lo).toNat : Nat) : Int) - ((0 : Nat) : Int) = Builtin.Range.rangeSize lo hi 1 := by rw [rangeSize_one]; split <;> omega
    show IsRangeIter _ _ (lo + ((0 : Nat) : Int) * 1) ((((hi - lo).toNat : Nat) : Int) - ((0 : Nat) : Int)) 1
    rw [e1, e2]
    exact Heap.get?_push_size _ rfl
  · have e : b = (s.heap.push { cls := .type "range", data := .fields #[.int lo t, .int hi u, .int 1 v] }).objs.size := by simpa using hb
    subst e
    exact I1.wD (Nat.le_refl _) (I1.hok.fresh (Nat.le_refl _))
inductive Kf (vs : List V) (H : Hp) (R : It -> Hp -> Prop) : Prop
  | mk (j : Int) (e : vs = [.int j]) (l : -(2 ^ 62) <= j) (m : j < 2 ^ 62) (q : R (Itr 0 j.toNat) H) : Kf vs H R
noncomputable def iRng1 (ta : TA) : TI := fun σ H R => ta σ H fun vs H1 => Kf vs H1 R
inductive Ke (vs : List V) (H : Hp) (R : It -> Hp -> Prop) : Prop
  | mk (i j : Int) (e : vs = [.int i, .int j]) (l : -(2 ^ 62) <= i /\ i < 2 ^ 62 /\ -(2 ^ 62) <= j /\ j < 2 ^ 62) (q : R (Itr i (j - i).toNat) H) : Ke vs H R
noncomputable def iRng2 (ta : TA) : TI := fun σ H R => ta σ H fun vs H1 => Ke vs H1 R
theorem o7 {a : Expr} {ta : TA} {p pos : Pos} (hg : Gl X "range") (hm : X.mg "range" = none) (ha : PA X [a] ta) (hs : starEach [a] X.env = [(false, eval a X.env)] := by rfl) : PI X tg (.Call (.Name "range" p) [a] [] pos) (iRng1 ta) := by
  intro pins s σ H R I h
  refine Call_ (jT I hg hm boot_range (PyProof.Rows.callWith_type1 (thn (ha pos pins s σ H _ I h) fun us s1 ⟨vs, H1, I1, r1, q1⟩ => ?_) hs rfl))
  obtain ⟨j, e, q1, q2, q⟩ := q1
  subst e
  cases r1 with
  | cons r rr =>
    cases rr
    obtain ⟨t, rfl⟩ := r
    exact call_range_1 (wM I1 (by omega) (by omega) q1 q2 (by simpa using q))
theorem CQ {a b : Expr} {ta : TA} {p pos : Pos} (hg : Gl X "range") (hm : X.mg "range" = none) (ha : PA X [a, b] ta) (hs : starEach [a, b] X.env = [(false, eval a X.env), (false, eval b X.env)] := by rfl) (hs2 : starEach [b] X.env = [(false, eval b X.env)] := by rfl) :
    PI X tg (.Call (.Name "range" p) [a, b] [] pos) (iRng2 ta) := by
  intro pins s σ H R I h
  refine Call_ (jT I hg hm boot_range (PyProof.Rows.callWith_type1 (thn (ha pos pins s σ H _ I h) fun us s1 ⟨vs, H1, I1, r1, q1⟩ => ?_) (by rw [hs, hs2]) (by rw [hs2]; rfl)))
  obtain ⟨i, j, e, ⟨q1, q2, q3, q4⟩, q⟩ := q1
  subst e
  cases r1 with
  | cons r rr =>
    cases rr with
    | cons r' rr =>
      cases rr
      obtain ⟨t, rfl⟩ := r
      obtain ⟨t', rfl⟩ := r'
      exact call_range_2 (wM I1 q1 q2 q3 q4 q)
noncomputable def tFor (wi : TI) (g : TG) (tb : TS) : TS := fun D σ H => wi σ H fun J H1 => ∃ W : Nat -> Nat -> St -> Hp -> Prop, (∃ m, W 0 m σ H1) /\ ∀ i m σ H, W i m σ H ->
  (J.stop i H /\ D.nx σ H) \/ (J.go i H /\ ∃ N : St -> Hp -> Prop, (∀ σ' H', N σ' H' -> ∃ m', m' < m /\ W (i + 1) m' σ' H') /\ ∀ x H', J.yld i H x H' -> g x σ H' fun σ2 H2 => tb { D with nx := N, ct := N, bk := D.nx } σ2 H2)
noncomputable def uT (fp : List Addr) (h : Heap) : List (Addr × Obj) := fp.filterMap fun b => (h.get? b).map fun o => (b, o)
theorem je {fp : List Addr} {h : Heap} {b : Addr} {o : Obj} (hb : b ∈ fp) (e : h.get? b = some o) : (b, o) ∈ uT fp h := List.mem_filterMap.mpr ⟨b, hb, by rw [e]; rfl⟩
theorem Ds {fp : List Addr} {h : Heap} {p : Addr × Obj} (hp : p ∈ uT fp h) : p.1 ∈ fp /\ h.get? p.1 = some p.2 := by
  obtain ⟨b, hb, e⟩ := List.mem_filterMap.mp hp
  cases q : h.get? b with
  | none => rw [q] at e; cases e
  | some o =>
    rw [q] at e
    have e' : (b, o) = p := Option.some.inj e
    subst e'
    exact ⟨hb, q⟩
theorem Inv.pinned {pins : List (Addr × Obj)} {σ : St} {H : Hp} {s : Shared} {fp : List Addr} (I : Inv X pins σ H s) (hf : ∀ b ∈ fp, pW X pins H b) (ho : ∀ b ∈ fp, ∃ o, s.heap.get? b = some o /\ ∀ v, o.data ≠ .cell v) : Inv X (pins ++ uT fp s.heap) σ H s :=
  I.Ay fun p hp => (List.mem_append.mp hp).elim (fun z => I.pin p (List.mem_append_right _ z)) fun z => by
    obtain ⟨hb, e⟩ := Ds z
    obtain ⟨f0, f1, f2, _⟩ := hf p.1 hb
    obtain ⟨o, e', d⟩ := ho p.1 hb
    rw [e] at e'; cases e'
    exact ⟨e, f0, f1, f2, d⟩
theorem Inv.jY {pins pl : List (Addr × Obj)} {σ : St} {H : Hp} {s : Shared} (I : Inv X (pins ++ pl) σ H s) : Inv X pins σ H s := I.Ay fun p hp => I.pin p (List.mem_append_right _ (List.mem_append_left _ hp))
theorem gD {iter : Expr} {body : List Stmt} {wi : TI} {g : TG} {tb : TS} {pos : Pos} (hp : PassesOwn (model X.prog X.w) X.A X.env X.xe) (hc : X.calm = true) (hi : PI X tg iter wi) (hg : PG X tg g) (hb : PSs X body tb)
    (hs : ∀ x, foldedSetIterable iter X.env x = pure x := by intro _; rfl) : PS X (.For tg iter body [] pos) (tFor wi g tb) := by
  intro pins s σ H D I h
  refine wpAny_For (thn (hi pins s σ H _ I h) fun v s1 h1 => thn h1 fun itv s2 h2 => ?_) hs
  obtain ⟨it, fp, tn, J, H2, e, I2, T, st2, f2, W, ⟨m0, w0⟩, turn⟩ := h2
  subst e
  have stat : ∀ {H' : Hp}, (∀ b ∈ fp, H' b = none) -> ∀ b ∈ fp, pW X pins H' b := fun hn b hb => ⟨hn b hb, (f2 b hb).2⟩
  refine codeAny_forLoop_any (fun n s' => ∃ i σ' H', Inv X pins σ' H' s' /\ tn i s'.heap /\ (∀ b ∈ fp, H' b = none) /\ W i n σ' H') ?_ m0 ⟨0, σ, H2, I2, st2, fun b hb => (f2 b hb).1, w0⟩
  rintro n s3 ⟨i, σ3, H3, I3, st3, fr3, w3⟩
  rcases turn i n σ3 H3 w3 with ⟨stop, qn⟩ | ⟨go, N, hN, step⟩
  · refine wpAny_passesOwn hp (thn (T.done X rfl rfl rfl hc i pins s3 σ3 H3 X.xe I3 (stat fr3) st3 stop) fun r s4 ⟨hr, I4⟩ => ?_)
    subst hr
    exact wpAny_execs_nil ⟨σ3, H3, I4, qn⟩
  · refine wpAny_passesOwn hp (thn (T.item X rfl rfl rfl hc i pins s3 σ3 H3 X.xe I3 (stat fr3) st3 go) fun r s4 ⟨u, hr, h4⟩ => ?_)
    subst hr
    refine wpAny_passesOwn hp (thn h4 fun _ s5 ⟨x, H5, I5, r5, y5, st5, fr5⟩ => ?_)
    have I5' := I5.pinned (stat fr5) (T.obj _ _ st5)
    refine wpAny_passesOwn hp (thn (hg _ s5 σ3 H5 x u _ I5' r5 (step x H5 y5)) fun _ s6 ⟨σ6, H6, I6, q6⟩ => ?_)
    refine wpAny_passesOwn hp (thn (hb _ s6 σ6 H6 _ I6 q6) fun f s7 q7 => ?_)
    have again : ∀ {σ7 : St} {H7 : Hp}, Inv X (pins ++ uT fp s5.heap) σ7 H7 s7 -> N σ7 H7 -> ∃ m, m < n /\ ∃ i σ' H', Inv X pins σ' H' s7 /\ tn i s7.heap /\ (∀ b ∈ fp, H' b = none) /\ W i m σ' H' := fun {σ7 H7} I7 n7 => by
      obtain ⟨m', hm, w7⟩ := hN σ7 H7 n7
      refine ⟨m', hm, i + 1, σ7, H7, I7.jY, T.keep _ _ _ st5 fun b hb o e => (I7.pin (b, o) (List.mem_append_right _ (List.mem_append_right _ (je hb e)))).1, fun b hb => ?_, w7⟩
      obtain ⟨o, e, d⟩ := T.obj _ _ st5 b hb
      exact (I7.pin (b, o) (List.mem_append_right _ (List.mem_append_right _ (je hb e)))).2.1
    cases f with
    | next => obtain ⟨σ7, H7, I7, n7⟩ := q7; exact again I7 n7
    | cont => obtain ⟨σ7, H7, I7, n7⟩ := q7; exact again I7 n7
    | brk => obtain ⟨σ7, H7, I7, q7⟩ := q7; exact ⟨σ7, H7, I7.jY, q7⟩
    | ret v => obtain ⟨x7, σ7, H7, I7, r7, q7⟩ := q7; exact ⟨x7, σ7, H7, I7.jY, r7, q7⟩
end
theorem nM {K : PySem.W.Frag} {a : Addr} {xs : List V} {g : TG} {tb : TS} {D : Ends} {σ : St} {H : Hp} (Pv : Nat -> St -> Hp -> Prop) (h0 : Pv 0 σ H) (hl : ∀ i σ H, i <= xs.length -> Pv i σ H -> SqL K H a xs)
    (hs : ∀ i x σ H, xs[i]? = some x -> Pv i σ H -> g x σ H fun σ2 H2 => tb { D with nx := Pv (i + 1), ct := Pv (i + 1), bk := D.nx } σ2 H2) (hd : ∀ σ H, Pv xs.length σ H -> D.nx σ H) :
    ∃ W : Nat -> Nat -> St -> Hp -> Prop, (∃ m, W 0 m σ H) /\ ∀ i m σ H, W i m σ H ->
      ((Itl K a).stop i H /\ D.nx σ H) \/ ((Itl K a).go i H /\ ∃ N : St -> Hp -> Prop, (∀ σ' H', N σ' H' -> ∃ m', m' < m /\ W (i + 1) m' σ' H') /\ ∀ x H', (Itl K a).yld i H x H' -> g x σ H' fun σ2 H2 => tb { D with nx := N, ct := N, bk := D.nx } σ2 H2) := by
  refine ⟨fun i m σ H => m = xs.length - i /\ i <= xs.length /\ Pv i σ H, ⟨xs.length, by simp, Nat.zero_le _, h0⟩, ?_⟩
  rintro i m σ H ⟨rfl, hi, p⟩
  have q := hl i σ H hi p
  by_cases hlt : i < xs.length
  · refine .inr ⟨⟨xs, xs[i], q, by simp [hlt]⟩, Pv (i + 1), fun σ' H' p' => ⟨xs.length - (i + 1), by omega, rfl, hlt, p'⟩, fun x H' y => ?_⟩
    obtain ⟨e, y⟩ := y
    subst e
    exact hs i x σ _ (y xs q) p
  · have e : i = xs.length := by omega
    subst e
    exact .inl ⟨⟨xs, q, Nat.le_refl _⟩, hd σ H p⟩
theorem o_ {lo : Int} {n : Nat} {g : TG} {tb : TS} {D : Ends} {σ : St} {H : Hp} (Pv : Nat -> St -> Hp -> Prop) (h0 : Pv 0 σ H)
    (hs : ∀ i σ H, i < n -> Pv i σ H -> g (.int (lo + i)) σ H fun σ2 H2 => tb { D with nx := Pv (i + 1), ct := Pv (i + 1), bk := D.nx } σ2 H2) (hd : ∀ σ H, Pv n σ H -> D.nx σ H) :
    ∃ W : Nat -> Nat -> St -> Hp -> Prop, (∃ m, W 0 m σ H) /\ ∀ i m σ H, W i m σ H ->
      ((Itr lo n).stop i H /\ D.nx σ H) \/ ((Itr lo n).go i H /\ ∃ N : St -> Hp -> Prop, (∀ σ' H', N σ' H' -> ∃ m', m' < m /\ W (i + 1) m' σ' H') /\ ∀ x H', (Itr lo n).yld i H x H' -> g x σ H' fun σ2 H2 => tb { D with nx := N, ct := N, bk := D.nx } σ2 H2) := by
  refine ⟨fun i m σ H => m = n - i /\ i <= n /\ Pv i σ H, ⟨n, by simp, Nat.zero_le _, h0⟩, ?_⟩
  rintro i m σ H ⟨rfl, hi, p⟩
  by_cases hlt : i < n
  · refine .inr ⟨hlt, Pv (i + 1), fun σ' H' p' => ⟨n - (i + 1), by omega, rfl, hlt, p'⟩, fun x H' y => ?_⟩
    obtain ⟨e, y⟩ := y
    subst e y
    exact hs i σ _ hlt p
  · have e : i = n := by omega
    subst e
    exact .inl ⟨Nat.le_refl _, hd σ H p⟩
theorem Gq {c : TT} {tb : TS} {D : Ends} {σ : St} {H : Hp} (Pv : St -> Hp -> Prop) (μ : St -> Hp -> Nat) (h0 : Pv σ H)
    (hs : ∀ σ H, Pv σ H -> c σ H fun b H1 => if b = true then tb { D with nx := fun σ' H' => Pv σ' H' /\ μ σ' H' < μ σ H, ct := fun σ' H' => Pv σ' H' /\ μ σ' H' < μ σ H, bk := D.nx } σ H1 else D.nx σ H1)
    (mono : ∀ σ H Q Q', (∀ b H1, Q b H1 -> Q' b H1) -> c σ H Q -> c σ H Q') : EY c tb D σ H := by
  refine ⟨fun m σ H => m = μ σ H /\ Pv σ H, ⟨_, rfl, h0⟩, ?_⟩
  rintro m σ H ⟨rfl, p⟩
  refine mono σ H _ _ (fun b H1 q => ?_) (hs σ H p)
  cases b with
  | true => exact ⟨_, fun σ' H' ⟨p', l⟩ => ⟨_, l, rfl, p'⟩, q⟩
  | false => exact q
end L2
namespace L2
open PySem PySem.Spec PyProof.Rows
noncomputable abbrev R2 := V -> V -> Hp -> VK -> Prop
noncomputable def OpR (X : Cx) (f : Value -> Value -> Sem Value) (r : R2) : Prop :=
  ∀ (pins : List (Addr × Obj)) (s : Shared) (σ : St) (H : Hp) (x y : V) (v u : Value) (Q : VK), Inv X pins σ H s -> RelV x v -> RelV y u -> r x y H Q ->
    wpAny (model X.prog X.w) X.A (f v u) (EP X pins σ Q) X.xe s
noncomputable def UnR (X : Cx) (f : Value -> Sem Value) (r : V -> Hp -> VK -> Prop) : Prop :=
  ∀ (pins : List (Addr × Obj)) (s : Shared) (σ : St) (H : Hp) (x : V) (v : Value) (Q : VK), Inv X pins σ H s -> RelV x v -> r x H Q ->
    wpAny (model X.prog X.w) X.A (f v) (EP X pins σ Q) X.xe s
noncomputable def jK (X : Cx) (f : Value) (r : List V -> Hp -> VK -> Prop) : Prop :=
  ∀ (pins : List (Addr × Obj)) (s : Shared) (σ : St) (H : Hp) (xs : List V) (us : List Value) (Q : VK), Inv X pins σ H s -> Vals xs us -> r xs H Q ->
    wpAny (model X.prog X.w) X.A (call f us) (EP X pins σ Q) X.xe s
noncomputable def tOp (r : R2) (ta tb : TE) : TE := fun σ H Q => ta σ H fun x H1 => tb σ H1 fun y H2 => r x y H2 Q
noncomputable def tUn (r : V -> Hp -> VK -> Prop) (ta : TE) : TE := fun σ H Q => ta σ H fun x H1 => r x H1 Q
inductive XI (C : Int -> Int -> Prop) (g : Int -> Int -> V) (x y : V) (H : Hp) (Q : VK) : Prop
  | mk (i j : Int) (e : x = .int i) (e2 : y = .int j) (c : C i j) (q : Q (g i j) H) : XI C g x y H Q
noncomputable def rI (C : Int -> Int -> Prop) (g : Int -> Int -> V) : R2 := fun x y H Q => XI C g x y H Q
inductive XI0 (g : Int -> Int -> V) (x y : V) (H : Hp) (Q : VK) : Prop
  | mk (i j : Int) (e : x = .int i) (e2 : y = .int j) (q : Q (g i j) H) : XI0 g x y H Q
noncomputable def rI0 (g : Int -> Int -> V) : R2 := fun x y H Q => XI0 g x y H Q
inductive XU (g : Int -> V) (x : V) (H : Hp) (Q : VK) : Prop
  | mk (i : Int) (e : x = .int i) (q : Q (g i) H) : XU g x H Q
noncomputable def rU (g : Int -> V) : V -> Hp -> VK -> Prop := fun x H Q => XU g x H Q
section
variable {X : Cx} {a b c : Expr} {ta tb tc : TE} {pos : Pos}
theorem KD (ha : PE X a ta) (hb : PE X b tb) {pins : List (Addr × Obj)} {s : Shared} {σ : St} {H : Hp} {R : V -> V -> Hp -> Prop} (I : Inv X pins σ H s)
    (h : ta σ H fun x H1 => tb σ H1 fun y H2 => R x y H2) {Q : Value -> Shared -> Prop} {f : Value -> Value -> Sem Value}
    (hf : ∀ v u s2 x y H2, Inv X pins σ H2 s2 -> RelV x v -> RelV y u -> R x y H2 -> wpAny (model X.prog X.w) X.A (f v u) Q X.xe s2) :
    wpAny (model X.prog X.w) X.A (eval a X.env) (fun v s₁ => wpAny (model X.prog X.w) X.A (eval b X.env) (fun u s₂ => wpAny (model X.prog X.w) X.A (f v u) Q X.xe s₂) X.xe s₁) X.xe s := by
  refine thn (ha pins s σ H _ I h) fun v s1 ⟨x, H1, I1, r1, q1⟩ => ?_
  refine thn (hb pins s1 σ H1 _ I1 q1) fun u s2 ⟨y, H2, I2, r2, q2⟩ => ?_
  exact hf v u s2 x y H2 I2 r1 r2 q2
theorem bh {op : Operator} {r : R2} (ho : OpR X (binaryOp op) r) (ha : PE X a ta) (hb : PE X b tb) : PE X (.BinOp a op b pos) (tOp r ta tb) := by
  intro pins s σ H Q I h
  exact wpAny_BinOp (KD ha hb I h fun v u s2 x y H2 I2 rx ry q => ho pins s2 σ H2 x y v u Q I2 rx ry q)
theorem dI {op : UnaryOp} {r : V -> Hp -> VK -> Prop} (ho : UnR X (unaryOp op) r) (ha : PE X a ta) : PE X (.UnaryOp op a pos) (tUn r ta) := by
  intro pins s σ H Q I h
  exact UnaryOp_ (thn (ha pins s σ H _ I h) fun v s1 ⟨x, H1, I1, r1, q1⟩ => ho pins s1 σ H1 x v Q I1 r1 q1)
theorem opI {f : Value -> Value -> Sem Value} {C : Int -> Int -> Prop} {g : Int -> Int -> Int}
    (rule : ∀ (i j : Int) (t u : Tok) (s : Shared) (Q : Value -> Shared -> Prop) (E : Value -> Shared -> Prop), C i j -> Q (.int (g i j) s.toks) { s with toks := s.toks + 1 } -> wpAny (model X.prog X.w) X.A (f (.int i t) (.int j u)) Q E s) :
    OpR X f (rI C fun i j => .int (g i j)) := by
  intro pins s σ H x y v u Q I rx ry h
  obtain ⟨i, j, rfl, rfl, hc, q⟩ := h
  obtain ⟨t, rfl⟩ := rx
  obtain ⟨t', rfl⟩ := ry
  exact rule i j t t' s _ _ hc ⟨.int (g i j), H, I.tok _, ⟨_, rfl⟩, q⟩
theorem opI0 {f : Value -> Value -> Sem Value} {g : Int -> Int -> Int}
    (rule : ∀ (i j : Int) (t u : Tok) (s : Shared) (Q : Value -> Shared -> Prop) (E : Value -> Shared -> Prop), Q (.int (g i j) s.toks) { s with toks := s.toks + 1 } -> wpAny (model X.prog X.w) X.A (f (.int i t) (.int j u)) Q E s) :
    OpR X f (rI0 fun i j => .int (g i j)) := by
  intro pins s σ H x y v u Q I rx ry h
  obtain ⟨i, j, rfl, rfl, q⟩ := h
  obtain ⟨t, rfl⟩ := rx
  obtain ⟨t', rfl⟩ := ry
  exact rule i j t t' s _ _ ⟨.int (g i j), H, I.tok _, ⟨_, rfl⟩, q⟩
theorem Ky {f : Value -> Value -> Sem Value} {g : Int -> Int -> Bool}
    (rule : ∀ (i j : Int) (t u : Tok) (s : Shared) (Q : Value -> Shared -> Prop) (E : Value -> Shared -> Prop), Q (.bool (g i j)) s -> wpAny (model X.prog X.w) X.A (f (.int i t) (.int j u)) Q E s) :
    OpR X f (rI0 fun i j => .bl (g i j)) := by
  intro pins s σ H x y v u Q I rx ry h
  obtain ⟨i, j, rfl, rfl, q⟩ := h
  obtain ⟨t, rfl⟩ := rx
  obtain ⟨t', rfl⟩ := ry
  exact rule i j t t' s _ _ ⟨.bl (g i j), H, I, rfl, q⟩
noncomputable def CPow (i j : Int) : Prop := 0 <= j /\ j <= 1000000 /\ i.natAbs < 2 ^ 64
theorem cU : OpR X (binaryOp .Add) (rI0 fun i j => .int (i + j)) := opI0 fun _ _ _ _ _ _ _ q => add_int q
theorem fB : OpR X (binaryOp .Sub) (rI0 fun i j => .int (i - j)) := opI0 fun _ _ _ _ _ _ _ q => sub_int q
theorem gF : OpR X (binaryOp .Mod) (rI (fun _ j => 0 < j) fun i j => .int (i % j)) := opI fun i j _ _ _ _ _ hc q => by
  have h1 : (0 : Int) < j := hc
  exact mod_int' (by omega) (by rw [Int.fmod_eq_emod_of_nonneg i (by omega)]; exact q)
theorem Le : OpR X (binaryOp .Pow) (rI CPow fun i j => .int (i ^ j.toNat)) := opI fun _ _ _ _ _ _ _ hc q => pow_int_small hc.1 hc.2.1 hc.2.2 q
theorem unI {f : Value -> Sem Value} {g : Int -> Int}
    (rule : ∀ (i : Int) (t : Tok) (s : Shared) (Q : Value -> Shared -> Prop) (E : Value -> Shared -> Prop), Q (.int (g i) s.toks) { s with toks := s.toks + 1 } -> wpAny (model X.prog X.w) X.A (f (.int i t)) Q E s) :
    UnR X f (rU fun i => .int (g i)) := by
  intro pins s σ H x v Q I rx h
  obtain ⟨i, rfl, q⟩ := h
  obtain ⟨t, rfl⟩ := rx
  exact rule i t s _ _ ⟨.int (g i), H, I.tok _, ⟨_, rfl⟩, q⟩
theorem cF : UnR X (unaryOp .USub) (rU fun i => .int (-i)) := unI fun _ _ _ _ _ q => neg_int q
end
noncomputable def scal : V -> V -> Bool
  | .non, .non => true | .non, .int _ => true | .int _, .non => true | .non, .bl _ => true | .bl _, .non => true | .non, .str _ => true | .str _, .non => true
  | .int _, .int _ => true | .bl _, .bl _ => true | .str _, .str _ => true | .byt _, .byt _ => true
  | .int _, .str _ => true | .str _, .int _ => true | .bl _, .str _ => true | .str _, .bl _ => true
  | _, _ => false
noncomputable def rEq : R2 := fun x y H Q => scal x y = true /\ Q (.bl (decide (x = y))) H
noncomputable def rNe : R2 := fun x y H Q => scal x y = true /\ Q (.bl (!decide (x = y))) H
theorem Bo {i j : Int} : decide (V.int i = V.int j) = (i == j) := by
  rw [Bool.eq_iff_iff]
  simp
theorem Gd {i j : Bool} : decide (V.bl i = V.bl j) = (i == j) := by
  rw [Bool.eq_iff_iff]
  simp
theorem Bm {i j : Str} : decide (V.str i = V.str j) = (i == j) := by
  rw [Bool.eq_iff_iff]
  simp
theorem Bp {i j : Array UInt8} : decide (V.byt i = V.byt j) = (i.toList == j.toList) := by
  rw [Bool.eq_iff_iff]
  cases i
  cases j
  simp
section
variable {X : Cx} {a b c : Expr} {ta tb tc : TE} {pos : Pos}
theorem cH {pins : List (Addr × Obj)} {σ : St} {H : Hp} {s : Shared} {Q : VK} {k k' : Bool} (I : Inv X pins σ H s) (q : Q (.bl k) H) (e : k = k') : EP X pins σ Q (.bool k') s := by
  subst e
  exact ⟨.bl k, H, I, rfl, q⟩
theorem cg : OpR X (compareOp .Eq) rEq := by
  intro pins s σ H x y v u Q I rx ry h
  obtain ⟨hs, q⟩ := h
  cases x with
  | non =>
    cases rx
    cases y with
    | non => cases ry; exact PySem.EqNone.eq_none_none (cH I q (by simp))
    | bl j => cases ry; exact PySem.EqNone.eq_none_bool (cH I q (by simp))
    | int j => obtain ⟨t', rfl⟩ := ry; exact PySem.EqNone.eq_none_int (cH I q (by simp))
    | str j => obtain ⟨t', rfl⟩ := ry; exact PySem.EqNone.eq_none_str (cH I q (by simp))
    | _ => exact absurd (show false = true from hs) Bool.false_ne_true
  | bl i =>
    cases rx
    cases y with
    | non => cases ry; exact PySem.EqNone.eq_bool_none (cH I q (by simp))
    | bl j => cases ry; exact eq_bool (cH I q Gd)
    | str j => obtain ⟨t', rfl⟩ := ry; exact PySem.EqMixed.eq_bool_str (cH I q (by simp))
    | _ => exact absurd (show false = true from hs) Bool.false_ne_true
  | int i =>
    obtain ⟨t, rfl⟩ := rx
    cases y with
    | non => cases ry; exact PySem.EqNone.eq_int_none (cH I q (by simp))
    | int j => obtain ⟨t', rfl⟩ := ry; exact eq_int (cH I q Bo)
    | str j => obtain ⟨t', rfl⟩ := ry; exact PySem.EqMixed.eq_int_str (cH I q (by simp))
    | _ => exact absurd (show false = true from hs) Bool.false_ne_true
  | str i =>
    obtain ⟨t, rfl⟩ := rx
    cases y with
    | non => cases ry; exact PySem.EqNone.eq_str_none (cH I q (by simp))
    | bl j => cases ry; exact PySem.EqMixed.eq_str_bool (cH I q (by simp))
    | int j => obtain ⟨t', rfl⟩ := ry; exact PySem.EqMixed.eq_str_int (cH I q (by simp))
    | str j => obtain ⟨t', rfl⟩ := ry; exact eq_str (cH I q Bm)
    | _ => exact absurd (show false = true from hs) Bool.false_ne_true
  | byt i =>
    obtain ⟨t, rfl⟩ := rx
    cases y with
    | byt j => obtain ⟨t', rfl⟩ := ry; exact PySem.W.eq_bytes (cH I q Bp)
    | _ => exact absurd (show false = true from hs) Bool.false_ne_true
  | _ => cases y <;> exact absurd (show false = true from hs) Bool.false_ne_true
theorem pD : OpR X (compareOp .NotEq) rNe := by
  intro pins s σ H x y v u Q I rx ry h
  obtain ⟨hs, q⟩ := h
  cases x with
  | non =>
    cases rx
    cases y with
    | non => cases ry; exact PySem.EqNone.ne_none_none (cH I q (by simp))
    | bl j => cases ry; exact PySem.EqNone.ne_none_bool (cH I q (by simp))
    | int j => obtain ⟨t', rfl⟩ := ry; exact PySem.EqNone.ne_none_int (cH I q (by simp))
    | str j => obtain ⟨t', rfl⟩ := ry; exact PySem.EqNone.ne_none_str (cH I q (by simp))
    | _ => exact absurd (show false = true from hs) Bool.false_ne_true
  | bl i =>
    cases rx
    cases y with
    | non => cases ry; exact PySem.EqNone.ne_bool_none (cH I q (by simp))
    | bl j => cases ry; exact ne_bool (cH I q (congrArg not Gd))
    | str j => obtain ⟨t', rfl⟩ := ry; exact PySem.EqMixed.ne_bool_str (cH I q (by simp))
    | _ => exact absurd (show false = true from hs) Bool.false_ne_true
  | int i =>
    obtain ⟨t, rfl⟩ := rx
    cases y with
    | non => cases ry; exact PySem.EqNone.ne_int_none (cH I q (by simp))
    | int j => obtain ⟨t', rfl⟩ := ry; exact ne_int (cH I q (congrArg not Bo))
    | str j => obtain ⟨t', rfl⟩ := ry; exact PySem.EqMixed.ne_int_str (cH I q (by simp))
    | _ => exact absurd (show false = true from hs) Bool.false_ne_true
  | str i =>
    obtain ⟨t, rfl⟩ := rx
    cases y with
    | non => cases ry; exact PySem.EqNone.ne_str_none (cH I q (by simp))
    | bl j => cases ry; exact PySem.EqMixed.ne_str_bool (cH I q (by simp))
    | int j => obtain ⟨t', rfl⟩ := ry; exact PySem.EqMixed.ne_str_int (cH I q (by simp))
    | str j => obtain ⟨t', rfl⟩ := ry; exact ne_str (cH I q (congrArg not Bm))
    | _ => exact absurd (show false = true from hs) Bool.false_ne_true
  | byt i =>
    obtain ⟨t, rfl⟩ := rx
    cases y with
    | byt j => obtain ⟨t', rfl⟩ := ry; exact PySem.W.ne_bytes (cH I q (congrArg not Bp))
    | _ => exact absurd (show false = true from hs) Bool.false_ne_true
  | _ => cases y <;> exact absurd (show false = true from hs) Bool.false_ne_true
theorem gB : OpR X (compareOp .Lt) (rI0 fun i j => .bl (decide (i < j))) := Ky fun _ _ _ _ _ _ _ q => lt_int q
theorem iK : OpR X (compareOp .Gt) (rI0 fun i j => .bl (decide (j < i))) := Ky fun _ _ _ _ _ _ _ q => gt_int q
theorem op_ge : OpR X (compareOp .GtE) (rI0 fun i j => .bl (decide (j <= i))) := Ky fun _ _ _ _ _ _ _ q => ge_int q
theorem aP (b : Expr) {op : CmpOp} (h : op ≠ .In := by decide) (h2 : op ≠ .NotIn := by decide) : behindInMarks op b = false := by
  have e1 : (op == CmpOp.In) = false := by cases op <;> first | rfl | exact absurd rfl h
  have e2 : (op == CmpOp.NotIn) = false := by cases op <;> first | rfl | exact absurd rfl h2
  cases b <;> simp [behindInMarks, e1, e2]
theorem vH {op : CmpOp} {r : R2} (ho : OpR X (compareOp op) r) (ha : PE X a ta) (hb : PE X b tb) (hm : behindInMarks op b = false) : PE X (.Compare a [op] [b] pos) (tOp r ta tb) := by
  intro pins s σ H Q I h
  exact wpAny_Compare1 (KD ha hb I h fun v u s2 x y H2 I2 rx ry q => ho pins s2 σ H2 x y v u Q I2 rx ry q) hm
noncomputable def JD (t : TE) : TT := fun σ H Q => t σ H fun x H' => XB x H' Q
theorem aJ {op : CmpOp} {r : R2} (ho : OpR X (compareOp op) r) (ha : PE X a ta) (hb : PE X b tb) (hm : behindInMarks op b = false) : PT X (.Compare a [op] [b] pos) (JD (tOp r ta tb)) := by
  intro pins s σ H Q I h
  refine wpAny_isTrue_Compare1 (thn (ha pins s σ H _ I h) fun v s1 ⟨x, H1, I1, r1, q1⟩ => thn (hb pins s1 σ H1 _ I1 q1) fun u s2 ⟨y, H2, I2, r2, q2⟩ =>
    thn (ho pins s2 σ H2 x y v u _ I2 r1 r2 q2) fun c s3 ⟨z, H3, I3, r3, k, e, q3⟩ => ?_) hm
  subst e
  cases r3
  exact wpAny_truthy_bool ⟨H3, I3, q3⟩
noncomputable def K4 (r r' : R2) (ta tb tc : TE) : TE := fun σ H Q => ta σ H fun x H1 => tb σ H1 fun y H2 => r x y H2 fun z H3 => ∃ k, z = .bl k /\
  (if k = true then tc σ H3 fun w' H4 => r' y w' H4 Q else Q (.bl false) H3)
theorem Gw {op op' : CmpOp} {r r' : R2} (ho : OpR X (compareOp op) r) (ho' : OpR X (compareOp op') r') (ha : PE X a ta) (hb : PE X b tb) (hc : PE X c tc)
    (hm : lastMarks [op, op'] [b, c] = false := by with_unfolding_all rfl) : PT X (.Compare a [op, op'] [b, c] pos) (JD (K4 r r' ta tb tc)) := by
  intro pins s σ H Q I h
  refine isTrue_chain (thn (ha pins s σ H _ I h) fun v s1 ⟨x, H1, I1, r1, q1⟩ => test_link (thn (hb pins s1 σ H1 _ I1 q1) fun u s2 ⟨y, H2, I2, r2, q2⟩ =>
    thn (ho pins s2 σ H2 x y v u _ I2 r1 r2 q2) fun d s3 ⟨z, H3, I3, r3, k, e, q3⟩ => ?_)) hm
  subst e
  cases r3
  refine wpAny_truthy_bool ?_
  cases k with
  | false =>
    obtain ⟨k', e', q'⟩ := q3
    cases e'
    exact ite_ff ⟨H3, I3, q'⟩
  | true =>
    refine ite_tt (test_last (thn (hc pins s3 σ H3 _ I3 q3) fun w' s4 ⟨z', H4, I4, r4, q4⟩ => thn (ho' pins s4 σ H4 y z' u w' _ I4 r2 r4 q4) fun d' s5 ⟨z2, H5, I5, r5, k2, e2, q5⟩ => ?_))
    subst e2
    cases r5
    exact wpAny_truthy_bool ⟨H5, I5, q5⟩
theorem uW : (sizeLine : Nat) < 2 ^ 63 := by rw [sizeLine_eq]; decide
theorem jG : OpR X (binaryOp .Add) (fun x y H Q => ∃ i j, x = .str i /\ y = .str j /\ i.length + j.length <= sizeLine /\ Q (.str (i ++ j)) H) := by
  intro pins s σ H x y v u Q I rx ry h
  obtain ⟨i, j, rfl, rfl, hz, q⟩ := h
  obtain ⟨t, rfl⟩ := rx
  obtain ⟨t', rfl⟩ := ry
  exact add_str (fun t' tk => ⟨.str (i ++ j), H, I.tok _, ⟨_, rfl⟩, q⟩) hz
theorem vals1 {x : V} {us : List Value} (r : Vals [x] us) : ∃ u, us = [u] /\ RelV x u := by
  cases r with
  | cons r1 r2 => cases r2; exact ⟨_, rfl, r1⟩
theorem vals2 {x y : V} {us : List Value} (r : Vals [x, y] us) : ∃ u w', us = [u, w'] /\ RelV x u /\ RelV y w' := by
  cases r with
  | cons r1 r2 =>
    cases r2 with
    | cons r3 r4 => cases r4; exact ⟨_, _, rfl, r1, r3⟩
inductive KH (xs : List V) (H : Hp) (Q : VK) : Prop
  | mk (i : Int) (e : xs = [.int i]) (q : Q (.int (if i < 0 then -i else i)) H) : KH xs H Q
theorem gZ : jK X (.builtin "abs") (fun xs H Q => KH xs H Q) := by
  intro pins s σ H xs us Q I r h
  obtain ⟨i, rfl, q⟩ := h
  obtain ⟨u, rfl, t, rfl⟩ := vals1 r
  exact call_abs_int fun u tk => ⟨.int (if i < 0 then -i else i), H, I.tok _, ⟨_, rfl⟩, q⟩
inductive XMax (xs : List V) (H : Hp) (Q : VK) : Prop
  | mk (i j : Int) (e : xs = [.int i, .int j]) (q : Q (.int (if j > i then j else i)) H) : XMax xs H Q
theorem ud (hc : X.calm = true) : jK X (.builtin "max") (fun xs H Q => XMax xs H Q) := by
  intro pins s σ H xs us Q I r h
  obtain ⟨i, j, rfl, q⟩ := h
  obtain ⟨u, w', rfl, ⟨t, rfl⟩, ⟨t', rfl⟩⟩ := vals2 r
  refine max_two_ints (I.ok.hd hc) fun h' tk k => ⟨_, H, I.kept k, ?_, q⟩
  by_cases hj : j > i
  · rw [if_pos hj, if_pos hj]; exact ⟨_, rfl⟩
  · rw [if_neg hj, if_neg hj]; exact ⟨_, rfl⟩
theorem dN : jK X (.type "int") (fun xs H Q => (∃ i, xs = [.int i] /\ Q (.int i) H) \/ ∃ k, xs = [.bl k] /\ Q (.int (if k then 1 else 0)) H) := by
  intro pins s σ H xs us Q I r h
  rcases h with ⟨i, rfl, q⟩ | ⟨k, rfl, q⟩
  · obtain ⟨u, rfl, t, rfl⟩ := vals1 r
    exact call_int_int ⟨.int i, H, I, ⟨_, rfl⟩, q⟩
  · obtain ⟨u, rfl, r1⟩ := vals1 r
    cases r1
    exact call_int_bool ⟨.int (if k then 1 else 0), H, I.tok _, ⟨_, rfl⟩, q⟩
theorem nT : jK X (.type "str") (fun xs H Q => ∃ i, xs = [.int i] /\ i.natAbs.log2 < 1920 /\ Q (.str (toString i)) H) := by
  intro pins s σ H xs us Q I r h
  obtain ⟨i, rfl, hz, q⟩ := h
  obtain ⟨u, rfl, t, rfl⟩ := vals1 r
  exact PySem.P.str_of_int hz ⟨.str _, H, I.tok _, ⟨_, rfl⟩, q⟩
end
end L2
namespace L2
open PySem PySem.Spec PyProof.Rows
section
variable {prog : Program} {w : World} {A : Around} {E : Value -> Shared -> Prop} {s : Shared} {K : PySem.W.Frag} {x dx C f : Addr} {mA : Str -> Option Value} {name : Str} {v : Value}
end
section
variable {P : Program} {w : World} {H H' : Hp} {h h' : Heap} {a C dx : Addr} {fs fs' : List (Str × V)}
end
section
variable {X : Cx} {pins : List (Addr × Obj)} {σ : St} {H : Hp} {s : Shared} {a C dx : Addr} {fs : List (Str × V)} {f : Str} {v : V} {A : Around} {E : Value -> Shared -> Prop}
end
section
variable {X : Cx} {o e value : Expr} {f : Str} {pos pos' tpos : Pos} {ta tv : TE}
end
section
variable {X : Cx} {pins : List (Addr × Obj)} {σ : St} {H : Hp} {s : Shared} {A : Around} {E : Value -> Shared -> Prop} {Q : Value -> Shared -> Prop} {c : Value} {b : Bool}
end
end L2
namespace L2
open PySem PySem.Spec PyProof.Rows
structure jg (k : Nat) (A : Around) : Prop where
  hd : A.handled = none
  dp : A.depth + 3 * k + 5 < recursionLimit
  un : A.units + 16 * k + 200 < cLine
theorem jg.mono {j k : Nat} {A : Around} (r : jg k A) (h : j <= k) : jg j A := ⟨r.hd, by have := r.dp; omega, by have := r.un; omega⟩
theorem jg.deeper {k : Nat} {A : Around} (r : jg (k + 1) A) (env : Env) : jg k (A.deeper env) :=
  ⟨r.hd, by have := r.dp; show A.depth + 1 + 3 * k + 5 < _; omega, by have := r.un; show A.units + 3 + 16 * k + 200 < _; omega⟩
theorem jg.depth {k : Nat} {A : Around} (r : jg k A) : A.depth < recursionLimit := by have := r.dp; omega
theorem jg.yQ {k : Nat} {A : Around} (r : jg k A) : A.units < cLine := by have := r.un; omega
noncomputable def wk : TA := fun _ H Q => Q [] H
noncomputable def jN (ta : TE) (tr : TA) : TA := fun σ H Q => ta σ H fun x H1 => tr σ H1 fun xs H2 => Q (x :: xs) H2
section
variable {X : Cx} {e : Expr} {es : List Expr} {te : TE} {t : TA} {pos : Pos}
theorem aq : PA X [] wk := fun _ _ _ _ H Q I h => Calls.spliced_nil ⟨[], H, I, .nil, h⟩
theorem aj (ha : PE X e te) (hr : PA X es t) (hs : starEach (e :: es) X.env = (false, eval e X.env) :: starEach es X.env := by rfl) : PA X (e :: es) (jN te t) := by
  intro pos pins s σ H Q I h
  rw [hs]
  show wpAny _ _ (spliced ((false, eval e X.env) :: backTo pos (starEach es X.env))) _ _ s
  refine Calls.spliced_cons (thn (ha pins s σ H _ I h) fun u s1 ⟨x, H1, I1, r1, q1⟩ => ?_)
  exact thn (hr pos pins s1 σ H1 _ I1 q1) fun us s2 ⟨xs, H2, I2, r2, q2⟩ => ⟨x :: xs, H2, I2, .cons r1 r2, q2⟩
noncomputable def tTup (t : TA) : TE := fun σ H Q => t σ H fun xs H1 => xs.length <= sizeLine /\ ∀ p, H1 p = none -> Q (.ref p) (upd H1 p (.tup xs))
noncomputable def tLst (t : TA) : TE := fun σ H Q => t σ H fun xs H1 => xs.length <= sizeLine /\ ∀ p, H1 p = none -> Q (.ref p) (upd H1 p (.lst xs))
theorem eO {x1} (h : PA X es t) : PE X (.Tuple es x1 pos) (tTup t) := by
  intro pins s σ H Q I hq
  refine wpAny_Tuple_spliced (thn (h pos pins s σ H _ I hq) fun us s1 ⟨xs, H1, I1, r, z, q⟩ => ⟨by rw [<- r.length]; exact z, ?_⟩)
  have hf : H1 s1.heap.objs.size = none := I1.hok.fresh (Nat.le_refl _)
  refine ⟨.ref s1.heap.objs.size, upd H1 s1.heap.objs.size (.tup xs), I1.laid (t' := s1.toks) (fun b u e => Heap.get?_push_of_some _ e) (Nat.le_refl _) ?_, rfl, q _ hf⟩
  exact ⟨z, us, r, ⟨_, Heap.get?_push_size _ rfl, rfl, _, rfl⟩⟩
theorem cT (h : PA X es t) : PE X (.List es pos) (tLst t) := by
  intro pins s σ H Q I hq
  refine wpAny_List_spliced (thn (h pos pins s σ H _ I hq) fun us s1 ⟨xs, H1, I1, r, z, q⟩ => ⟨by rw [<- r.length]; exact z, ?_⟩)
  have hf : H1 s1.heap.objs.size = none := I1.hok.fresh (Nat.le_refl _)
  refine ⟨.ref s1.heap.objs.size, upd H1 s1.heap.objs.size (.lst xs), I1.laid (t' := s1.toks) (fun b u e => Heap.get?_push_of_some _ e) (Nat.le_refl _) ?_, rfl, q _ hf⟩
  exact ⟨z, us, 0, r, Heap.get?_push_size _ rfl⟩
end
noncomputable abbrev Sp := List V -> Hp -> VK -> XK -> Prop
noncomputable abbrev CXT := List Env -> Hp -> Shared -> XK -> Value -> Shared -> Prop
structure H_ (P : Program) (w : World) (K : PySem.W.Frag) (mg : Str -> Option Value) (base : Heap) (A : Around) (outer : List Env) (s : Shared) (H : Hp) : Prop where
  frames : A.frames = some outer
  mod : Mod K mg base
  bs : ∀ b o, base.get? b = some o -> s.heap.get? b = some o /\ H b = none
  bsz : base.objs.size <= s.heap.objs.size
  oE : s.heap.FunFrames base outer
  frf : ∀ b ∈ frs outer, H b = none
  hok : HOk P w H s.heap
  bare : AllBare s.gens
noncomputable def CE (outer : List Env) (P : Program) (w : World) (H : Hp) (s : Shared) (Q : VK) (u : Value) (s' : Shared) : Prop :=
  ∃ v H', s'.os = s.os /\ AllBare s'.gens /\ Un (frs outer) [] H H' s.heap s'.heap /\ HOk P w H' s'.heap /\ RelV v u /\ Q v H'
noncomputable def CR (CX : CXT) (outer : List Env) (P : Program) (w : World) (H : Hp) (s : Shared) (Q : VK) (E : XK) (r : Result) (s' : Shared) : Prop :=
  match r with
  | .ok (.ret u) => CE outer P w H s Q u s'
  | .ok _ => False
  | .error e => CX outer H s E e s'
structure bw (P : Program) (w : World) (K : PySem.W.Frag) (mg : Str -> Option Value) (base : Heap) (CX : CXT) (k : Nat) (f : Addr) (fd : FuncData) (ps : List Str) (sp : Sp) : Prop where
  len : ∀ vs H Q E, sp vs H Q E -> vs.length = ps.length
  run : ∀ (A : Around) (outer : List Env) (s : Shared) (H : Hp) (args : Args) (us : List Value) (vs : List V) (Q : VK) (E : XK), jg k A -> H_ P w K mg base A outer s H -> BindsTo s fd args (ps.zip us) -> Vals vs us -> sp vs H Q E ->
    codeAny (model P w) A (.call (.ref f) args) (CR CX outer P w H s Q E) s
section
variable {X : Cx} {pins : List (Addr × Obj)} {σ : St} {H : Hp} {s s' : Shared}
theorem Inv.env0 (I : Inv X pins σ H s) : H_ X.prog X.w X.K X.mg X.base X.A X.stack s H :=
  ⟨I.ok.frames, I.ok.mod, I.bs, Nat.le_trans I.ok.bsz I.sz, I.stack, I.kO, I.hok, I.bare⟩
theorem Inv.after {Q : VK} {u : Value} (I : Inv X pins σ H s) (h : CE X.stack X.prog X.w H s Q u s') : EP X pins σ Q u s' := by
  obtain ⟨v, H', os, bare, un, hok, r, q⟩ := h
  obtain ⟨hh, g, d, t, os'⟩ := s'
  obtain rfl : os' = s.os := os
  exact ⟨v, H', I.call (h' := hh) (g' := g) (d' := d) (t' := t) (ch := []) un hok bare (fun b z => absurd z (by simp)), r, q⟩
end
noncomputable def wH (sp : Sp) (dvs : List V) (E : XK) (t : TA) : TE := fun σ H Q => t σ H fun vs H1 => sp (vs ++ dvs) H1 Q E
noncomputable def Binds (K : PySem.W.Frag) (fd : FuncData) (ps : List Str) (ds : List Value) : Prop :=
  ∀ (s : Shared) (us : List Value), K.In s.heap -> (us ++ ds).length = ps.length -> BindsTo s fd ⟨us, []⟩ (ps.zip (us ++ ds))
theorem Binds.all {K : PySem.W.Frag} {fd : FuncData} {ps : List Str} (h : ∀ us : List Value, us.length = ps.length -> bindArgs fd ⟨us, []⟩ = pure (ps.zip us)) : Binds K fd ps [] := fun s us _ hl => by
  rw [List.append_nil] at hl ⊢
  exact .of_eq (h us hl)
noncomputable def Passes (CX : CXT) (X : Cx) (E : XK) : Prop := ∀ (pins : List (Addr × Obj)) (σ : St) (H : Hp) (s : Shared) (e : Value) (s' : Shared), Inv X pins σ H s -> CX X.stack H s E e s' -> X.xe e s'
section
variable {X : Cx} {CX : CXT} {k : Nat} {f C : Addr} {fd : FuncData} {ps : List Str} {sp : Sp} {dvs : List V} {ds : List Value} {E : XK} {x m : Str} {p pos apos : Pos} {e o : Expr} {es : List Expr} {ta : TE} {t : TA}
theorem K7 {pins : List (Addr × Obj)} {σ : St} {H : Hp} {s : Shared} {Q : VK} {us : List Value} {vs : List V} (F : bw X.prog X.w X.K X.mg X.base CX k f fd ps sp) (hr : jg k X.A) (hb : Binds X.K fd ps ds) (hd : Vals dvs ds) (hx : Passes CX X E)
    (I : Inv X pins σ H s) (r : Vals vs us) (h : sp (vs ++ dvs) H Q E) : wpAny (model X.prog X.w) X.A (call (.ref f) us) (EP X pins σ Q) X.xe s := by
  have r2 : Vals (vs ++ dvs) (us ++ ds) := r.append hd
  have hl : (us ++ ds).length = ps.length := by rw [<- r2.length]; exact F.len _ _ _ _ h
  refine wpAny_call (codeAny_mono (F.run X.A X.stack s H ⟨us, []⟩ (us ++ ds) (vs ++ dvs) Q E hr I.env0 (hb s us I.kIn hl) r2 h) fun r s' hq => ?_)
  cases r with
  | error e => exact hx pins σ H s e s' I hq
  | ok fl =>
    cases fl with
    | ret u => exact I.after hq
    | next => exact False.elim hq
    | brk => exact False.elim hq
    | cont => exact False.elim hq
theorem Az (F : bw X.prog X.w X.K X.mg X.base CX k f fd ps sp) (hr : jg k X.A) (hg : Gl X x) (hm : X.mg x = some (.ref f)) (hk : PySem.W.keepIn X.K (.ref f) = true) (hb : Binds X.K fd ps ds) (hd : Vals dvs ds) (hx : Passes CX X E)
    (ha : PA X (e :: es) t) (hdb : (x == ("__debug__" : Str)) = false := by decide) (he : starEach (e :: es) X.env = (false, eval e X.env) :: starEach es X.env := by rfl) (hpl : (backTo pos (starEach es X.env)).any (·.1) = false := by rfl) :
    PE X (.Call (.Name x p) (e :: es) [] pos) (wH sp dvs E t) := by
  intro pins s σ H Q I h
  refine wpAny_Call_Name_kw (m_ I hg hm ?_ hdb)
  refine PySem.W.callWith_K (h₀ := X.base) I.ok.mod.kin hk (thn (ha pos pins s σ H _ I h) fun us s1 ⟨vs, H1, I1, r, q⟩ => ⟨I1.kIn, ?_⟩) he hpl
  exact K7 F hr hb hd hx I1 r q
end
noncomputable def PK (X : Cx) (kws : List Keyword) (t : TA) : Prop :=
  ∀ (pos : Pos) (pins : List (Addr × Obj)) (s : Shared) (σ : St) (H : Hp) (Q : List V -> Hp -> Prop), Inv X pins σ H s -> t σ H Q -> wpAny (model X.prog X.w) X.A (evalAll ((backToKw pos (keywordEach kws X.env)).map (·.2))) (AP X pins σ Q) X.xe s
section
variable {X : Cx} {CX : CXT} {k : Nat} {f C : Addr} {fd : FuncData} {ps ks : List Str} {sp : Sp} {E : XK} {x m : Str} {p pos apos kpos : Pos} {e o : Expr} {es : List Expr} {kws : List Keyword} {te ta : TE} {t tk : TA} {nm : Option Str}
theorem K9 : PK X [] wk := fun _ _ _ _ H Q I h => wpAny_evalAll_nil ⟨[], H, I, .nil, h⟩
theorem Iz (ha : PE X e te) (hr : PK X kws t) : PK X (⟨nm, e, kpos⟩ :: kws) (jN te t) := by
  intro pos pins s σ H Q I h
  show wpAny _ _ (evalAll ((do let v <- eval e X.env; standAt pos; pure v) :: (backToKw pos (keywordEach kws X.env)).map (·.2))) _ _ s
  refine wpAny_evalAll_cons (wpAny_bind (thn (ha pins s σ H _ I h) fun u s1 ⟨x, H1, I1, r1, q1⟩ => wpAny_bind (wpAny_standAt (wpAny_pure ?_))))
  exact thn (hr pos pins s1 σ H1 _ I1 q1) fun us s2 ⟨xs, H2, I2, r2, q2⟩ => ⟨x :: xs, H2, I2, .cons r1 r2, q2⟩
variable {g : List Value -> List Value -> List Value} {gV : List V -> List V -> List V}
end
structure aZ (N P : List Str) (sc : Scope) : Prop where
  kind : sc.kind = .function
  co : sc.isCoroutine = false
  gen : sc.isGenerator = false
  nd : N.Nodup
  pre : N.take P.length = P
  par : ∀ x ∈ P, sc.names.lookup x = some .local \/ sc.names.lookup x = some .cell
  LC : ∀ y ∈ sc.names, y.2 ≠ .free
theorem uf {kindOf : Str -> Option NameKind} {x : Str} : ∀ {binds : List (Str × Value)} {m : Str -> Option Value}, (∀ v, (x, v) ∉ binds) -> bindL kindOf binds m x = m x
  | [], _, _ => rfl
  | (n, v) :: r, m, h => by
    unfold bindL
    rw [uf fun w hw => h w (List.mem_cons_of_mem _ hw)]
    split
    · have : x ≠ n := by rintro rfl; exact h v List.mem_cons_self
      simp [this]
    · rfl
theorem uh {kindOf : Str -> Option NameKind} {x : Str} : ∀ {binds : List (Str × Value)} {m : Str -> Option Value}, (∀ v, (x, v) ∉ binds) -> bindC kindOf binds m x = m x
  | [], _, _ => rfl
  | (n, v) :: r, m, h => by
    unfold bindC
    rw [uh fun w hw => h w (List.mem_cons_of_mem _ hw)]
    split
    · rfl
    · have : x ≠ n := by rintro rfl; exact h v List.mem_cons_self
      simp [this]
theorem ug {kindOf : Str -> Option NameKind} {x : Str} {v : Value} : ∀ {P : List Str} {vs : List Value} {i : Nat} {m : Str -> Option Value}, P.Nodup -> P[i]? = some x -> vs[i]? = some v -> kindOf x = some .local ->
    bindL kindOf (P.zip vs) m x = some v
  | [], _, _, _, _, h, _, _ => by simp at h
  | _ :: _, [], _, _, _, _, h, _ => by simp at h
  | p :: P, w :: vs, 0, m, nd, h1, h2, hk => by
    simp at h1 h2; subst h1; subst h2
    show bindL kindOf ((p, w) :: P.zip vs) m p = _
    unfold bindL
    rw [uf fun v hv => (List.nodup_cons.mp nd).1 (List.of_mem_zip hv).1, if_pos hk]
    simp
  | p :: P, w :: vs, i + 1, m, nd, h1, h2, hk => by
    show bindL kindOf ((p, w) :: P.zip vs) m x = _
    unfold bindL
    exact ug (i := i) (List.nodup_cons.mp nd).2 (by simpa using h1) (by simpa using h2) hk
theorem um {kindOf : Str -> Option NameKind} {x : Str} {v : Value} : ∀ {P : List Str} {vs : List Value} {i : Nat} {m : Str -> Option Value}, P.Nodup -> P[i]? = some x -> vs[i]? = some v -> kindOf x ≠ some .local ->
    bindC kindOf (P.zip vs) m x = some v
  | [], _, _, _, _, h, _, _ => by simp at h
  | _ :: _, [], _, _, _, _, h, _ => by simp at h
  | p :: P, w :: vs, 0, m, nd, h1, h2, hk => by
    simp at h1 h2; subst h1; subst h2
    show bindC kindOf ((p, w) :: P.zip vs) m p = _
    unfold bindC
    rw [uh fun v hv => (List.nodup_cons.mp nd).1 (List.of_mem_zip hv).1, if_neg hk]
    simp
  | p :: P, w :: vs, i + 1, m, nd, h1, h2, hk => by
    show bindC kindOf ((p, w) :: P.zip vs) m x = _
    unfold bindC
    exact um (i := i) (List.nodup_cons.mp nd).2 (by simpa using h1) (by simpa using h2) hk
noncomputable def start (N : List Str) (vs : List V) : St := vs.map some ++ List.replicate (N.length - vs.length) none
noncomputable def iy (CX : CXT) (P : Program) (w : World) (K : PySem.W.Frag) (mg : Str -> Option Value) (base : Heap) (N : List Str) (qual : Str) (scope : Scope) (f : Addr) (cd : Value) (A : Around) (outer : List Env) (s : Shared) (H : Hp) (E : XK) : Cx where
  prog := P
  w := w
  K := K
  mg := mg
  base := base
  A := A.deeper (envOfC qual scope s.heap.objs.size f cd)
  N := N
  s₀ := s
  H₀ := H
  env := envOfC qual scope s.heap.objs.size f cd
  outer := outer
  stack := envOfC qual scope s.heap.objs.size f cd :: outer
  ex := []
  calm := true
  fn := fun _ => true
  pn := []
  xe := fun e s' => wpAny (model P w) (A.deeper (envOfC qual scope s.heap.objs.size f cd)) (leaving (envOfC qual scope s.heap.objs.size f cd) e) (fun _ s'' => CX outer H s E e s'') (fun e' s'' => CX outer H s E e' s'') s'
theorem xT {sc : Scope} {n : Nat} {x : Str} (h : sc.names.lookup x = some .cell) : ∃ c, (cellsFrom n sc.names []).lookup x = some c := by
  have q := PySem.W.cellsFrom_some sc.names n [] (.inl h)
  exact Option.isSome_iff_exists.mp q
theorem DG {CX : CXT} {P : Program} {w : World} {K : PySem.W.Frag} {mg : Str -> Option Value} {base : Heap} {N ps : List Str} {qual : Str} {scope : Scope} {f : Addr} {cd : Value} {A : Around} {outer : List Env} {s s1 : Shared} {H : Hp} {E : XK} {us : List Value} {vs : List V}
    (S : aZ N ps scope) (hd : A.handled = none) (e0 : H_ P w K mg base A outer s H) (hl : vs.length = ps.length) (r : Vals vs us)
    (x : InCallC s s.heap.objs.size (bindL (envOfC qual scope s.heap.objs.size f cd).kindOf (ps.zip us) fun _ => none) (cellsFrom (s.heap.objs.size + 1) scope.names []) (bindC (envOfC qual scope s.heap.objs.size f cd).kindOf (ps.zip us) fun _ => none) s1) :
    Inv (iy CX P w K mg base N qual scope f cd A outer s H E) [] (start N vs) H s1 := by
  have hpl : ps.length <= N.length := by have := congrArg List.length S.pre; rw [List.length_take] at this; omega
  obtain ⟨h1, tk, rfl, hk⟩ := x.done
  have noA : ∀ b : Addr, b ∉ (iy CX P w K mg base N qual scope f cd A outer s H E).ex := fun b z => absurd (show b ∈ ([] : List Addr) from z) (by simp)
  refine ⟨⟨e0.mod, S.kind, rfl, rfl, Nat.le_refl _, fun y z c h1 h2 => ?_, fun y hy => ?_, fun y c _ h => ?_, fun _ => hd, Around.frames_deeper e0.frames, .inr ⟨rfl, rfl⟩, fun b z => absurd z (noA b), e0.bs, e0.bsz, fun b _ _ => noA b, fun b z => absurd z (noA b), e0.oE, e0.frf⟩,
    rfl, e0.bare, Un.kept hk, ⟨_, x.toInCall.ns, fun i y v h1 h2 h3 => ?_⟩, fun y c h => ⟨_, x.cell y c h⟩, e0.hok.fresh (Nat.le_refl _), fun y c h => ?_, fun p hp => absurd (show p ∈ ([] : List (Addr × Obj)) from hp) (by simp), e0.hok.kept hk, ?_⟩
  · exact name_of_addr x.apart (PySem.mem_of_lookup h1) (PySem.mem_of_lookup h2)
  · have hy : scope.names.lookup y = some .cell \/ scope.names.lookup y = some .free := hy
    rcases hy with hy | hy
    · exact xT hy
    · exact absurd rfl (S.LC _ (PySem.mem_of_lookup hy))
  · exact Nat.le_of_lt (x.above y c (PySem.mem_of_lookup h))
  · have hi : i < vs.length := by
      unfold start at h2
      by_cases hi : i < vs.length
      · exact hi
      · rw [List.getElem?_append_right (by simpa using hi)] at h2
        rw [List.getElem?_replicate] at h2
        split at h2 <;> cases h2
    have ha : vs[i]? = some v := by
      unfold start at h2
      rw [List.getElem?_append_left (by simpa using hi), List.getElem?_map] at h2
      cases e : vs[i]? with
      | none => rw [e] at h2; cases h2
      | some a => rw [e] at h2; cases h2; rfl
    obtain ⟨u, hu, rv⟩ := r.get ha
    have hp : ps[i]? = some y := by
      rw [<- S.pre, List.getElem?_take_of_lt (by omega)]; exact h1
    have ndP : ps.Nodup := by rw [<- S.pre]; exact S.nd.sublist (List.take_sublist _ _)
    refine ⟨u, rv, ?_⟩
    rcases S.par y (List.mem_of_getElem? hp) with k | k
    · exact .inl ⟨k, ug ndP hp hu k⟩
    · obtain ⟨c, e⟩ := xT (n := s.heap.objs.size + 1) k
      refine .inr ⟨.inl k, c, e, ?_⟩
      have q := x.cell y c e
      rw [um ndP hp hu (by show scope.names.lookup y ≠ _; rw [k]; decide)] at q
      exact q
  · exact e0.hok.fresh (Nat.le_of_lt (x.above y c (PySem.mem_of_lookup h)))
  · unfold start
    show _ = N.length
    rw [List.length_append, List.length_map, List.length_replicate]
    omega
theorem J9 {CX : CXT} {P : Program} {w : World} {K : PySem.W.Frag} {mg : Str -> Option Value} {base : Heap} {k : Nat} {f : Addr} {name qual : Str} {params : Arguments} {body : List Stmt} {scope : Scope} {dV kV doc pm cdv ct oc : Value} {an od : Option Addr}
    {osl : Array (Option Value)} {N ps : List Str} {sp : Sp} (lk : K.lookup f = some ⟨oc, od, .func (PySem.W.fnOf name qual params body scope dV kV doc pm an cdv ct), osl⟩) (hcd : PySem.W.codeIn K cdv qual = true) (S : aZ N ps scope)
    (len : ∀ vs H Q E, sp vs H Q E -> vs.length = ps.length)
    (hbody : ∀ (A : Around) (outer : List Env) (s : Shared) (H : Hp) (vs : List V) (Q : VK) (E : XK), jg k (A.deeper (envOfC qual scope s.heap.objs.size f cdv)) -> sp vs H Q E ->
      ∃ t, PSs (iy CX P w K mg base N qual scope f cdv A outer s H E) body t /\ t { nx := fun _ H' => Q .non H', rt := Q } (start N vs) H) :
    bw P w K mg base CX (k + 1) f (PySem.W.fnOf name qual params body scope dV kV doc pm an cdv ct) ps sp := by
  refine ⟨len, fun A outer s H args us vs Q E hr e0 hb r hsp => ?_⟩
  have hl := len _ _ _ _ hsp
  have KX : K.In s.heap := e0.mod.kin.keeps fun b o e => (e0.bs b o e).1
  have lim : s.heap.NoLimit := e0.mod.nolimit.keeps fun b o e => (e0.bs b o e).1
  have hkind : ∀ y ∈ ps.zip us, scope.names.lookup y.1 = some .local \/ (scope.names.lookup y.1 = some .cell /\ ((cellsFrom (s.heap.objs.size + 1) scope.names []).lookup y.1).isSome = true) := fun ⟨n, v⟩ hy => by
    rcases S.par n (List.of_mem_zip hy).1 with q | q
    · exact .inl q
    · exact .inr ⟨q, PySem.W.cellsFrom_some _ _ _ (.inl q)⟩
  refine codeAny_call_function hr.depth (KX _ _ lk) rfl S.co S.gen rfl (PySem.W.codeRec_of KX hcd) (hb _ _ _ _ ?_)
  refine wpAny_newFunctionEnv_cells S.kind hkind fun env he s1 x => ?_
  subst he
  refine ⟨lim.keeps x.toInCall.keep, codeAny_func ?_⟩
  obtain ⟨t, ht, hq⟩ := hbody A outer s H vs Q E (hr.deeper _) hsp
  have I : Inv (iy CX P w K mg base N qual scope f cdv A outer s H E) [] (start N vs) H s1 := DG S hr.hd e0 hl r x
  refine wpAny_mono (ht [] s1 (start N vs) H _ I hq) (fun fl s' hs => ?_) fun e s' hs => hs
  have fin : ∀ {σ' : St} {H' : Hp} {v : V} {u : Value}, Inv (iy CX P w K mg base N qual scope f cdv A outer s H E) [] σ' H' s' -> RelV v u -> Q v H' -> CE outer P w H s Q u s' :=
    fun {σ' H' v u} J rv q => ⟨v, H', J.os, J.bare, J.base, J.hok, rv, q⟩
  cases fl with
  | ret u =>
    obtain ⟨v, σ', H', J, rv, q⟩ := hs
    exact fin J rv q
  | next =>
    obtain ⟨σ', H', J, q⟩ := hs
    exact fin (v := V.non) (u := Value.none) J rfl q
  | brk =>
    obtain ⟨_, _, _, q⟩ := hs
    exact False.elim q
  | cont =>
    obtain ⟨_, _, _, q⟩ := hs
    exact False.elim q
end L2
namespace L2
open PySem PySem.Spec PyProof.Rows
section
variable {X : Cx} {x : Str} {p pos : Pos} {e : Expr} {es : List Expr} {t : TA} {id T : String} {r : List V -> Hp -> VK -> Prop}
noncomputable def tCB (r : List V -> Hp -> VK -> Prop) (t : TA) : TE := fun σ H Q => t σ H fun vs H1 => r vs H1 Q
theorem aO (hc : jK X (.builtin id) r) (hg : Gl X x) (hm : X.mg x = none) (hv : bootBuiltins x = some (.builtin id)) (ha : PA X (e :: es) t) (hn : x ≠ "__name__" := by decide) (hdb : (x == ("__debug__" : Str)) = false := by decide)
    (he : starEach (e :: es) X.env = (false, eval e X.env) :: starEach es X.env := by rfl) (hpl : (backTo pos (starEach es X.env)).any (·.1) = false := by rfl) : PE X (.Call (.Name x p) (e :: es) [] pos) (tCB r t) := by
  intro pins s σ H Q I h
  refine wpAny_Call_Name_kw (jT I hg hm hv ?_ hn hdb)
  exact PyProof.Rows.callWith_builtin1 (thn (ha pos pins s σ H _ I h) fun us s1 ⟨vs, H1, I1, r1, q1⟩ => hc pins s1 σ H1 vs us Q I1 r1 q1) he hpl
theorem cB (hc : jK X (.type T) r) (hg : Gl X x) (hm : X.mg x = none) (hv : bootBuiltins x = some (.type T)) (ha : PA X (e :: es) t) (hn : x ≠ "__name__" := by decide) (hdb : (x == ("__debug__" : Str)) = false := by decide)
    (he : starEach (e :: es) X.env = (false, eval e X.env) :: starEach es X.env := by rfl) (hpl : (backTo pos (starEach es X.env)).any (·.1) = false := by rfl) : PE X (.Call (.Name x p) (e :: es) [] pos) (tCB r t) := by
  intro pins s σ H Q I h
  refine wpAny_Call_Name_kw (jT I hg hm hv ?_ hn hdb)
  exact PyProof.Rows.callWith_type1 (thn (ha pos pins s σ H _ I h) fun us s1 ⟨vs, H1, I1, r1, q1⟩ => hc pins s1 σ H1 vs us Q I1 r1 q1) he hpl
end
end L2
namespace HT
open PySem PyProof.Rows
section
open PySem.SeqAt
open PySem.AutoSeq1 (wpAny_loadPart')
open PySem.MeetsSeq PySem.MeetsSeq2 PySem.MeetsSeq3
end
section
variable {prog : Program} {w : World} {A : Around} {E : Value -> Shared -> Prop} {s : Shared}
noncomputable def sIx (n d : Nat) : Option Int -> Nat
  | none => d
  | some v => if v < 0 then (v + (n : Int)).toNat else min v.toNat n
theorem wL (n d : Nat) : sIx n d none = d := rfl
theorem vC (n d k : Nat) : sIx n d (some (k : Int)) = min k n := by
  show (if (k : Int) < 0 then ((k : Int) + (n : Int)).toNat else min (k : Int).toNat n) = min k n
  rw [if_neg (by omega), Int.toNat_natCast]
end
end HT
namespace L2
open PySem PySem.Spec PyProof.Rows
noncomputable abbrev TO := St -> Hp -> (Option Int -> Hp -> Prop) -> Prop
noncomputable def PO (X : Cx) (e : Option Expr) (t : TO) : Prop :=
  ∀ (pins : List (Addr × Obj)) (s : Shared) (σ : St) (H : Hp) (Q : Option Int -> Hp -> Prop), Inv X pins σ H s -> t σ H Q ->
    wpAny (model X.prog X.w) X.A (evalPart e X.env) (fun u s' => ∃ o H', Inv X pins σ H' s' /\ IsPart u o /\ Q o H') X.xe s
noncomputable def Ai : TO := fun _ H Q => Q none H
inductive Kg (x : V) (H : Hp) (Q : Option Int -> Hp -> Prop) : Prop
  | mk (i : Int) (e : x = .int i) (q : Q (some i) H) : Kg x H Q
noncomputable def JF (t : TE) : TO := fun σ H Q => t σ H fun x H1 => Kg x H1 Q
theorem intsAre_of {ns : List Int} : ∀ {us : List Value}, Vals (ns.map V.int) us -> IntsAre us ns := by
  induction ns with
  | nil => intro us r; rw [List.map_nil] at r; cases r; exact .nil
  | cons n ns ih =>
    intro us r
    rw [List.map_cons] at r
    cases r with
    | cons r1 r2 =>
      obtain ⟨t, e⟩ := r1
      subst e
      exact .cons n t (ih r2)
section
variable {X : Cx} {e : Expr} {te : TE} {lo hi : Option Expr} {tl th : TO} {pos p2 : Pos}
theorem Ax : PO X none Ai := by
  intro pins s σ H Q I h
  rw [evalPart_none]
  exact wpAny_pure ⟨none, H, I, .none, h⟩
theorem qg (h : PE X e te) : PO X (some e) (JF te) := by
  intro pins s σ H Q I hw
  rw [evalPart_some]
  refine thn (h pins s σ H _ I hw) fun u s1 ⟨x, H1, I1, r1, q1⟩ => ?_
  obtain ⟨i, rfl, q⟩ := q1
  obtain ⟨t, rfl⟩ := r1
  exact ⟨some i, H1, I1, .int i t, q⟩
noncomputable def SlR (X : Cx) (r : V -> Option Int -> Option Int -> Hp -> VK -> Prop) : Prop :=
  ∀ (pins : List (Addr × Obj)) (s : Shared) (σ : St) (H : Hp) (x : V) (v vl vu : Value) (lo hi : Option Int) (sl : Addr) (Q : VK), Inv X pins σ H s -> RelV x v -> s.heap.IsSliceOf sl vl vu .none -> IsPart vl lo -> IsPart vu hi -> r x lo hi H Q ->
    ∃ T id, typeLookup (.type T) "__getitem__" = pure (some (.builtin id)) /\ s.TypeIs v T /\ wpAny (model X.prog X.w) X.A (getItem v (.ref sl)) (EP X pins σ Q) X.xe s
noncomputable def tSl (r : V -> Option Int -> Option Int -> Hp -> VK -> Prop) (te : TE) (tl th : TO) : TE := fun σ H Q => te σ H fun x H1 => tl σ H1 fun l H2 => th σ H2 fun u H3 => r x l u H3 Q
theorem qU {r : V -> Option Int -> Option Int -> Hp -> VK -> Prop} (hr : SlR X r) (he : PE X e te) (hl : PO X lo tl) (hu : PO X hi th) : PE X (.Subscript e (.Slice lo hi none p2) pos) (tSl r te tl th) := by
  intro pins s σ H Q I h
  refine Subscript_ (thn (he pins s σ H _ I h) fun v s1 ⟨x, H1, I1, r1, q1⟩ => ?_)
  refine wpAny_Slice (thn (hl pins s1 σ H1 _ I1 q1) fun vl s2 ⟨l, H2, I2, pl, q2⟩ => thn (hu pins s2 σ H2 _ I2 q2) fun vu s3 ⟨u, H3, I3, pu, q3⟩ => ?_)
  rw [evalPart_none]
  refine wpAny_pure ?_
  have I4 : Inv X pins σ H3 { s3 with heap := s3.heap.push { cls := .type "slice", data := .fields #[vl, vu, .none] } } := I3.kept (t' := s3.toks) fun b ob q => Heap.get?_push_of_some _ q
  obtain ⟨T, id, hT, ht, hg⟩ := hr pins { s3 with heap := s3.heap.push { cls := .type "slice", data := .fields #[vl, vu, .none] } } σ H3 x v vl vu l u s3.heap.objs.size Q I4 r1 (Heap.IsSliceOf.new ..) pl pu q3
  show wpAny (model X.prog X.w) X.A (subscriptTail e (.Slice lo hi none p2) v (.ref s3.heap.objs.size)) (EP X pins σ Q) X.xe { s3 with heap := s3.heap.push { cls := .type "slice", data := .fields #[vl, vu, .none] } }
  exact tail_any (ops := [.ref s3.heap.objs.size, v]) ht hT hg (by with_unfolding_all rfl)
noncomputable def jM (xs : List V) (lo hi : Option Int) : List V := (xs.drop (HT.sIx xs.length 0 lo)).take (HT.sIx xs.length xs.length hi - HT.sIx xs.length 0 lo)
theorem yC (xs : List V) (lo hi : Option Int) : (jM xs lo hi).length <= xs.length := by
  unfold jM
  rw [List.length_take, List.length_drop]
  omega
end
end L2
namespace L2
open PySem PySem.Spec PyProof.Rows
noncomputable def ixN (n : Nat) (i : Int) : Option Nat := if 0 <= i then (if i < n then some i.toNat else none) else if -(n : Int) <= i then some (i + n).toNat else none
noncomputable def atI {α : Type} (xs : List α) (i : Int) : Option α := (ixN xs.length i).bind fun j => xs[j]?
theorem Bc {n : Nat} {i : Int} {j : Nat} (h : ixN n i = some j) : seqIndex? i n = some j /\ j < n /\ -(n : Int) <= i /\ i < n := by
  unfold ixN at h
  by_cases h0 : 0 <= i
  · rw [if_pos h0] at h
    by_cases h1 : i < n
    · rw [if_pos h1] at h
      have e : i.toNat = j := Option.some.inj h
      exact ⟨by rw [seqIndex_of h0 h1, e], by omega, by omega, h1⟩
    · rw [if_neg h1] at h; cases h
  · rw [if_neg h0] at h
    by_cases h1 : -(n : Int) <= i
    · rw [if_pos h1] at h
      have e : (i + n).toNat = j := Option.some.inj h
      exact ⟨by rw [seqIndex_neg (by omega) h1, e], by omega, h1, by omega⟩
    · rw [if_neg h1] at h; cases h
theorem Bt {α : Type} {xs : List α} {i : Int} {v : α} (h : atI xs i = some v) : ∃ j, seqIndex? i xs.length = some j /\ xs[j]? = some v /\ j < xs.length /\ -(xs.length : Int) <= i /\ i < xs.length := by
  unfold atI at h
  cases e : ixN xs.length i with
  | none => rw [e] at h; cases h
  | some j =>
    rw [e] at h
    obtain ⟨h1, h2, h3, h4⟩ := Bc e
    exact ⟨j, h1, h, h2, h3, h4⟩
theorem Bs {α : Type} {xs : List α} {j : Nat} {v : α} (h : xs[j]? = some v) : atI xs (j : Int) = some v := by
  have hj : j < xs.length := (List.getElem?_eq_some_iff.mp h).1
  have e : ixN xs.length (j : Int) = some j := by
    unfold ixN
    rw [if_pos (by omega), if_pos (by omega)]; simp
  unfold atI; rw [e]; exact h
theorem xU {α : Type} (xs : List α) (v : α) : atI (xs ++ [v]) (-1) = some v := by
  have hl : (xs ++ [v]).length = xs.length + 1 := by simp
  have e : ixN (xs ++ [v]).length (-1) = some xs.length := by
    unfold ixN
    rw [hl, if_neg (by decide), if_pos (by omega)]
    congr 1
    omega
  unfold atI
  rw [e]
  show (xs ++ [v])[xs.length]? = some v
  simp
noncomputable def Jw (b : Expr) : Prop := ∀ o i, subscripted b false o i = operate [o, i] (getItem o i)
noncomputable def IxR (X : Cx) (r : R2) : Prop :=
  ∀ (value slice : Expr) (pins : List (Addr × Obj)) (s : Shared) (σ : St) (H : Hp) (x y : V) (v u : Value) (Q : VK), Inv X pins σ H s -> RelV x v -> RelV y u -> r x y H Q ->
    subscripted slice false v u = operate [v, u] (getItem v u) -> wpAny (model X.prog X.w) X.A (subscriptTail value slice v u) (EP X pins σ Q) X.xe s
noncomputable def MtR (X : Cx) (id : String) (r : V -> List V -> Hp -> VK -> Prop) : Prop :=
  ∀ (pins : List (Addr × Obj)) (s : Shared) (σ : St) (H : Hp) (x : V) (xs : List V) (v : Value) (us : List Value) (Q : VK), Inv X pins σ H s -> RelV x v -> Vals xs us -> r x xs H Q ->
    wpAny (model X.prog X.w) X.A (call (.builtin id) (v :: us)) (EP X pins σ Q) X.xe s
section
variable {X : Cx} {a b : Expr} {ta tb : TE} {pos : Pos}
theorem bT {r : R2} (hr : IxR X r) (ha : PE X a ta) (hb : PE X b tb) (hs : Jw b) : PE X (.Subscript a b pos) (tOp r ta tb) := by
  intro pins s σ H Q I h
  exact Subscript_ (KD ha hb I h fun v u s2 x y H2 I2 rx ry q => hr a b pins s2 σ H2 x y v u Q I2 rx ry q (hs _ _))
inductive XIxL (K : PySem.W.Frag) (x y : V) (H : Hp) (Q : VK) : Prop
  | mk (p : Addr) (xs : List V) (i : Int) (v : V) (e : x = .ref p) (e2 : y = .int i) (s : SqL K H p xs) (a : atI xs i = some v) (q : Q v H) : XIxL K x y H Q
noncomputable def Kw (K : PySem.W.Frag) : R2 := fun x y H Q => XIxL K x y H Q
inductive XIxT (K : PySem.W.Frag) (x y : V) (H : Hp) (Q : VK) : Prop
  | mk (p : Addr) (xs : List V) (i : Int) (v : V) (e : x = .ref p) (e2 : y = .int i) (s : SqT K H p xs) (a : atI xs i = some v) (q : Q v H) : XIxT K x y H Q
noncomputable def rIxT (K : PySem.W.Frag) : R2 := fun x y H Q => XIxT K x y H Q
theorem bY : IxR X (Kw X.K) := by
  intro value slice pins s σ H x y v u Q I rx ry h hs
  obtain ⟨p, xs, i, z, rfl, rfl, hq, he, q⟩ := h
  cases rx
  obtain ⟨t, rfl⟩ := ry
  obtain ⟨its, r, pl, hz⟩ := I.list hq
  obtain ⟨j, h1, h2, h3, h4, h5⟩ := Bt he
  obtain ⟨w, ew, rw'⟩ := r.get h2
  have hl := r.length
  have hn := uW
  have fin : EP X pins σ Q w s := ⟨z, H, I, rw', q⟩
  by_cases h0 : 0 <= i
  · have hj : i.toNat = j := by
      rw [seqIndex_of h0 h5] at h1
      exact Option.some.inj h1
    exact item_listR pl.isList h0 (by omega) (by rw [hj]; simpa using ew) fin hs
  · have hj : (i + (its.toArray.size : Int)).toNat = j := by
      rw [seqIndex_neg (by omega) h4] at h1
      rw [List.size_toArray, <- hl]
      exact Option.some.inj h1
    exact subscriptTail_builtinR (x := w) pl.isList.typeIs slot_list_getitem.lookup
      (wpAny_getItem_list_neg (Q := fun r s' => r = w /\ EP X pins σ Q r s') pl.isList (by omega) (by rw [List.size_toArray] <;> omega) (by omega) (by rw [hj]; simpa using ew) ⟨rfl, fin⟩) hs
theorem cG : IxR X (rIxT X.K) := by
  intro value slice pins s σ H x y v u Q I rx ry h hs
  obtain ⟨p, xs, i, z, rfl, rfl, hq, he, q⟩ := h
  cases rx
  obtain ⟨t, rfl⟩ := ry
  obtain ⟨its, r, pl, hz⟩ := I.tuple hq
  obtain ⟨j, h1, h2, h3, h4, h5⟩ := Bt he
  obtain ⟨w, ew, rw'⟩ := r.get h2
  have hl := r.length
  have hn := uW
  have fin : EP X pins σ Q w s := ⟨z, H, I, rw', q⟩
  exact subscriptTail_builtinR (x := w) pl.typeIs slot_tuple_getitem.lookup
    (getItem_tuple (j := j) (Q := fun r s' => r = w /\ EP X pins σ Q r s') pl (by omega) (by omega) (by rw [List.size_toArray, <- hl]; exact h1) (by simpa using ew) ⟨rfl, fin⟩) hs
theorem zO (its : List Value) (n j : Nat) (u : Value) : Obj.mapSeq (·.setIfInBounds j u) { cls := .type "list", data := .seq its.toArray n } = { cls := .type "list", data := .seq (its.set j u).toArray n } := by
  simp [Obj.mapSeq]
theorem Inv.lst {pins : List (Addr × Obj)} {σ : St} {H : Hp} {s : Shared} {p : Addr} {xs : List V} (I : Inv X pins σ H s) (h : H p = some (.lst xs)) :
    ∃ (its : List Value) (n : Nat), Vals xs its /\ s.heap.get? p = some { cls := .type "list", data := .seq its.toArray n } /\ xs.length <= sizeLine := by
  obtain ⟨z, its, n, r, e⟩ := I.hok p _ h
  exact ⟨its, n, r, e, z⟩
theorem Inv.LR {pins : List (Addr × Obj)} {σ : St} {H : Hp} {s : Shared} {p : Addr} {xs ys : List V} {its its' : List Value} {n n' : Nat} {f : Obj -> Obj} (I : Inv X pins σ H s) (h : H p = some (.lst xs))
    (ho : s.heap.get? p = some { cls := .type "list", data := .seq its.toArray n }) (hf : f { cls := .type "list", data := .seq its.toArray n } = { cls := .type "list", data := .seq its'.toArray n' }) (r : Vals ys its') (hz : ys.length <= sizeLine) (t : Nat) :
    Inv X pins σ (upd H p (.lst ys)) { s with heap := s.heap.update p f, toks := t } := by
  have e : (s.heap.update p f).get? p = some { cls := .type "list", data := .seq its'.toArray n' } := by
    rw [Heap.get?_update_self f ho (by rw [hf] <;> rfl), hf]
  refine I.write (x := p) (e := p) (by rw [h]; trivial) (.inl rfl) (fun b u hb q => (Heap.get?_update_other _ _ (Ne.symm hb)).trans q) ⟨_, e⟩ ?_
  exact ⟨hz, its', n', r, e⟩
inductive Kd (o i v : V) (H : Hp) (Q : Hp -> Prop) : Prop
  | mk (p : Addr) (xs : List V) (k : Int) (j : Nat) (e : o = .ref p) (e2 : i = .int k) (a : H p = some (.lst xs)) (b : ixN xs.length k = some j) (q : Q (upd H p (.lst (xs.set j v)))) : Kd o i v H Q
noncomputable def rSetL : V -> V -> V -> Hp -> (Hp -> Prop) -> Prop := fun o i v H Q => Kd o i v H Q
theorem set_list : PSet X rSetL := by
  intro pins s σ H o i v ov iv u Q I ro ri rv h
  obtain ⟨p, xs, k, j, rfl, rfl, hp, hj, q⟩ := h
  cases ro
  obtain ⟨t, rfl⟩ := ri
  obtain ⟨its, n, r, ho, hz⟩ := I.lst hp
  obtain ⟨h1, h2, h3, h4⟩ := Bc hj
  have hl := r.length
  have hn := uW
  have I' : Inv X pins σ (upd H p (.lst (xs.set j v))) { s with heap := s.heap.update p (Obj.mapSeq (·.setIfInBounds j u)) } :=
    I.LR hp ho (zO its n j u) (r.set rv j) (by rw [List.length_set]; exact hz) s.toks
  by_cases h0 : 0 <= k
  · have hk : k.toNat = j := by
      rw [seqIndex_of h0 h4] at h1
      exact Option.some.inj h1
    exact PySem.W.ki_setAt ho h0 (by omega) (by rw [List.size_toArray, <- hl]; exact h4) (by rw [hk]; exact ⟨_, I', q⟩)
  · have hk : (k + (its.toArray.size : Int)).toNat = j := by
      rw [seqIndex_neg (by omega) h3] at h1
      rw [List.size_toArray, <- hl]
      exact Option.some.inj h1
    exact PySem.W.ki_setBack ho (by omega) (by rw [List.size_toArray, <- hl]; exact h3) (by omega) (by rw [hk]; exact ⟨_, I', q⟩)
theorem vQ (lo hi : Option Int) (n : Nat) : (sliceBounds lo hi none n).1 = ((HT.sIx n 0 lo : Nat) : Int) /\ (sliceBounds lo hi none n).2.1 = ((HT.sIx n n hi : Nat) : Int) /\ (sliceBounds lo hi none n).2.2 = 1 := by
  refine ⟨?_, ?_, rfl⟩
  · cases lo with
    | none => simp [sliceBounds, HT.sIx]
    | some i =>
      simp only [sliceBounds, HT.sIx, Option.getD_none, show (1 : Int) > 0 by decide, if_true]
      by_cases h : i < 0
      · simp only [h, if_true] <;> omega
      · simp only [h, if_false] <;> omega
  · cases hi with
    | none => simp [sliceBounds, HT.sIx]
    | some i =>
      simp only [sliceBounds, HT.sIx, Option.getD_none, show (1 : Int) > 0 by decide, if_true]
      by_cases h : i < 0
      · simp only [h, if_true] <;> omega
      · simp only [h, if_false] <;> omega
theorem sW (its : List Value) (lo hi : Option Int) : slicePick its.toArray lo hi none = ((its.drop (HT.sIx its.length 0 lo)).take (HT.sIx its.length its.length hi - HT.sIx its.length 0 lo)).toArray := by
  obtain ⟨h1, h2, h3⟩ := vQ lo hi its.toArray.size
  unfold slicePick
  rw [h1, h2, h3]
  simp only [sliceRange_one, pick_run, List.size_toArray] <;> rfl
inductive XSlL (K : PySem.W.Frag) (x : V) (lo hi : Option Int) (H : Hp) (Q : VK) : Prop
  | mk (a : Addr) (xs : List V) (e : x = .ref a) (s : SqL K H a xs) (q : ∀ p, H p = none -> Q (.ref p) (upd H p (.lst (jM xs lo hi)))) : XSlL K x lo hi H Q
noncomputable def rSlL (K : PySem.W.Frag) : V -> Option Int -> Option Int -> Hp -> VK -> Prop := fun x lo hi H Q => XSlL K x lo hi H Q
theorem vB : SlR X (rSlL X.K) := by
  intro pins s σ H x v vl vu lo hi sl Q I rx hs pl pu h
  obtain ⟨a, xs, rfl, hx, q⟩ := h
  cases rx
  obtain ⟨its, r, ht, hz⟩ := I.list hx
  have hlen := r.length
  refine ⟨"list", _, slot_list_getitem.lookup, ht.isList.typeIs, ?_⟩
  refine wpAny_getItem_list_slice ht.isList hs pl pu .none (by simp) ?_ (by rw [List.size_toArray] <;> omega)
  rw [sW, <- hlen]
  refine ⟨.ref s.heap.objs.size, _, I.laid (t' := s.toks) (o := .lst (jM xs lo hi)) (fun b ob q => Heap.get?_push_of_some _ q) (Nat.le_refl _) ?_, rfl, q _ (I.hok.fresh (Nat.le_refl _))⟩
  exact ⟨Nat.le_trans (yC xs lo hi) hz, _, 0, (r.drop (HT.sIx xs.length 0 lo)).take (HT.sIx xs.length xs.length hi - HT.sIx xs.length 0 lo), Heap.get?_push_size _ rfl⟩
noncomputable def pG : V -> Bool
  | .non => true
  | .bl _ => true
  | .int _ => true
  | .str _ => true
  | _ => false
noncomputable def eqV : V -> V -> Bool
  | .non, .non => true
  | .bl a, .bl b => a == b
  | .bl a, .int b => (if a then 1 else 0) == b
  | .int a, .bl b => a == (if b then 1 else 0)
  | .int a, .int b => a == b
  | .str a, .str b => a == b
  | _, _ => false
theorem Mq {A : Around} {s : Shared} {y x : V} {u v : Value} (ry : RelV y u) (rx : RelV x v) (fy : pG y = true) (fx : pG x = true) : SeqAt.EqAt A s u v (eqV y x) := by
  cases y with
  | non =>
    cases ry
    cases x with
    | non => cases rx; exact SeqAt.EqAt.same _
    | bl b => cases rx; exact SeqAt.EqAt.none_bool b
    | int b => obtain ⟨t, rfl⟩ := rx; exact SeqAt.EqAt.none_int b t
    | str b => obtain ⟨t, rfl⟩ := rx; exact SeqAt.EqAt.none_str b t
    | _ => exact absurd (show false = true from fx) Bool.false_ne_true
  | bl a =>
    cases ry
    cases x with
    | non => cases rx; exact SeqAt.EqAt.bool_none a
    | bl b => cases rx; exact SeqAt.EqAt.bool_bool a b
    | int b => obtain ⟨t, rfl⟩ := rx; exact SeqAt.EqAt.bool_int a b t
    | str b => obtain ⟨t, rfl⟩ := rx; exact SeqAt.EqAt.bool_str a b t
    | _ => exact absurd (show false = true from fx) Bool.false_ne_true
  | int a =>
    obtain ⟨t', rfl⟩ := ry
    cases x with
    | non => cases rx; exact SeqAt.EqAt.int_none a t'
    | bl b => cases rx; exact SeqAt.EqAt.int_bool a t' b
    | int b => obtain ⟨t, rfl⟩ := rx; exact SeqAt.EqAt.int_int a t' b t
    | str b => obtain ⟨t, rfl⟩ := rx; exact SeqAt.EqAt.int_str a t' b t
    | _ => exact absurd (show false = true from fx) Bool.false_ne_true
  | str a =>
    obtain ⟨t', rfl⟩ := ry
    cases x with
    | non => cases rx; exact SeqAt.EqAt.str_none a t'
    | bl b => cases rx; exact SeqAt.EqAt.str_bool a t' b
    | int b => obtain ⟨t, rfl⟩ := rx; exact SeqAt.EqAt.str_int a t' b t
    | str b => obtain ⟨t, rfl⟩ := rx; exact SeqAt.EqAt.str_str a t' b t
    | _ => exact absurd (show false = true from fx) Bool.false_ne_true
  | _ => exact absurd (show false = true from fy) Bool.false_ne_true
noncomputable def eqU (x : V) (u : Value) : Bool := match u with
  | .none => eqV .non x
  | .bool b => eqV (.bl b) x
  | .int i _ => eqV (.int i) x
  | .str z _ => eqV (.str z) x
  | _ => false
theorem Fz {x y : V} {u : Value} (r : RelV y u) (f : pG y = true) : eqU x u = eqV y x := by
  cases y with
  | non => cases r; rfl
  | bl b => cases r; rfl
  | int i => obtain ⟨t, rfl⟩ := r; rfl
  | str z => obtain ⟨t, rfl⟩ := r; rfl
  | _ => exact absurd (show false = true from f) Bool.false_ne_true
theorem vO {x : V} : ∀ {xs : List V} {us : List Value}, Vals xs us -> xs.all pG = true -> us.any (eqU x) = xs.any fun y => eqV y x
  | _, _, .nil, _ => rfl
  | y :: xs, u :: us, .cons r t, f => by
    rw [List.all_cons, Bool.and_eq_true] at f
    rw [List.any_cons, List.any_cons, Fz r f.1, vO t f.2]
theorem qZ {A : Around} {s : Shared} {x : V} {v : Value} (rx : RelV x v) (fx : pG x = true) : ∀ {xs : List V} {us : List Value}, Vals xs us -> xs.all pG = true -> ∀ u ∈ us, SeqAt.EqAt A s u v (eqU x u)
  | _, _, .nil, _ => fun u hu => by cases hu
  | y :: xs, u :: us, .cons r t, f => fun u' hu => by
    rw [List.all_cons, Bool.and_eq_true] at f
    rcases List.mem_cons.mp hu with rfl | hu
    · rw [Fz r f.1]; exact Mq r rx f.1 fx
    · exact qZ rx fx t f.2 u' hu
noncomputable def inV (x : V) (xs : List V) : Bool := xs.any fun y => eqV y x
noncomputable def rIn (K : PySem.W.Frag) (neg : Bool) : R2 := fun x y H Q => ∃ p xs, y = .ref p /\ (SqL K H p xs \/ SqT K H p xs) /\ pG x = true /\ xs.all pG = true /\ Q (.bl (if neg then !inV x xs else inV x xs)) H
theorem o9 : OpR X (compareOp .In) (rIn X.K false) := by
  intro pins s σ H x y v u Q I rx ry h
  obtain ⟨p, xs, rfl, hq, fx, fs, q⟩ := h
  cases ry
  rcases hq with hq | hq
  · obtain ⟨its, r, pl, hz⟩ := I.list hq
    refine SeqAt.in_listAt (eqU x) pl.isList (fun w hw => qZ rx fx r fs w (by simpa using hw)) ⟨.bl _, H, I, rfl, ?_⟩
    rw [show its.toArray.any (eqU x) = its.any (eqU x) by simp, vO r fs]
    exact q
  · obtain ⟨its, r, pl, hz⟩ := I.tuple hq
    refine SeqAt.in_tupleAt (eqU x) pl (fun w hw => qZ rx fx r fs w (by simpa using hw)) ⟨.bl _, H, I, rfl, ?_⟩
    rw [show its.toArray.any (eqU x) = its.any (eqU x) by simp, vO r fs]
    exact q
inductive HY (K : PySem.W.Frag) (xs : List V) (H : Hp) (Q : VK) : Prop
  | mk (p : Addr) (ys : List V) (e : xs = [.ref p]) (s : SqL K H p ys \/ SqT K H p ys) (q : Q (.int ys.length) H) : HY K xs H Q
theorem aV : jK X (.builtin "len") (fun xs H Q => HY X.K xs H Q) := by
  intro pins s σ H xs us Q I r h
  obtain ⟨p, ys, rfl, hq, q⟩ := h
  obtain ⟨u, rfl, rx⟩ := vals1 r
  cases rx
  have hn := uW
  rcases hq with hq | hq
  · obtain ⟨its, r', pl, hz⟩ := I.list hq
    have hlen := r'.length
    exact Calls.call_len_list pl.isList (by simp only [List.size_toArray] <;> omega) ⟨.int ys.length, H, I.tok _, ⟨s.toks + 1, by rw [List.size_toArray, hlen]⟩, q⟩
  · obtain ⟨its, r', pl, hz⟩ := I.tuple hq
    have hlen := r'.length
    exact len_tuple pl (by simp only [List.size_toArray] <;> omega) ⟨.int ys.length, H, I.tok _, ⟨s.toks + 1, by rw [List.size_toArray, hlen]⟩, q⟩
inductive XLst (K : PySem.W.Frag) (xs : List V) (H : Hp) (Q : VK) : Prop
  | mk (p : Addr) (ys : List V) (e : xs = [.ref p]) (s : SqL K H p ys \/ SqT K H p ys) (q : ∀ l, H l = none -> Q (.ref l) (upd H l (.lst ys))) : XLst K xs H Q
theorem jJ : jK X (.type "list") (fun xs H Q => XLst X.K xs H Q) := by
  intro pins s σ H xs us Q I r h
  obtain ⟨p, ys, rfl, hq, q⟩ := h
  obtain ⟨u, rfl, rx⟩ := vals1 r
  cases rx
  have fin : ∀ (its : List Value), Vals ys its -> ys.length <= sizeLine -> ∀ (h' : Heap) (c' : Nat), (∀ b o', s.heap.get? b = some o' -> h'.get? b = some o') ->
      h'.get? s.heap.objs.size = some { cls := .type "list", dict := none, data := .seq its.toArray c', slots := #[] } -> EP X pins σ Q (.ref s.heap.objs.size) { s with heap := h' } := fun its r' hz h' c' kp e =>
    ⟨.ref s.heap.objs.size, _, I.laid (t' := s.toks) kp (Nat.le_refl _) (show jl X.prog X.w _ h' _ (.lst ys) from ⟨hz, its, c', r', e⟩), rfl, q _ (I.hok.fresh (Nat.le_refl _))⟩
  rcases hq with hq | hq
  · obtain ⟨its, r', pl, hz⟩ := I.list hq
    have hlen := r'.length
    obtain ⟨o, ho, hc, n, hd⟩ := pl.isList
    exact call_list_seq p (.inl rfl) ho hc hd (fun h' c' kp e => fin its r' hz h' c' kp e) (by simp only [List.size_toArray] <;> omega)
  · obtain ⟨its, r', pl, hz⟩ := I.tuple hq
    have hlen := r'.length
    obtain ⟨o, ho, hc, n, hd⟩ := pl
    exact call_list_seq p (.inr rfl) ho hc hd (fun h' c' kp e => fin its r' hz h' c' kp e) (by simp only [List.size_toArray] <;> omega)
noncomputable def tyV (K : PySem.W.Frag) (T : String) (x : V) (H : Hp) : Prop := match x with
  | .str _ => T = "str"
  | .int _ => T = "int"
  | .ref p => (T = "list" /\ ∃ xs, SqL K H p xs) \/ (T = "tuple" /\ ∃ o, K.lookup p = some o /\ o.cls = .type "tuple" /\ o.dict = none) \/
      (T = "dict" /\ ((∃ kvs, H p = some (.dK kvs)) \/ ∃ kvs, H p = some (.dT kvs))) \/ (T = "set" /\ ∃ S n, H p = some (.set S n))
  | _ => False
theorem Ez {pins : List (Addr × Obj)} {σ : St} {H : Hp} {s : Shared} {T : String} {x : V} {v : Value} (I : Inv X pins σ H s) (r : RelV x v) (ty : tyV X.K T x H) :
    s.TypeIs v T /\ ∀ a, v = .ref a -> ∃ ob, s.heap.get? a = some ob /\ ob.dict = none := by
  cases x with
  | str z =>
    obtain ⟨t, rfl⟩ := r
    cases (show T = "str" from ty)
    exact ⟨typeIs_str s z t, fun _ e => nomatch e⟩
  | int i =>
    obtain ⟨t, rfl⟩ := r
    cases (show T = "int" from ty)
    exact ⟨typeIs_int s i t, fun _ e => nomatch e⟩
  | ref p =>
    cases r
    rcases ty with ⟨rfl, xs, hq⟩ | ⟨rfl, o, hk, hc, hd⟩ | ⟨rfl, hk⟩ | ⟨rfl, S, n, hk⟩
    · obtain ⟨its, _, pl, _⟩ := I.list hq
      refine ⟨pl.isList.typeIs, fun a e => ?_⟩
      cases e
      obtain ⟨o, n, e, c, hd, _⟩ := pl
      exact ⟨o, e, hd⟩
    · refine ⟨⟨o, I.kIn p o hk, hc⟩, fun a e => ?_⟩
      cases e
      exact ⟨o, I.kIn _ o hk, hd⟩
    · have z : ∃ o, s.heap.get? p = some o /\ o.ExactDict := by
        rcases hk with ⟨kvs, hk⟩ | ⟨kvs, hk⟩
        · obtain ⟨_, _, _, _, o, _, _, e, ex, _⟩ := I.hok p _ hk
          exact ⟨o, e, ex⟩
        · obtain ⟨_, _, _, _, o, _, _, e, ex, _⟩ := I.hok p _ hk
          exact ⟨o, e, ex⟩
      obtain ⟨o, e, ex⟩ := z
      refine ⟨⟨o, e, ex.1⟩, fun a e2 => ?_⟩
      cases e2
      exact ⟨o, e, ex.2.1⟩
    · obtain ⟨o, _, _, _, e, ex, _⟩ := I.hok p _ hk
      refine ⟨⟨o, e, ex.1⟩, fun a e2 => ?_⟩
      cases e2
      exact ⟨o, e, ex.2.1⟩
  | _ => exact False.elim ty
noncomputable def tBM0 (K : PySem.W.Frag) (T : String) (r : V -> List V -> Hp -> VK -> Prop) (to : TE) : TE := fun σ H Q => to σ H fun x H1 => tyV K T x H1 /\ r x [] H1 Q
noncomputable def tBM (K : PySem.W.Frag) (T : String) (r : V -> List V -> Hp -> VK -> Prop) (to : TE) (t : TA) : TE := fun σ H Q => to σ H fun x H1 => tyV K T x H1 /\ t σ H1 fun xs H2 => r x xs H2 Q
variable {o e : Expr} {es : List Expr} {to : TE} {t : TA} {name : Str} {apos cpos : Pos} {T id : String} {r : V -> List V -> Hp -> VK -> Prop}
theorem Ld (pa : PlainAttrs T) (slot : Slot T name id) (hty : typeOf (.builtin id) = pure (.type "method_descriptor")) (hm : MtR X id r) (ho : PE X o to)
    (hbase : attributeBase o name X.env (eval o X.env) = eval o X.env := by rfl) (hline : (apos.endLine == cpos.line) = true := by rfl) : PE X (.Call (.Attribute o name apos) [] [] cpos) (tBM0 X.K T r to) := by
  intro pins s σ H Q I h
  refine wpAny_Call_method0_late hbase hline (thn (ho pins s σ H _ I h) fun v s1 ⟨x, H1, I1, r1, ty, q1⟩ => ?_)
  obtain ⟨h1, h2⟩ := Ez I1 r1 ty
  exact ⟨T, id, pa, slot, hty, h1, h2, Calls.callWith_builtin rfl (PySem.evalArgs_none (hm pins s1 σ H1 x [] v [] Q I1 r1 .nil q1))⟩
theorem tL (pa : PlainAttrs T) (slot : Slot T name id) (hty : typeOf (.builtin id) = pure (.type "method_descriptor")) (hm : MtR X id r) (ho : PE X o to) (ha : PA X (e :: es) t)
    (hbase : attributeBase o name X.env (eval o X.env) = eval o X.env := by rfl)
    (hfew : ((backTo cpos (starEach (e :: es) X.env)).all (fun x => !x.1) && (backToKw cpos (keywordEach [] X.env)).all (fun x => x.1.isSome)
      && decide ((e :: es).length + ([] : List Keyword).length + (if ([] : List Keyword).isEmpty then 0 else 1) < 30)) = true := by rfl)
    (hline : (apos.endLine == cpos.line) = true := by rfl) (hs : starEach (e :: es) X.env = (false, eval e X.env) :: starEach es X.env := by rfl) (hplain : (backTo cpos (starEach es X.env)).any (·.1) = false := by rfl) :
    PE X (.Call (.Attribute o name apos) (e :: es) [] cpos) (tBM X.K T r to t) := by
  intro pins s σ H Q I h
  refine wpAny_Call_method_late hbase hfew hline rfl (thn (ho pins s σ H _ I h) fun v s1 ⟨x, H1, I1, r1, ty, q1⟩ => ?_)
  obtain ⟨h1, h2⟩ := Ez I1 r1 ty
  refine ⟨T, id, pa, slot, hty, h1, h2, ?_⟩
  have hA := ha cpos pins s1 σ H1 _ I1 q1
  rw [hs] at hA ⊢
  refine Calls.callWith_builtin (by show (false || (backTo cpos (starEach es X.env)).any (·.1)) = false; rw [hplain] <;> rfl) (Calls.evalArgs_plain ?_)
  exact thn hA fun us s2 ⟨vs, H2, I2, r2, q2⟩ => hm pins s2 σ H2 x vs v us Q I2 r1 r2 q2
end
end L2
namespace L2
open PySem PySem.Spec PyProof.Rows
noncomputable def MtM (X : Cx) (id : String) (r : V -> List V -> Hp -> VK -> Prop) : Prop :=
  ∀ (pins : List (Addr × Obj)) (s : Shared) (σ : St) (H : Hp) (x : V) (xs : List V) (v : Value) (us : List Value) (Q : VK), Inv X pins σ H s -> RelV x v -> Vals xs us -> r x xs H Q ->
    wpAny (model X.prog X.w) X.A (call (.builtin id) (v :: us)) (EP X pins σ Q) X.xe s
theorem Vals.one : ∀ {x : V} {us : List Value}, Vals [x] us -> ∃ u, us = [u] /\ RelV x u
  | _, _, .cons r .nil => ⟨_, rfl, r⟩
theorem Vals.zero : ∀ {us : List Value}, Vals [] us -> us = []
  | _, .nil => rfl
theorem Vals.dropLast {xs : List V} {us : List Value} (h : Vals xs us) : Vals xs.dropLast us.dropLast := by
  induction h with
  | nil => exact .nil
  | cons r t ih =>
    cases t with
    | nil => exact .nil
    | cons q t' => exact .cons r ih
theorem Vals.rep {xs : List V} {us : List Value} (h : Vals xs us) : ∀ k : Nat, Vals (List.replicate k xs).flatten (List.replicate k us).flatten
  | 0 => .nil
  | k + 1 => by
    rw [List.replicate_succ, List.replicate_succ, List.flatten_cons, List.flatten_cons]
    exact Vals.append h (Vals.rep h k)
theorem zQ {α : Type} (l : List α) : l.eraseIdx (l.length - 1) = l.dropLast := by
  induction l with
  | nil => rfl
  | cons a r ih =>
    cases r with
    | nil => rfl
    | cons b r =>
      have e : (a :: b :: r).length - 1 = ((b :: r).length - 1) + 1 := by
        have h1 : (a :: b :: r).length = r.length + 2 := rfl
        have h2 : (b :: r).length = r.length + 1 := rfl
        omega
      rw [e, List.eraseIdx_cons_succ, ih]
      all_goals rfl
theorem foldl_rep (its : List Value) : ∀ (k : Nat) (acc : List Value),
    List.foldl (fun x1 x2 => x1 ++ x2) acc.toArray (List.replicate k its.toArray) = (acc ++ (List.replicate k its).flatten).toArray
  | 0, acc => by simp
  | k + 1, acc => by
    have e : acc.toArray ++ its.toArray = (acc ++ its).toArray := by simp
    have e2 : (acc ++ its) ++ (List.replicate k its).flatten = acc ++ (List.replicate (k + 1) its).flatten := by
      rw [List.replicate_succ, List.flatten_cons, List.append_assoc]
    rw [<- e2, <- foldl_rep its k (acc ++ its), <- e, List.replicate_succ, List.foldl_cons]
section
variable {X : Cx} {pins : List (Addr × Obj)} {σ : St} {H : Hp} {s : Shared} {l b : Addr} {xs ys zs : List V}
theorem Inv.Kz {its its' : List Value} {n : Nat} {f : Array Value -> Array Value} {t' : Nat} (I : Inv X pins σ H s) (hH : H l = some (.lst xs))
    (e : s.heap.get? l = some { cls := .type "list", data := .seq its.toArray n }) (hf : f its.toArray = its'.toArray) (hv : Vals ys its') (hz : ys.length <= sizeLine) :
    Inv X pins σ (upd H l (.lst ys)) { s with heap := s.heap.update l (Obj.mapSeq f), toks := t' } := by
  have q := PySem.IsL.update e f
  rw [hf] at q
  refine I.write (x := l) (e := l) (by rw [hH]; exact trivial) (.inl rfl) (fun b' u hb hu => (Heap.get?_update_other s.heap (Obj.mapSeq f) (Ne.symm hb)).trans hu) ⟨_, q⟩ ?_
  exact ⟨hz, its', _, hv, q⟩
theorem Inv.lnew {its : List Value} {t' : Nat} (I : Inv X pins σ H s) (hv : Vals ys its) (hz : ys.length <= sizeLine) :
    Inv X pins σ (upd H s.heap.objs.size (.lst ys)) { s with heap := s.heap.push { cls := .type "list", data := .seq its.toArray }, toks := t' } :=
  I.laid (fun _ _ q => Heap.get?_push_of_some _ q) (Nat.le_refl _) ⟨hz, its, 0, hv, Heap.get?_push_size _ rfl⟩
theorem Inv.fresh (I : Inv X pins σ H s) : H s.heap.objs.size = none := I.hok.fresh (Nat.le_refl _)
theorem Inv.yN (I : Inv X pins σ H s) (hH : H l = some (.lst xs)) : xs.length <= sizeLine /\ ∃ (its : List Value) (n : Nat), Vals xs its /\ xs.length = its.length /\ s.heap.get? l = some { cls := .type "list", data := .seq its.toArray n } := by
  obtain ⟨z, its, n, r, e⟩ := I.hok l _ hH
  exact ⟨z, its, n, r, r.length, e⟩
theorem xr {n : Nat} (h : n <= sizeLine) : Builtin.List.listTooLong n = false := by
  unfold Builtin.List.listTooLong
  exact decide_eq_false (by omega)
end
section
variable {X : Cx}
inductive XApp (x : V) (vs : List V) (H : Hp) (Q : VK) : Prop
  | mk (l : Addr) (xs : List V) (y : V) (e : x = .ref l) (e2 : vs = [y]) (a : H l = some (.lst xs)) (b : xs.length < sizeLine) (q : Q .non (upd H l (.lst (xs ++ [y])))) : XApp x vs H Q
noncomputable def Il : V -> List V -> Hp -> VK -> Prop := fun x vs H Q => XApp x vs H Q
theorem fQ : MtM X "list.append" Il := by
  intro pins s σ H x vs v us Q I rx rv h
  obtain ⟨l, xs, y, rfl, rfl, hH, hz, q⟩ := h
  cases rx
  obtain ⟨u, rfl, ru⟩ := rv.one
  obtain ⟨z, its, n, r, hl, e⟩ := I.yN hH
  refine call_meets F.slot_list_append ⟨_, e, rfl⟩ F.entry_list_append (F.args_list_append_2 _ _) (PySem.list_append l its.toArray n u (by rw [List.size_toArray]; omega)) ⟨e, ?_⟩
  refine ⟨.non, _, I.Kz (its' := its ++ [u]) hH e (by simp) (r.append (.cons ru .nil)) ?_, rfl, q⟩
  rw [List.length_append, List.length_singleton]
  omega
noncomputable def Ik : V -> List V -> Hp -> VK -> Prop := fun x vs H Q => ∃ l b xs zs, x = .ref l /\ vs = [.ref b] /\ H l = some (.lst xs) /\ H b = some (.lst zs) /\ xs.length + zs.length <= sizeLine /\ Q .non (upd H l (.lst (xs ++ zs)))
theorem mt_extend : MtM X "list.extend" Ik := by
  intro pins s σ H x vs v us Q I rx rv h
  obtain ⟨l, b, xs, zs, rfl, rfl, hH, hB, hz, q⟩ := h
  cases rx
  obtain ⟨u, rfl, ru⟩ := rv.one
  cases ru
  obtain ⟨z, its, n, r, hl, e⟩ := I.yN hH
  obtain ⟨z2, its2, n2, r2, hl2, e2⟩ := I.yN hB
  have hsz : its.toArray.size + its2.toArray.size <= sizeLine := by rw [List.size_toArray, List.size_toArray]; omega
  have hlong : ¬ (!its.toArray.isEmpty && Builtin.List.listTooLong (its.toArray.size + its2.toArray.size)) = true := by
    rw [xr hsz, Bool.and_false]
    exact Bool.false_ne_true
  refine call_meets F.slot_list_extend ⟨_, e, rfl⟩ F.entry_list_extend (F.args_list_extend_2 _ _)
    (AutoSeq1.list_extend_list_list_0 l its.toArray n b its2.toArray n2 hlong (by rw [List.size_toArray]; omega) (by omega)) ⟨e, e2, ?_⟩
  refine ⟨.non, _, I.Kz (its' := its ++ its2) hH e (by simp) (r.append r2) ?_, rfl, q⟩
  rw [List.length_append]
  omega
inductive XPop (x : V) (vs : List V) (H : Hp) (Q : VK) : Prop
  | mk (l : Addr) (xs : List V) (y : V) (e : x = .ref l) (e2 : vs = []) (a : H l = some (.lst xs)) (b : xs[xs.length - 1]? = some y) (q : Q y (upd H l (.lst xs.dropLast))) : XPop x vs H Q
noncomputable def rPop : V -> List V -> Hp -> VK -> Prop := fun x vs H Q => XPop x vs H Q
theorem LQ : MtM X "list.pop" rPop := by
  intro pins s σ H x vs v us Q I rx rv h
  obtain ⟨l, xs, y, rfl, rfl, hH, hy, q⟩ := h
  cases rx
  have hus := rv.zero
  subst hus
  obtain ⟨z, its, n, r, hl, e⟩ := I.yN hH
  obtain ⟨u, hu, ru⟩ := r.get hy
  have hy' : its.toArray[its.toArray.size - 1]? = some u := by
    show its.toArray[its.length - 1]? = some u
    rw [<- Array.getElem?_toList, <- hl]
    exact hu
  refine call_meets F.slot_list_pop ⟨_, e, rfl⟩ F.entry_list_pop (F.args_list_pop_1 _) (MeetsSeq.list_pop_last l its.toArray n u hy' (by rw [List.size_toArray]; omega)) ⟨e, ?_⟩
  refine ⟨y, _, I.Kz (its' := its.dropLast) hH e ?_ r.dropLast ?_, ru, q⟩
  · show its.toArray.eraseIdxIfInBounds (its.toArray.size - 1) = its.dropLast.toArray
    rw [List.size_toArray, List.eraseIdxIfInBounds_toArray, zQ]
  · rw [List.length_dropLast]
    omega
noncomputable def rCat : R2 := fun x y H Q => ∃ l b xs zs, x = .ref l /\ y = .ref b /\ H l = some (.lst xs) /\ H b = some (.lst zs) /\ xs.length + zs.length <= sizeLine /\ ∀ p, H p = none -> Q (.ref p) (upd H p (.lst (xs ++ zs)))
theorem Lg : OpR X (binaryOp .Add) rCat := by
  intro pins s σ H x y v u Q I rx ry h
  obtain ⟨l, b, xs, zs, rfl, rfl, hH, hB, hz, q⟩ := h
  cases rx
  cases ry
  obtain ⟨z, its, n, r, hl, e⟩ := I.yN hH
  obtain ⟨z2, its2, n2, r2, hl2, e2⟩ := I.yN hB
  refine PySem.P.add_list e e2 ?_ (by rw [List.size_toArray, List.size_toArray]; omega)
  have ea : its.toArray ++ its2.toArray = (its ++ its2).toArray := by simp
  rw [ea]
  exact ⟨.ref _, _, I.lnew (t' := s.toks) (r.append r2) (by rw [List.length_append]; omega), rfl, q _ I.fresh⟩
noncomputable def rRep : R2 := fun x y H Q => ∃ l k xs, x = .ref l /\ y = .int k /\ H l = some (.lst xs) /\ -(2 ^ 63) <= k /\ k < 2 ^ 63 /\ xs.length * k.toNat <= sizeLine /\
  ∀ p, H p = none -> Q (.ref p) (upd H p (.lst (List.replicate k.toNat xs).flatten))
theorem len_rep {α : Type} (xs : List α) (k : Nat) : (List.replicate k xs).flatten.length = k * xs.length := by
  induction k with
  | zero => simp
  | succ k ih => rw [List.replicate_succ, List.flatten_cons, List.length_append, ih, Nat.succ_mul, Nat.add_comm]
theorem Fo : OpR X (binaryOp .Mult) rRep := by
  intro pins s σ H x y v u Q I rx ry h
  obtain ⟨l, k, xs, rfl, rfl, hH, h1, h2, hz, q⟩ := h
  cases rx
  obtain ⟨t, rfl⟩ := ry
  obtain ⟨z, its, n, r, hl, e⟩ := I.yN hH
  have hlen : its.toArray.size * k.toNat <= sizeLine := by rw [List.size_toArray, <- hl]; exact hz
  have hcap : ¬ its.toArray.size * k.toNat > (2 ^ 63 - 1) / 8 := by
    have : (sizeLine : Nat) <= (2 ^ 63 - 1) / 8 := by decide
    omega
  have hfit : ¬ (!Builtin.List.listFitsIndex k) = true := by
    rw [fitsIndex_both h1 h2]
    exact Bool.false_ne_true
  have hlong : ¬ Builtin.List.listTooLong (its.toArray.size * k.toNat) = true := by
    rw [xr hlen]
    exact Bool.false_ne_true
  have hnew : List.foldl (fun x1 x2 => x1 ++ x2) #[] (List.replicate (if its.toArray.isEmpty = true then 0 else k.toNat) its.toArray) = (List.replicate k.toNat its).flatten.toArray := by
    have f0 : ∀ m : Nat, List.foldl (fun x1 x2 => x1 ++ x2) #[] (List.replicate m its.toArray) = (List.replicate m its).flatten.toArray := fun m => by
      have := foldl_rep its m []
      rw [List.nil_append] at this
      exact this
    rw [f0]
    cases its with
    | nil => simp
    | cons a r' => rw [if_neg (by simp)]
  refine wpAny_binaryOp_repeat_ref (T := "list") (U := "int") (by decide) ⟨_, e, rfl⟩ (fun s' => typeIs_int s' k t) noFill_list_mul F.fills_int_mul F.slot_int_rmul repeat_list F.slot_int_index.lookup
    (call_meets F.slot_int_rmul (typeIs_int s k t) F.entry_int_rmul (F.args_int_rmul_2 _ _) (int___rmul___int_list k t l its.toArray n)
      ⟨e, rfl, ⟨_, e, rfl⟩, call_meets F.slot_list_mul ⟨_, e, rfl⟩ F.entry_list_mul (F.args_list_mul_2 _ _) (AutoListH.list___mul___list_int_3 l its.toArray n k t hfit hcap hlong) ⟨e, ?_⟩⟩)
  rw [hnew]
  exact ⟨.ref _, _, I.lnew (t' := s.toks) (r.rep k.toNat) (by rw [len_rep, Nat.mul_comm]; exact hz), rfl, q _ I.fresh⟩
end
section
variable {prog : Program} {w : World} {A : Around} {E : Value -> Shared -> Prop} {s : Shared}
set_option maxRecDepth 100000 in
end
section
variable {X : Cx}
end
end L2
namespace Att
open PySem PySem.W PySem.Calls PyProof.Rows
theorem pX {P : Params} {h : Heap} : ∀ (ns : List Int) (vs : List Value), WellAll P h vs (ns.map WData.int) -> IntsAre vs ns := by
  intro ns
  induction ns with
  | nil =>
    intro vs w
    rw [List.map_nil] at w
    cases w
    exact .nil
  | cons n ns ih =>
    intro vs w
    rw [List.map_cons] at w
    cases w with
    | cons a b =>
      cases a
      exact .cons _ _ (ih _ b)
theorem CG {l : OpenLaw} {n : Nat} (hn : l.most = some n) {P : Params} {h : Heap} {args : List WData} {vals : List Value}
    (hpre : l.row.toRowW.claim.pre args = true) (hwl : WellAll P h vals args) :
    ∃ a vs ns, vals = [Value.ref a] /\ args = [WData.list (ns.map WData.int)] /\ h.get? a = some { cls := .type "list", data := .seq vs.toArray } /\ IntsAre vs ns /\ ns.length <= n := by
  have hsh : WShape.hasAll [] args [.list .int] = true := (pre_splitW hpre).1
  have hc : l.pre.holds [] { args := args } = true := (pre_splitW hpre).2
  obtain ⟨d, r, rfl, h1, h2⟩ := hasAllW_cons hsh
  obtain rfl := hasAllW_nil h2
  obtain ⟨xs, rfl, h3⟩ := hasW_list h1
  obtain ⟨ns, rfl⟩ := items_int h3
  have hlen : ns.length <= n := by
    unfold OpenLaw.pre at hc
    have h4 : (WTm.not (.lt (.lit (.int (n : Int))) (.len (.arg 0)))).holds [] { args := [.list (ns.map .int)] } = true := by
      have h4 := (holds_andW hc).1
      rw [hn] at h4
      exact h4
    have h5 := condW_of h4 (w_not (w_lt w_lit (w_len_list (w_arg rfl))))
    rw [List.length_map] at h5
    refine Nat.le_of_not_lt fun q => ?_
    have q' : (n : Int) < ((ns.length : Nat) : Int) := by omega
    first
      | (rw [decide_eq_true q'] at h5; exact absurd h5 (by decide))
      | (simp at h5; omega)
  cases hwl with
  | cons w1 w2 =>
    cases w2
    cases w1 with
    | list ho hall => exact ⟨_, _, ns, rfl, rfl, ho, pX ns _ hall, hlen⟩
theorem CP (l : OpenLaw) (args : List WData) : l.row.toRowW.claim.post args (.bool true) args = true :=
  postW_of (r := l.row.toRowW) (X := (true == true))
    (show WShape.has [] (.bool true) .bool = true by first | rfl | decide | simp [WShape.has, WShape.arms, WShape.armsAll])
    (show (WTm.eq .res (.lit (.bool true))).value [] { args := args, res := some (.bool true), after := args } = some (.bool (true == true)) from w_eq_bool (w_res rfl) w_lit) rfl
theorem yF {l : OpenLaw} {n : Nat} {q : Program} {loose : List Str} {XP : (Str -> Option Value) -> Heap -> Prop} {YP : World -> Heap -> Prop} {d : DefRec}
    (hn : l.most = some n) (hdf : d.params.defaults = [])
    (call : ∀ (w : World) (s₀ s₁ : Shared) (mg mb : Str -> Option Value) (fa : Addr) (o : Obj) (pm cd doc : Value) (a : Addr) (vs : List Value) (ns : List Int),
      Ground q loose [] XP w s₀ mg mb s₁.heap -> YP w s₁.heap ->
      s₁.heap.get? fa = some o -> o.data = .func (docDef d.name d.params d.body d.scope pm cd doc) -> s₁.heap.CodeRec cd d.name -> mg d.name = some (.ref fa) ->
      s₁.heap.get? a = some { cls := .type "list", data := .seq vs.toArray } -> IntsAre vs ns -> ns.length <= n -> s₁.gens = #[] ->
      codeAny (model l.prog w) callerA (.call (.ref fa) ⟨[.ref a], []⟩) (fun r s' => r = .ok (.ret (.bool true)) /\ OldK s₁.heap s'.heap /\ s'.os = s₁.os /\ AllBare s'.gens) s₁) :
    WalkO q loose XP YP l.row.toRowW d [] (fun f vs => PySem.call f vs) := by
  intro w s₀ s₁ mg mb G Y fa o pm cd doc dV kV ho hd hcd hD hmg hg args vals as hpre hlay hrd hwl hlo
  obtain rfl : dV = .none := Dflts.none hD hdf
  obtain rfl : kV = .none := Dflts.noKw hD
  obtain ⟨a, vs, ns, rfl, rfl, hobj, hints, hlen⟩ := CG hn hpre hwl
  refine enter_call (codeAny_mono (call w s₀ s₁ mg mb fa o pm cd doc a vs ns G Y ho (fd_plain hd) hcd hmg hobj hints hlen hg) fun r s' hq => ?_)
  obtain ⟨rfl, h2, h3, h4⟩ := hq
  exact ⟨.inl ⟨.bool true, .bool true, [], rfl, fun _ => rfl, .bool true, CP l _, fun _ => ⟨List.Pairwise.nil, fun _ hm => (nomatch hm)⟩⟩, h2, h3, h4⟩
section
variable {prog : Program} {w : World} {A : Around} {E : Value -> Shared -> Prop} {s : Shared} {K : Frag}
end
end Att
namespace L2
open PySem PySem.Spec PyProof.Rows
theorem tO : ∀ {vs : List Value} {ns : List Int}, IntsAre vs ns -> Vals (ns.map V.int) vs
  | _, _, .nil => .nil
  | _, _, .cons n t h => .cons ⟨t, rfl⟩ (tO h)
noncomputable def Only (H : Hp) : Prop := ∀ b, H b = none \/ ∃ o xs, H b = some (.frz o (.lst xs))
end L2
namespace L2
open PySem PySem.Spec PyProof.Rows
end L2
namespace L2
open PySem PySem.Spec PyProof.Rows
noncomputable def aY (s : Stmt) : Arguments := match s with
  | .FunctionDef _ a _ _ _ _ _ _ _ _ => a
  | _ => { posonlyargs := [], args := [], vararg := none, kwonlyargs := [], kw_defaults := [], kwarg := none, defaults := [] }
noncomputable def aW (s : Stmt) : List Stmt := match s with
  | .FunctionDef _ _ b _ _ _ _ _ _ _ => b
  | _ => []
noncomputable def aB (s : Stmt) : Scope := match s with
  | .FunctionDef _ _ _ _ _ _ sc _ _ _ => sc
  | _ => { kind := .function, names := [], isGenerator := false, isCoroutine := false }
noncomputable abbrev CX0 : CXT := fun _ _ _ _ _ _ => False
noncomputable abbrev E0 : XK := fun _ _ _ => False
theorem pass0 {X : Cx} : Passes CX0 X E0 := fun _ _ _ _ _ _ _ h => h.elim
structure Fun (K : PySem.W.Frag) (x qual : Str) (st : Stmt) (f : Addr) (fd : FuncData) : Prop where
  ex : ∃ (oc : Value) (od : Option Addr) (kV doc pm : Value) (an : Option Addr) (cdv ct : Value) (osl : Array (Option Value)),
    fd = PySem.W.fnOf x qual (aY st) (aW st) (aB st) .none kV doc pm an cdv ct /\ K.lookup f = some ⟨oc, od, .func fd, osl⟩ /\ PySem.W.codeIn K cdv qual = true
  kp : PySem.W.keepIn K (.ref f) = true
section
variable {P : Program} {w : World} {K : PySem.W.Frag} {mg : Str -> Option Value} {base : Heap}
theorem Fun.ok {x qual : Str} {st : Stmt} {f : Addr} {fd : FuncData} {N ps : List Str} {k : Nat} {sp : Sp} (F : Fun K x qual st f fd) (S : aZ N ps (aB st)) (len : ∀ vs H Q E, sp vs H Q E -> vs.length = ps.length)
    (hbody : ∀ (cdv : Value) (A : Around) (outer : List Env) (s : Shared) (H : Hp) (vs : List V) (Q : VK) (E : XK), jg k (A.deeper (envOfC qual (aB st) s.heap.objs.size f cdv)) -> sp vs H Q E ->
      ∃ t, PSs (iy CX0 P w K mg base N qual (aB st) f cdv A outer s H E).nox (aW st) t /\ t { nx := fun _ H' => Q .non H', rt := Q } (start N vs) H) : bw P w K mg base CX0 (k + 1) f fd ps sp := by
  obtain ⟨oc, od, kV, doc, pm, an, cdv, ct, osl, rfl, lk, hcd⟩ := F.ex
  refine J9 lk hcd S len fun A outer s H vs Q E hr hsp => ?_
  obtain ⟨t, h, q⟩ := hbody cdv A outer s H vs Q E hr hsp
  exact ⟨t, h.nox, q⟩
theorem Fun.binds {x qual : Str} {st : Stmt} {f : Addr} {fd : FuncData} {ps : List Str} (F : Fun K x qual st f fd)
    (h : ∀ (kV doc pm : Value) (an : Option Addr) (cdv ct : Value) (us : List Value), us.length = ps.length -> bindArgs (PySem.W.fnOf x qual (aY st) (aW st) (aB st) .none kV doc pm an cdv ct) ⟨us, []⟩ = pure (ps.zip us)) : Binds K fd ps [] := by
  obtain ⟨oc, od, kV, doc, pm, an, cdv, ct, osl, rfl, lk, hcd⟩ := F.ex
  exact .all (h kV doc pm an cdv ct)
theorem bM {x qual : Str} {st : Stmt} {f : Addr} {oc : Value} {od an : Option Addr} {osl : Array (Option Value)} {kV doc pm cdv ct : Value} (l : K.lookup f = some ⟨oc, od, .func (PySem.W.fnOf x qual (aY st) (aW st) (aB st) .none kV doc pm an cdv ct), osl⟩)
    (c : PySem.W.codeIn K cdv qual = true) (k : PySem.W.keepIn K (.ref f) = true) : Fun K x qual st f (PySem.W.fnOf x qual (aY st) (aW st) (aB st) .none kV doc pm an cdv ct) := ⟨⟨oc, od, kV, doc, pm, an, cdv, ct, osl, rfl, l, c⟩, k⟩
end
theorem eF {n : Nat} (h : n <= 1000) : n < sizeLine := Nat.lt_of_le_of_lt h (by decide)
section
variable {X : Cx}
theorem pv (i : Nat) {x : Str} {pos : Pos} (hN : X.N[i]? = some x := by rfl) (hv : Vis X.env.scope x := by first | exact Or.inl rfl | exact Or.inr (Or.inl rfl) | exact Or.inr (Or.inr rfl)) (hd : (x == ("__debug__" : Str)) = false := by decide)
    (hcd : (x == ("__classdict__" : Str)) = false := by decide) : PE X (.Name x pos) (ou i) := K_ hN hv hd hcd
end
theorem dJ {A B : Prop} (h : B) : if false = true then A else B := by
  rw [if_neg Bool.false_ne_true]
  exact h
theorem lU {A B : Prop} (h : A) : if true = true then A else B := by
  rw [if_pos rfl]
  exact h
theorem bQ {c A B : Prop} [Decidable c] (h1 : c -> A) (h2 : ¬ c -> B) : if c then A else B := by
  by_cases h : c
  · rw [if_pos h]
    exact h1 h
  · rw [if_neg h]
    exact h2 h
theorem Ac {c A B : Prop} [Decidable c] (hc : c) (h : B) : if (!decide c) = true then A else B := by
  rw [decide_eq_true hc]
  exact dJ h
noncomputable def Same (H H' : Hp) : Prop := ∀ b o, H b = some o -> H' b = some o
theorem Same.refl (H : Hp) : Same H H := fun _ _ h => h
theorem Same.trans {H H1 H2 : Hp} (a : Same H H1) (b : Same H1 H2) : Same H H2 := fun c o h => b c o (a c o h)
theorem Same.free {H H' : Hp} (e : Same H H') {l : Addr} (h : H' l = Option.none) : H l = Option.none := by
  cases q : H l with
  | none => rfl
  | some o =>
    rw [e l o q] at h
    cases h
theorem Same.seq {K : PySem.W.Frag} {H H' : Hp} {a : Addr} {xs : List V} (e : Same H H') (h : SqL K H a xs) : SqL K H' a xs := by
  rcases h with (h | ⟨o, h⟩) | h
  · exact .inl (.inl (e _ _ h))
  · exact .inl (.inr ⟨o, e _ _ h⟩)
  · exact .inr h
end L2
namespace Zf
open PySem
theorem Bd.bits {n : Nat} {x : Int} (h : Bd n x) : Builtin.Int.intBits x <= n := by
  unfold Builtin.Int.intBits
  split
  · exact Nat.zero_le _
  · rename_i hx
    have hp : x.natAbs ≠ 0 := by
      intro e
      apply hx
      have : x = 0 := by omega
      rw [this]
      rfl
    have : x.natAbs.log2 < n := (Nat.log2_lt hp).mpr h
    omega
theorem Bd.J2 {m n : Nat} {x y : Int} (h : Bd m x) (k : Bd n y) (hm : m <= 1048576 := by omega) (hn : n <= 1048576 := by omega) : IntMulOk x y :=
  IntMulOk.of_bits (Nat.le_trans h.bits hm) (Nat.le_trans k.bits hn)
theorem Bd.log {n : Nat} {x : Int} (h : Bd n x) (h0 : x ≠ 0) (hn : n <= 9000 := by omega) : x.natAbs.log2 < 9000 :=
  Nat.lt_of_lt_of_le ((Nat.log2_lt (by omega)).mpr h) hn
end Zf
namespace L2
open PySem PySem.Spec PyProof.Rows
section
variable {X : Cx}
theorem cX : OpR X (binaryOp .Mult) (rI IntMulOk fun i j => .int (i * j)) := opI fun _ _ _ _ _ _ _ hc q => mul_int q hc
noncomputable def Kq (_ j : Int) : Prop := 0 < j /\ j.natAbs.log2 < 9000
theorem nJ : OpR X (binaryOp .FloorDiv) (rI Kq fun i j => .int (i / j)) := opI fun i j _ _ _ _ _ hc q => by
  have h1 : (0 : Int) < j := hc.1
  exact floordiv_int (by omega) (by rw [Int.fdiv_eq_ediv_of_nonneg i (by omega)]; exact q) (.inl (PyProof.noPylong_of_log2 hc.2))
theorem fV : ∀ {us : List Value} {ns : List Int}, IntsAre us ns -> ∀ (j : Nat) (h1 : j < us.length) (h2 : j < ns.length), ∃ t, us[j] = Value.int ns[j] t
  | _, _, .nil, _, h1, _ => absurd h1 (Nat.not_lt_zero _)
  | _, _, .cons n t _, 0, _, _ => ⟨t, rfl⟩
  | _, _, .cons n t r, j + 1, h1, h2 => fV r j (Nat.lt_of_succ_lt_succ h1) (Nat.lt_of_succ_lt_succ h2)
theorem all_eq : ∀ {ns ms : List Int}, ns.length = ms.length -> ((List.range ns.length).all fun j => ns.getD j 0 == ms.getD j 0) = decide (ns = ms) := by
  intro ns ms hl
  rw [Bool.eq_iff_iff, List.all_eq_true, decide_eq_true_iff]
  constructor
  · intro h
    refine List.ext_getElem hl fun i h1 h2 => ?_
    have := h i (List.mem_range.mpr h1)
    rw [beq_iff_eq] at this
    simpa [List.getD_eq_getElem?_getD, h1, h2] using this
  · rintro rfl i _
    exact beq_self_eq_true _
noncomputable def rEqL (K : PySem.W.Frag) (g : Bool -> Bool) : R2 := fun x y H Q => ∃ (a b : Addr) (ns ms : List Int), x = .ref a /\ y = .ref b /\ SqL K H a (ns.map V.int) /\ SqL K H b (ms.map V.int) /\ Q (.bl (g (decide (ns = ms)))) H
theorem Lf (hu : X.A.units < cLine) : OpR X (compareOp .Eq) (rEqL X.K id) := by
  intro pins s σ H x y v u Q I rx ry h
  obtain ⟨a, b, ns, ms, rfl, rfl, ha, hb, q⟩ := h
  cases rx
  cases ry
  obtain ⟨its, r1, p1, z1⟩ := I.list ha
  obtain ⟨jts, r2, p2, z2⟩ := I.list hb
  have i1 := intsAre_of r1
  have i2 := intsAre_of r2
  have l1 := r1.length
  have l2 := r2.length
  rw [List.length_map] at l1 l2
  by_cases hl : ns.length = ms.length
  · refine SeqAt.eq_listAt (e := fun j => ns.getD j 0 == ms.getD j 0) p1.isList p2.isList (by simp only [List.size_toArray]; omega) hu (fun j h1 h2 => ?_) ⟨.bl _, H, I, rfl, ?_⟩
    · simp only [List.size_toArray] at h1 h2
      obtain ⟨t1, e1⟩ := fV i1 j h1 (by omega)
      obtain ⟨t2, e2⟩ := fV i2 j h2 (by omega)
      simp only [List.getElem_toArray]
      rw [e1, e2]
      have g1 : ns.getD j 0 = ns[j]'(by omega) := by simp [List.getD_eq_getElem?_getD, show j < ns.length by omega]
      have g2 : ms.getD j 0 = ms[j]'(by omega) := by simp [List.getD_eq_getElem?_getD, show j < ms.length by omega]
      show SeqAt.EqAt _ _ _ _ (ns.getD j 0 == ms.getD j 0)
      rw [g1, g2]
      exact SeqAt.EqAt.int_int _ _ _ _
    · have e : ((List.range its.toArray.size).all fun j => ns.getD j 0 == ms.getD j 0) = decide (ns = ms) := by
        rw [List.size_toArray, <- l1]; exact all_eq hl
      rw [e]
      exact q
  · refine SeqAt.eq_list_lengthsAt p1.isList p2.isList (by simp only [List.size_toArray, bne_iff_ne]; omega) hu ⟨.bl _, H, I, rfl, ?_⟩
    have e : decide (ns = ms) = false := decide_eq_false fun z => hl (by rw [z])
    rw [e] at q
    exact q
theorem Fp (hu : X.A.units < cLine) : OpR X (compareOp .NotEq) (rEqL X.K not) := by
  intro pins s σ H x y v u Q I rx ry h
  obtain ⟨a, b, ns, ms, rfl, rfl, ha, hb, q⟩ := h
  cases rx
  cases ry
  obtain ⟨its, r1, p1, z1⟩ := I.list ha
  obtain ⟨jts, r2, p2, z2⟩ := I.list hb
  have i1 := intsAre_of r1
  have i2 := intsAre_of r2
  have l1 := r1.length
  have l2 := r2.length
  rw [List.length_map] at l1 l2
  show wpAny _ _ (richCompare .NotEq _ _) _ _ _
  by_cases hl : ns.length = ms.length
  · refine SeqAt.RcNeAt.lists (e := fun j => ns.getD j 0 == ms.getD j 0) p1.isList p2.isList (by simp only [List.size_toArray]; omega) hu (fun j h1 h2 => ?_) _ _ _ _ ⟨.bl _, H, I, rfl, ?_⟩
    · simp only [List.size_toArray] at h1 h2
      obtain ⟨t1, e1⟩ := fV i1 j h1 (by omega)
      obtain ⟨t2, e2⟩ := fV i2 j h2 (by omega)
      simp only [List.getElem_toArray]
      rw [e1, e2]
      have g1 : ns.getD j 0 = ns[j]'(by omega) := by simp [List.getD_eq_getElem?_getD, show j < ns.length by omega]
      have g2 : ms.getD j 0 = ms[j]'(by omega) := by simp [List.getD_eq_getElem?_getD, show j < ms.length by omega]
      show SeqAt.EqAt _ _ _ _ (ns.getD j 0 == ms.getD j 0)
      rw [g1, g2]
      exact SeqAt.EqAt.int_int _ _ _ _
    · have e : ((List.range its.toArray.size).all fun j => ns.getD j 0 == ms.getD j 0) = decide (ns = ms) := by
        rw [List.size_toArray, <- l1]; exact all_eq hl
      rw [e]
      exact q
  · refine SeqAt.RcNeAt.lists_lengths p1.isList p2.isList (by simp only [List.size_toArray, bne_iff_ne]; omega) hu _ _ _ _ ⟨.bl _, H, I, rfl, ?_⟩
    have e : decide (ns = ms) = false := decide_eq_false fun z => hl (by rw [z])
    rw [e] at q
    exact q
noncomputable def rIsi (K : PySem.W.Frag) : List V -> Hp -> VK -> Prop := fun xs H Q =>
  (∃ i, xs = [.int i, .ty "int"] /\ Q (.bl true) H) \/ (∃ i, xs = [.int i, .ty "bool"] /\ Q (.bl false) H) \/ (∃ p ys, xs = [.ref p, .ty "list"] /\ SqL K H p ys /\ Q (.bl true) H) \/
  (∃ p ys, xs = [.ref p, .ty "tuple"] /\ SqT K H p ys /\ Q (.bl true) H) \/ (∃ z, xs = [.str z, .ty "str"] /\ Q (.bl true) H)
theorem rG : jK X (.builtin "isinstance") (rIsi X.K) := by
  intro pins s σ H xs us Q I r h
  rcases h with ⟨i, rfl, q⟩ | ⟨i, rfl, q⟩ | ⟨p, ys, rfl, hq, q⟩ | ⟨p, ys, rfl, hq, q⟩ | ⟨z, rfl, q⟩
  · obtain ⟨u, w', rfl, ⟨t, rfl⟩, r2⟩ := vals2 r
    cases r2
    exact IsiPair.int_int ⟨.bl true, H, I, rfl, q⟩
  · obtain ⟨u, w', rfl, ⟨t, rfl⟩, r2⟩ := vals2 r
    cases r2
    exact IsiPair.int_bool ⟨.bl false, H, I.tok _, rfl, q⟩
  · obtain ⟨u, w', rfl, r1, r2⟩ := vals2 r
    cases r1
    cases r2
    obtain ⟨its, r', pl, hz⟩ := I.list hq
    obtain ⟨o, ho, hc, n, hd⟩ := pl.isList
    exact IsiPair.list_list ho hc ⟨.bl true, H, I, rfl, q⟩
  · obtain ⟨u, w', rfl, r1, r2⟩ := vals2 r
    cases r1
    cases r2
    obtain ⟨its, r', pl, hz⟩ := I.tuple hq
    obtain ⟨o, ho, hc, n, hd⟩ := pl
    exact IsiPair.tuple_tuple ho hc ⟨.bl true, H, I, rfl, q⟩
  · obtain ⟨u, w', rfl, ⟨t, rfl⟩, r2⟩ := vals2 r
    cases r2
    exact IsiPair.str_str ⟨.bl true, H, I, rfl, q⟩
noncomputable def Itd (hi : Int) (n : Nat) : It := ⟨fun i _ => i < n, fun i H x H' => H' = H /\ x = .int (hi - i), fun i _ => n <= i⟩
theorem Cq {P : Program} {w : World} {K : PySem.W.Frag} {tg : Expr} (it : Addr) (hi : Int) (n : Nat) : Turn P w K tg (Itd hi n) [it] it (fun i h => IsRangeIter h it (hi + (i : Nat) * (-1)) ((n : Int) - (i : Nat)) (-1)) where
  mem := by simp
  obj := fun i h st b hb => by
    have e : b = it := by simpa using hb
    subst e
    exact ⟨_, st, fun v z => by
      have z' : Data.fields _ = Data.cell v := z
      cases z'⟩
  keep := fun i h h' st k => k it (by simp) _ st
  item := by
    intro X hP hw hK hc i pins s σ H E I hf st hg
    subst hP hw hK
    obtain ⟨f0, f1, f2, f3, f4, f5⟩ := hf it (by simp)
    have W := Walks.range (prog := X.prog) (w := X.w) (I.ok.hd hc) it hi (-1) n
    refine W.item i s _ _ hg st fun v h' tk hv st' kk => ?_
    obtain ⟨t, rfl⟩ := hv
    have I1 : Inv X pins σ H { s with heap := h', toks := tk } := I.turned (fun b o hb e => kk b o (by simpa using hb) e) f0 f1 f3 f4 f5
    refine ⟨_, rfl, Es (s := { s with heap := h', toks := tk }) (n := "range_iterator") st' rfl rfl (by decide) ⟨.int (hi - i), H, I1, ⟨t, ?_⟩, ⟨rfl, rfl⟩, st', fun b hb => (hf b hb).1⟩⟩
    rw [show hi + (i : Int) * -1 = hi - i by omega]
  done := by
    intro X hP hw hK hc i pins s σ H E I hf st hg
    subst hP hw hK
    obtain ⟨f0, f1, f2, f3, f4, f5⟩ := hf it (by simp)
    exact wpAny_pyNext_range_end (I.ok.hd hc) st (by have : n <= i := hg; omega) fun h' eb => ⟨rfl, I.turned (t' := s.toks) (fun b o hb e => eb b o hb e) f0 f1 f3 f4 f5⟩
  self := fun _ _ _ _ _ st h => wpAny_pyIter_rangeiter st h
theorem rangeSize_down (a b : Int) : Builtin.Range.rangeSize a b (-1) = if b < a then a - b else 0 := by
  unfold Builtin.Range.rangeSize
  rw [if_neg (by decide)]
  simp only [Int.neg_neg, Int.ediv_one, gt_iff_lt]
  split <;> omega
theorem small_down {a b : Int} (ha : -(2 ^ 62) <= a) (ha' : a < 2 ^ 62) (hb : -(2 ^ 62) <= b) (hb' : b < 2 ^ 62) : Builtin.Range.small a b (-1) = true := by
  unfold Builtin.Range.small
  rw [rangeSize_down]
  simp only [Builtin.Range.rangeFitsLong, Bool.and_eq_true, Bool.or_eq_true, decide_eq_true_eq, beq_iff_eq, show ¬ ((-1 : Int) > 0) by decide, if_false]
  split <;> omega
variable {tg : Expr}
theorem Ji {pins : List (Addr × Obj)} {σ : St} {H : Hp} {s : Shared} {R : It -> Hp -> Prop} {E : Value -> Shared -> Prop} {lo hi : Int} {t u v : Tok} {tk : Nat} (I : Inv X pins σ H s) (h1 : -(2 ^ 62) <= lo) (h2 : lo < 2 ^ 62) (h3 : -(2 ^ 62) <= hi) (h4 : hi < 2 ^ 62)
    (q : R (Itd hi (hi - lo).toNat) H) : wpAny (model X.prog X.w) X.A (pyIter (.ref s.heap.objs.size)) (PIE X pins σ tg R) E { s with heap := s.heap.push { cls := .type "range", data := .fields #[.int hi t, .int lo u, .int (-1) v] }, toks := tk } := by
  refine wpAny_pyIter_range (IsRange.new ..) (small_down h3 h4 h1 h2) ?_
  have I1 : Inv X pins σ H { s with heap := s.heap.push { cls := .type "range", data := .fields #[.int hi t, .int lo u, .int (-1) v] }, toks := tk } := I.kept fun b o e => Heap.get?_push_of_some _ e
  refine ⟨(s.heap.push { cls := .type "range", data := .fields #[.int hi t, .int lo u, .int (-1) v] }).objs.size, [(s.heap.push { cls := .type "range", data := .fields #[.int hi t, .int lo u, .int (-1) v] }).objs.size], _, _, H, rfl,
    I1.kept (t' := tk) fun b o e => Heap.get?_push_of_some _ e, Cq _ hi (hi - lo).toNat, ?_, fun b hb => ?_, q⟩
  · have e1 : hi + ((0 : Nat) : Int) * (-1) = hi := by simp
    have e2 : (((hi - lo).toNat : Nat) : Int) - ((0 : Nat) : Int) = Builtin.Range.rangeSize hi lo (-1) := by rw [rangeSize_down]; split <;> omega
    show IsRangeIter _ _ (hi + ((0 : Nat) : Int) * (-1)) ((((hi - lo).toNat : Nat) : Int) - ((0 : Nat) : Int)) (-1)
    rw [e1, e2]
    exact Heap.get?_push_size _ rfl
  · have e : b = (s.heap.push { cls := .type "range", data := .fields #[.int hi t, .int lo u, .int (-1) v] }).objs.size := by simpa using hb
    subst e
    exact I1.wD (Nat.le_refl _) (I1.hok.fresh (Nat.le_refl _))
noncomputable def iRng3 (ta : TA) : TI := fun σ H R => ta σ H fun vs H1 => ∃ i j : Int, vs = [.int i, .int j, .int (-1)] /\ (-(2 ^ 62) <= i /\ i < 2 ^ 62 /\ -(2 ^ 62) <= j /\ j < 2 ^ 62) /\ R (Itd i (i - j).toNat) H1
theorem oZ {a b c : Expr} {ta : TA} {p pos : Pos} (hg : Gl X "range") (hm : X.mg "range" = none) (ha : PA X [a, b, c] ta) (hs : starEach [a, b, c] X.env = [(false, eval a X.env), (false, eval b X.env), (false, eval c X.env)] := by rfl)
    (hs2 : starEach [b, c] X.env = [(false, eval b X.env), (false, eval c X.env)] := by rfl) : PI X tg (.Call (.Name "range" p) [a, b, c] [] pos) (iRng3 ta) := by
  intro pins s σ H R I h
  refine Call_ (jT I hg hm boot_range (PyProof.Rows.callWith_type1 (thn (ha pos pins s σ H _ I h) fun us s1 ⟨vs, H1, I1, r1, q1⟩ => ?_) (by rw [hs, hs2]) (by rw [hs2]; rfl)))
  obtain ⟨i, j, e, ⟨q1, q2, q3, q4⟩, q⟩ := q1
  subst e
  cases r1 with
  | cons r rr =>
    cases rr with
    | cons r' rr =>
      cases rr with
      | cons r'' rr =>
        cases rr
        obtain ⟨t, rfl⟩ := r
        obtain ⟨t', rfl⟩ := r'
        obtain ⟨t'', rfl⟩ := r''
        exact call_range_3 (by decide) (Ji I1 q3 q4 q1 q2 q) (.inl (PyProof.noPylong_small (by decide)))
theorem rz {hi : Int} {n : Nat} {g : TG} {tb : TS} {D : Ends} {σ : St} {H : Hp} (Pv : Nat -> St -> Hp -> Prop) (h0 : Pv 0 σ H)
    (hs : ∀ i σ H, i < n -> Pv i σ H -> g (.int (hi - i)) σ H fun σ2 H2 => tb { D with nx := Pv (i + 1), ct := Pv (i + 1), bk := D.nx } σ2 H2) (hd : ∀ σ H, Pv n σ H -> D.nx σ H) :
    ∃ W : Nat -> Nat -> St -> Hp -> Prop, (∃ m, W 0 m σ H) /\ ∀ i m σ H, W i m σ H ->
      ((Itd hi n).stop i H /\ D.nx σ H) \/ ((Itd hi n).go i H /\ ∃ N : St -> Hp -> Prop, (∀ σ' H', N σ' H' -> ∃ m', m' < m /\ W (i + 1) m' σ' H') /\ ∀ x H', (Itd hi n).yld i H x H' -> g x σ H' fun σ2 H2 => tb { D with nx := N, ct := N, bk := D.nx } σ2 H2) := by
  refine ⟨fun i m σ H => m = n - i /\ i <= n /\ Pv i σ H, ⟨n, by simp, Nat.zero_le _, h0⟩, ?_⟩
  rintro i m σ H ⟨rfl, hi, p⟩
  by_cases hlt : i < n
  · refine .inr ⟨hlt, Pv (i + 1), fun σ' H' p' => ⟨n - (i + 1), by omega, rfl, hlt, p'⟩, fun x H' y => ?_⟩
    obtain ⟨e, y⟩ := y
    subst e y
    exact hs i σ _ hlt p
  · have e : i = n := by omega
    subst e
    exact .inl ⟨Nat.le_refl _, hd σ H p⟩
end
noncomputable def FnAt (P : Program) (w : World) (K : PySem.W.Frag) (mg : Str -> Option Value) (base : Heap) (k : Nat) (x : Str) (ps : List Str) (sp : Sp) : Prop :=
  ∃ (f : Addr) (fd : FuncData), bw P w K mg base CX0 k f fd ps sp /\ Binds K fd ps [] /\ PySem.W.keepIn K (.ref f) = true /\ mg x = some (.ref f)
theorem aC {X : Cx} {j k : Nat} {x : Str} {ps : List Str} {sp : Sp} {e : Expr} {es : List Expr} {p pos : Pos} {t : TA} (F : FnAt X.prog X.w X.K X.mg X.base j x ps sp) (hr : jg k X.A) (hg : Gl X x) (ha : PA X (e :: es) t) (hj : j <= k := by decide)
    (hdb : (x == ("__debug__" : Str)) = false := by decide) (he : starEach (e :: es) X.env = (false, eval e X.env) :: starEach es X.env := by rfl) (hpl : (backTo pos (starEach es X.env)).any (·.1) = false := by rfl) :
    PE X (.Call (.Name x p) (e :: es) [] pos) (wH sp [] E0 t) := by
  obtain ⟨f, fd, G, b, kp, m⟩ := F
  exact Az G (hr.mono hj) hg m kp b .nil pass0 ha hdb he hpl
structure Bl (mg : Str -> Option Value) : Prop where
  fX : mg "len" = none
  wG : mg "abs" = none
  mD : mg "range" = none
  Ab : mg "list" = none
  int_ : mg "int" = none
  bool_ : mg "bool" = none
  bN : mg "isinstance" = none
  sorted_ : mg "sorted" = none
  min_ : mg "min" = none
  mL : mg "enumerate" = none
theorem aQ {H : Hp} {p : Addr} (h : H p = none) (o : HO) : Same H (upd H p o) := fun b u q => by rw [bK (bU q h)]; exact q
theorem Same.tup {K : PySem.W.Frag} {H H' : Hp} {a : Addr} {xs : List V} (e : Same H H') (h : SqT K H a xs) : SqT K H' a xs := by
  rcases h with h | h
  · rcases h with h | ⟨o, h⟩
    · exact .inl (.inl (e _ _ h))
    · exact .inl (.inr ⟨o, e _ _ h⟩)
  · exact .inr h
noncomputable abbrev IL (ns : List Int) : HO := .lst (ns.map V.int)
theorem fH {ns : List Int} {k : Int} (h0 : 0 <= k) (h : k < (ns.length : Int)) : atI (ns.map V.int) k = some (.int (ns.getD k.toNat 0)) := by
  have hk : k.toNat < ns.length := by omega
  have ek : k = ((k.toNat : Nat) : Int) := by omega
  rw [ek]
  refine Bs ?_
  rw [List.getElem?_map, List.getD_eq_getElem?_getD, show ((k.toNat : Nat) : Int).toNat = k.toNat by omega, List.getElem?_eq_getElem hk]
  all_goals rfl
theorem cQ {ns : List Int} (h : ns ≠ []) : atI (ns.map V.int) (-1) = some (.int (ns.getD (ns.length - 1) 0)) := by
  have e : ns = ns.dropLast ++ [ns.getLast h] := (List.dropLast_concat_getLast h).symm
  have g : ns.getD (ns.length - 1) 0 = ns.getLast h := by
    rw [List.getLast_eq_getElem, List.getD_eq_getElem?_getD, List.getElem?_eq_getElem (by have := List.length_pos_iff.mpr h; omega)]
    rfl
  rw [g]
  conv => lhs; rw [e]
  rw [List.map_append]
  exact xU _ _
end L2
namespace L2
open PySem
theorem cI : bootBuiltins "len" = some (.builtin "len") := by decide +kernel
theorem jV : bootBuiltins "abs" = some (.builtin "abs") := by decide +kernel
theorem bD : bootBuiltins "isinstance" = some (.builtin "isinstance") := by decide +kernel
theorem gG : bootBuiltins "int" = some (.type "int") := by decide +kernel
theorem Jt : bootBuiltins "bool" = some (.type "bool") := by decide +kernel
theorem ql : bootBuiltins "list" = some (.type "list") := by decide +kernel
end L2
namespace L2
open PySem PySem.Spec PyProof.Rows
noncomputable def cO (X : Cx) (N : List Str) (scope : Scope) (cl : List (Str × Addr)) (C : Addr) (s₀ : Shared) (H₀ : Hp) (ex : List Addr) : Cx :=
  { X with N := N, env := compEnvC scope cl C X.env, outer := X.stack, s₀ := s₀, H₀ := H₀, ex := ex, fn := fun _ => false, pn := [], xe := fun _ _ => False }
noncomputable def tLC (wi : TI) (fr : List Nat) (te : TE) : TE := fun σ H Q => wi σ H fun J H1 => ∀ D, H1 D = none -> ∃ W : Nat -> Nat -> St -> List V -> Hp -> Prop, (∃ m, W 0 m (none :: fr.map fun i => σ.getD i none) [] (upd H1 D (.lst []))) /\
  ∀ i m σc acc H2, W i m σc acc H2 -> H2 D = some (.lst acc) /\ ((J.stop i H2 /\ Q (.ref D) H2) \/ (J.go i H2 /\ ∀ y H3, J.yld i H2 y H3 -> te (σc.set 0 (some y)) H3 fun v H4 =>
    H4 D = some (.lst acc) /\ acc.length < sizeLine /\ ∃ m', m' < m /\ W (i + 1) m' (σc.set 0 (some y)) (acc ++ [v]) (upd H4 D (.lst (acc ++ [v])))))
structure qJ (X : Cx) (scope : Scope) (cl : List (Str × Addr)) (x : Str) (N : List Str) (fr : List Nat) : Prop where
  clos : closureFor scope X.env = pure cl
  cell : ∀ y ∈ scope.names, y.2 ≠ .cell
  kind : scope.kind = .function
  names : ∀ y ∈ scope.names, y.2 = .local -> scope.names.lookup y.1 = some .local
  var : scope.names.lookup x = some .local
  nd : (x :: N).Nodup
  ins : ∀ p ∈ cl, X.env.cells.lookup p.1 = some p.2
  has : ∀ y, ((relabel scope X.env).names.lookup y = some .cell \/ (relabel scope X.env).names.lookup y = some .free) -> ∃ c, cl.lookup y = some c
  len : fr.length = N.length
  frs : ∀ (j : Nat) (y : Str), N[j]? = some y -> ∃ i, fr[j]? = some i /\ X.N[i]? = some y /\ X.env.scope.names.lookup y = some .cell /\ (relabel scope X.env).names.lookup y = some .cell
  calm : X.calm = true
  xe : X.xe = fun _ _ => False
noncomputable def uH (X : Cx) (sc : Scope) : List Str -> List Nat -> Prop
  | [], [] => True
  | y :: N, i :: fr => (X.N[i]? = some y /\ X.env.scope.names.lookup y = some .cell /\ sc.names.lookup y = some .cell) /\ uH X sc N fr
  | _, _ => False
theorem uH.len {X : Cx} {sc : Scope} : ∀ {N : List Str} {fr : List Nat}, uH X sc N fr -> fr.length = N.length
  | [], [], _ => rfl
  | _ :: _, _ :: _, h => by rw [List.length_cons, List.length_cons, uH.len h.2]
  | [], _ :: _, h => h.elim
  | _ :: _, [], h => h.elim
theorem uH.get {X : Cx} {sc : Scope} : ∀ {N : List Str} {fr : List Nat}, uH X sc N fr -> ∀ (j : Nat) (y : Str), N[j]? = some y -> ∃ i, fr[j]? = some i /\ X.N[i]? = some y /\ X.env.scope.names.lookup y = some .cell /\ sc.names.lookup y = some .cell
  | [], [], _, j, y, e => by cases j <;> cases e
  | _ :: _, i :: _, h, 0, y, e => by cases e; exact ⟨i, rfl, h.1⟩
  | _ :: N, _ :: fr, h, j + 1, y, e => uH.get (N := N) (fr := fr) h.2 j y e
  | [], _ :: _, h, _, _, _ => h.elim
  | _ :: _, [], h, _, _, _ => h.elim
theorem wF {α : Type} {P : α -> Prop} : ∀ p ∈ ([] : List α), P p := fun _ h => nomatch h
theorem yP {α : Type} {P : α -> Prop} {a : α} {l : List α} (h : P a) (k : ∀ p ∈ l, P p) : ∀ p ∈ a :: l, P p := fun p hp => by
  rcases List.mem_cons.mp hp with rfl | hp
  · exact h
  · exact k p hp
theorem oR {X : Cx} {scope : Scope} {cl : List (Str × Addr)} {x : Str} {N : List Str} {fr : List Nat} (clos : closureFor scope X.env = pure cl) (cell : ∀ y ∈ scope.names, y.2 ≠ .cell) (kind : scope.kind = .function)
    (names : ∀ y ∈ scope.names, y.2 = .local -> scope.names.lookup y.1 = some .local) (var : scope.names.lookup x = some .local) (nd : (x :: N).Nodup) (ins : ∀ p ∈ cl, X.env.cells.lookup p.1 = some p.2)
    (has : ((relabel scope X.env).names.all fun p => !(p.2 == .cell || p.2 == .free) || (cl.lookup p.1).isSome) = true) (fro : uH X (relabel scope X.env) N fr) (calm : X.calm = true) (xe : X.xe = fun _ _ => False) : qJ X scope cl x N fr :=
  ⟨clos, cell, kind, names, var, nd, ins, fun y hy => by
    have key : ∀ k : NameKind, (k = .cell \/ k = .free) -> (relabel scope X.env).names.lookup y = some k -> ∃ c, cl.lookup y = some c := fun k hk e => by
      have := List.all_eq_true.mp has _ (PySem.mem_of_lookup e)
      rcases hk with rfl | rfl
      · exact Option.isSome_iff_exists.mp (by simpa using this)
      · exact Option.isSome_iff_exists.mp (by simpa using this)
    rcases hy with hy | hy
    · exact key _ (.inl rfl) hy
    · exact key _ (.inr rfl) hy, fro.len, fro.get, calm, xe⟩
theorem vY {prog : Program} {w : World} {A : Around} {R : Result -> Shared -> Prop} {s : Shared} {elt target iter : Expr} {scope : Scope} {pos : Pos} {it acc : Value} {env : Env} (I : Nat -> Shared -> Prop)
    (turn : ∀ n s, I n s -> wpAny (model prog w) A (pyNext it) (fun r s₁ => match r with
      | none => R (.ok .next) s₁
      | some v => wpAny (model prog w) A (letOwnedTupleGo target it v) (fun _ s₁' => wpAny (model prog w) A (assign target env v) (fun _ s₂ => wpAny (model prog w) A (eval elt env) (fun x s₃ =>
          wpAny (model prog w) A (call (.builtin "list.append") [acc, x]) (fun _ s₄ => ∃ m, m < n /\ I m s₄) (fun _ _ => False) s₃)
          (fun _ _ => False) s₂) (fun _ _ => False) s₁') (fun _ _ => False) s₁) (fun _ _ => False) s)
    (n : Nat) (h : I n s) :
    codeAny (model prog w) A (.compLoop (.ListComp elt [⟨target, iter, [], 0⟩] scope pos) 0 it acc env) R s := by
  refine codeAny_loop rfl I (fun n s hI => ?_) n h
  show wpAny _ _ ((compTurn (.ListComp elt [⟨target, iter, [], 0⟩] scope pos) 0 it acc env).onRaise (fun x => do noteFrame x env; theTreesLotGoes x)) _ _ s
  refine wpAny_noted ?_
  rw [compTurn_list1]
  refine wpAny_bind (wpAny_standAt (wpAny_bind (wpAny_mono (turn n s hI) (fun r s₁ h₁ => ?_) fun _ _ h' => h'.elim)))
  cases r with
  | none => exact wpAny_pure h₁
  | some v =>
    refine wpAny_bind (wpAny_mono h₁ (fun _ s₁' h₁' => ?_) fun _ _ h' => h'.elim)
    exact wpAny_bind (wpAny_mono h₁' (fun _ s₂ h₂ => wpAny_bind (wpAny_bind (wpAny_mono h₂ (fun x s₃ h₃ => wpAny_bind (wpAny_mono h₃
      (fun _ s₄ h₄ => wpAny_pure (wpAny_pure ⟨rfl, h₄⟩)) fun _ _ h' => h'.elim)) fun _ _ h' => h'.elim))) fun _ _ h' => h'.elim)
section
variable {X : Cx} {scope : Scope} {cl : List (Str × Addr)} {x : Str} {N : List Str} {fr : List Nat}
theorem zU {pins : List (Addr × Obj)} {σ : St} {H : Hp} {s : Shared} {fp : List Addr} {h1 : Heap} {D C : Addr} {tk : Nat} (O : qJ X scope cl x N fr) (I : Inv X pins σ H s) (hf : ∀ b ∈ fp, pW X pins H b) (hfl : ∀ b ∈ fp, b < s.heap.objs.size)
    (hD : s.heap.objs.size <= D) (hC : s.heap.objs.size <= C) (hDC : D ≠ C) (kp : ∀ b o, s.heap.get? b = some o -> h1.get? b = some o) (hns : ∃ m, h1.Ns C m) (hd : ∃ n, h1.get? D = some { cls := .type "list", data := .seq #[] n }) :
    Inv (cO X (x :: N) scope cl C s H fp) [] (none :: fr.map fun i => σ.getD i none) (upd H D (.lst [])) { s with heap := h1, toks := tk } := by
  have hn : H D = none := I.hok.fresh hD
  have hu : Un (frs X.stack) fp H (upd H D (.lst [])) s.heap h1 := Un.laid kp hD hn
  have cellH : ∀ y c, cl.lookup y = some c -> X.env.cells.lookup y = some c := fun y c e => O.ins _ (PySem.mem_of_lookup e)
  obtain ⟨m, hm⟩ := hns
  have okk : (cO X (x :: N) scope cl C s H fp).Ok := by
    refine ⟨I.ok.mod, ?_, I.ok.glob, I.ok.blt, hC, fun y z c e1 e2 => ?_, fun y hy => ?_, fun y c h _ => ?_, I.ok.hd, I.ok.frames, .inl rfl, fun b hb => ⟨?_, fun y c e => ?_⟩, I.bs, Nat.le_trans I.ok.bsz I.sz, fun b o e hb => ?_, fun b hb => ?_, I.stack, I.kO⟩
    · show (relabel scope X.env).kind = _
      exact O.kind
    · exact I.ok.inj y z c (cellH y c e1) (cellH z c e2)
    · exact O.has y hy
    · exact absurd h (by show ¬ (false = true); decide)
    · exact Nat.ne_of_lt (Nat.lt_of_lt_of_le (hfl b hb) hC)
    · exact (hf b hb).2.2.2.2.1 y c (cellH y c e)
    · obtain ⟨f0, f1, f2, f3, f4, f5⟩ := hf b hb
      rcases f3 with z | z
      · exact I.ok.yM b o e z
      · exact absurd (Nat.lt_of_lt_of_le (Heap.lt_size (I.ok.bs b o e).1) z) (Nat.lt_irrefl _)
    · obtain ⟨f0, f1, f2, f3, f4, f5⟩ := hf b hb
      intro z
      rcases List.mem_cons.mp (I.qD b z) with e | e
      · exact f1 e
      · exact f2 e
  refine ⟨okk, rfl, I.bare, hu, ⟨m, hm, fun j y v e1 e2 e3 => ?_⟩, fun y c e => ?_, ?_, fun y c e => ?_, fun p hp => absurd (show p ∈ ([] : List (Addr × Obj)) from hp) (by simp), ?_, ?_⟩
  · cases j with
    | zero => cases e2
    | succ j =>
      have e1' : N[j]? = some y := e1
      obtain ⟨i, g1, g2, g3, g4⟩ := O.frs j y e1'
      have e2' : (fr.map fun i => σ.getD i none)[j]? = some (some v) := e2
      rw [List.getElem?_map, g1] at e2'
      have e2'' : σ.getD i none = some v := Option.some.inj e2'
      have e4 : σ[i]? = some (some v) := by
        rw [List.getD_eq_getElem?_getD] at e2''
        cases q : σ[i]? with
        | none => rw [q] at e2''; cases e2''
        | some z => rw [q] at e2''; exact congrArg some e2''
      obtain ⟨m0, _, hl⟩ := I.loc
      obtain ⟨u, r, l⟩ := hl i y v g2 e4 (.inr (.inl g3))
      refine ⟨u, r, ?_⟩
      rcases l with ⟨k, _⟩ | ⟨k, c, e, z⟩
      · have k' : X.env.scope.names.lookup y = some .local := k
        rw [g3] at k'
        cases k'
      · obtain ⟨c', e'⟩ := O.has y (.inl g4)
        have := cellH y c' e'
        rw [e] at this
        cases this
        refine .inr ⟨.inl g4, c, e', ?_⟩
        obtain ⟨o, ho, hd'⟩ := z
        exact ⟨o, kp _ _ ho, hd'⟩
  · obtain ⟨v, o, ho, hd'⟩ := I.cell y c (cellH y c e)
    exact ⟨v, o, kp _ _ ho, hd'⟩
  · show upd H D (.lst []) C = none
    rw [bK (Ne.symm hDC)]
    exact I.hok.fresh hC
  · obtain ⟨v, o, ho, hd'⟩ := I.cell y c (cellH y c e)
    rw [bK (Nat.ne_of_lt (Nat.lt_of_lt_of_le (Heap.lt_size ho) hD))]
    exact I.jk y c (cellH y c e)
  · obtain ⟨n, e⟩ := hd
    exact I.hok.laid kp hD ⟨Nat.zero_le _, [], n, .nil, e⟩
  · show (none :: fr.map fun i => σ.getD i none).length = (x :: N).length
    rw [List.length_cons, List.length_cons, List.length_map, O.len]
theorem xO {elt iter : Expr} {px pos : Pos} {te : TE} {pins : List (Addr × Obj)} {σ : St} {H : Hp} {s : Shared} {it : Addr} {fp : List Addr} {tn : Nat -> Heap -> Prop} {J : It} {Q : VK} {E : Value -> Shared -> Prop} {RR : Value -> Addr -> Result -> Shared -> Prop}
    (O : qJ X scope cl x N fr) (he : ∀ cl C s₀ H₀ ex, PE (cO X (x :: N) scope cl C s₀ H₀ ex) elt te) (I : Inv X pins σ H s) (T : Turn X.prog X.w X.K (.Name x px) J fp it tn) (st : tn 0 s.heap) (hf : ∀ b ∈ fp, pW X pins H b)
    (h : ∀ D, H D = none -> ∃ W : Nat -> Nat -> St -> List V -> Hp -> Prop, (∃ m, W 0 m (none :: fr.map fun i => σ.getD i none) [] (upd H D (.lst []))) /\
      ∀ i m σc acc H2, W i m σc acc H2 -> H2 D = some (.lst acc) /\ ((J.stop i H2 /\ Q (.ref D) H2) \/ (J.go i H2 /\ ∀ y H3, J.yld i H2 y H3 -> te (σc.set 0 (some y)) H3 fun v H4 =>
        H4 D = some (.lst acc) /\ acc.length < sizeLine /\ ∃ m', m' < m /\ W (i + 1) m' (σc.set 0 (some y)) (acc ++ [v]) (upd H4 D (.lst (acc ++ [v]))))))
    (hR : ∀ D C H' s', D ≠ C -> s.heap.objs.size <= C -> (∃ m, s'.heap.Ns C m) -> H' C = none -> Inv X pins σ H' s' -> Q (.ref D) H' -> RR (.ref D) C (.ok .next) s') :
    wpAny (model X.prog X.w) X.A (newList []) (fun acc s₃ => wpAny (model X.prog X.w) X.A (newFunctionEnv scope X.env.globals cl [] X.env.qual none .none (some X.env)) (fun cenv s₄ =>
      codeAny (model X.prog X.w) X.A (.compStart (.ListComp elt [⟨.Name x px, iter, [], 0⟩] scope pos) 0 (.ref it) acc { cenv with scope := relabel scope X.env }) (RR acc cenv.locals) s₄) E s₃) E s := by
  refine wpAny_newObj_type (wpAny_newFunctionEnv O.cell (by intro y hy; simp at hy) (fun h₁ hns₁ hsb₁ => ?_) O.kind)
  dsimp only at hns₁ hsb₁ ⊢
  generalize hH2 : s.heap.push { cls := .type "list", dict := none, data := .seq ([] : List Value).toArray } = H2 at hns₁ hsb₁ ⊢
  have hC : H2.objs.size = s.heap.objs.size + 1 := by rw [<- hH2, Heap.size_push]
  have hDC : s.heap.objs.size ≠ H2.objs.size := by rw [hC]; exact Nat.ne_of_lt (Nat.lt_succ_self _)
  have hCle : s.heap.objs.size <= H2.objs.size := by rw [hC]; exact Nat.le_succ _
  have below : ∀ b, b < s.heap.objs.size -> b ≠ H2.objs.size /\ b ≠ s.heap.objs.size := fun b hb => ⟨by rw [hC]; exact Nat.ne_of_lt (Nat.lt_succ_of_lt hb), Nat.ne_of_lt hb⟩
  have old : ∀ b o, s.heap.get? b = some o -> h₁.get? b = some o := fun b o e => hsb₁.extBut b o (below b (Heap.lt_size e)).1 (Heap.get?_push_of_some _ (hH2 ▸ Heap.get?_push_of_some _ e))
  have hacc : ∃ n, h₁.get? s.heap.objs.size = some { cls := .type "list", data := .seq #[] n } := ⟨_, hsb₁.extBut _ _ hDC (Heap.get?_push_of_some _ (hH2 ▸ Heap.get?_push_size _ rfl))⟩
  have hfl : ∀ b ∈ fp, b < s.heap.objs.size := fun b hb => by
    obtain ⟨o, e, _⟩ := T.obj _ _ st b hb
    exact Heap.lt_size e
  obtain ⟨W, ⟨m0, w0⟩, turn⟩ := h s.heap.objs.size (I.hok.fresh (Nat.le_refl _))
  have st₁ : tn 0 h₁ := T.keep _ _ _ st fun b hb o e => old b o e
  have I0 := zU (tk := s.toks + ([] : List (Str × Value)).length) O I hf hfl (Nat.le_refl _) hCle hDC old ⟨_, hns₁⟩ hacc
  have loop : codeAny (model X.prog X.w) X.A (.compLoop (.ListComp elt [⟨.Name x px, iter, [], 0⟩] scope pos) 0 (.ref it) (.ref s.heap.objs.size) (compEnvC scope cl H2.objs.size X.env))
      (RR (.ref s.heap.objs.size) H2.objs.size) { s with heap := h₁, toks := s.toks + ([] : List (Str × Value)).length } := by
    have stat : ∀ {H' : Hp}, (∀ b ∈ fp, H' b = none) -> ∀ b ∈ fp, pW (cO X (x :: N) scope cl H2.objs.size s H fp) [] H' b := fun {H'} hn b hb =>
      ⟨hn b hb, (I0.ok.exf b hb).1, I0.ok.yO b hb, .inl hb, (I0.ok.exf b hb).2, fun p hp => absurd (show p ∈ ([] : List (Addr × Obj)) from hp) (by simp)⟩
    refine vY (fun n s' => ∃ i σc acc H', Inv (cO X (x :: N) scope cl H2.objs.size s H fp) [] σc H' s' /\ tn i s'.heap /\ (∀ b ∈ fp, H' b = none) /\ W i n σc acc H') ?_ m0
      ⟨0, _, [], _, I0, st₁, fun b hb => by rw [bK (below b (hfl b hb)).2]; exact (hf b hb).1, w0⟩
    rintro n s3 ⟨i, σ3, acc, H3, I3, st3, fr3, w3⟩
    obtain ⟨hD3, q⟩ := turn i n σ3 acc H3 w3
    rcases q with ⟨stop, qn⟩ | ⟨go, step⟩
    · refine thn (T.done (cO X (x :: N) scope cl H2.objs.size s H fp) rfl rfl rfl O.calm i [] s3 σ3 H3 _ I3 (stat fr3) st3 stop) fun r s4 ⟨hr, I4⟩ => ?_
      subst hr
      refine hR _ _ H3 s4 hDC hCle ?_ I4.free ?_ qn
      · obtain ⟨m, hn, _⟩ := I4.loc
        exact ⟨m, hn⟩
      · refine I.call' I4.os I4.base I4.hok I4.bare fun b hb => ?_
        obtain ⟨f0, f1, f2, f3, f4, f5⟩ := hf b hb
        exact ⟨f3, f1, f4, f5⟩
    · refine thn (T.item (cO X (x :: N) scope cl H2.objs.size s H fp) rfl rfl rfl O.calm i [] s3 σ3 H3 _ I3 (stat fr3) st3 go) fun r s4 ⟨u, hr, h4⟩ => ?_
      subst hr
      refine thn h4 fun _ s5 ⟨y, H5, I5, r5, y5, st5, fr5⟩ => ?_
      have I5' := I5.pinned (stat fr5) (T.obj _ _ st5)
      have hg : PG (cO X (x :: N) scope cl H2.objs.size s H fp) (.Name x px) (pF 0) := cP O.nd rfl (.inl (lookup_relabel_local O.var)) (.inr (lookup_relabel_local O.var))
      refine thn (hg _ s5 σ3 H5 y u (fun σ' H' => σ' = σ3.set 0 (some y) /\ H' = H5) I5' r5 ⟨rfl, rfl⟩) fun _ s6 ⟨σ6, H6, I6, e6, e6'⟩ => ?_
      subst e6 e6'
      refine thn (he cl H2.objs.size s H fp _ s6 _ _ _ I6 (step y H6 y5)) fun v s7 ⟨z, H7, I7, r7, hD7, hz7, m', hm', w7⟩ => ?_
      refine thn (fQ _ s7 _ H7 (.ref s.heap.objs.size) [z] _ [v] (fun _ H' => H' = upd H7 s.heap.objs.size (.lst (acc ++ [z]))) I7 rfl (.cons r7 .nil) ⟨_, acc, z, rfl, rfl, hD7, hz7, rfl⟩) fun _ s8 ⟨_, H8, I8, _, e8⟩ => ?_
      subst e8
      refine ⟨m', hm', i + 1, _, acc ++ [z], _, I8.jY, T.keep _ _ _ st5 fun b hb o e => (I8.pin (b, o) (List.mem_append_right _ (List.mem_append_right _ (je hb e)))).1, fun b hb => ?_, w7⟩
      obtain ⟨o, e, d⟩ := T.obj _ _ st5 b hb
      exact (I8.pin (b, o) (List.mem_append_right _ (List.mem_append_right _ (je hb e)))).2.1
  exact codeAny_compStart_list loop (T.self _ 0 _ _ _ st₁ loop)
theorem z_ {elt iter : Expr} {px pos : Pos} {wi : TI} {te : TE} (O : qJ X scope cl x N fr) (hi : PI X (.Name x px) iter wi) (he : ∀ cl C s₀ H₀ ex, PE (cO X (x :: N) scope cl C s₀ H₀ ex) elt te)
    (hs : ∀ x, foldedSetIterable iter X.env x = pure x := by intro _; rfl) : PE X (.ListComp elt [⟨.Name x px, iter, [], 0⟩] scope pos) (tLC wi fr te) := by
  intro pins s σ H Q I h
  rw [eval_ListComp]
  refine wpAny_comprehension_free (use := none) rfl hs O.clos O.kind O.names (thn (hi pins s σ H _ I h) fun v s1 h1 => thn h1 fun itv s2 h2 => ?_)
  obtain ⟨it, fp, tn, J, H2, rfl, I2, T, st2, f2, q⟩ := h2
  refine xO (RR := fun acc C => compPost (model X.prog X.w) X.A X.xe none (EP X pins σ Q) acc C) O he I2 T st2 f2 q ?_
  intro D C H' s' hDC hC hns hCn I' q'
  obtain ⟨m, hn⟩ := hns
  refine ⟨m, hn, fun h'' hs'' => ⟨.ref D, H', ?_, rfl, q'⟩⟩
  obtain ⟨g0, g1, g2, g3, g4, g5⟩ := I2.wD hC hCn
  exact I'.turned (t' := s'.toks) (fun b o hb e => hs''.extBut b o hb e) g0 g1 g3 g4 g5
theorem JN {elt iter : Expr} {y : Str} {py px pos spos : Pos} {i : Nat} {wi : TI} {te : TE} (O : qJ X scope cl x N fr) (hN : X.N.Nodup) (hiN : X.N[i]? = some y) (hy : Loc X.env.scope y) (hi : PI X (.Name x px) iter wi) (he : ∀ cl C s₀ H₀ ex, PE (cO X (x :: N) scope cl C s₀ H₀ ex) elt te)
    (hsw : swapsWith (.ListComp elt [⟨.Name x px, iter, [], 0⟩] scope pos) (some (.Name y py)) spos.line X.env = pure true := by rfl) (hs : ∀ x, foldedSetIterable iter X.env x = pure x := by intro _; rfl)
    (hf : X.fn y = true \/ X.env.scope.names.lookup y = some .local := by first | exact .inl rfl | exact .inr rfl | assumption) :
    PS X (.Assign [.Name y py] (.ListComp elt [⟨.Name x px, iter, [], 0⟩] scope pos) spos) (HJ (tLC wi fr te) (pF i)) := by
  intro pins s σ H D I h
  rw [exec_Assign_Name_used _ _ _ _ hsw]
  refine wpAny_bind (wpAny_standAt (wpAny_bind ?_))
  show wpAny _ _ (do let _ <- comprehension (.ListComp elt [⟨.Name x px, iter, [], 0⟩] scope pos) scope X.env _ (newList []) false (eval iter X.env) (some (assign (.Name y py) X.env))) _ _ s
  refine wpAny_bind (wpAny_mono (wpAny_comprehension_free (use := some (assign (.Name y py) X.env)) (Q := fun _ s' => SP X pins D .next s') rfl hs O.clos O.kind O.names
    (thn (hi pins s σ H _ I h) fun v s1 h1 => thn h1 fun itv s2 h2 => ?_)) (fun _ s' hq => wpAny_pure (wpAny_pure hq)) fun _ _ e => e)
  obtain ⟨it, fp, tn, J, H2, rfl, I2, T, st2, f2, q⟩ := h2
  refine xO (RR := fun acc C => compPost (model X.prog X.w) X.A X.xe (some (assign (.Name y py) X.env)) (fun _ s' => SP X pins D .next s') acc C) (Q := fun v H1 => pF i v σ H1 D.nx) O he I2 T st2 f2 q ?_
  intro D' C H' s' hDC hC hns hCn I' q'
  obtain ⟨m, hn⟩ := hns
  obtain ⟨g0, g1, g2, g3, g4, g5⟩ := I2.wD hC hCn
  show wpAny _ _ (assign (.Name y py) X.env (.ref D')) _ _ _
  refine wpAny_assign_Name (tU I' hN hiN hy (v := .ref D') rfl (fun s3 I3 hch => ?_) hf)
  obtain ⟨a, sb, ha⟩ := hch
  have hCa : C ≠ a := by
    rcases ha with z | z
    · rw [z]; exact g1
    · exact fun e => g4 y a z e.symm
  refine ⟨m, hn.sameBut sb hCa, fun h'' hs'' => ⟨_, H', I3.turned (t' := s3.toks) (fun b o hb e => hs''.extBut b o hb e) g0 g1 g3 g4 g5, q'⟩⟩
end
theorem ni {K : PySem.W.Frag} {te : TE} {σc : List (Option V)} {a : Addr} {xs : List V} {H : Hp} {R : Addr -> Hp -> Prop} (f : V -> V) (hS : SqL K H a xs) (hz : xs.length <= 1000)
    (ht : ∀ (y : V) (v0 : Option V) (H2 : Hp) (Q2 : VK), y ∈ xs -> Same H H2 -> Q2 (f y) H2 -> te (some y :: σc) H2 Q2) (hq : ∀ (D : Addr) (H' : Hp), H D = none -> Same H H' -> H' D = some (.lst (xs.map f)) -> R D H') :
    ∀ D, H D = none -> ∃ W : Nat -> Nat -> St -> List V -> Hp -> Prop, (∃ m, W 0 m (none :: σc) [] (upd H D (.lst []))) /\
      ∀ i m σ2 acc H2, W i m σ2 acc H2 -> H2 D = some (.lst acc) /\ (((Itl K a).stop i H2 /\ R D H2) \/ ((Itl K a).go i H2 /\ ∀ y H3, (Itl K a).yld i H2 y H3 -> te (σ2.set 0 (some y)) H3 fun v H4 =>
        H4 D = some (.lst acc) /\ acc.length < sizeLine /\ ∃ m', m' < m /\ W (i + 1) m' (σ2.set 0 (some y)) (acc ++ [v]) (upd H4 D (.lst (acc ++ [v]))))) := by
  intro D hD
  refine ⟨fun i m σ2 acc H2 => m = xs.length - i /\ i <= xs.length /\ (∃ v0, σ2 = v0 :: σc) /\ acc = (xs.take i).map f /\ Same H H2 /\ H2 D = some (.lst acc), ⟨xs.length, by simp, Nat.zero_le _, ⟨none, rfl⟩, by simp, aQ hD _, aH⟩, ?_⟩
  rintro i m σ2 acc H2 ⟨rfl, hi, ⟨v0, rfl⟩, rfl, s2, hd⟩
  refine ⟨hd, ?_⟩
  have q := s2.seq hS
  by_cases hlt : i < xs.length
  · refine .inr ⟨⟨xs, xs[i], q, by simp [hlt]⟩, fun y H3 hy => ?_⟩
    obtain ⟨e, hy⟩ := hy
    subst e
    have hy' := hy xs q
    rw [List.getElem?_eq_getElem hlt] at hy'
    have hy2 : xs[i] = y := Option.some.inj hy'
    subst hy2
    refine ht xs[i] v0 H3 _ (List.getElem_mem hlt) s2 ⟨hd, ?_, xs.length - (i + 1), by omega, rfl, hlt, ⟨_, rfl⟩, ?_, fun b o e => ?_, aH⟩
    · rw [List.length_map, List.length_take]
      exact eF (by omega)
    · rw [List.take_succ_eq_append_getElem hlt, List.map_append]
      all_goals rfl
    · rw [bK (bU e hD)]
      exact s2 _ _ e
  · have e : i = xs.length := by omega
    subst e
    refine .inl ⟨⟨xs, q, Nat.le_refl _⟩, ?_⟩
    rw [List.take_length] at hd
    exact hq D H2 hD s2 hd
theorem Hi {te : TE} {σc : List (Option V)} {lo : Int} {n : Nat} {H : Hp} {R : Addr -> Hp -> Prop} (f : Nat -> V) (hz : n <= 1000)
    (ht : ∀ (i : Nat) (v0 : Option V) (H2 : Hp) (Q2 : VK), i < n -> Same H H2 -> Q2 (f i) H2 -> te (some (.int (lo + i)) :: σc) H2 Q2) (hq : ∀ (D : Addr) (H' : Hp), H D = none -> Same H H' -> H' D = some (.lst ((List.range n).map f)) -> R D H') :
    ∀ D, H D = none -> ∃ W : Nat -> Nat -> St -> List V -> Hp -> Prop, (∃ m, W 0 m (none :: σc) [] (upd H D (.lst []))) /\
      ∀ i m σ2 acc H2, W i m σ2 acc H2 -> H2 D = some (.lst acc) /\ (((Itr lo n).stop i H2 /\ R D H2) \/ ((Itr lo n).go i H2 /\ ∀ y H3, (Itr lo n).yld i H2 y H3 -> te (σ2.set 0 (some y)) H3 fun v H4 =>
        H4 D = some (.lst acc) /\ acc.length < sizeLine /\ ∃ m', m' < m /\ W (i + 1) m' (σ2.set 0 (some y)) (acc ++ [v]) (upd H4 D (.lst (acc ++ [v]))))) := by
  intro D hD
  refine ⟨fun i m σ2 acc H2 => m = n - i /\ i <= n /\ (∃ v0, σ2 = v0 :: σc) /\ acc = (List.range i).map f /\ Same H H2 /\ H2 D = some (.lst acc), ⟨n, by simp, Nat.zero_le _, ⟨none, rfl⟩, by simp, aQ hD _, aH⟩, ?_⟩
  rintro i m σ2 acc H2 ⟨rfl, hi, ⟨v0, rfl⟩, rfl, s2, hd⟩
  refine ⟨hd, ?_⟩
  by_cases hlt : i < n
  · refine .inr ⟨hlt, fun y H3 hy => ?_⟩
    obtain ⟨e, hy⟩ := hy
    subst e hy
    refine ht i v0 H3 _ hlt s2 ⟨hd, ?_, n - (i + 1), by omega, rfl, hlt, ⟨_, rfl⟩, ?_, fun b o e => ?_, aH⟩
    · rw [List.length_map, List.length_range]
      exact eF (by omega)
    · rw [List.range_succ, List.map_append]
      all_goals rfl
    · rw [bK (bU e hD)]
      exact s2 _ _ e
  · have e : i = n := by omega
    subst e
    exact .inl ⟨Nat.le_refl _, hq D H2 hD s2 hd⟩
end L2
namespace L2
open PySem
theorem mid {X : Cx} {b : List Stmt} {D : Ends} {I : St -> Hp -> Prop} (n : Nat) (J : St -> Hp -> Prop) (h2 : ∃ t, PSs X (b.drop n) t /\ ∀ σ H, J σ H -> t D σ H)
    (h1 : ∀ t, PSs X (b.drop n) t -> (∀ σ H, J σ H -> t D σ H) -> ∃ t', PSs X b t' /\ ∀ σ H, I σ H -> t' D σ H) : ∃ t', PSs X b t' /\ ∀ σ H, I σ H -> t' D σ H := by
  obtain ⟨t, a, c⟩ := h2
  exact h1 t a c
theorem mid0 {X : Cx} {b : List Stmt} {D : Ends} {σ : St} {H : Hp} (n : Nat) (J : St -> Hp -> Prop) (h2 : ∃ t, PSs X (b.drop n) t /\ ∀ σ H, J σ H -> t D σ H)
    (h1 : ∀ t, PSs X (b.drop n) t -> (∀ σ H, J σ H -> t D σ H) -> ∃ t', PSs X b t' /\ t' D σ H) : ∃ t', PSs X b t' /\ t' D σ H := by
  obtain ⟨t, a, c⟩ := h2
  exact h1 t a c
end L2
namespace L2
open PySem PySem.Spec PyProof.Rows
section
variable {X : Cx}
noncomputable def Ite (K : PySem.W.Frag) (a : Addr) : It :=
  ⟨fun i H => ∃ xs x, SqL K H a xs /\ xs[i]? = some x, fun i H y H' => ∃ p, H p = none /\ y = .ref p /\ ∀ xs, SqL K H a xs -> ∃ x, xs[i]? = some x /\ H' = upd H p (.tup [.int i, x]), fun i H => ∃ xs, SqL K H a xs /\ xs.length <= i⟩
theorem Cp {P : Program} {w : World} {K : PySem.W.Frag} {elts : List Expr} {x1 : Nat} {tpos : Pos} (a e it : Addr) (hne : e ≠ it) :
    Turn P w K (.Tuple elts x1 tpos) (Ite K a) [e, it] e (fun i h => (∃ old, IsEnum h e it i old) /\ h.IsListIter it a i) where
  mem := by simp
  obj := fun i h st b hb => by
    obtain ⟨⟨old, s1⟩, o, e2, c, d⟩ := st
    rcases List.mem_cons.mp hb with rfl | hb
    · exact ⟨_, s1, fun v z => by
        have z' : Data.fields _ = Data.cell v := z
        cases z'⟩
    · have : b = it := by simpa using hb
      subst this
      exact ⟨o, e2, fun v z => by rw [d] at z; cases z⟩
  keep := fun i h h' st k => ⟨let ⟨old, s1⟩ := st.1; ⟨old, k e (by simp) _ s1⟩, st.2.at fun o q => k it (by simp) o q⟩
  item := by
    intro X hP hw hK hc i pins s σ H E I hf st hg
    subst hP hw hK
    obtain ⟨xs, x, hq, hx⟩ := hg
    obtain ⟨⟨old, se⟩, sl⟩ := st
    obtain ⟨its, rv, p, hz⟩ := I.list hq
    obtain ⟨u, hu, ru⟩ := rv.get hx
    obtain ⟨f0, f1, f2, f3, f4, f5⟩ := hf e (by simp)
    obtain ⟨g0, g1, g2, g3, g4, g5⟩ := hf it (by simp)
    refine wpAny_pyNext_enum_item se sl p.isList (x := u) (by simpa using hu) hne fun h' heo hit' ht' hsz kk => ⟨_, rfl, ?_⟩
    refine wpAny_letOwnedTupleGo_enum heo fun h2 he2 sb2 => ?_
    have hnp : H s.heap.objs.size = none := I.hok.fresh (Nat.le_refl _)
    have hpe : s.heap.objs.size ≠ e := Nat.ne_of_gt (Heap.lt_size se)
    have kk2 : ∀ b o, b ≠ e -> b ≠ it -> s.heap.get? b = some o -> h2.get? b = some o := fun b o h1 h2' q => sb2.extBut b o h1 (kk b o h1 h2' q)
    have ht2 : h2.get? s.heap.objs.size = some { cls := .type "tuple", data := .seq #[.int i s.toks, u] } := sb2.extBut _ _ hpe ht'
    have nit : ∀ b v, H b = some v -> b ≠ e /\ b ≠ it /\ b ≠ s.heap.objs.size := fun b v q => ⟨fun z => (by rw [z, f0] at q; cases q), fun z => (by rw [z, g0] at q; cases q), bU q hnp⟩
    have I1 : Inv X pins σ (upd H s.heap.objs.size (.tup [.int i, x])) { s with heap := h2, toks := s.toks + 1 } := by
      refine I.step (g' := s.gens) (d' := s.drawn) (ch := [e, it]) (fun b hb => ?_) (fun b o _ _ hcb q _ => kk2 b o (fun z => hcb (by simp [z])) (fun z => hcb (by simp [z])) q)
        (fun b o _ _ hcb q _ => ⟨o.slots, kk2 b o (fun z => hcb (by simp [z])) (fun z => hcb (by simp [z])) q⟩) (fun b o _ q n => by rw [bK (Nat.ne_of_lt (Heap.lt_size q))]; exact n)
        (fun b o hcb q => ⟨o, kk2 b o (fun z => hcb (by simp [z])) (fun z => hcb (by simp [z])) q⟩) (fun b ys q => by rw [bK (nit b _ q).2.2]; exact q) (fun b o' u' q => by rw [bK (nit b _ q).2.2]; exact q)
        (fun b ps q => ⟨#[], by rw [bK (nit b _ q).2.2, q]; simp⟩) (fun m hm => ?_) (fun b v q => ?_) I.bare
      · rcases List.mem_cons.mp hb with rfl | hb
        · exact ⟨f3, f1, f4, f5⟩
        · have : b = it := by simpa using hb
          subst this
          exact ⟨g3, g1, g4, g5⟩
      · obtain ⟨o, es, ep, ho, r⟩ := hm
        exact ⟨o, es, ep, kk2 _ o (Ne.symm f1) (Ne.symm g1) ho, r⟩
      · by_cases hb : b = s.heap.objs.size
        · subst hb
          rw [aH] at q
          cases q
          exact ⟨by show 2 <= sizeLine; decide, [.int i s.toks, u], .cons ⟨_, rfl⟩ (.cons ru .nil), ⟨_, ht2, rfl, _, rfl⟩⟩
        · rw [bK hb] at q
          refine (I.hok b v q).stay (fun c v' hc2 q' => ?_) (fun c q' => by rw [bK (nit c _ q').2.2]; exact q') fun c ys q' => by rw [bK (nit c _ q').2.2]; exact q'
          rcases hc2 with z | z
          · subst z; exact kk2 _ _ (nit _ _ q).1 (nit _ _ q).2.1 q'
          · exact kk2 _ _ (nit _ _ z).1 (nit _ _ z).2.1 q'
    refine ⟨.ref s.heap.objs.size, _, I1, rfl, ⟨s.heap.objs.size, hnp, rfl, fun ys hy => ⟨x, by rw [I.xG hy hq]; exact hx, rfl⟩⟩, ⟨⟨u, by exact_mod_cast he2⟩, hit'.extBut sb2.extBut (Ne.symm hne)⟩, fun b hb => ?_⟩
    rw [bK ?_]
    · exact (hf b hb).1
    · rcases List.mem_cons.mp hb with rfl | hb
      · exact Ne.symm hpe
      · have : b = it := by simpa using hb
        subst this
        obtain ⟨o, ho, _⟩ := sl
        exact Nat.ne_of_lt (Heap.lt_size ho)
  done := by
    intro X hP hw hK hc i pins s σ H E I hf st hg
    subst hP hw hK
    obtain ⟨xs, hq, hx⟩ := hg
    obtain ⟨⟨old, se⟩, sl⟩ := st
    obtain ⟨its, rv, p, hz⟩ := I.list hq
    obtain ⟨g0, g1, g2, g3, g4, g5⟩ := hf it (by simp)
    have hl := rv.length
    exact wpAny_pyNext_enum_end (I.ok.hd hc) se sl p.isList (by simp; omega) fun h' eb => ⟨rfl, I.turned (t' := s.toks) (fun b o hb q => eb b o hb q) g0 g1 g3 g4 g5⟩
  self := fun A i s Q E st h => by
    obtain ⟨⟨old, se⟩, sl⟩ := st
    exact wpAny_pyIter_enum se h
variable {elts : List Expr} {x1 : Nat} {tpos : Pos}
noncomputable def iEnum (K : PySem.W.Frag) (ta : TA) : TI := fun σ H R => ta σ H fun vs H1 => ∃ a, vs = [.ref a] /\ (∃ xs, SqL K H1 a xs) /\ R (Ite K a) H1
theorem vG {l : Expr} {ta : TA} {p pos : Pos} (hg : Gl X "enumerate") (hm : X.mg "enumerate" = none) (ha : PA X [l] ta) (hs : starEach [l] X.env = [(false, eval l X.env)] := by rfl) :
    PI X (.Tuple elts x1 tpos) (.Call (.Name "enumerate" p) [l] [] pos) (iEnum X.K ta) := by
  intro pins s σ H R I h
  refine Call_ (jT I hg hm boot_enumerate (PyProof.Rows.callWith_type1 (thn (ha pos pins s σ H _ I h) fun us s1 ⟨vs, H1, I1, r1, q1⟩ => ?_) hs rfl))
  obtain ⟨a, e, ⟨xs, hq⟩, q⟩ := q1
  subst e
  obtain ⟨u, rfl, rx⟩ := vals1 r1
  cases rx
  obtain ⟨its, rv, pl, hz⟩ := I1.list hq
  refine call_enumerate_list pl.isList fun h' he hit hsz kp => ?_
  refine wpAny_pyIter_enum he ?_
  refine ⟨s1.heap.objs.size + 1, [s1.heap.objs.size + 1, s1.heap.objs.size], _, _, H1, rfl, I1.kept (t' := s1.toks) kp, Cp a _ _ (Nat.ne_of_gt (Nat.lt_succ_self _)), ⟨⟨_, he⟩, hit⟩, fun b hb => ?_, q⟩
  rcases List.mem_cons.mp hb with rfl | hb
  · exact I1.wD (Nat.le_succ _) (I1.hok.fresh (Nat.le_succ _))
  · have : b = s1.heap.objs.size := by simpa using hb
    subst this
    exact I1.wD (Nat.le_refl _) (I1.hok.fresh (Nat.le_refl _))
theorem q_ {K : PySem.W.Frag} {a : Addr} {xs : List V} {g : TG} {tb : TS} {D : Ends} {σ : St} {H : Hp} (Pv : Nat -> St -> Hp -> Prop) (h0 : Pv 0 σ H) (hl : ∀ i σ H, i <= xs.length -> Pv i σ H -> SqL K H a xs)
    (hs : ∀ i x σ H p, xs[i]? = some x -> Pv i σ H -> H p = none -> g (.ref p) σ (upd H p (.tup [.int i, x])) fun σ2 H2 => tb { D with nx := Pv (i + 1), ct := Pv (i + 1), bk := D.nx } σ2 H2) (hd : ∀ σ H, Pv xs.length σ H -> D.nx σ H) :
    ∃ W : Nat -> Nat -> St -> Hp -> Prop, (∃ m, W 0 m σ H) /\ ∀ i m σ H, W i m σ H ->
      ((Ite K a).stop i H /\ D.nx σ H) \/ ((Ite K a).go i H /\ ∃ N : St -> Hp -> Prop, (∀ σ' H', N σ' H' -> ∃ m', m' < m /\ W (i + 1) m' σ' H') /\ ∀ x H', (Ite K a).yld i H x H' -> g x σ H' fun σ2 H2 => tb { D with nx := N, ct := N, bk := D.nx } σ2 H2) := by
  refine ⟨fun i m σ H => m = xs.length - i /\ i <= xs.length /\ Pv i σ H, ⟨xs.length, by simp, Nat.zero_le _, h0⟩, ?_⟩
  rintro i m σ H ⟨rfl, hi, p⟩
  have q := hl i σ H hi p
  by_cases hlt : i < xs.length
  · refine .inr ⟨⟨xs, xs[i], q, by simp [hlt]⟩, Pv (i + 1), fun σ' H' p' => ⟨xs.length - (i + 1), by omega, rfl, hlt, p'⟩, fun y H' hy => ?_⟩
    obtain ⟨pp, hn, rfl, hy⟩ := hy
    obtain ⟨x, hx, rfl⟩ := hy xs q
    exact hs i x σ H pp hx p hn
  · have e : i = xs.length := by omega
    subst e
    exact .inl ⟨⟨xs, q, Nat.le_refl _⟩, hd σ H p⟩
end
end L2
namespace Zf
open PySem L2
noncomputable def Good (c : List Int) : Prop := c ≠ [] -> c.getD (c.length - 1) 0 ≠ 0
inductive Bv (vs : List V) (H : Hp) (Q : VK) : Prop
  | mk (n : Int) (h0 : vs = [.int n]) (h1 : Q (.bl true) H) : Bv vs H Q
noncomputable def vg : Sp := fun vs H Q _ => Bv vs H Q
inductive SpAt (K : PySem.W.Frag) (vs : List V) (H : Hp) (Q : VK) : Prop
  | mk (a : Addr) (ns : List Int) (k : Int) (h0 : vs = [.ref a, .int k]) (h1 : SqL K H a (ns.map V.int)) (h2 : 0 <= k) (h3 : Q (.int (ns.getD k.toNat 0)) H) : SpAt K vs H Q
noncomputable def Kr (K : PySem.W.Frag) : Sp := fun vs H Q _ => SpAt K vs H Q
inductive Kp (vs : List V) (H : Hp) (Q : VK) : Prop
  | mk (c : Int) (h0 : vs = [.int c]) (h1 : ∀ (H' : Hp) (v : Int), Same H H' -> Bd 199 v -> Q (.int v) H') : Kp vs H Q
noncomputable def zY : Sp := fun vs H Q _ => Kp vs H Q
inductive BX (K : PySem.W.Frag) (vs : List V) (H : Hp) (Q : VK) : Prop
  | mk (a : Addr) (ns : List Int) (h0 : vs = [.ref a]) (h1 : SqL K H a (ns.map V.int)) (h2 : ns.length <= 63) (h3 : ∀ (r : Addr) (H' : Hp) (out : List Int), Same H H' -> H r = none -> H' r = some (IL out) -> out.length = ns.length -> (∀ x ∈ out, Bd 200 x) -> Good out -> Q (.ref r) H') : BX K vs H Q
noncomputable def vq (K : PySem.W.Frag) : Sp := fun vs H Q _ => BX K vs H Q
inductive Ko (K : PySem.W.Frag) (vs : List V) (H : Hp) (Q : VK) : Prop
  | mk (a d : Addr) (xs : List Int) (h0 : vs = [.ref a, .ref d]) (h1 : SqL K H a (xs.map V.int)) (h2 : SqL K H d (xs.map V.int)) (h3 : xs.length <= 1000) (h4 : Q (.bl true) H) : Ko K vs H Q
noncomputable def Eo (K : PySem.W.Frag) : Sp := fun vs H Q _ => Ko K vs H Q
inductive nW (K : PySem.W.Frag) (vs : List V) (H : Hp) (Q : VK) : Prop
  | mk (a : Addr) (c : List Int) (h0 : vs = [.ref a]) (h1 : SqL K H a (c.map V.int)) (h2 : Good c) (h3 : Q .non H) : nW K vs H Q
noncomputable def aR (K : PySem.W.Frag) : Sp := fun vs H Q _ => nW K vs H Q
inductive nU (K : PySem.W.Frag) (vs : List V) (H : Hp) (Q : VK) : Prop
  | mk (d : Addr) (p q : Int) (h0 : vs = [.ref d]) (h1 : SqT K H d [.int p, .int q]) (h2 : 0 < q) (h3 : Q .non H) : nU K vs H Q
noncomputable def dj (K : PySem.W.Frag) : Sp := fun vs H Q _ => nU K vs H Q
inductive xY (vs : List V) (H : Hp) (Q : VK) : Prop
  | mk (n : Int) (h0 : vs = [.int n]) (h1 : Q (.int (sgn n)) H) : xY vs H Q
noncomputable def qM : Sp := fun vs H Q _ => xY vs H Q
inductive Kl (K : PySem.W.Frag) (vs : List V) (H : Hp) (Q : VK) : Prop
  | mk (a : Addr) (ns : List Int) (h0 : vs = [.ref a]) (h1 : SqL K H a (ns.map V.int)) (h2 : ns.length <= 63) (h3 : ∀ H', Q (.bl true) H') : Kl K vs H Q
noncomputable def zX (K : PySem.W.Frag) : Sp := fun vs H Q _ => Kl K vs H Q
theorem u_ {i j : Int} (h : 0 < j) (h2 : j < 1073741824) : Kq i j := by
  refine ⟨h, Bd.log (n := 30) ?_ (by omega) (by decide)⟩
  unfold Bd
  omega
theorem small {n : Nat} (h : n <= 1000) : n <= sizeLine := Nat.le_of_lt (eF h)
theorem pQ {c : List Int} {i : Nat} (h : i < c.length) : c.getD i 0 ∈ c := by
  rw [List.getD_eq_getElem?_getD, List.getElem?_eq_getElem h]
  exact List.getElem_mem h
theorem q9 {c : List Int} {i : Nat} (h : c.length <= i) : c.getD i 0 = 0 := by
  rw [List.getD_eq_getElem?_getD, List.getElem?_eq_none h]
  rfl
theorem q8 (c : List Int) (x : Int) : c.map V.int ++ [V.int x] = (c ++ [x]).map V.int := by rw [List.map_append]; rfl
theorem map_set (c : List Int) (i : Nat) (x : Int) : (c.map V.int).set i (V.int x) = (c.set i x).map V.int := by rw [List.map_set]
theorem Ho {n : Nat} (h : n ≠ 0) : ixN n (-1) = some (n - 1) := by
  unfold ixN
  rw [if_neg (by decide), if_pos (by omega)]
  congr 1
  omega
end Zf
namespace Zf
open PySem L2
theorem Hw (ns : List Int) {lo hi : Int} {m : Nat} (h0 : 0 <= lo) (h1 : lo <= hi) (h2 : hi - lo <= m) : ∃ cs : List Int, jM (ns.map V.int) (some lo) (some hi) = cs.map V.int /\ cs.length <= m := by
  obtain ⟨i, rfl⟩ : ∃ i : Nat, lo = i := ⟨lo.toNat, by omega⟩
  obtain ⟨j, rfl⟩ : ∃ j : Nat, hi = j := ⟨hi.toNat, by omega⟩
  unfold jM
  rw [HT.vC, HT.vC, <- List.map_drop, <- List.map_take]
  exact ⟨_, rfl, by rw [List.length_take, List.length_drop, List.length_map]; omega⟩
end Zf
namespace Zf
open PySem L2
inductive Km (vs : List V) (H : Hp) (Q : VK) : Prop
  | mk (a b : Int) (h0 : vs = [.int a, .int b]) (h1 : Q (.int (Int.gcd a b)) H) : Km vs H Q
noncomputable def En : Sp := fun vs H Q _ => Km vs H Q
inductive Bx (K : PySem.W.Frag) (vs : List V) (H : Hp) (Q : VK) : Prop
  | mk (a : Addr) (c : List Int) (h0 : vs = [.ref a]) (h1 : SqL K H a (c.map V.int)) (h2 : Good c) (h3 : c.length <= 1000) (h4 : ∀ (r : Addr) (H' : Hp), H r = none -> Same H H' -> H' r = some (IL (aM c)) -> Q (.ref r) H') : Bx K vs H Q
noncomputable def jw (K : PySem.W.Frag) : Sp := fun vs H Q _ => Bx K vs H Q
noncomputable def Ep (c o : List Int) : List Int := if c = [] \/ o = [] then [] else mulL c o
inductive Bw (K : PySem.W.Frag) (vs : List V) (H : Hp) (Q : VK) : Prop
  | mk (a b : Addr) (c o : List Int) (h0 : vs = [.ref a, .ref b]) (h1 : SqL K H a (c.map V.int)) (h2 : SqL K H b (o.map V.int)) (h3 : Good c) (h4 : Good o) (h5 : c.length + o.length <= 1000) (h6 : (∀ x ∈ c, Bd 8000 x)) (h7 : (∀ x ∈ o, Bd 8000 x)) (h8 : ∀ (r : Addr) (H' : Hp), H r = none -> Same H H' -> H' r = some (IL (Ep c o)) -> Q (.ref r) H') : Bw K vs H Q
noncomputable def mY (K : PySem.W.Frag) : Sp := fun vs H Q _ => Bw K vs H Q
theorem Gj (a : Int) : 0 <= (if a < 0 then -a else a) := by split <;> omega
theorem Je (a b : Int) : Int.gcd (if a < 0 then -a else a) (if b < 0 then -b else b) = Int.gcd a b := by
  have e : ∀ x : Int, (if x < 0 then -x else x).natAbs = x.natAbs := fun x => by split <;> omega
  show Nat.gcd _ _ = Nat.gcd _ _
  rw [e, e]
theorem Jd {c : List Int} (h : Good c) (hne : c ≠ []) : 0 < ct c := by
  have hl : c.length - 1 < c.length := by have := List.length_pos_iff.mpr hne; omega
  exact Ge (x := c.getD (c.length - 1) 0) (pQ hl) (h hne)
noncomputable def tM (f : Int -> Int) : V -> V
  | .int n => .int (f n)
  | v => v
theorem ju (f : Int -> Int) (c : List Int) : (c.map V.int).map (tM f) = (c.map f).map V.int := by
  rw [List.map_map, List.map_map]
  rfl
end Zf
namespace Zf
open PySem L2 PS
inductive uD (K : PySem.W.Frag) (vs : List V) (H : Hp) (Q : VK) : Prop
  | mk (a : Addr) (c : List Int) (h0 : vs = [.ref a]) (h1 : SqL K H a (c.map V.int)) (h2 : c ≠ []) (h3 : Q .non H) : uD K vs H Q
noncomputable def bV (K : PySem.W.Frag) : Sp := fun vs H Q _ => uD K vs H Q
inductive uo (K : PySem.W.Frag) (vs : List V) (H : Hp) (Q : VK) : Prop
  | mk (a : Addr) (xs : List Int) (h0 : vs = [.ref a]) (h1 : SqL K H a (xs.map V.int)) (h2 : xs.length <= 1000) (h3 : ∀ (r : Addr) (H' : Hp) (e : Nat), H r = none -> Same H H' -> Trim xs e -> H' r = some (IL (xs.take e)) -> Q (.ref r) H') : uo K vs H Q
noncomputable def lH (K : PySem.W.Frag) : Sp := fun vs H Q _ => uo K vs H Q
theorem Hj {c o : List Int} {l k : Int} (ho : o ≠ []) (hlen : o.length <= c.length) (h : l * c.getD (c.length - 1) 0 = k * o.getD (o.length - 1) 0) {e : Nat} (ht : Trim (fW (c.map (l * ·)) o k (c.length - o.length) o.length) e) : e < c.length := by
  have o1 := List.length_pos_iff.mpr ho
  have h1 := ht.1
  rw [jd, List.length_map] at h1
  rcases Nat.lt_or_ge e c.length with z | z
  · exact z
  have e1 : e = c.length := by omega
  have h2 := ht.2.2 (by omega)
  rw [yZ _ _ _ _ _ _ (by rw [List.length_map]; omega), e1, if_pos ⟨by omega, by omega⟩] at h2
  have g1 : (c.map (l * ·)).getD (c.length - 1) 0 = l * c.getD (c.length - 1) 0 := by simp [List.getD_eq_getElem?_getD, show c.length - 1 < c.length by omega]
  rw [g1, show c.length - 1 - (c.length - o.length) = o.length - 1 by omega, h] at h2
  exact absurd (Int.sub_self _) h2
theorem Mu {n : Nat} {x : Int} (h : Bd n x) : Bd n (if x < 0 then -x else x) := by
  split
  · exact h.neg
  · exact h
theorem C_one : C 1 = (1 : PS) := rfl
theorem I_ {m n : Nat} {l : Int} {c : List Int} (hl : Bd m l) (hc : ∀ x ∈ c, Bd n x) : ∀ x ∈ c.map (l * ·), Bd (m + n) x := by
  intro x hx
  obtain ⟨y, hy, rfl⟩ := List.mem_map.mp hx
  exact hl.mul (hc y hy)
theorem Hu {xs : List Int} {e : Nat} (h : e <= xs.length) : jM (xs.map V.int) none (some (e : Int)) = (xs.take e).map V.int := by
  unfold jM
  rw [HT.vC, HT.wL, List.drop_zero, List.map_take, List.length_map]
  congr 1
  omega
end Zf
namespace L2
open PySem PySem.Spec PyProof.Rows
theorem Dy {P : Program} {w : World} {K : PySem.W.Frag} {mg mb : Str -> Option Value} {CX : CXT} {k : Nat} {fa a : Addr} {fd : FuncData} {x : Str} {sp : Sp} {s₁ : Shared} {vs : List Value} {ns : List Int}
    (KX : K.In s₁.heap) (hns : s₁.heap.Ns mainGlobals mg) (hb : s₁.heap.Ns builtinsNs mb) (hbb : ∀ x : Str, x ≠ "__name__" -> mb x = bootBuiltins x) (hlim : s₁.heap.NoLimit) (hsee : s₁.heap.NoSeer) (hg : s₁.gens = #[])
    (ha : s₁.heap.get? a = some { cls := .type "list", data := .seq vs.toArray }) (hi : IntsAre vs ns) (hl : ns.length <= sizeLine) (hr : jg k callerA)
    (F : ∀ base : Heap, K.In base -> base.Ns mainGlobals mg -> base.NoSeer -> bw P w K mg base CX k fa fd [x] sp) (hbind : ∀ (s : Shared) (u : Value), BindsTo s fd ⟨[u], []⟩ [(x, u)])
    (hsp : ∀ H : Hp, Only H -> SqL K H a (ns.map V.int) -> sp [.ref a] H (fun v _ => v = .bl true) fun _ _ _ => False)
    (hCX : ∀ H e s', CX [] H s₁ (fun _ _ _ => False) e s' -> False) :
    codeAny (model P w) callerA (.call (.ref fa) ⟨[.ref a], []⟩) (fun r s' => r = .ok (.ret (.bool true)) /\ OldK s₁.heap s'.heap /\ s'.os = s₁.os /\ AllBare s'.gens) s₁ := by
  have rv := tO hi
  have lenV := hi.length
  have core : ∀ H : Hp, Only H -> SqL K H a (ns.map V.int) -> HOk P w H s₁.heap -> (∀ b, H b ≠ none -> b = a) -> (H a ≠ none -> K.lookup a = none) ->
      codeAny (model P w) callerA (.call (.ref fa) ⟨[.ref a], []⟩) (fun r s' => r = .ok (.ret (.bool true)) /\ OldK s₁.heap s'.heap /\ s'.os = s₁.os /\ AllBare s'.gens) s₁ := by
    intro H hO hS hok hA hK
    have base_of : ∀ {b : Addr} {o : Obj}, s₁.heap.get? b = some o -> H b = none -> (sV s₁.heap H).get? b = some o := fun e n => Hq e n
    have noA : ∀ {b : Addr} {o : Obj} {es : Array DictEntry} {ep : Nat}, s₁.heap.get? b = some o -> o.data = .dict es ep -> H b = none := fun {b o es ep} e d => by
      cases q : H b with
      | none => rfl
      | some u =>
        have e' : b = a := hA b (by rw [q]; simp)
        subst e'
        rw [ha] at e; cases e
        have d' : Data.seq vs.toArray _ = Data.dict es ep := d
        cases d'
    have nsK : ∀ {b : Addr} {m : Str -> Option Value}, s₁.heap.Ns b m -> (sV s₁.heap H).Ns b m := fun {b m} ⟨o, es, ep, e, d, r⟩ => ⟨o, es, ep, base_of e (noA e d), d, r⟩
    have hKb : K.In (sV s₁.heap H) := fun b o e => base_of (KX b o e) (by
      cases q : H b with
      | none => rfl
      | some u =>
        have e' : b = a := hA b (by rw [q]; simp)
        subst e'
        rw [hK (by rw [q]; simp)] at e; cases e)
    have hM : Mod K mg (sV s₁.heap H) := ⟨hKb, nsK hns, ⟨mb, nsK hb, hbb⟩, let ⟨mc, h1, h2⟩ := hlim; ⟨mc, nsK h1, h2⟩⟩
    have e0 : H_ P w K mg (sV s₁.heap H) callerA [] s₁ H := ⟨rfl, hM, fun b o e => IW e, Nat.le_of_eq (DK _ _), trivial, fun b hb => absurd (show b ∈ ([] : List Addr) from hb) (by simp), hok, .of_eq hg⟩
    have hSee : (sV s₁.heap H).NoSeer := ⟨let ⟨mc, x1, x2⟩ := hsee.statics; ⟨mc, nsK x1, x2⟩, let ⟨mc, x1, x2⟩ := hsee.mods; ⟨mc, nsK x1, x2⟩, let ⟨mc, x1, x2⟩ := hsee.imp; ⟨mc, nsK x1, x2⟩,
      let ⟨mg', bm, ob, x1, x2, x3, x4, x5⟩ := hsee.main; ⟨mg', bm, ob, nsK x1, x2, base_of x3 (by
        cases q : H bm with
        | none => rfl
        | some u =>
          have e' : bm = a := hA bm (by rw [q]; simp)
          subst e'
          rw [ha] at x3
          cases x3
          have x4' : Value.type "list" = Value.type "module" := x4
          exact absurd x4' (by decide)), x4, x5⟩⟩
    refine codeAny_mono ((F _ hKb (nsK hns) hSee).run callerA [] s₁ H ⟨[.ref a], []⟩ [.ref a] [.ref a] _ _ hr e0 (hbind s₁ (.ref a)) (.cons rfl .nil) (hsp H hO hS)) fun r s' h => ?_
    cases r with
    | error e => exact (hCX H e s' h).elim
    | ok fl =>
      cases fl with
      | next => exact False.elim h
      | brk => exact False.elim h
      | cont => exact False.elim h
      | ret u =>
        obtain ⟨v, H', os, bare, un, hok', r', q⟩ := h
        have q' : v = .bl true := q
        subst q'
        obtain rfl : u = Value.bool true := r'
        refine ⟨rfl, OldK.of_keep fun b o e => ?_, os, bare⟩
        cases q : H b with
        | none => exact un.keep b o e q (by intro z; exact absurd (show b ∈ ([] : List Addr) from z) (by simp)) (by simp)
        | some u =>
          rcases hO b with z | ⟨ob, xs, z⟩
          · rw [q] at z; cases z
          · have z2 := un.lY b ob _ z
            obtain ⟨e1, _⟩ := hok b _ z
            obtain ⟨e2, _⟩ := hok' b _ z2
            rw [e] at e1; cases e1
            exact e2
  cases hk : K.lookup a with
  | some o =>
    have e := KX a o hk
    rw [ha] at e
    cases e
    refine core (fun _ => none) (fun _ => .inl rfl) (.inr ⟨_, vs.toArray, _, hk, rfl, rfl, rfl, by rw [List.size_toArray, lenV]; exact hl, by simpa using rv⟩) (fun b u z => by have z' : (none : Option HO) = some u := z; cases z') (fun b z => absurd rfl z) fun z => absurd rfl z
  | none =>
    refine core (fun b => if b = a then some (.frz { cls := .type "list", data := .seq vs.toArray } (.lst (ns.map V.int))) else none) (fun b => ?_) (.inl (.inr ⟨{ cls := .type "list", data := .seq vs.toArray }, if_pos rfl⟩)) (fun b u z => ?_) (fun b z => ?_) fun _ => hk
    · by_cases hb : b = a
      · exact .inr ⟨_, _, if_pos hb⟩
      · exact .inl (if_neg hb)
    · by_cases hb : b = a
      · have z' := (if_pos hb).symm.trans z
        cases z'
        subst hb
        exact ⟨ha, by rw [List.length_map]; exact hl, vs, _, rv, ha⟩
      · have z' := (if_neg hb).symm.trans z
        cases z'
    · by_cases hb : b = a
      · exact hb
      · exact absurd (if_neg hb) z
theorem Gr {l : PySem.W.OpenLaw} {n k : Nat} {q : Program} {loose : List Str} {XP : (Str -> Option Value) -> Heap -> Prop} {YP : World -> Heap -> Prop} {d : DefRec} {K : Params -> PySem.W.Frag} {CX : World -> CXT} {sp : World -> Sp} {x : Str}
    (hn : l.most = some n) (hn2 : n <= sizeLine) (himp : importsNone q = true) (hdf : d.params.defaults = []) (hr : jg k callerA)
    (hY : ∀ (w : World) (h : Heap), YP w h -> (K w.params).In h)
    (F : ∀ (w : World) (mg : Str -> Option Value) (fa : Addr) (h : Heap), (K w.params).In h -> h.Ns mainGlobals mg -> mg d.name = some (.ref fa) ->
      ∃ fd : FuncData, (∀ (s : Shared) (u : Value), BindsTo s fd ⟨[u], []⟩ [(x, u)]) /\
        ∀ base : Heap, (K w.params).In base -> base.Ns mainGlobals mg -> base.NoSeer -> bw l.prog w (K w.params) mg base (CX w) k fa fd [x] (sp w))
    (hsp : ∀ (w : World) (H : Hp) (a : Addr) (ns : List Int), ns.length <= n -> Only H -> SqL (K w.params) H a (ns.map V.int) -> sp w [.ref a] H (fun v _ => v = .bl true) fun _ _ _ => False)
    (hCX : ∀ (w : World) (H : Hp) (s : Shared) (e : Value) (s' : Shared), CX w [] H s (fun _ _ _ => False) e s' -> False) :
    PySem.W.WalkO q loose XP YP l.row.toRowW d [] (fun f vs => PySem.call f vs) := by
  refine Att.yF hn hdf fun w s₀ s₁ mg mb fa o pm cd doc a vs ns G Y ho hd hcd hmg hobj hints hlen hg => ?_
  have KX := hY w _ Y
  obtain ⟨fd, hb, hF⟩ := F w mg fa _ KX G.T.g hmg
  exact Dy KX G.T.g G.T.b G.T.builtins G.T.nolimit (G.T.seer himp) hg hobj hints (Nat.le_trans hlen hn2) hr hF hb (fun H hO hS => hsp w H a ns hlen hO hS) fun H e s' => hCX w H s₁ e s'
theorem nH {X : Cx} {env : Env} {l : List Env} (hN : X.base.NoSeer) (ht : X.prog.given.tree = none) (hst : X.stack = env :: l) (hgen : env.scope.isGenerator = false) (hco : env.scope.isCoroutine = false) (hb : env.builtins = builtinsNs) (hg : env.globals = mainGlobals)
    (hd : X.A.depth + 100 < recursionLimit) : OpR X (binaryOp .FloorDiv) (rI (fun _ j => 0 < j) fun i j => .int (i / j)) := by
  intro pins s σ H x y v u Q I rx ry h
  obtain ⟨i, j, rfl, rfl, hj, q⟩ := h
  have hj' : (0 : Int) < j := hj
  obtain ⟨t, rfl⟩ := rx
  obtain ⟨t', rfl⟩ := ry
  have R : PylongRoom (model X.prog X.w) X.A s := PylongRoom.of I.nolimit hd (SeerAt.of (hN.keeps I.bk) ht (by rw [I.ok.frames, hst]) hgen hco hb hg)
  exact floordiv_int (by omega) ⟨.int (i / j), H, I.tok _, ⟨_, by rw [Int.fdiv_eq_ediv_of_nonneg i (by omega)]⟩, q⟩ (.inr R)
end L2
namespace Zf
open PySem
theorem Bd.fZ {m n : Nat} {x y : Int} (h : Bd m x) (k : Bd n y) (hm : m + n <= 134217728 := by omega) : IntMulOk x y := by
  have e : (2 : Nat) ^ 27 = 134217728 := by decide
  have h1 := h.bits
  have h2 := k.bits
  have h3 : Builtin.Int.intTooBig (Builtin.Int.intBits x + Builtin.Int.intBits y) = false := by
    unfold Builtin.Int.intTooBig bitsLine
    exact decide_eq_false (by omega)
  unfold IntMulOk
  rw [h3]
  simp
end Zf
namespace L2
open PySem PySem.Spec PyProof.Rows
end L2
namespace Zf
open PySem L2 PS
inductive yd (K : PySem.W.Frag) (vs : List V) (H : Hp) (Q : VK) : Prop
  | mk (a : Addr) (c : List Int) (h0 : vs = [.ref a]) (h1 : SqL K H a (c.map V.int)) (h2 : Good c) (h3 : c.length <= 1000) (h4 : ∀ (r : Addr) (H' : Hp), H r = none -> Same H H' -> H' r = some (IL (aF c)) -> Q (.ref r) H') : yd K vs H Q
noncomputable def gR (K : PySem.W.Frag) : Sp := fun vs H Q _ => yd K vs H Q
inductive xV (K : PySem.W.Frag) (vs : List V) (H : Hp) (Q : VK) : Prop
  | mk (a b : Addr) (num o : List Int) (k s : Int) (m n : Nat) (h0 : vs = [.ref a, .ref b, .int k, .int s]) (h1 : SqL K H a (num.map V.int)) (h2 : SqL K H b (o.map V.int)) (h3 : 0 <= s) (h4 : s.toNat + o.length <= num.length) (h5 : num.length <= 1000) (h6 : Bd m k) (h7 : (∀ x ∈ o, Bd n x)) (h8 : m + n <= 134217728) (h9 : ∀ (r : Addr) (H' : Hp), H r = none -> Same H H' -> H' r = some (IL (fW num o k s.toNat o.length)) -> Q (.ref r) H') : xV K vs H Q
noncomputable def jZ (K : PySem.W.Frag) : Sp := fun vs H Q _ => xV K vs H Q
inductive rY (K : PySem.W.Frag) (vs : List V) (H : Hp) (Q : VK) : Prop
  | mk (a b : Addr) (c o : List Int) (mc no : Nat) (h0 : vs = [.ref a, .ref b]) (h1 : SqL K H a (c.map V.int)) (h2 : SqL K H b (o.map V.int)) (h3 : o ≠ []) (h4 : o.length <= c.length) (h5 : c.length <= 1000) (h6 : Good o) (h7 : (∀ x ∈ c, Bd mc x)) (h8 : (∀ x ∈ o, Bd no x)) (h9 : mc + no <= 134217728) (h10 : ∀ (r : Addr) (H' : Hp) (l k : Int) (e : Nat), H r = none -> Same H H' -> 0 < l -> (∀ n, (∀ x ∈ o, Bd n x) -> Bd n l) -> (∀ n, (∀ x ∈ c, Bd n x) -> Bd n k) -> e < c.length -> Trim (fW (c.map (l * ·)) o k (c.length - o.length) o.length) e -> H' r = some (IL ((fW (c.map (l * ·)) o k (c.length - o.length) o.length).take e)) -> Q (.ref r) H') : rY K vs H Q
noncomputable def mG (K : PySem.W.Frag) : Sp := fun vs H Q _ => rY K vs H Q
inductive BR (K : PySem.W.Frag) (vs : List V) (H : Hp) (Q : VK) : Prop
  | mk (a b : Addr) (c o : List Int) (m n : Nat) (h0 : vs = [.ref a, .ref b]) (h1 : SqL K H a (c.map V.int)) (h2 : SqL K H b (o.map V.int)) (h3 : Good c) (h4 : Good o) (h5 : o ≠ []) (h6 : c.length <= 1000) (h7 : o.length <= 1000) (h8 : (∀ x ∈ c, Bd m x)) (h9 : (∀ x ∈ o, Bd n x)) (h10 : m + (n + 1) * c.length + n <= 134217728) (h11 : ∀ (r : Addr) (H' : Hp) (s : List Int), H r = none -> Same H H' -> Left c o s -> s.length <= c.length -> (∀ x ∈ s, Bd (m + (n + 1) * c.length) x) -> H' r = some (IL (aF s)) -> Q (.ref r) H') : BR K vs H Q
noncomputable def jy (K : PySem.W.Frag) : Sp := fun vs H Q _ => BR K vs H Q
end Zf
namespace Zf
open PySem L2 PS
inductive Ca (K : PySem.W.Frag) (vs : List V) (H : Hp) (Q : VK) : Prop
  | mk (a : Addr) (c : List Int) (h0 : vs = [.ref a]) (h1 : H a = some (IL c)) (h2 : c.length <= 1000) (h3 : ∀ (r : Addr) (H' : Hp), (r = a \/ H r = none) -> Same H H' -> H' r = some (IL (ig c)) -> Q (.ref r) H') : Ca K vs H Q
noncomputable def vA (K : PySem.W.Frag) : Sp := fun vs H Q _ => Ca K vs H Q
theorem take_snoc {α : Type} {l : List α} {i : Nat} {x : α} (h : l[i]? = some x) : l.take (i + 1) = l.take i ++ [x] := by
  obtain ⟨hi, e⟩ := List.getElem?_eq_some_iff.mp h
  rw [List.take_succ_eq_append_getElem hi, e]
end Zf
namespace L2
open PySem
noncomputable def tJ (t : TS) : TS := fun D σ H => ∃ J : St -> Hp -> Prop, t { D with nx := J } σ H /\ ∀ σ' H', J σ' H' -> D.nx σ' H'
theorem SP.nx {X : Cx} {pins : List (Addr × Obj)} {D : Ends} {J : St -> Hp -> Prop} (h : ∀ σ' H', J σ' H' -> D.nx σ' H') {f : Flow} {s : Shared} (q : SP X pins { D with nx := J } f s) : SP X pins D f s := by
  cases f with
  | next => obtain ⟨σ', H', I, j⟩ := q; exact ⟨σ', H', I, h _ _ j⟩
  | brk => exact q
  | cont => exact q
  | ret v => exact q
theorem yL {X : Cx} {st : Stmt} {t : TS} (h : PS X st t) : PS X st (tJ t) := by
  intro pins s σ H D I hw
  obtain ⟨J, h1, h2⟩ := hw
  exact thn (h pins s σ H _ I h1) fun f s' q => SP.nx h2 q
end L2
namespace L2
end L2
namespace L2
open PySem
@[elab_as_elim] theorem by1 {motive : List Value -> Prop} {us : List Value} (hl : us.length = 1) (h : ∀ a, motive [a]) : motive us := by
  match us, hl with
  | [a], _ => exact h a
@[elab_as_elim] theorem by2 {motive : List Value -> Prop} {us : List Value} (hl : us.length = 2) (h : ∀ a b, motive [a, b]) : motive us := by
  match us, hl with
  | [a, b], _ => exact h a b
@[elab_as_elim] theorem by3 {motive : List Value -> Prop} {us : List Value} (hl : us.length = 3) (h : ∀ a b c, motive [a, b, c]) : motive us := by
  match us, hl with
  | [a, b, c], _ => exact h a b c
@[elab_as_elim] theorem by4 {motive : List Value -> Prop} {us : List Value} (hl : us.length = 4) (h : ∀ a b c d, motive [a, b, c, d]) : motive us := by
  match us, hl with
  | [a, b, c, d], _ => exact h a b c d
end L2
namespace L2
open PySem PySem.Spec PyProof.Rows
noncomputable def JC : TT := fun _ H Q => Q true H
noncomputable def PTs (X : Cx) (ifs : List Expr) (t : TT) : Prop := (ifs = [] /\ t = JC) \/ ∃ c, ifs = [c] /\ PT X c t
theorem pts0 {X : Cx} : PTs X [] JC := .inl ⟨rfl, rfl⟩
theorem Iu {X : Cx} {ifs : List Expr} {t : TT} (h : PTs X ifs t) (pins : List (Addr × Obj)) (s : Shared) (σ : St) (H : Hp) (Q : Bool -> Hp -> Prop) (I : Inv X pins σ H s) (q : t σ H Q) :
    wpAny (model X.prog X.w) X.A (forIn ifs true fun c r => if r = true then do let ok <- isTrue c X.env (eval c X.env); pure (ForInStep.yield ok) else pure (ForInStep.yield r)) (TP X pins σ Q) X.xe s := by
  rcases h with ⟨e1, e2⟩ | ⟨c, e1, e2⟩
  · subst e1
    rw [e2] at q
    exact wpAny_tests_nil ⟨H, I, q⟩
  · subst e1
    exact wpAny_tests_one (e2 _ s σ H _ I q)
noncomputable def nones (xs : List Str) : St := xs.map fun _ => none
noncomputable def tLCG (wi : TI) (xs : List Str) (fr : List Nat) (g : TG) (tc : TT) (te : TE) : TE := fun σ H Q => wi σ H fun J H1 => ∀ D, H1 D = none -> ∃ W : Nat -> Nat -> St -> List V -> Hp -> Prop, (∃ m, W 0 m (nones xs ++ fr.map fun i => σ.getD i none) [] (upd H1 D (.lst []))) /\
  ∀ i m σc acc H2, W i m σc acc H2 -> H2 D = some (.lst acc) /\ ((J.stop i H2 /\ Q (.ref D) H2) \/ (J.go i H2 /\ ∀ y H3, J.yld i H2 y H3 -> g y σc H3 fun σ' H' => tc σ' H' fun b H5 => if b = true then te σ' H5 fun v H4 =>
    H4 D = some (.lst acc) /\ acc.length < sizeLine /\ ∃ m', m' < m /\ W (i + 1) m' σ' (acc ++ [v]) (upd H4 D (.lst (acc ++ [v]))) else ∃ m', m' < m /\ W (i + 1) m' σ' acc H5))
structure nj (X : Cx) (scope : Scope) (cl : List (Str × Addr)) (xs : List Str) (N : List Str) (fr : List Nat) : Prop where
  clos : closureFor scope X.env = pure cl
  cell : ∀ y ∈ scope.names, y.2 ≠ .cell
  kind : scope.kind = .function
  names : ∀ y ∈ scope.names, y.2 = .local -> scope.names.lookup y.1 = some .local
  nd : (xs ++ N).Nodup
  ins : ∀ p ∈ cl, X.env.cells.lookup p.1 = some p.2
  has : ∀ y, ((relabel scope X.env).names.lookup y = some .cell \/ (relabel scope X.env).names.lookup y = some .free) -> ∃ c, cl.lookup y = some c
  len : fr.length = N.length
  frs : ∀ (j : Nat) (y : Str), N[j]? = some y -> ∃ i, fr[j]? = some i /\ X.N[i]? = some y /\ X.env.scope.names.lookup y = some .cell /\ (relabel scope X.env).names.lookup y = some .cell
  calm : X.calm = true
  xe : X.xe = fun _ _ => False
theorem Bq {X : Cx} {scope : Scope} {cl : List (Str × Addr)} {xs : List Str} {N : List Str} {fr : List Nat} (clos : closureFor scope X.env = pure cl) (cell : ∀ y ∈ scope.names, y.2 ≠ .cell) (kind : scope.kind = .function)
    (names : ∀ y ∈ scope.names, y.2 = .local -> scope.names.lookup y.1 = some .local) (nd : (xs ++ N).Nodup) (ins : ∀ p ∈ cl, X.env.cells.lookup p.1 = some p.2)
    (has : ((relabel scope X.env).names.all fun p => !(p.2 == .cell || p.2 == .free) || (cl.lookup p.1).isSome) = true) (fro : uH X (relabel scope X.env) N fr) (calm : X.calm = true) (xe : X.xe = fun _ _ => False) : nj X scope cl xs N fr :=
  ⟨clos, cell, kind, names, nd, ins, fun y hy => by
    have key : ∀ k : NameKind, (k = .cell \/ k = .free) -> (relabel scope X.env).names.lookup y = some k -> ∃ c, cl.lookup y = some c := fun k hk e => by
      have := List.all_eq_true.mp has _ (PySem.mem_of_lookup e)
      rcases hk with rfl | rfl
      · exact Option.isSome_iff_exists.mp (by simpa using this)
      · exact Option.isSome_iff_exists.mp (by simpa using this)
    rcases hy with hy | hy
    · exact key _ (.inl rfl) hy
    · exact key _ (.inr rfl) hy, fro.len, fro.get, calm, xe⟩
theorem tD {prog : Program} {w : World} {A : Around} {R : Result -> Shared -> Prop} {s : Shared} {elt target iter : Expr} {ifs : List Expr} {scope : Scope} {pos : Pos} {it acc : Value} {env : Env} (I : Nat -> Shared -> Prop)
    (turn : ∀ n s, I n s -> wpAny (model prog w) A (pyNext it) (fun r s₁ => match r with
      | none => R (.ok .next) s₁
      | some v => wpAny (model prog w) A (letOwnedTupleGo target it v) (fun _ s₁' => wpAny (model prog w) A (assign target env v) (fun _ s₂ =>
          wpAny (model prog w) A (forIn ifs true fun c r => if r = true then do let ok <- isTrue c env (eval c env); pure (ForInStep.yield ok) else pure (ForInStep.yield r)) (fun ok s₃ =>
          if ok = true then wpAny (model prog w) A (eval elt env) (fun x s₄ =>
            wpAny (model prog w) A (call (.builtin "list.append") [acc, x]) (fun _ s₅ => ∃ m, m < n /\ I m s₅) (fun _ _ => False) s₄) (fun _ _ => False) s₃
          else ∃ m, m < n /\ I m s₃) (fun _ _ => False) s₂)
          (fun _ _ => False) s₁') (fun _ _ => False) s₁) (fun _ _ => False) s)
    (n : Nat) (h : I n s) :
    codeAny (model prog w) A (.compLoop (.ListComp elt [⟨target, iter, ifs, 0⟩] scope pos) 0 it acc env) R s := by
  refine codeAny_loop rfl I (fun n s hI => ?_) n h
  show wpAny _ _ ((compTurn (.ListComp elt [⟨target, iter, ifs, 0⟩] scope pos) 0 it acc env).onRaise (fun x => do noteFrame x env; theTreesLotGoes x)) _ _ s
  refine wpAny_noted ?_
  rw [compTurn_list]
  refine wpAny_bind (wpAny_standAt (wpAny_bind (wpAny_mono (turn n s hI) (fun r s₁ h₁ => ?_) fun _ _ h' => h'.elim)))
  cases r with
  | none => exact wpAny_pure h₁
  | some v =>
    refine wpAny_bind (wpAny_mono h₁ (fun _ s₁' h₁' => ?_) fun _ _ h' => h'.elim)
    refine wpAny_bind (wpAny_mono h₁' (fun _ s₂ h₂ => wpAny_bind (wpAny_mono h₂ (fun ok s₃ h₃ => ?_) fun _ _ h' => h'.elim)) fun _ _ h' => h'.elim)
    cases ok with
    | false => exact wpAny_pure ⟨rfl, h₃⟩
    | true =>
      exact wpAny_bind (wpAny_bind (wpAny_mono h₃ (fun x s₄ h₄ => wpAny_bind (wpAny_mono h₄ (fun _ s₅ h₅ => wpAny_pure (wpAny_pure ⟨rfl, h₅⟩)) fun _ _ h' => h'.elim)) fun _ _ h' => h'.elim))
section
variable {X : Cx} {scope : Scope} {cl : List (Str × Addr)} {xs : List Str} {N : List Str} {fr : List Nat}
theorem yD {pins : List (Addr × Obj)} {σ : St} {H : Hp} {s : Shared} {fp : List Addr} {h1 : Heap} {D C : Addr} {tk : Nat} (O : nj X scope cl xs N fr) (I : Inv X pins σ H s) (hf : ∀ b ∈ fp, pW X pins H b) (hfl : ∀ b ∈ fp, b < s.heap.objs.size)
    (hD : s.heap.objs.size <= D) (hC : s.heap.objs.size <= C) (hDC : D ≠ C) (kp : ∀ b o, s.heap.get? b = some o -> h1.get? b = some o) (hns : ∃ m, h1.Ns C m) (hd : ∃ n, h1.get? D = some { cls := .type "list", data := .seq #[] n }) :
    Inv (cO X (xs ++ N) scope cl C s H fp) [] (nones xs ++ fr.map fun i => σ.getD i none) (upd H D (.lst [])) { s with heap := h1, toks := tk } := by
  have hn : H D = none := I.hok.fresh hD
  have hu : Un (frs X.stack) fp H (upd H D (.lst [])) s.heap h1 := Un.laid kp hD hn
  have cellH : ∀ y c, cl.lookup y = some c -> X.env.cells.lookup y = some c := fun y c e => O.ins _ (PySem.mem_of_lookup e)
  obtain ⟨m, hm⟩ := hns
  have okk : (cO X (xs ++ N) scope cl C s H fp).Ok := by
    refine ⟨I.ok.mod, ?_, I.ok.glob, I.ok.blt, hC, fun y z c e1 e2 => ?_, fun y hy => ?_, fun y c h _ => ?_, I.ok.hd, I.ok.frames, .inl rfl, fun b hb => ⟨?_, fun y c e => ?_⟩, I.bs, Nat.le_trans I.ok.bsz I.sz, fun b o e hb => ?_, fun b hb => ?_, I.stack, I.kO⟩
    · show (relabel scope X.env).kind = _
      exact O.kind
    · exact I.ok.inj y z c (cellH y c e1) (cellH z c e2)
    · exact O.has y hy
    · exact absurd h (by show ¬ (false = true); decide)
    · exact Nat.ne_of_lt (Nat.lt_of_lt_of_le (hfl b hb) hC)
    · exact (hf b hb).2.2.2.2.1 y c (cellH y c e)
    · obtain ⟨f0, f1, f2, f3, f4, f5⟩ := hf b hb
      rcases f3 with z | z
      · exact I.ok.yM b o e z
      · exact absurd (Nat.lt_of_lt_of_le (Heap.lt_size (I.ok.bs b o e).1) z) (Nat.lt_irrefl _)
    · obtain ⟨f0, f1, f2, f3, f4, f5⟩ := hf b hb
      intro z
      rcases List.mem_cons.mp (I.qD b z) with e | e
      · exact f1 e
      · exact f2 e
  refine ⟨okk, rfl, I.bare, hu, ⟨m, hm, fun j y v e1 e2 e3 => ?_⟩, fun y c e => ?_, ?_, fun y c e => ?_, fun p hp => absurd (show p ∈ ([] : List (Addr × Obj)) from hp) (by simp), ?_, ?_⟩
  · have hnl : (nones xs).length = xs.length := List.length_map _
    by_cases hj : j < xs.length
    · have e2' : (nones xs)[j]? = some (some v) := by rw [<- List.getElem?_append_left (by rw [hnl]; exact hj)]; exact e2
      rw [nones, List.getElem?_map, List.getElem?_eq_getElem hj] at e2'
      cases e2'
    · have e1a : (xs ++ N)[j]? = some y := e1
      have e1' : N[j - xs.length]? = some y := by rwa [List.getElem?_append_right (by omega)] at e1a
      have e2a : (nones xs ++ fr.map fun i => σ.getD i none)[j]? = some (some v) := e2
      rw [List.getElem?_append_right (by rw [hnl]; omega), hnl] at e2a
      generalize j - xs.length = j at e1' e2a
      obtain ⟨i, g1, g2, g3, g4⟩ := O.frs j y e1'
      have e2' := e2a
      rw [List.getElem?_map, g1] at e2'
      have e2'' : σ.getD i none = some v := Option.some.inj e2'
      have e4 : σ[i]? = some (some v) := by
        rw [List.getD_eq_getElem?_getD] at e2''
        cases q : σ[i]? with
        | none => rw [q] at e2''; cases e2''
        | some z => rw [q] at e2''; exact congrArg some e2''
      obtain ⟨m0, _, hl⟩ := I.loc
      obtain ⟨u, r, l⟩ := hl i y v g2 e4 (.inr (.inl g3))
      refine ⟨u, r, ?_⟩
      rcases l with ⟨k, _⟩ | ⟨k, c, e, z⟩
      · have k' : X.env.scope.names.lookup y = some .local := k
        rw [g3] at k'
        cases k'
      · obtain ⟨c', e'⟩ := O.has y (.inl g4)
        have := cellH y c' e'
        rw [e] at this
        cases this
        refine .inr ⟨.inl g4, c, e', ?_⟩
        obtain ⟨o, ho, hd'⟩ := z
        exact ⟨o, kp _ _ ho, hd'⟩
  · obtain ⟨v, o, ho, hd'⟩ := I.cell y c (cellH y c e)
    exact ⟨v, o, kp _ _ ho, hd'⟩
  · show upd H D (.lst []) C = none
    rw [bK (Ne.symm hDC)]
    exact I.hok.fresh hC
  · obtain ⟨v, o, ho, hd'⟩ := I.cell y c (cellH y c e)
    rw [bK (Nat.ne_of_lt (Nat.lt_of_lt_of_le (Heap.lt_size ho) hD))]
    exact I.jk y c (cellH y c e)
  · obtain ⟨n, e⟩ := hd
    exact I.hok.laid kp hD ⟨Nat.zero_le _, [], n, .nil, e⟩
  · show (nones xs ++ fr.map fun i => σ.getD i none).length = (xs ++ N).length
    rw [List.length_append, List.length_append, List.length_map, O.len]
    congr 1
    exact List.length_map _
theorem Eb {elt target iter : Expr} {ifs : List Expr} {pos : Pos} {g : TG} {tc : TT} {te : TE} {pins : List (Addr × Obj)} {σ : St} {H : Hp} {s : Shared} {it : Addr} {fp : List Addr} {tn : Nat -> Heap -> Prop} {J : It} {Q : VK} {E : Value -> Shared -> Prop} {RR : Value -> Addr -> Result -> Shared -> Prop}
    (O : nj X scope cl xs N fr) (hg : ∀ cl C s₀ H₀ ex, PG (cO X (xs ++ N) scope cl C s₀ H₀ ex) target g) (hc : ∀ cl C s₀ H₀ ex, PTs (cO X (xs ++ N) scope cl C s₀ H₀ ex) ifs tc) (he : ∀ cl C s₀ H₀ ex, PE (cO X (xs ++ N) scope cl C s₀ H₀ ex) elt te) (I : Inv X pins σ H s) (T : Turn X.prog X.w X.K target J fp it tn) (st : tn 0 s.heap) (hf : ∀ b ∈ fp, pW X pins H b)
    (h : ∀ D, H D = none -> ∃ W : Nat -> Nat -> St -> List V -> Hp -> Prop, (∃ m, W 0 m (nones xs ++ fr.map fun i => σ.getD i none) [] (upd H D (.lst []))) /\
      ∀ i m σc acc H2, W i m σc acc H2 -> H2 D = some (.lst acc) /\ ((J.stop i H2 /\ Q (.ref D) H2) \/ (J.go i H2 /\ ∀ y H3, J.yld i H2 y H3 -> g y σc H3 fun σ' H' => tc σ' H' fun b H5 => if b = true then te σ' H5 fun v H4 =>
        H4 D = some (.lst acc) /\ acc.length < sizeLine /\ ∃ m', m' < m /\ W (i + 1) m' σ' (acc ++ [v]) (upd H4 D (.lst (acc ++ [v]))) else ∃ m', m' < m /\ W (i + 1) m' σ' acc H5)))
    (hR : ∀ D C H' s', D ≠ C -> s.heap.objs.size <= C -> (∃ m, s'.heap.Ns C m) -> H' C = none -> Inv X pins σ H' s' -> Q (.ref D) H' -> RR (.ref D) C (.ok .next) s') :
    wpAny (model X.prog X.w) X.A (newList []) (fun acc s₃ => wpAny (model X.prog X.w) X.A (newFunctionEnv scope X.env.globals cl [] X.env.qual none .none (some X.env)) (fun cenv s₄ =>
      codeAny (model X.prog X.w) X.A (.compStart (.ListComp elt [⟨target, iter, ifs, 0⟩] scope pos) 0 (.ref it) acc { cenv with scope := relabel scope X.env }) (RR acc cenv.locals) s₄) E s₃) E s := by
  refine wpAny_newObj_type (wpAny_newFunctionEnv O.cell (by intro y hy; simp at hy) (fun h₁ hns₁ hsb₁ => ?_) O.kind)
  dsimp only at hns₁ hsb₁ ⊢
  generalize hH2 : s.heap.push { cls := .type "list", dict := none, data := .seq ([] : List Value).toArray } = H2 at hns₁ hsb₁ ⊢
  have hC : H2.objs.size = s.heap.objs.size + 1 := by rw [<- hH2, Heap.size_push]
  have hDC : s.heap.objs.size ≠ H2.objs.size := by rw [hC]; exact Nat.ne_of_lt (Nat.lt_succ_self _)
  have hCle : s.heap.objs.size <= H2.objs.size := by rw [hC]; exact Nat.le_succ _
  have below : ∀ b, b < s.heap.objs.size -> b ≠ H2.objs.size /\ b ≠ s.heap.objs.size := fun b hb => ⟨by rw [hC]; exact Nat.ne_of_lt (Nat.lt_succ_of_lt hb), Nat.ne_of_lt hb⟩
  have old : ∀ b o, s.heap.get? b = some o -> h₁.get? b = some o := fun b o e => hsb₁.extBut b o (below b (Heap.lt_size e)).1 (Heap.get?_push_of_some _ (hH2 ▸ Heap.get?_push_of_some _ e))
  have hacc : ∃ n, h₁.get? s.heap.objs.size = some { cls := .type "list", data := .seq #[] n } := ⟨_, hsb₁.extBut _ _ hDC (Heap.get?_push_of_some _ (hH2 ▸ Heap.get?_push_size _ rfl))⟩
  have hfl : ∀ b ∈ fp, b < s.heap.objs.size := fun b hb => by
    obtain ⟨o, e, _⟩ := T.obj _ _ st b hb
    exact Heap.lt_size e
  obtain ⟨W, ⟨m0, w0⟩, turn⟩ := h s.heap.objs.size (I.hok.fresh (Nat.le_refl _))
  have st₁ : tn 0 h₁ := T.keep _ _ _ st fun b hb o e => old b o e
  have I0 := yD (tk := s.toks + ([] : List (Str × Value)).length) O I hf hfl (Nat.le_refl _) hCle hDC old ⟨_, hns₁⟩ hacc
  have loop : codeAny (model X.prog X.w) X.A (.compLoop (.ListComp elt [⟨target, iter, ifs, 0⟩] scope pos) 0 (.ref it) (.ref s.heap.objs.size) (compEnvC scope cl H2.objs.size X.env))
      (RR (.ref s.heap.objs.size) H2.objs.size) { s with heap := h₁, toks := s.toks + ([] : List (Str × Value)).length } := by
    have stat : ∀ {H' : Hp}, (∀ b ∈ fp, H' b = none) -> ∀ b ∈ fp, pW (cO X (xs ++ N) scope cl H2.objs.size s H fp) [] H' b := fun {H'} hn b hb =>
      ⟨hn b hb, (I0.ok.exf b hb).1, I0.ok.yO b hb, .inl hb, (I0.ok.exf b hb).2, fun p hp => absurd (show p ∈ ([] : List (Addr × Obj)) from hp) (by simp)⟩
    refine tD (fun n s' => ∃ i σc acc H', Inv (cO X (xs ++ N) scope cl H2.objs.size s H fp) [] σc H' s' /\ tn i s'.heap /\ (∀ b ∈ fp, H' b = none) /\ W i n σc acc H') ?_ m0
      ⟨0, _, [], _, I0, st₁, fun b hb => by rw [bK (below b (hfl b hb)).2]; exact (hf b hb).1, w0⟩
    rintro n s3 ⟨i, σ3, acc, H3, I3, st3, fr3, w3⟩
    obtain ⟨hD3, q⟩ := turn i n σ3 acc H3 w3
    rcases q with ⟨stop, qn⟩ | ⟨go, step⟩
    · refine thn (T.done (cO X (xs ++ N) scope cl H2.objs.size s H fp) rfl rfl rfl O.calm i [] s3 σ3 H3 _ I3 (stat fr3) st3 stop) fun r s4 ⟨hr, I4⟩ => ?_
      subst hr
      refine hR _ _ H3 s4 hDC hCle ?_ I4.free ?_ qn
      · obtain ⟨m, hn, _⟩ := I4.loc
        exact ⟨m, hn⟩
      · refine I.call' I4.os I4.base I4.hok I4.bare fun b hb => ?_
        obtain ⟨f0, f1, f2, f3, f4, f5⟩ := hf b hb
        exact ⟨f3, f1, f4, f5⟩
    · refine thn (T.item (cO X (xs ++ N) scope cl H2.objs.size s H fp) rfl rfl rfl O.calm i [] s3 σ3 H3 _ I3 (stat fr3) st3 go) fun r s4 ⟨u, hr, h4⟩ => ?_
      subst hr
      refine thn h4 fun _ s5 ⟨y, H5, I5, r5, y5, st5, fr5⟩ => ?_
      obtain ⟨pins5, hp5, I5'⟩ : ∃ pins5, (∀ b ∈ fp, ∀ o, s5.heap.get? b = some o -> (b, o) ∈ pins5) /\ Inv (cO X (xs ++ N) scope cl H2.objs.size s H fp) pins5 σ3 H5 s5 := ⟨_, fun b hb o e => List.mem_append_right _ (je hb e), I5.pinned (stat fr5) (T.obj _ _ st5)⟩
      refine thn (hg cl H2.objs.size s H fp _ s5 σ3 H5 y u _ I5' r5 (step y H5 y5)) fun _ s6 ⟨σ6, H6, I6, q6⟩ => ?_
      refine thn (Iu (hc cl H2.objs.size s H fp) _ s6 σ6 H6 _ I6 q6) fun b s6b ⟨H6b, I6b, q6b⟩ => ?_
      have gone : ∀ {σ7 : St} {H7 : Hp} {s7 : Shared} {acc' : List V} {m' : Nat}, m' < n -> Inv (cO X (xs ++ N) scope cl H2.objs.size s H fp) pins5 σ7 H7 s7 -> W (i + 1) m' σ7 acc' H7 -> ∃ m, m < n /\ ∃ i σc acc H', Inv (cO X (xs ++ N) scope cl H2.objs.size s H fp) [] σc H' s7 /\ tn i s7.heap /\ (∀ b ∈ fp, H' b = none) /\ W i m σc acc H' := by
        intro σ7 H7 s7 acc' m' hm' I8 w7
        refine ⟨m', hm', i + 1, σ7, acc', H7, I8.jY, T.keep _ _ _ st5 fun b hb o e => (I8.pin (b, o) (List.mem_append_right _ (hp5 b hb o e))).1, fun b hb => ?_, w7⟩
        obtain ⟨o, e, d⟩ := T.obj _ _ st5 b hb
        exact (I8.pin (b, o) (List.mem_append_right _ (hp5 b hb o e))).2.1
      cases b with
      | false =>
        obtain ⟨m', hm', w7⟩ := q6b
        exact gone hm' I6b w7
      | true =>
        refine thn (he cl H2.objs.size s H fp _ s6b _ _ _ I6b q6b) fun v s7 ⟨z, H7, I7, r7, hD7, hz7, m', hm', w7⟩ => ?_
        refine thn (fQ _ s7 _ H7 (.ref s.heap.objs.size) [z] _ [v] (fun _ H' => H' = upd H7 s.heap.objs.size (.lst (acc ++ [z]))) I7 rfl (.cons r7 .nil) ⟨_, acc, z, rfl, rfl, hD7, hz7, rfl⟩) fun _ s8 ⟨_, H8, I8, _, e8⟩ => ?_
        subst e8
        exact gone hm' I8 w7
  exact codeAny_compStart_list loop (T.self _ 0 _ _ _ st₁ loop)
theorem Fj {elt target iter : Expr} {ifs : List Expr} {pos : Pos} {wi : TI} {g : TG} {tc : TT} {te : TE} (O : nj X scope cl xs N fr) (hi : PI X target iter wi) (hg : ∀ cl C s₀ H₀ ex, PG (cO X (xs ++ N) scope cl C s₀ H₀ ex) target g) (hc : ∀ cl C s₀ H₀ ex, PTs (cO X (xs ++ N) scope cl C s₀ H₀ ex) ifs tc) (he : ∀ cl C s₀ H₀ ex, PE (cO X (xs ++ N) scope cl C s₀ H₀ ex) elt te)
    (hs : ∀ z, foldedSetIterable iter X.env z = pure z := by intro _; rfl) : PE X (.ListComp elt [⟨target, iter, ifs, 0⟩] scope pos) (tLCG wi xs fr g tc te) := by
  intro pins s σ H Q I h
  rw [eval_ListComp]
  refine wpAny_comprehension_free (use := none) rfl hs O.clos O.kind O.names (thn (hi pins s σ H _ I h) fun v s1 h1 => thn h1 fun itv s2 h2 => ?_)
  obtain ⟨it, fp, tn, J, H2, rfl, I2, T, st2, f2, q⟩ := h2
  refine Eb (RR := fun acc C => compPost (model X.prog X.w) X.A X.xe none (EP X pins σ Q) acc C) O hg hc he I2 T st2 f2 q ?_
  intro D C H' s' hDC hC hns hCn I' q'
  obtain ⟨m, hn⟩ := hns
  refine ⟨m, hn, fun h'' hs'' => ⟨.ref D, H', ?_, rfl, q'⟩⟩
  obtain ⟨g0, g1, g2, g3, g4, g5⟩ := I2.wD hC hCn
  exact I'.turned (t' := s'.toks) (fun b o hb e => hs''.extBut b o hb e) g0 g1 g3 g4 g5
end
end L2
namespace L2
open PySem
theorem Same.Ly {H H2 : Hp} {D : Addr} {o : HO} (h : Same H H2) (hD : H D = none) : Same H (upd H2 D o) := fun b u e => by
  rw [bK (bU e hD)]
  exact h _ _ e
theorem Bb {K : PySem.W.Frag} {g : TG} {tc : TT} {te : TE} {xs : List Str} {σc : List (Option V)} {a : Addr} {ws : List V} {H : Hp} {R : Addr -> Hp -> Prop} (p : Nat -> Bool) (Rel : Addr -> Nat -> V -> Hp -> Prop) (τ : Nat -> St) (hS : SqL K H a ws) (hz : ws.length <= 1000)
    (mono : ∀ D i v H1 H2, (∀ b o, b ≠ D -> H1 b = some o -> H2 b = some o) -> Rel D i v H1 -> Rel D i v H2) (hτ : ∀ i, (τ i).length = (nones xs).length)
    (hg : ∀ (i : Nat) (y : V) (σ0 : St) (H2 : Hp) (Q2 : St -> Hp -> Prop), ws[i]? = some y -> Same H H2 -> σ0.length = (nones xs).length -> Q2 (τ i ++ σc) H2 -> g y (σ0 ++ σc) H2 Q2)
    (hc : ∀ (i : Nat) (y : V) (H2 : Hp) (Q2 : Bool -> Hp -> Prop), ws[i]? = some y -> Same H H2 -> (∀ H5, Same H2 H5 -> Q2 (p i) H5) -> tc (τ i ++ σc) H2 Q2)
    (ht : ∀ (D : Addr) (acc : List V) (i : Nat) (y : V) (H2 : Hp) (Q2 : VK), H D = none -> H2 D = some (.lst acc) -> ws[i]? = some y -> p i = true -> Same H H2 -> (∀ v H4, Same H2 H4 -> Rel D i v H4 -> Q2 v H4) -> te (τ i ++ σc) H2 Q2)
    (hq : ∀ (D : Addr) (H' : Hp) (vs : List V), H D = none -> Same H H' -> H' D = some (.lst vs) -> vs.length = ((List.range ws.length).filter p).length -> (∀ (j : Nat) (v : V) (k : Nat), vs[j]? = some v -> ((List.range ws.length).filter p)[j]? = some k -> Rel D k v H') -> R D H') :
    ∀ D, H D = none -> ∃ W : Nat -> Nat -> St -> List V -> Hp -> Prop, (∃ m, W 0 m (nones xs ++ σc) [] (upd H D (.lst []))) /\
      ∀ i m σ2 acc H2, W i m σ2 acc H2 -> H2 D = some (.lst acc) /\ (((Itl K a).stop i H2 /\ R D H2) \/ ((Itl K a).go i H2 /\ ∀ y H3, (Itl K a).yld i H2 y H3 -> g y σ2 H3 fun σ' H' => tc σ' H' fun b H5 => if b = true then te σ' H5 fun v H4 =>
        H4 D = some (.lst acc) /\ acc.length < sizeLine /\ ∃ m', m' < m /\ W (i + 1) m' σ' (acc ++ [v]) (upd H4 D (.lst (acc ++ [v]))) else ∃ m', m' < m /\ W (i + 1) m' σ' acc H5)) := by
  intro D hD
  refine ⟨fun i m σ2 acc H2 => m = ws.length - i /\ i <= ws.length /\ (∃ σ0, σ0.length = (nones xs).length /\ σ2 = σ0 ++ σc) /\ Same H H2 /\ H2 D = some (.lst acc) /\ acc.length = ((List.range i).filter p).length /\ (∀ (j : Nat) (v : V) (k : Nat), acc[j]? = some v -> ((List.range i).filter p)[j]? = some k -> Rel D k v H2),
    ⟨ws.length, by simp, Nat.zero_le _, ⟨nones xs, rfl, rfl⟩, aQ hD _, aH, rfl, fun j v k e => by simp at e⟩, ?_⟩
  rintro i m σ2 acc H2 ⟨rfl, hi, ⟨σ0, h0, rfl⟩, s2, hd, hal, hr⟩
  refine ⟨hd, ?_⟩
  have q := s2.seq hS
  by_cases hlt : i < ws.length
  · refine .inr ⟨⟨ws, ws[i], q, by simp [hlt]⟩, fun y H3 hy => ?_⟩
    obtain ⟨e, hy⟩ := hy
    subst e
    have hy' := hy ws q
    refine hg i y σ0 H3 _ hy' s2 h0 ?_
    have rs : List.range (i + 1) = List.range i ++ [i] := List.range_succ
    have fl : ((List.range i).filter p).length <= i := Nat.le_trans (List.length_filter_le _ _) (by simp)
    refine hc i y H3 _ hy' s2 fun H5 s5 => ?_
    cases hp : p i with
    | false =>
      refine ⟨ws.length - (i + 1), by omega, rfl, hlt, ⟨_, hτ i, rfl⟩, s2.trans s5, s5 _ _ hd, ?_, fun j v k e1 e2 => ?_⟩
      · rw [rs, List.filter_append, List.filter_cons_of_neg (by simp [hp])]
        simpa using hal
      · rw [rs, List.filter_append, List.filter_cons_of_neg (by simp [hp]), List.filter_nil, List.append_nil] at e2
        exact mono _ _ _ _ _ (fun b o _ e => s5 b o e) (hr j v k e1 e2)
    | true =>
      refine ht D acc i y H5 _ hD (s5 _ _ hd) hy' hp (s2.trans s5) fun v H4 s4 hv => ⟨s4 _ _ (s5 _ _ hd), by rw [hal]; exact eF (by omega), ws.length - (i + 1), by omega, rfl, hlt, ⟨_, hτ i, rfl⟩, ((s2.trans s5).trans s4).Ly hD, aH, ?_, fun j v' k e1 e2 => ?_⟩
      · rw [rs, List.filter_append, List.filter_cons_of_pos (by simp [hp])]
        simp [hal]
      · have su : ∀ b o, b ≠ D -> H4 b = some o -> upd H4 D (.lst (acc ++ [v])) b = some o := fun b o nb e => by rw [bK nb]; exact e
        rw [rs, List.filter_append, List.filter_cons_of_pos (by simp [hp]), List.filter_nil] at e2
        by_cases hj : j < acc.length
        · rw [List.getElem?_append_left hj] at e1
          rw [List.getElem?_append_left (by rw [<- hal]; exact hj)] at e2
          exact mono _ _ _ _ _ (fun b o nb e => su b o nb (s4 _ _ (s5 _ _ e))) (hr j v' k e1 e2)
        · have hj1 : j < (acc ++ [v]).length := (List.getElem?_eq_some_iff.mp e1).1
          rw [List.length_append, List.length_singleton] at hj1
          have ej : j = acc.length := by omega
          subst ej
          rw [List.getElem?_append_right (Nat.le_refl _), Nat.sub_self] at e1
          rw [hal, List.getElem?_append_right (Nat.le_refl _), Nat.sub_self] at e2
          cases e1
          cases e2
          exact mono _ _ _ _ _ su hv
  · have e : i = ws.length := by omega
    subst e
    exact .inl ⟨⟨ws, q, Nat.le_refl _⟩, hq D H2 acc hD s2 hd hal hr⟩
end L2
namespace Zf
open PySem L2 PS
noncomputable def cu (H : Hp) (vs : List V) (ls : List (List Int)) : Prop := vs.length = ls.length /\ ∀ (i : Nat) (v : V) (l : List Int), vs[i]? = some v -> ls[i]? = some l -> ∃ g, v = .ref g /\ H g = some (IL l)
theorem cu.mono {H H' : Hp} {vs : List V} {ls : List (List Int)} (h : cu H vs ls) (s : Same H H') : cu H' vs ls := ⟨h.1, fun i v l a b => let ⟨g, e, k⟩ := h.2 i v l a b; ⟨g, e, s _ _ k⟩⟩
theorem cu.nil (H : Hp) : cu H [] [] := ⟨rfl, fun i _ _ a => by cases i <;> cases a⟩
theorem cu.snoc {H : Hp} {vs : List V} {ls : List (List Int)} {g : Addr} {l : List Int} (h : cu H vs ls) (k : H g = some (IL l)) : cu H (vs ++ [.ref g]) (ls ++ [l]) := by
  refine ⟨by simp [h.1], fun i w q a b => ?_⟩
  by_cases hi : i < vs.length
  · rw [List.getElem?_append_left hi] at a
    rw [List.getElem?_append_left (by rw [<- h.1]; exact hi)] at b
    exact h.2 i w q a b
  · have hi1 : i < (vs ++ [V.ref g]).length := (List.getElem?_eq_some_iff.mp a).1
    rw [List.length_append, List.length_singleton] at hi1
    have e : i = vs.length := by omega
    subst e
    rw [List.getElem?_append_right (Nat.le_refl _), Nat.sub_self] at a
    rw [h.1, List.getElem?_append_right (Nat.le_refl _), Nat.sub_self] at b
    cases a
    cases b
    exact ⟨g, rfl, k⟩
theorem cu.get {H : Hp} {vs : List V} {ls : List (List Int)} (h : cu H vs ls) {i : Nat} {v : V} (a : vs[i]? = some v) : ∃ l g, ls[i]? = some l /\ v = .ref g /\ H g = some (IL l) := by
  have hi : i < vs.length := (List.getElem?_eq_some_iff.mp a).1
  have hp : ls[i]? = some (ls[i]'(by rw [<- h.1]; exact hi)) := List.getElem?_eq_getElem _
  obtain ⟨g, e, k⟩ := h.2 i v _ a hp
  exact ⟨_, g, hp, e, k⟩
theorem HF {n : Nat} {c : List Int} (h : ∀ x ∈ c, Bd n x) : ∀ x ∈ ig c, Bd n x := by
  unfold ig
  split
  · intro x hx
    obtain ⟨y, hy, rfl⟩ := List.mem_map.mp hx
    exact (h y hy).neg
  · exact h
inductive uw (K : PySem.W.Frag) (vs : List V) (H : Hp) (Q : VK) : Prop
  | mk (a b : Addr) (c o : List Int) (La l p q : Nat) (h0 : vs = [.ref a, .ref b]) (h1 : SqL K H a (c.map V.int)) (h2 : SqL K H b (o.map V.int)) (h3 : Good c) (h4 : Good o) (h5 : c.length <= La) (h6 : o.length <= l) (h7 : La <= 1000) (h8 : l <= 1000) (h9 : (∀ x ∈ c, Bd p x)) (h10 : (∀ x ∈ o, Bd q x)) (h11 : gb l La l p q <= 134217728) (h12 : ∀ (r : Addr) (H' : Hp) (s : List Int), H r = none -> Same H H' -> Shared c o s -> (∀ x ∈ s, Bd (gb l La l p q) x) -> H' r = some (IL s) -> Q (.ref r) H') : uw K vs H Q
noncomputable def gK (K : PySem.W.Frag) : Sp := fun vs H Q _ => uw K vs H Q
inductive uz (K : PySem.W.Frag) (vs : List V) (H : Hp) (Q : VK) : Prop
  | mk (a b : Addr) (c o : List Int) (S : PS) (p G : Nat) (h0 : vs = [.ref a, .ref b]) (h1 : SqL K H a (c.map V.int)) (h2 : SqL K H b (o.map V.int)) (h3 : Good o) (h4 : o ≠ []) (h5 : 0 < o.getD (o.length - 1) 0) (h6 : o.length <= c.length) (h7 : c.length <= 1000) (h8 : Dg (c.length + 1 - o.length) S) (h9 : co c = S * co o) (h10 : (∀ x ∈ c, Bd p x)) (h11 : (∀ x ∈ o, Bd G x)) (h12 : p + (G + 1) * c.length + G <= 134217728) (h13 : ∀ (r : Addr) (H' : Hp), H r = none -> Same H H' -> H' r = some (IL (upto S (c.length + 1 - o.length))) -> (∀ x ∈ upto S (c.length + 1 - o.length), Bd (p + (G + 1) * c.length) x) -> Q (.ref r) H') : uz K vs H Q
noncomputable def oY (K : PySem.W.Frag) : Sp := fun vs H Q _ => uz K vs H Q
noncomputable def jL (p L : Nat) : Nat := gb (L - 1) L (L - 1) p (p + 5)
inductive xX (K : PySem.W.Frag) (vs : List V) (H : Hp) (Q : VK) : Prop
  | mk (a : Addr) (c : List Int) (p L : Nat) (h0 : vs = [.ref a]) (h1 : SqL K H a (c.map V.int)) (h2 : Good c) (h3 : c ≠ []) (h4 : c.length <= L) (h5 : L <= 30) (h6 : (∀ x ∈ c, Bd p x)) (h7 : p + (jL p L + 1) * L + jL p L <= 134217728) (h8 : ∀ (r : Addr) (H' : Hp) (s : List Int), H r = none -> Same H H' -> Simple c s -> H' r = some (IL s) -> (∀ x ∈ s, Bd (p + (jL p L + 1) * L) x) -> Q (.ref r) H') : xX K vs H Q
noncomputable def j4 (K : PySem.W.Frag) : Sp := fun vs H Q _ => xX K vs H Q
noncomputable def cb : Nat -> Nat -> Nat -> Nat -> Nat
  | 0, _, p, q => p + q
  | l + 1, La, p, q => cb l (l + 1) q (p + (q + 1) * La)
theorem Eu : ∀ (l La p q : Nat), p + q <= cb l La p q \/ La = 0
  | 0, _, _, _ => .inl (Nat.le_refl _)
  | l + 1, La, p, q => by
    by_cases hL : La = 0
    · exact .inr hL
    left
    unfold cb
    have h1 : (q + 1) * 1 <= (q + 1) * La := Nat.mul_le_mul_left _ (by omega)
    rcases Eu l (l + 1) q (p + (q + 1) * La) with h | h
    · omega
    · omega
inductive BZ (K : PySem.W.Frag) (vs : List V) (H : Hp) (Q : VK) : Prop
  | mk (a : Addr) (c : List Int) (p L ps Ls : Nat) (h0 : vs = [.ref a]) (h1 : SqL K H a (c.map V.int)) (h2 : Good c) (h3 : c ≠ []) (h4 : c.length <= L) (h5 : L <= 30) (h6 : (∀ x ∈ c, Bd p x)) (h7 : p + (jL p L + 1) * L + jL p L <= 134217728) (h8 : (∀ s, Simple c s -> (∀ x ∈ s, Bd (p + (jL p L + 1) * L) x) -> s.length <= Ls /\ ∀ x ∈ s, Bd ps x)) (h9 : Ls <= 30) (h10 : cb (Ls - 1) Ls ps (ps + 5) <= 134217728) (h11 : ∀ (r : Addr) (H' : Hp) (ws : List V) (ls : List (List Int)), H r = none -> Same H H' -> Chain c ls -> H' r = some (.lst ws) -> cu H' ws ls -> (∀ l ∈ ls, bI l /\ l ≠ [] /\ l.length <= Ls /\ ∀ x ∈ l, Bd (cb (Ls - 1) Ls ps (ps + 5)) x) -> ws.length <= Ls -> Q (.ref r) H') : BZ K vs H Q
noncomputable def iz (K : PySem.W.Frag) : Sp := fun vs H Q _ => BZ K vs H Q
inductive ur (K : PySem.W.Frag) (vs : List V) (H : Hp) (Q : VK) : Prop
  | mk (a d : Addr) (c : List Int) (p q : Int) (B : Nat) (h0 : vs = [.ref a, .ref d]) (h1 : SqL K H a (c.map V.int)) (h2 : SqT K H d [.int p, .int q]) (h3 : c.length <= 64) (h4 : (∀ x ∈ c, Bd B x)) (h5 : Bd B p) (h6 : Bd B q) (h7 : B <= 1000000) (h8 : Good c) (h9 : 0 < q) (h10 : Q (.int (sgn (hv p q c))) H) : ur K vs H Q
noncomputable def gJ (K : PySem.W.Frag) : Sp := fun vs H Q _ => ur K vs H Q
inductive B_ (K : PySem.W.Frag) (vs : List V) (H : Hp) (Q : VK) : Prop
  | mk (a d : Addr) (ws : List V) (ls : List (List Int)) (p q : Int) (B : Nat) (h0 : vs = [.ref a, .ref d]) (h1 : SqL K H a ws) (h2 : cu H ws ls) (h3 : (∀ l ∈ ls, bI l /\ l.length <= 64 /\ ∀ x ∈ l, Bd B x)) (h4 : ws.length <= 1000) (h5 : SqT K H d [.int p, .int q]) (h6 : Bd B p) (h7 : Bd B q) (h8 : B <= 1000000) (h9 : 0 < q) (h10 : Q (.int (chg 0 (ls.map fun l => sgn (hv p q l)))) H) : B_ K vs H Q
noncomputable def mZ (K : PySem.W.Frag) : Sp := fun vs H Q _ => B_ K vs H Q
inductive uE (K : PySem.W.Frag) (vs : List V) (H : Hp) (Q : VK) : Prop
  | mk (a d : Addr) (c : List Int) (p L ps Ls B : Nat) (t u : Int) (h0 : vs = [.ref a, .ref d]) (h1 : SqL K H a (c.map V.int)) (h2 : SqT K H d [.int t, .int u]) (h3 : Good c) (h4 : c ≠ []) (h5 : c.length <= L) (h6 : L <= 30) (h7 : (∀ x ∈ c, Bd p x)) (h8 : p + (jL p L + 1) * L + jL p L <= 134217728) (h9 : (∀ s, Simple c s -> (∀ x ∈ s, Bd (p + (jL p L + 1) * L) x) -> s.length <= Ls /\ ∀ x ∈ s, Bd ps x)) (h10 : Ls <= 30) (h11 : cb (Ls - 1) Ls ps (ps + 5) <= B) (h12 : B <= 1000000) (h13 : Bd B t) (h14 : Bd B u) (h15 : 0 < u) (h16 : ∀ (H' : Hp) (ls : List (List Int)), Same H H' -> Chain c ls -> Q (.int (chg 0 (ls.map fun l => sgn (hv t u l)))) H') : uE K vs H Q
noncomputable def lK (K : PySem.W.Frag) : Sp := fun vs H Q _ => uE K vs H Q
end Zf
namespace L2
open PySem PySem.Spec PyProof.Rows
theorem uX {h h' : Heap} {l : Addr} {xs : Array Value} (hl : h.IsList l xs) (k : ∀ b o, h.get? b = some o -> h'.get? b = some o) : h'.IsList l xs := let ⟨o, a, b⟩ := hl; ⟨o, k _ _ a, b⟩
theorem vX (a v : Value) : argsOk "max" ⟨[a], [(Str.ofString "default", v)]⟩ := by unfold argsOk; kernel_rfl
section
variable {prog : Program} {w : World} {A : Around} {E : Value -> Shared -> Prop} {s : Shared} {l I S : Addr} {vs : List Value} {R : Result -> Shared -> Prop} {dv : Value}
theorem vW (f : Nat -> Int) (hh : A.handled = none) (hll : s.heap.IsList l vs.toArray) (hlI : l ≠ I) (hSI : S ≠ I) (nI : s.heap.get? I = none) (nS : s.heap.get? S = none)
    (hf : ∀ (i : Nat) (v : Value), vs[i]? = some v -> ∃ t, v = Value.int (f i) t)
    (hR : ∀ (i : Nat) (v : Value) (h' : Heap) (tk' : Nat), vs[i]? = some v -> (∀ j, j < vs.length -> f i ≥ f j) -> (∀ b o, s.heap.get? b = some o -> h'.get? b = some o) -> R (.ok (.ret v)) { s with heap := h', toks := tk' }) :
    ∀ (r j i : Nat) (h : Heap) (tk : Nat) (tb : Tok) (c : Nat), vs.length - (j + 1) = r -> j + 1 <= vs.length -> (∀ b o, s.heap.get? b = some o -> h.get? b = some o) ->
      h.get? S = some (seqObj "list" #[.int (f i) tb, .int (f i) tb] c) -> h.IsListIter I l (j + 1) -> vs[i]? = some (.int (f i) tb) -> (∀ j', j' <= j -> f i ≥ f j') ->
      codeAny (model prog w) A (.builtin "max.loop" ⟨[.ref I, .none, .ref S], [(Str.ofString "default", dv)]⟩) R { s with heap := h, toks := tk } := by
  have hname : (toString "max" ++ toString ".loop" : String) = "max.loop" := by decide
  have W := Walks.list (prog := prog) (w := w) (A := A.in1) hh I l hlI vs.toArray
  have hsz : vs.toArray.size = vs.length := List.size_toArray ..
  have keepN : ∀ {h h' : Heap}, (∀ b o, s.heap.get? b = some o -> h.get? b = some o) -> (∀ b o, b ∉ [I] -> h.get? b = some o -> h'.get? b = some o) -> ∀ b o, s.heap.get? b = some o -> h'.get? b = some o := fun k1 k2 b o e =>
    k2 b o (fun q => by rw [List.mem_singleton.mp q, nI] at e; cases e) (k1 b o e)
  have keepS : ∀ {h : Heap} {g : Obj -> Obj}, (∀ b o, s.heap.get? b = some o -> h.get? b = some o) -> ∀ b o, s.heap.get? b = some o -> (h.update S g).get? b = some o := fun {h g} k1 b o e => by
    have s1 := Heap.SameBut.update h S g
    have hb : b ≠ S := fun z => by rw [z, nS] at e; cases e
    exact s1.extBut b o hb (k1 b o e)
  intro r
  induction r with
  | zero =>
    intro j i h tk tb c hr hj K hS hit hvb hbest
    have hin : j + 1 = vs.length := by omega
    refine codeAny_builtin PySem.F.entry_max_loop ?_
    rw [Around.under_plainId PySem.F.plain_max_loop _]
    show wpAny _ A.in1 (seqItems? (.ref S) >>= _) _ _ _
    refine wpAny_bind (wpAny_seqItems hS rfl ?_)
    show wpAny _ A.in1 (tryCatch (pyNext (.ref I)) _ >>= _) _ _ _
    refine wpAny_bind (wpAny_tryCatch (W.done _ _ _ ⟨by rw [hsz, <- hin]; exact hit, uX hll K⟩ fun h' tk' hk' => ?_))
    have hS' := hk' S _ (by simpa using hSI) hS
    show wpAny _ A.in1 (updateSeq S (fun _ => #[]) >>= _) _ _ _
    refine wpAny_bind ?_
    refine wpAny_updateSeq hS' rfl (wpAny_bind (wpAny_letGo (wpAny_pure ?_)))
    exact hR i _ _ _ hvb (fun j' hj' => hbest j' (by omega)) (keepS (keepN K hk'))
  | succ r ih =>
    intro j i h tk tb c hr hj K hS hit hvb hbest
    have hlt : j + 1 < vs.length := by omega
    refine codeAny_builtin PySem.F.entry_max_loop ?_
    rw [Around.under_plainId PySem.F.plain_max_loop _]
    show wpAny _ A.in1 (seqItems? (.ref S) >>= _) _ _ _
    refine wpAny_bind (wpAny_seqItems hS rfl ?_)
    show wpAny _ A.in1 (tryCatch (pyNext (.ref I)) _ >>= _) _ _ _
    refine wpAny_bind (wpAny_tryCatch (W.item (j + 1) _ _ _ (by rw [hsz]; exact hlt) ⟨hit, uX hll K⟩ fun v h' tk' hP hst' hk' => ?_))
    have hv : vs[j + 1]? = some v := by simpa using hP
    obtain ⟨t2, rfl⟩ := hf (j + 1) v hv
    have K1 := keepN K hk'
    have hS1 := hk' S _ (by simpa using hSI) hS
    have hit1 := hst'.1
    refine wpAny_bind (wpAny_pure ?_)
    show wpAny _ A.in1 (tryCatch (holding [.int (f (j + 1)) t2, .int (f (j + 1)) t2] (richCompare .Gt (.int (f (j + 1)) t2) (.int (f i) tb) >>= _)) _ >>= _) _ _ _
    refine wpAny_bind (wpAny_tryCatch (wpAny_holding (wpAny_bind (CmpOf.ints_gt (prog := prog) (w := w) (A := A.in1) (P := fun i v => ∃ t, v = .int (f i) t) f (fun i v h => h) (j + 1) i _ _ _ _ _ ⟨t2, rfl⟩ ⟨tb, rfl⟩ ?_))))
    refine wpAny_bind (wpAny_holding (wpAny_truthy_bool ?_))
    refine wpAny_bind (wpAny_letGo (wpAny_pure ?_))
    by_cases hb' : f (j + 1) > f i
    · have s1 := Heap.SameBut.update h' S (Obj.mapSeq fun _ => #[.int (f (j + 1)) t2, .int (f (j + 1)) t2])
      obtain ⟨c2, hc2⟩ : ∃ c2, (h'.update S (Obj.mapSeq fun _ => #[.int (f (j + 1)) t2, .int (f (j + 1)) t2])).get? S = some (seqObj "list" #[.int (f (j + 1)) t2, .int (f (j + 1)) t2] c2) := ⟨_, get?_update_seq hS1 fun _ => #[.int (f (j + 1)) t2, .int (f (j + 1)) t2]⟩
      simp only [hb', decide_true, if_true]
      refine wpAny_bind ?_
      refine wpAny_updateSeq hS1 rfl (wpAny_bind (wpAny_letGo ?_))
      rw [hname]
      refine wpAny_pure ⟨plainId_quiet PySem.F.plain_max_loop _, ih (j + 1) (j + 1) _ _ t2 c2 (by omega) hlt (keepS K1) hc2 ?_ hv fun j' hj' => ?_⟩
      · obtain ⟨oI, a1, a2, a3⟩ := hit1
        exact ⟨oI, s1.extBut I oI hSI.symm a1, a2, a3⟩
      · by_cases e : j' = j + 1
        · subst e; omega
        · have := hbest j' (by omega); omega
    · simp only [hb', decide_false, Bool.false_eq_true, if_false]
      refine wpAny_bind (wpAny_letGo ?_)
      rw [hname]
      refine wpAny_pure ⟨plainId_quiet PySem.F.plain_max_loop _, ih (j + 1) i _ _ tb c (by omega) hlt K1 hS1 hit1 hvb fun j' hj' => ?_⟩
      by_cases e : j' = j + 1
      · subst e; omega
      · exact hbest j' (by omega)
theorem max_def {Q : Value -> Shared -> Prop} (f : Nat -> Int) (hh : A.handled = none) (hll : s.heap.IsList l vs.toArray) (hf : ∀ (i : Nat) (v : Value), vs[i]? = some v -> ∃ t, v = Value.int (f i) t)
    (h0 : vs = [] -> ∀ h' tk', (∀ b o, s.heap.get? b = some o -> h'.get? b = some o) -> Q dv { s with heap := h', toks := tk' })
    (hQ : ∀ (i : Nat) (v : Value) (h' : Heap) (tk' : Nat), vs[i]? = some v -> (∀ j, j < vs.length -> f i ≥ f j) -> (∀ b o, s.heap.get? b = some o -> h'.get? b = some o) -> Q v { s with heap := h', toks := tk' }) :
    wpAny (model prog w) A (call (.builtin "max") [.ref l] [(Str.ofString "default", dv)]) Q E s := by
  have hname : (toString "max" ++ toString ".loop" : String) = "max.loop" := by decide
  obtain ⟨ol, hol, _⟩ := id hll
  have hl1 : l < s.heap.objs.size := Heap.lt_size hol
  refine kmk_tree PySem.F.kind_max PySem.F.plain_max PySem.F.entry_max (vX _ _) ?_
  show wpAny _ A.in1 (Builtin.Builtins.bindParams "max" ["key", "default"] 0 ⟨[], [(Str.ofString "default", dv)]⟩ >>= _) _ _ s
  refine wpAny_bind (wpAny_of_eq (show Builtin.Builtins.bindParams "max" ["key", "default"] 0 ⟨[], [(Str.ofString "default", dv)]⟩ = pure [none, some dv] from rfl) ?_)
  refine wpAny_bind (wpAny_pure ?_)
  refine wpAny_bind (wpAny_pyIter_list hll ?_)
  refine wpAny_bind (wpAny_newList ?_ (Nat.zero_le _))
  rw [hname]
  generalize hP : s.heap.push { cls := .type "list_iterator", data := .fields #[.ref l, .int 0 0] } = P1
  have hS : P1.objs.size = s.heap.objs.size + 1 := by rw [<- hP]; exact size_push' ..
  have hlI : l ≠ s.heap.objs.size := Nat.ne_of_lt hl1
  have hSI : P1.objs.size ≠ s.heap.objs.size := by rw [hS]; exact Nat.ne_of_gt (Nat.lt_succ_self _)
  have nI : s.heap.get? s.heap.objs.size = none := Heap.get?_none_of_le (Nat.le_refl _)
  have nS : s.heap.get? P1.objs.size = none := Heap.get?_none_of_le (by rw [hS]; exact Nat.le_succ _)
  refine wpAny_pure ⟨plainId_quiet PySem.F.plain_max_loop _, ?_⟩
  have K : ∀ b o, s.heap.get? b = some o -> (P1.push (seqObj "list" #[] 0)).get? b = some o := fun b o e => Heap.get?_push_of_some _ (by rw [<- hP]; exact Heap.get?_push_of_some _ e)
  have gI : (P1.push (seqObj "list" #[] 0)).get? s.heap.objs.size = some { cls := .type "list_iterator", data := .fields #[.ref l, .int 0 0] } := Heap.get?_push_of_some _ (by rw [<- hP]; exact Heap.get?_push_size _ rfl)
  have gS : (P1.push (seqObj "list" #[] 0)).get? P1.objs.size = some (seqObj "list" #[] 0) := Heap.get?_push_size _ rfl
  have W := Walks.list (prog := prog) (w := w) (A := A.in1) hh s.heap.objs.size l hlI vs.toArray
  have hsz : vs.toArray.size = vs.length := List.size_toArray ..
  have keepN : ∀ {h' : Heap}, (∀ b o, b ∉ [s.heap.objs.size] -> (P1.push (seqObj "list" #[] 0)).get? b = some o -> h'.get? b = some o) -> ∀ b o, s.heap.get? b = some o -> h'.get? b = some o := fun k2 b o e =>
    k2 b o (fun q => by rw [List.mem_singleton.mp q, nI] at e; cases e) (K b o e)
  refine codeAny_builtin PySem.F.entry_max_loop ?_
  rw [Around.under_plainId PySem.F.plain_max_loop _]
  show wpAny _ A.in1 (seqItems? (.ref _) >>= _) _ _ _
  refine wpAny_bind (wpAny_seqItems gS rfl ?_)
  show wpAny _ A.in1 (tryCatch (pyNext (.ref s.heap.objs.size)) _ >>= _) _ _ _
  by_cases hne : 0 < vs.length
  · refine wpAny_bind (wpAny_tryCatch (W.item 0 _ _ _ (by rw [hsz]; exact hne) ⟨⟨_, gI, rfl, rfl⟩, uX hll K⟩ fun v h' tk' hP' hst' hk' => ?_))
    have hv : vs[0]? = some v := by simpa using hP'
    obtain ⟨t2, rfl⟩ := hf 0 v hv
    have K1 := keepN hk'
    have hS1 := hk' P1.objs.size _ (by simpa using hSI) gS
    refine wpAny_bind (wpAny_pure ?_)
    show wpAny _ A.in1 (updateSeq P1.objs.size (fun _ => #[.int (f 0) t2, .int (f 0) t2]) >>= _) _ _ _
    have s1 := Heap.SameBut.update h' P1.objs.size (Obj.mapSeq fun _ => #[.int (f 0) t2, .int (f 0) t2])
    obtain ⟨c2, hc2⟩ : ∃ c2, (h'.update P1.objs.size (Obj.mapSeq fun _ => #[.int (f 0) t2, .int (f 0) t2])).get? P1.objs.size = some (seqObj "list" #[.int (f 0) t2, .int (f 0) t2] c2) := ⟨_, get?_update_seq hS1 fun _ => #[.int (f 0) t2, .int (f 0) t2]⟩
    refine wpAny_bind ?_
    refine wpAny_updateSeq hS1 rfl ?_
    rw [hname]
    refine wpAny_pure ⟨plainId_quiet PySem.F.plain_max_loop _, vW f hh hll hlI hSI nI nS hf hQ _ 0 0 _ _ t2 c2 rfl hne (fun b o e => s1.extBut b o (fun z => by rw [z, nS] at e; cases e) (K1 b o e)) hc2 ?_ hv fun j' hj' => ?_⟩
    · obtain ⟨oI, a1, a2, a3⟩ := hst'.1
      exact ⟨oI, s1.extBut _ oI hSI.symm a1, a2, a3⟩
    · rw [show j' = 0 by omega]; omega
  · have hv0 : vs = [] := List.eq_nil_of_length_eq_zero (by omega)
    refine wpAny_bind (wpAny_tryCatch (W.done _ _ _ ⟨?_, uX hll K⟩ fun h' tk' hk' => ?_))
    · rw [hsz, show vs.length = 0 by omega]
      exact ⟨_, gI, rfl, rfl⟩
    · refine wpAny_bind (wpAny_rule (wpAny_pure ?_))
      exact h0 hv0 _ _ (keepN hk')
end
noncomputable def tMaxD (K : PySem.W.Frag) (ta tk : TA) : TE := fun σ H Q => ta σ H fun vs H1 => tk σ H1 fun zs H2 => ∃ (a : Addr) (ns : List Int) (k : Int), vs = [.ref a] /\ zs = [.int k] /\ SqL K H2 a (ns.map V.int) /\ ∀ m : Int, (ns = [] -> m = k) -> (ns ≠ [] -> m ∈ ns /\ ∀ z ∈ ns, z <= m) -> Q (.int m) H2
theorem IK {X : Cx} {e d : Expr} {ta tk : TA} {p kp pos : Pos} (hc : X.calm = true) (hg : Gl X "max") (hm : X.mg "max" = none) (ha : PA X [e] ta) (hkw : PK X [⟨some "default", d, kp⟩] tk)
    (he' : starEach [e] X.env = (false, eval e X.env) :: starEach [] X.env := by rfl)
    (hplain : (backTo pos (starEach [e] X.env)).any (·.1) = false := by rfl) :
    PE X (.Call (.Name "max" p) [e] [⟨some "default", d, kp⟩] pos) (tMaxD X.K ta tk) := by
  intro pins s σ H Q I h
  refine wpAny_Call_Name_kw (jT I hg hm boot_max ?_ (by decide) (by decide))
  refine callWith_builtin_kwB hplain rfl (evalArgs_kw2 rfl (thn (ha pos pins s σ H _ I h) fun us s1 ⟨vs, H1, I1, r1, q1⟩ => ?_) he')
  refine thn (hkw pos pins s1 σ H1 _ I1 q1) fun ws s2 ⟨zs, H2, I2, r2, a, ns, k, e1, e2, hS, q⟩ => ?_
  subst e1 e2
  obtain ⟨u, rfl, rx⟩ := vals1 r1
  cases rx
  obtain ⟨u2, rfl, t2, rfl⟩ := vals1 r2
  obtain ⟨its, r', pl, hz⟩ := I2.list hS
  have hl := r'.length
  rw [List.length_map] at hl
  have hi := intsAre_of r'
  have hf : ∀ (i : Nat) (v : Value), its[i]? = some v -> ∃ t, v = Value.int (ns.getD i 0) t := fun i v hv => by
    obtain ⟨hi1, hv1⟩ := List.getElem?_eq_some_iff.mp hv
    obtain ⟨t, e⟩ := fV hi i hi1 (by omega)
    refine ⟨t, ?_⟩
    rw [<- hv1, e, List.getD_eq_getElem?_getD, List.getElem?_eq_getElem (by omega)]
    rfl
  refine max_def (fun i => ns.getD i 0) (I2.ok.hd hc) pl.isList hf (fun h0 h' tk' kp' => ?_) (fun i v h' tk' hv hb kp' => ?_)
  · have n0 : ns = [] := List.eq_nil_of_length_eq_zero (by rw [hl, h0]; rfl)
    exact ⟨.int k, H2, I2.kept kp', ⟨t2, rfl⟩, q k (fun _ => rfl) fun z => absurd n0 z⟩
  · obtain ⟨t, rfl⟩ := hf i v hv
    have hi1 : i < ns.length := by rw [hl]; exact (List.getElem?_eq_some_iff.mp hv).1
    have mem : ns.getD i 0 ∈ ns := by
      rw [List.getD_eq_getElem?_getD, List.getElem?_eq_getElem hi1]
      exact List.getElem_mem hi1
    refine ⟨.int (ns.getD i 0), H2, I2.kept kp', ⟨t, rfl⟩, q _ (fun z => by rw [z] at hi1; simp at hi1) fun _ => ⟨mem, fun z hz' => ?_⟩⟩
    obtain ⟨j, hj, rfl⟩ := List.mem_iff_getElem.mp hz'
    have := hb j (by omega)
    simpa [List.getD_eq_getElem?_getD, hj] using this
end L2
namespace L2
open PySem PySem.Spec PyProof.Rows
section
variable {X : Cx}
end
end L2
namespace L2
open PySem PySem.Spec PyProof.Rows
theorem IV {X : Cx} {scope : Scope} {cl : List (Str × Addr)} {x y : Str} {N : List Str} {fr : List Nat} {elt iter : Expr} {ifs : List Expr} {pos px py pt : Pos} {k : Nat} {wi : TI} {tc : TT} {te : TE} (O : nj X scope cl [x, y] N fr) (hx : scope.names.lookup x = some .local) (hy : scope.names.lookup y = some .local)
    (hi : PI X (.Tuple [.Name x px, .Name y py] k pt) iter wi) (hc : ∀ cl C s₀ H₀ ex, PTs (cO X ([x, y] ++ N) scope cl C s₀ H₀ ex) ifs tc) (he : ∀ cl C s₀ H₀ ex, PE (cO X ([x, y] ++ N) scope cl C s₀ H₀ ex) elt te)
    (hs : ∀ z, foldedSetIterable iter X.env z = pure z := by intro _; rfl) : PE X (.ListComp elt [⟨.Tuple [.Name x px, .Name y py] k pt, iter, ifs, 0⟩] scope pos) (tLCG wi [x, y] fr (gTup X.K 2 (Et (pF 0) (Et (pF 1) gNil))) tc te) := by
  refine Fj O hi (fun cl C s₀ H₀ ex => ?_) hc he hs
  refine qF (n := 2) O.calm ?_
  refine fG ?_ (fG ?_ m8)
  · exact cP O.nd rfl (.inl (lookup_relabel_local hx)) (.inr (lookup_relabel_local hx))
  · exact cP O.nd rfl (.inl (lookup_relabel_local hy)) (.inr (lookup_relabel_local hy))
end L2
namespace Zf
open PS
noncomputable def ev (x : Rat) : List Int -> Rat
  | [] => 0
  | c :: cs => (c : Rat) + x * ev x cs
noncomputable def pU : List Int -> List Int -> List Int
  | [], m => m
  | a :: l, [] => a :: l
  | a :: l, b :: m => (a + b) :: pU l m
noncomputable def mulR : List Int -> List Int -> List Int
  | [], _ => []
  | a :: l, m => pU (m.map (a * ·)) (0 :: mulR l m)
theorem u6 (x : Rat) : ∀ l m : List Int, ev x (pU l m) = ev x l + ev x m
  | [], m => by show ev x m = 0 + ev x m; grind
  | a :: l, [] => by show ev x (a :: l) = ev x (a :: l) + 0; grind
  | a :: l, b :: m => by
    have ih := u6 x l m
    show ((a + b : Int) : Rat) + x * ev x (pU l m) = ((a : Rat) + x * ev x l) + ((b : Rat) + x * ev x m)
    rw [ih, Rat.intCast_add]
    grind
theorem Bk (x : Rat) (a : Int) : ∀ l : List Int, ev x (l.map (a * ·)) = (a : Rat) * ev x l
  | [] => by show (0 : Rat) = (a : Rat) * 0; grind
  | b :: l => by
    show ((a * b : Int) : Rat) + x * ev x (l.map (a * ·)) = (a : Rat) * ((b : Rat) + x * ev x l)
    rw [Bk x a l, Rat.intCast_mul]
    grind
theorem Fy (x : Rat) : ∀ l m : List Int, ev x (mulR l m) = ev x l * ev x m
  | [], m => by show (0 : Rat) = 0 * ev x m; grind
  | a :: l, m => by
    show ev x (pU (m.map (a * ·)) (0 :: mulR l m)) = ((a : Rat) + x * ev x l) * ev x m
    rw [u6, Bk]
    show _ + (((0 : Int) : Rat) + x * ev x (mulR l m)) = _
    rw [Fy x l m, Rat.intCast_zero]
    grind
theorem vf : ∀ l m : List Int, co (pU l m) = co l + co m
  | [], m => by show co m = co [] + co m; rw [gj]; grind
  | a :: l, [] => by show co (a :: l) = co (a :: l) + co []; rw [gj]; grind
  | a :: l, b :: m => by
    show co ((a + b) :: pU l m) = _
    rw [eN, eN, eN, vf l m, Ey]
    grind
theorem Jp (a : Int) (l : List Int) : co (l.map (a * ·)) = C a * co l := by
  ext t
  rw [dW, mW, mW]
  by_cases h : t < l.length
  · simp [List.getD_eq_getElem?_getD, h]
  · rw [bZ (by simp; omega), bZ (by omega), Int.mul_zero]
theorem vN : ∀ l m : List Int, co (mulR l m) = co l * co m
  | [], m => by show co [] = co [] * co m; rw [gj]; grind
  | a :: l, m => by
    show co (pU (m.map (a * ·)) (0 :: mulR l m)) = _
    rw [vf, Jp, eN, eN, vN l m, show C 0 = (0 : PS) from rfl]
    grind
theorem vM {a b : Int} {l m : List Int} (h : co (a :: l) = co (b :: m)) : a = b /\ co l = co m := by
  refine ⟨congrFun h 0, ?_⟩
  ext t
  exact congrFun h (t + 1)
theorem j8 (x : Rat) : ∀ {l m : List Int}, co l = co m -> ev x l = ev x m
  | [], [], _ => rfl
  | [], b :: m, h => by
    have h1 : co ((0 : Int) :: []) = co (b :: m) := by
      rw [<- h, eN, gj, show C 0 = (0 : PS) from rfl]
      grind
    obtain ⟨h2, h3⟩ := vM h1
    show (0 : Rat) = (b : Rat) + x * ev x m
    rw [<- j8 x h3, <- h2, Rat.intCast_zero]
    show (0 : Rat) = 0 + x * 0
    grind
  | a :: l, [], h => by
    have h1 : co (a :: l) = co ((0 : Int) :: []) := by
      rw [h, eN, gj, show C 0 = (0 : PS) from rfl]
      grind
    obtain ⟨h2, h3⟩ := vM h1
    show (a : Rat) + x * ev x l = (0 : Rat)
    rw [j8 x h3, h2, Rat.intCast_zero]
    show (0 : Rat) + x * 0 = 0
    grind
  | a :: l, b :: m, h => by
    obtain ⟨h2, h3⟩ := vM h
    show (a : Rat) + x * ev x l = (b : Rat) + x * ev x m
    rw [j8 x h3, h2]
noncomputable def Ev (x : Rat) (f : PS) (v : Rat) : Prop := ∃ l, co l = f /\ ev x l = v
theorem Ev.co (x : Rat) (c : List Int) : Ev x (co c) (ev x c) := ⟨c, rfl, rfl⟩
theorem Ev.add {x v w : Rat} {f g : PS} (h : Ev x f v) (k : Ev x g w) : Ev x (f + g) (v + w) := by
  obtain ⟨l, rfl, rfl⟩ := h
  obtain ⟨m, rfl, rfl⟩ := k
  exact ⟨pU l m, vf l m, u6 x l m⟩
theorem Ev.mul {x v w : Rat} {f g : PS} (h : Ev x f v) (k : Ev x g w) : Ev x (f * g) (v * w) := by
  obtain ⟨l, rfl, rfl⟩ := h
  obtain ⟨m, rfl, rfl⟩ := k
  exact ⟨mulR l m, vN l m, Fy x l m⟩
theorem Ev.C (x : Rat) (a : Int) : Ev x (C a) a := ⟨[a], by rw [eN, gj]; grind, by show (a : Rat) + x * 0 = a; grind⟩
theorem Ev.uniq {x v w : Rat} {f : PS} (h : Ev x f v) (k : Ev x f w) : v = w := by
  obtain ⟨l, h1, rfl⟩ := h
  obtain ⟨m, h2, rfl⟩ := k
  exact j8 x (h1.trans h2.symm)
theorem Po.list {f : PS} (h : Po f) : ∃ l, Zf.co l = f := let ⟨n, a⟩ := h; ⟨upto f n, mX a⟩
noncomputable def ed (x : Rat) : List Int -> Rat
  | [] => 0
  | _ :: cs => ev x cs + x * ed x cs
noncomputable def dl : List Int -> List Int
  | [] => []
  | _ :: cs => pU cs (0 :: dl cs)
theorem J_ (x : Rat) : ∀ c : List Int, ev x (dl c) = ed x c
  | [] => rfl
  | _ :: cs => by
    show ev x (pU cs (0 :: dl cs)) = ev x cs + x * ed x cs
    rw [u6]
    show _ + (((0 : Int) : Rat) + x * ev x (dl cs)) = _
    rw [J_ x cs, Rat.intCast_zero]
    grind
theorem Mr (f g : PS) : dv (f + g) = dv f + dv g := by
  ext t
  rw [lW, fC, fC, lW, lW, Int.mul_add]
theorem dv_X1 : dv X1 = 1 := by
  ext t
  rw [lW]
  show ((t : Int) + 1) * (if t + 1 = 1 then 1 else 0) = if t = 0 then 1 else 0
  by_cases h : t = 0
  · subst h; rfl
  · rw [if_neg (by omega), if_neg h, Int.mul_zero]
theorem Ka : ∀ c : List Int, co (dl c) = dv (co c)
  | [] => by show co [] = _; rw [gj]; exact (HW 0).symm
  | b :: cs => by
    show co (pU cs (0 :: dl cs)) = _
    rw [vf, eN, eN, Ka cs, Mr, mF, dv_X1, HW, show C 0 = (0 : PS) from rfl]
    grind
theorem rA (x : Rat) (c : List Int) : ev x (aM c) = ed x c := by
  rw [<- J_]
  exact j8 x (by rw [rF, Ka])
noncomputable def In (B x : Rat) : Prop := -B <= x /\ x <= B
theorem In.mul {A B x y : Rat} (h : In A x) (k : In B y) : In (A * B) (x * y) := by
  obtain ⟨h1, h2⟩ := h
  obtain ⟨k1, k2⟩ := k
  have a1 : 0 <= (A - x) * (B - y) := Rat.mul_nonneg (by grind) (by grind)
  have a2 : 0 <= (A + x) * (B + y) := Rat.mul_nonneg (by grind) (by grind)
  have a3 : 0 <= (A - x) * (B + y) := Rat.mul_nonneg (by grind) (by grind)
  have a4 : 0 <= (A + x) * (B - y) := Rat.mul_nonneg (by grind) (by grind)
  constructor <;> grind
theorem In.add {A B x y : Rat} (h : In A x) (k : In B y) : In (A + B) (x + y) := by
  obtain ⟨h1, h2⟩ := h
  obtain ⟨k1, k2⟩ := k
  constructor <;> grind
theorem In.neg {A x : Rat} (h : In A x) : In A (-x) := by
  obtain ⟨h1, h2⟩ := h
  constructor <;> grind
theorem Mp (c : Int) : In (c.natAbs : Rat) (c : Rat) := by
  have h1 : ((-(c.natAbs : Int) : Int) : Rat) <= ((c : Int) : Rat) := Rat.intCast_le_intCast.mpr (by omega)
  have h2 : ((c : Int) : Rat) <= (((c.natAbs : Nat) : Int) : Rat) := Rat.intCast_le_intCast.mpr (by omega)
  constructor
  · rwa [Rat.intCast_neg] at h1
  · exact h2
noncomputable def eB (M : Rat) : List Int -> Rat
  | [] => 0
  | c :: cs => (c.natAbs : Rat) + M * eB M cs
noncomputable def eL (M : Rat) : List Int -> Rat
  | [] => 0
  | _ :: cs => eB M cs + M * eL M cs
noncomputable def eK (M : Rat) : List Int -> Rat
  | [] => 0
  | _ :: cs => eL M cs + M * eK M cs
theorem iw {M x : Rat} (hx : In M x) : ∀ c : List Int, In (eB M c) (ev x c)
  | [] => by constructor <;> simp [eB, ev] <;> grind
  | c :: cs => (Mp c).add (hx.mul (iw hx cs))
theorem u5 {M x y : Rat} (hx : In M x) (hy : In M y) : ∀ c : List Int, ∃ g, In (eL M c) g /\ ev y c - ev x c = (y - x) * g
  | [] => ⟨0, by constructor <;> simp [eL] <;> grind, by show (0 : Rat) - 0 = _; grind⟩
  | c :: cs => by
    obtain ⟨g, hg, e⟩ := u5 hx hy cs
    refine ⟨ev y cs + x * g, (iw hy cs).add (hx.mul hg), ?_⟩
    show ((c : Rat) + y * ev y cs) - ((c : Rat) + x * ev x cs) = _
    grind
theorem uZ {M x y : Rat} (hx : In M x) (hy : In M y) : ∀ c : List Int, ∃ k, In (eK M c) k /\ ev y c - ev x c = (y - x) * (ed x c + (y - x) * k)
  | [] => ⟨0, by constructor <;> simp [eK] <;> grind, by show (0 : Rat) - 0 = (y - x) * (0 + _); grind⟩
  | c :: cs => by
    obtain ⟨g, hg, e⟩ := u5 hx hy cs
    obtain ⟨k, hk, e2⟩ := uZ hx hy cs
    refine ⟨g + x * k, hg.add (hx.mul hk), ?_⟩
    show ((c : Rat) + y * ev y cs) - ((c : Rat) + x * ev x cs) = (y - x) * (ev x cs + x * ed x cs + (y - x) * (g + x * k))
    have e3 : ev y cs = ev x cs + (y - x) * g := by grind
    have e4 : x * (ev y cs - ev x cs) = x * ((y - x) * (ed x cs + (y - x) * k)) := by rw [e2]
    grind
end Zf
namespace Zf
open PS
noncomputable def rs (v : Rat) : Int := if 0 < v then 1 else if v < 0 then -1 else 0
theorem iM {v : Rat} (h : 0 < v) : rs v = 1 := if_pos h
theorem iQ {v : Rat} (h : v < 0) : rs v = -1 := by
  unfold rs
  rw [if_neg (by grind), if_pos h]
theorem Ij : rs 0 = 0 := by decide
theorem cV (v : Rat) : (0 < v /\ rs v = 1) \/ (v = 0 /\ rs v = 0) \/ (v < 0 /\ rs v = -1) := by
  by_cases h : 0 < v
  · exact .inl ⟨h, iM h⟩
  · by_cases k : v < 0
    · exact .inr (.inr ⟨k, iQ k⟩)
    · have z : v = 0 := by grind
      exact .inr (.inl ⟨z, by rw [z]; rfl⟩)
theorem fD {a b : Rat} (h : 0 < a) (k : 0 < b) : 0 < a / b := by rw [Rat.lt_div_iff k]; grind
theorem lV (v : Rat) : Sg (rs v) := by
  rcases cV v with ⟨_, h⟩ | ⟨_, h⟩ | ⟨_, h⟩
  · exact .inl h
  · exact .inr (.inl h)
  · exact .inr (.inr h)
theorem uO {v : Rat} (h : rs v = 1) : 0 < v := by
  rcases cV v with ⟨k, q⟩ | ⟨_, q⟩ | ⟨_, q⟩
  · exact k
  · rw [h] at q; cases q
  · rw [h] at q; cases q
theorem qe {v : Rat} (h : rs v = -1) : v < 0 := by
  rcases cV v with ⟨_, q⟩ | ⟨_, q⟩ | ⟨k, q⟩
  · rw [h] at q; cases q
  · rw [h] at q; cases q
  · exact k
noncomputable def iI (M : Rat) (P : Rat -> Rat -> Prop) : Prop := ∃ δ : Rat, 0 < δ /\ ∀ x y, In M x -> In M y -> x <= y -> y - x <= δ -> P x y
theorem iI.and {M : Rat} {P Q : Rat -> Rat -> Prop} (h : iI M P) (k : iI M Q) : iI M fun x y => P x y /\ Q x y := by
  obtain ⟨d, d0, h⟩ := h
  obtain ⟨e, e0, k⟩ := k
  rcases (by grind : d <= e \/ e <= d) with l | l
  · exact ⟨d, d0, fun x y a b c f => ⟨h x y a b c f, k x y a b c (by grind)⟩⟩
  · exact ⟨e, e0, fun x y a b c f => ⟨h x y a b c (by grind), k x y a b c f⟩⟩
theorem iI.mono {M : Rat} {P Q : Rat -> Rat -> Prop} (h : iI M P) (k : ∀ x y, In M x -> In M y -> x <= y -> P x y -> Q x y) : iI M Q := by
  obtain ⟨d, d0, h⟩ := h
  exact ⟨d, d0, fun x y a b c f => k x y a b c (h x y a b c f)⟩
theorem iI.triv {M : Rat} {P : Rat -> Rat -> Prop} (h : ∀ x y, P x y) : iI M P := ⟨1, by decide, fun x y _ _ _ _ => h x y⟩
theorem gQ {M : Rat} (h : 0 <= M) : ∀ c : List Int, 0 <= eB M c
  | [] => by show (0 : Rat) <= 0; grind
  | c :: cs => by
    have h1 : (0 : Rat) <= (c.natAbs : Rat) := Rat.intCast_nonneg.mpr (by omega : (0 : Int) <= (c.natAbs : Int))
    have h2 := Rat.mul_nonneg h (gQ h cs)
    show 0 <= (c.natAbs : Rat) + M * eB M cs
    grind
theorem wJ {M : Rat} (h : 0 <= M) : ∀ c : List Int, 0 <= eL M c
  | [] => by show (0 : Rat) <= 0; grind
  | c :: cs => by
    have h1 := gQ h cs
    have h2 := Rat.mul_nonneg h (wJ h cs)
    show 0 <= eB M cs + M * eL M cs
    grind
theorem wK {M : Rat} (h : 0 <= M) : ∀ c : List Int, 0 <= eK M c
  | [] => by show (0 : Rat) <= 0; grind
  | c :: cs => by
    have h1 := wJ h cs
    have h2 := Rat.mul_nonneg h (wK h cs)
    show 0 <= eL M cs + M * eK M cs
    grind
theorem qY {M L η : Rat} (hL : 0 <= L) (hη : 0 < η) : iI M fun x y => (y - x) * L < η := by
  refine ⟨η / (L + 1), ?_, fun x y _ _ h d => ?_⟩
  · exact fD hη (by grind)
  · have h1 : (y - x) * (L + 1) <= η := by
      have := Rat.mul_le_mul_of_nonneg_right d (c := L + 1) (by grind)
      rwa [Rat.div_mul_cancel (by grind)] at this
    rcases (by grind : 0 < y - x \/ y - x <= 0) with q | q
    · grind
    · have : y - x = 0 := by grind
      show (y - x) * L < η
      rw [this]
      grind
noncomputable def St (x y : Rat) (c : List Int) (p : Int) : Prop := rs (ev x c) = p /\ rs (ev y c) = p /\ (p = 1 \/ p = -1)
theorem fu {M η : Rat} (hM : 0 <= M) (hη : 0 < η) (c : List Int) : iI M fun x y => (∃ p, St x y c p) \/ In η (ev x c) := by
  refine (qY (wJ hM c) hη).mono fun x y hx hy h d => ?_
  obtain ⟨g, hg, e⟩ := u5 hx hy c
  have h1 : In (y - x) (y - x) := by constructor <;> grind
  have h2 := h1.mul hg
  rw [<- e] at h2
  obtain ⟨a, b⟩ := h2
  by_cases c1 : η < ev x c
  · exact .inl ⟨1, iM (by grind), iM (by grind), .inl rfl⟩
  · by_cases c2 : ev x c < -η
    · exact .inl ⟨-1, iQ (by grind), iQ (by grind), .inr rfl⟩
    · exact .inr ⟨by grind, by grind⟩
inductive Al : Int -> List Int -> List Int -> Prop
  | nil (p : Int) : Al p [] []
  | same (p s : Int) (ss ts : List Int) : (s = 1 \/ s = -1) -> Al s ss ts -> Al p (s :: ss) (s :: ts)
  | skip (p s t : Int) (ss ts : List Int) : (p = 1 \/ p = -1) -> Sg s -> Sg t -> Al (-p) ss ts -> Al p (s :: (-p) :: ss) (t :: (-p) :: ts)
theorem xP {p s : Int} (hp : p = 1 \/ p = -1) (hs : Sg s) (ss : List Int) : chg p (s :: (-p) :: ss) = 1 + chg (-p) ss := by
  show (if p * s = -1 then 1 else 0) + ((if (if s ≠ 0 then s else p) * -p = -1 then 1 else 0) + chg (if -p ≠ 0 then -p else _) ss) = 1 + chg (-p) ss
  rw [if_pos (c := -p ≠ 0) (by omega), <- Int.add_assoc]
  congr 1
  rcases hp with r | r <;> subst r <;> rcases hs with q | q | q <;> subst q <;> rfl
theorem Al.chg {p : Int} {ss ts : List Int} (h : Al p ss ts) : chg p ss = chg p ts := by
  induction h with
  | nil => rfl
  | same p s ss ts hs _ ih =>
    show _ + Zf.chg _ ss = _ + Zf.chg _ ts
    rw [if_pos (c := s ≠ 0) (by omega), ih]
  | skip p s t ss ts hp hs ht _ ih => rw [xP hp hs, xP hp ht, ih]
noncomputable def sgs (x : Rat) (ls : List (List Int)) : List Int := ls.map fun c => rs (ev x c)
theorem dZ {k : Int} (h : k ≠ 0) : (1 : Rat) <= (k : Rat) \/ (k : Rat) <= -1 := by
  rcases Int.lt_or_gt_of_ne h with q | q
  · right
    have : ((k : Int) : Rat) <= ((-1 : Int) : Rat) := Rat.intCast_le_intCast.mpr (by omega)
    simpa using this
  · left
    have : ((1 : Int) : Rat) <= ((k : Int) : Rat) := Rat.intCast_le_intCast.mpr (by omega)
    simpa using this
theorem bO {k : Int} (h : 0 < k) : (1 : Rat) <= (k : Rat) := by
  have : ((1 : Int) : Rat) <= ((k : Int) : Rat) := Rat.intCast_le_intCast.mpr (by omega)
  simpa using this
theorem Ah {a b r : List Int} (h : Left a b r) : ∃ (A : Int) (q : List Int), 0 < A /\ C A * co a = co q * co b + co r /\ ∀ x, (A : Rat) * ev x a = ev x q * ev x b + ev x r := by
  obtain ⟨_, _, A, d, q, hA, hq, e⟩ := h
  refine ⟨A, upto q d, hA, by rw [mX hq]; exact e, fun x => ?_⟩
  have e1 := (Ev.C x A).mul (Ev.co x a)
  have e2 := ((Ev.co x (upto q d)).mul (Ev.co x b)).add (Ev.co x r)
  rw [mX hq, <- e] at e2
  exact e1.uniq e2
theorem vV (x : Rat) (r : List Int) : ev x r = -((ct r : Int) : Rat) * ev x (negL (aF r)) := by
  have e1 : Ev x (co r) (ev x r) := Ev.co x r
  have e2 : Ev x (C (- ct r) * co (negL (aF r))) _ := (Ev.C x (- ct r)).mul (Ev.co x (negL (aF r)))
  have e3 : C (- ct r) * co (negL (aF r)) = co r := by
    unfold negL
    rw [vd, <- PS.mul_assoc, CC, show - ct r * -1 = ct r by omega, d9]
  rw [e3] at e2
  have := e1.uniq e2
  rwa [Rat.intCast_neg] at this
theorem qI {f g : List Int} (h : Cop (co f) (co g)) : ∃ (k : Int) (u v : List Int), k ≠ 0 /\ ∀ x, (k : Rat) = ev x u * ev x f + ev x v * ev x g := by
  obtain ⟨k, u, v, hk, hu, hv, e⟩ := h
  obtain ⟨ul, hu⟩ := hu.list
  obtain ⟨vl, hv⟩ := hv.list
  refine ⟨k, ul, vl, hk, fun x => ?_⟩
  have e2 := ((Ev.co x ul).mul (Ev.co x f)).add ((Ev.co x vl).mul (Ev.co x g))
  rw [hu, hv, <- e] at e2
  exact (Ev.C x k).uniq e2
theorem nQ {a b r : List Int} (h : Left a b r) (c : Cop (co a) (co b)) : Cop (co b) (co (negL (aF r))) := by
  obtain ⟨_, _, A, d, q, hA, hq, e⟩ := h
  obtain ⟨k, u, v, hk, hu, hv, e2⟩ := c
  have e3 : C (- ct r) * co (negL (aF r)) = co r := by
    unfold negL
    rw [vd, <- PS.mul_assoc, CC, show - ct r * -1 = ct r by omega, d9]
  refine ⟨A * k, u * q + C A * v, u * C (- ct r), Int.mul_ne_zero (by omega) hk, (hu.mul ⟨d, hq⟩).add ((Po.C A).mul hv), hu.mul (Po.C _), ?_⟩
  rw [<- CC, e2, PS.mul_assoc u, e3]
  have : C A * (u * co a + v * co b) = u * (C A * co a) + C A * v * co b := by grind
  rw [this, e]
  grind
theorem Dz {M : Rat} (hM : 0 <= M) {a b : List Int} (h : Left a b []) (c : Cop (co a) (co b)) : iI M fun x y => ∃ p, St x y b p := by
  obtain ⟨A, q, hA, _, e⟩ := Ah h
  obtain ⟨k, u, v, hk, e2⟩ := qI c
  have hU := gQ hM u
  have hV := gQ hM v
  have hQ := gQ hM q
  have hA1 := bO hA
  have UQ := Rat.mul_nonneg hU hQ
  have AV : 0 <= (A : Rat) * eB M v := Rat.mul_nonneg (by grind) hV
  generalize hW : eB M u * eB M q + (A : Rat) * eB M v + 1 = W
  have hW1 : 0 < W := by grind
  refine (fu hM (η := 1 / W) (fD (by decide) hW1) b).mono fun x y hx hy _ d => ?_
  rcases d with d | d
  · exact d
  · exfalso
    have i1 := iw hx u
    have i2 := iw hx v
    have i3 := iw hx q
    have e3 := e x
    have e4 := e2 x
    rw [show ev x [] = (0 : Rat) from rfl] at e3
    have z : (A : Rat) * (k : Rat) = (ev x u * ev x q + (A : Rat) * ev x v) * ev x b := by
      have : (A : Rat) * (k : Rat) = ev x u * ((A : Rat) * ev x a) + (A : Rat) * ev x v * ev x b := by rw [e4]; grind
      rw [this, e3]
      grind
    have iA : In (A : Rat) (A : Rat) := by constructor <;> grind
    have i4 := ((i1.mul i3).add (iA.mul i2)).mul d
    rw [<- z] at i4
    have j : (eB M u * eB M q + (A : Rat) * eB M v) * (1 / W) < 1 := by
      have : W * (1 / W) = 1 := by grind
      have p : 0 < 1 / W := fD (by decide) hW1
      have : (eB M u * eB M q + (A : Rat) * eB M v) * (1 / W) + 1 / W = 1 := by grind
      grind
    obtain ⟨j1, j2⟩ := i4
    rcases dZ hk with q1 | q1
    · have := Rat.mul_le_mul_of_nonneg_left q1 (c := (A : Rat)) (by grind)
      grind
    · have := Rat.mul_le_mul_of_nonneg_left q1 (c := (A : Rat)) (by grind)
      grind
theorem Hf {M : Rat} (hM : 0 <= M) {a b r : List Int} (h : Left a b r) (hr : r ≠ []) (cp : Cop (co b) (co (negL (aF r)))) : iI M fun x y => (∃ p, St x y b p) \/ ∃ p, St x y (negL (aF r)) p /\ (rs (ev x a) = 1 -> p = -1) /\ (rs (ev x a) = -1 -> p = 1) := by
  obtain ⟨A, q, hA, _, e⟩ := Ah h
  obtain ⟨k, u, v, hk, e2⟩ := qI cp
  have ctp : 0 < ct r := cL h.1 hr
  have nev := fun x => vV x r
  generalize negL (aF r) = c at *
  have hU := gQ hM u
  have hV := gQ hM v
  have hQ := gQ hM q
  have hA1 := bO hA
  have ht1 := bO ctp
  have VQ := Rat.mul_nonneg hV hQ
  generalize hW : eB M u + eB M v + eB M v * eB M q + 1 = W
  have hW1 : 0 < W := by grind
  have p : 0 < 1 / W := fD (by decide) hW1
  have w1 : W * (1 / W) = 1 := by grind
  refine ((fu hM p b).and (fu hM p c)).mono fun x y hx hy _ d => ?_
  have i1 := iw hx u
  have i2 := iw hx v
  have i3 := iw hx q
  have e3 := e x
  have e4 := e2 x
  rw [nev x] at e3
  generalize ev x u = U at *
  generalize ev x v = V at *
  generalize ev x q = Q at *
  generalize eB M u = BU at *
  generalize eB M v = BV at *
  generalize eB M q = BQ at *
  generalize hη : 1 / W = η at *
  have b1 : 0 <= BU * η := Rat.mul_nonneg hU (by grind)
  have b2 : 0 <= BV * η := Rat.mul_nonneg hV (by grind)
  have b3 : 0 <= BV * BQ * η := Rat.mul_nonneg VQ (by grind)
  have w2 : BU * η + BV * η + BV * BQ * η + η = 1 := by rw [<- w1, <- hW]; grind
  rcases d.1 with s | s
  · exact .inl s
  right
  have ub := i1.mul s
  have qb := i3.mul s
  rcases d.2 with t | t
  · obtain ⟨p', t⟩ := t
    refine ⟨p', t, fun ha => ?_, fun ha => ?_⟩
    · rcases t.2.2 with t2 | t2
      · exfalso
        have c0 : 0 < ev x c := uO (t2 ▸ t.1)
        have a0 : 0 < ev x a := uO ha
        have m1 : ev x c <= (ct r : Rat) * ev x c := by
          have := Rat.mul_le_mul_of_nonneg_right ht1 (c := ev x c) (by grind)
          grind
        have m2 : 0 < (A : Rat) * ev x a := Rat.mul_pos (by grind) a0
        have m3 : ev x c <= BQ * η := by
          have := qb.2
          grind
        have ic : In (BQ * η) (ev x c) := ⟨by grind, m3⟩
        have vc := i2.mul ic
        have kk := ub.add vc
        rw [<- e4] at kk
        obtain ⟨k1, k2⟩ := kk
        rcases dZ hk with q1 | q1 <;> grind
      · exact t2
    · rcases t.2.2 with t2 | t2
      · exact t2
      · exfalso
        have c0 : ev x c < 0 := qe (t2 ▸ t.1)
        have a0 : ev x a < 0 := qe ha
        have m1 : (ct r : Rat) * ev x c <= ev x c := by
          have := Rat.mul_le_mul_of_nonneg_right ht1 (c := - ev x c) (by grind)
          grind
        have m2 : 0 < (A : Rat) * (- ev x a) := Rat.mul_pos (by grind) (by grind)
        have m3 : -(BQ * η) <= ev x c := by
          have := qb.1
          grind
        have ic : In (BQ * η) (ev x c) := ⟨m3, by grind⟩
        have vc := i2.mul ic
        have kk := ub.add vc
        rw [<- e4] at kk
        obtain ⟨k1, k2⟩ := kk
        rcases dZ hk with q1 | q1 <;> grind
  · exfalso
    have vc := i2.mul t
    have kk := ub.add vc
    rw [<- e4] at kk
    obtain ⟨k1, k2⟩ := kk
    rcases dZ hk with q1 | q1 <;> grind
theorem qp {M : Rat} (hM : 0 <= M) : ∀ (n : Nat) (a b : List Int) (ls : List (List Int)), ls.length <= n -> Steps a b ls -> Cop (co a) (co b) -> iI M fun x y => ∀ p, St x y a p -> Al p (sgs x ls) (sgs y ls) := by
  intro n
  induction n using Nat.strongRecOn with
  | ind n IH =>
  intro a b ls hn h cp
  cases h with
  | stop => exact iI.triv fun x y p _ => Al.nil p
  | step _ _ r ls hne hl k =>
    have hn' : ls.length + 1 <= n := by simpa using hn
    have cp2 := nQ hl cp
    by_cases hr : r = []
    · subst hr
      have ls0 : ls = [] := by
        cases k with
        | stop => rfl
        | step _ _ _ _ h => exact absurd rfl h
      subst ls0
      refine (Dz hM hl cp).mono fun x y _ _ _ ⟨q, hq⟩ p hp => ?_
      show Al p [rs (ev x b)] [rs (ev y b)]
      rw [hq.1, hq.2.1]
      exact Al.same p q [] [] hq.2.2 (Al.nil q)
    · have N1 := IH ls.length (by omega) b _ ls (Nat.le_refl _) k cp2
      have N2 := Hf hM hl hr cp2
      have cne : negL (aF r) ≠ [] := fun z => hr (List.eq_nil_of_length_eq_zero (by rw [<- bG, <- mK, z]; rfl))
      generalize hc : negL (aF r) = c at *
      cases k with
      | stop => exact absurd rfl cne
      | step _ _ r2 ls2 _ hl2 k2 =>
        have N3 := IH ls2.length (by simp at hn'; omega) c _ ls2 (Nat.le_refl _) k2 (nQ hl2 cp2)
        refine ((N1.and N2).and N3).mono fun x y _ _ _ ⟨⟨d1, d2⟩, d3⟩ p hp => ?_
        rcases d2 with ⟨q, hq⟩ | ⟨q, hq, h1, h2⟩
        · have := d1 q hq
          show Al p (rs (ev x b) :: _) (rs (ev y b) :: _)
          rw [hq.1, hq.2.1]
          exact Al.same p q _ _ hq.2.2 this
        · have e : q = -p := by
            rcases hp.2.2 with r | r
            · rw [r, h1 (by rw [hp.1, r])]
            · rw [r, h2 (by rw [hp.1, r])]; rfl
          subst e
          have := d3 (-p) hq
          show Al p (rs (ev x b) :: rs (ev x c) :: _) (rs (ev y b) :: rs (ev y c) :: _)
          rw [hq.1, hq.2.1]
          exact Al.skip p _ _ _ _ hp.2.2 (lV _) (lV _) this
noncomputable def cross (s t : Int) : Int := if s ≠ 0 /\ s ≠ t then 1 else 0
theorem rB (x : Rat) (c : List Int) : ev x c = ((ct c : Int) : Rat) * ev x (aF c) := by
  have e2 := (Ev.C x (ct c)).mul (Ev.co x (aF c))
  rw [d9] at e2
  exact (Ev.co x c).uniq e2
noncomputable def Vc (x : Rat) (ls : List (List Int)) : Int := chg 0 (sgs x ls)
theorem rK {M : Rat} (hM : 0 <= M) {s : List Int} {ls : List (List Int)} (hs : bI s) (s0 : s ≠ []) (h : Steps s (aF (aM s)) ls) (cp : Cop (co s) (co (aF (aM s)))) : iI M fun x y => Vc x (s :: ls) - Vc y (s :: ls) = cross (rs (ev x s)) (rs (ev y s)) := by
  have N0 := qp hM ls.length s _ ls (Nat.le_refl _) h cp
  have st : ∀ x y p, St x y s p -> Al p (sgs x ls) (sgs y ls) -> Vc x (s :: ls) - Vc y (s :: ls) = cross (rs (ev x s)) (rs (ev y s)) := by
    intro x y p hp al
    unfold Vc
    show chg 0 (rs (ev x s) :: sgs x ls) - chg 0 (rs (ev y s) :: sgs y ls) = _
    rw [hp.1, hp.2.1]
    unfold chg cross
    rw [if_pos (c := p ≠ 0) (by have := hp.2.2; omega), al.chg, if_neg (by simp)]
    omega
  generalize hb : aF (aM s) = b0 at h cp
  cases h with
  | stop =>
    have hl : s.length = 1 := by
      have h1 : (aF (aM s)).length = 0 := by rw [hb]; rfl
      rw [bG, bW] at h1
      have := List.length_pos_iff.mpr s0
      omega
    obtain ⟨a, rfl⟩ := List.length_eq_one_iff.mp hl
    have ha : a ≠ 0 := hs s0
    refine iI.triv fun x y => ?_
    have e : ∀ x, ev x [a] = (a : Rat) := fun x => by show (a : Rat) + x * 0 = a; grind
    have p : ∃ p, St x y [a] p := by
      unfold St
      rw [e, e]
      rcases dZ ha with q | q
      · exact ⟨1, iM (by grind), iM (by grind), .inl rfl⟩
      · exact ⟨-1, iQ (by grind), iQ (by grind), .inr rfl⟩
    obtain ⟨p, hp⟩ := p
    exact st x y p hp (Al.nil p)
  | step _ _ r ls2 hne hl k =>
    have N1 := qp hM ls2.length b0 _ ls2 (Nat.le_refl _) k (nQ hl cp)
    obtain ⟨kk, u, v, hk, e2⟩ := qI cp
    have hU := gQ hM u
    have hV := gQ hM v
    generalize hW : eB M u + eB M v + 1 = W
    have hW1 : 0 < W := by grind
    have p0 : 0 < 1 / W := fD (by decide) hW1
    have w1 : W * (1 / W) = 1 := by grind
    have N2 := (fu hM p0 s).and (fu hM p0 b0)
    have N3 := qY (M := M) (wK hM s) p0
    have cp1 : 0 < ct (aM s) := by
      refine cL (eU hs) fun z => hne ?_
      rw [<- hb, z]; rfl
    have ct1 := bO cp1
    refine (((N0.and N1).and N2).and N3).mono fun x y hx hy hxy ⟨⟨⟨d0, d1⟩, ⟨d2, d3⟩⟩, d4⟩ => ?_
    rcases d2 with ⟨p, hp⟩ | d2
    · exact st x y p hp (d0 p hp)
    · have i1 := iw hx u
      have i2 := iw hx v
      have ub := i1.mul d2
      have e4 := e2 x
      have big : 1 / W < ev x b0 \/ ev x b0 < -(1 / W) := by
        by_cases c1 : In (1 / W) (ev x b0)
        · exfalso
          have vc := i2.mul c1
          have kk' := ub.add vc
          rw [<- e4] at kk'
          have w2 : eB M u * (1 / W) + eB M v * (1 / W) + 1 / W = 1 := by rw [<- w1, <- hW]; grind
          obtain ⟨k1, k2⟩ := kk'
          rcases dZ hk with q1 | q1 <;> grind
        · unfold In at c1
          grind
      have stb : ∃ p, St x y b0 p := by
        rcases d3 with q | q
        · exact q
        · obtain ⟨q1, q2⟩ := q
          grind
      obtain ⟨p, hp⟩ := stb
      have al := d1 p hp
      obtain ⟨t, ht, et⟩ := uZ hx hy s
      have es : ed x s = (ct (aM s) : Rat) * ev x b0 := by
        rw [<- rA, rB, hb]
      have id : In (y - x) (y - x) := by constructor <;> grind
      have dt := id.mul ht
      unfold Vc
      show chg 0 (rs (ev x s) :: rs (ev x b0) :: sgs x ls2) - chg 0 (rs (ev y s) :: rs (ev y b0) :: sgs y ls2) = _
      rw [hp.1, hp.2.1]
      have mono : (p = 1 -> ev x s <= ev y s) /\ (p = -1 -> ev y s <= ev x s) := by
        obtain ⟨dt1, dt2⟩ := dt
        refine ⟨fun q => ?_, fun q => ?_⟩
        · have b1 : 0 < ev x b0 := uO (q ▸ hp.1)
          have b2 : ev x b0 <= (ct (aM s) : Rat) * ev x b0 := by
            have := Rat.mul_le_mul_of_nonneg_right ct1 (c := ev x b0) (by grind)
            grind
          have b3 : 0 <= ed x s + (y - x) * t := by grind
          have b4 := Rat.mul_nonneg (a := y - x) (by grind) b3
          grind
        · have b1 : ev x b0 < 0 := qe (q ▸ hp.1)
          have b2 : (ct (aM s) : Rat) * ev x b0 <= ev x b0 := by
            have := Rat.mul_le_mul_of_nonneg_right ct1 (c := - ev x b0) (by grind)
            grind
          have b3 : 0 <= - (ed x s + (y - x) * t) := by grind
          have b4 := Rat.mul_nonneg (a := y - x) (by grind) b3
          grind
      have c9 : ∀ z : Int, Sg z -> ∀ ss, chg 0 (z :: p :: ss) = (if z = -p then 1 else 0) + chg p ss := by
        intro z hz ss
        show (if (0 : Int) * z = -1 then 1 else 0) + ((if (if z ≠ 0 then z else 0) * p = -1 then 1 else 0) + chg (if p ≠ 0 then p else _) ss) = _
        rw [if_neg (by omega), Int.zero_add, if_pos (c := p ≠ 0) (by have := hp.2.2; omega)]
        congr 1
        rcases hp.2.2 with r | r <;> subst r <;> rcases hz with q | q | q <;> subst q <;> rfl
      rw [c9 _ (lV _), c9 _ (lV _), al.chg]
      unfold cross
      rcases hp.2.2 with r | r
      · have m := mono.1 r
        subst r
        rcases cV (ev x s) with ⟨a1, a2⟩ | ⟨a1, a2⟩ | ⟨a1, a2⟩ <;> rcases cV (ev y s) with ⟨c1, c2⟩ | ⟨c1, c2⟩ | ⟨c1, c2⟩ <;> rw [a2, c2] <;> simp <;> first | omega | (exfalso; grind)
      · have m := mono.2 r
        subst r
        rcases cV (ev x s) with ⟨a1, a2⟩ | ⟨a1, a2⟩ | ⟨a1, a2⟩ <;> rcases cV (ev y s) with ⟨c1, c2⟩ | ⟨c1, c2⟩ | ⟨c1, c2⟩ <;> rw [a2, c2] <;> simp <;> first | omega | (exfalso; grind)
end Zf
namespace Zf
open PS
theorem HX (q : Rat) : ∃ n : Nat, q <= (n : Rat) := by
  refine ⟨q.ceil.toNat, ?_⟩
  have h1 := Rat.le_ceil (x := q)
  have h2 : ((q.ceil : Int) : Rat) <= (((q.ceil.toNat : Nat) : Int) : Rat) := Rat.intCast_le_intCast.mpr (by omega)
  have h3 : (((q.ceil.toNat : Nat) : Int) : Rat) = ((q.ceil.toNat : Nat) : Rat) := rfl
  rw [h3] at h2
  exact Rat.le_trans h1 h2
theorem pL {F : Rat -> Int} {R : Rat -> Prop} (h : ∀ M, 0 <= M -> iI M fun x y => R x -> R y -> F x = F y) {x y : Rat} (hxy : x <= y) (hR : ∀ z, x <= z -> z <= y -> R z) : F x = F y := by
  obtain ⟨M, hM, mx⟩ : ∃ M : Rat, 0 <= M /\ ∀ z, x <= z -> z <= y -> In M z := by
    rcases (by grind : 0 <= x \/ x <= 0) with a | a <;> rcases (by grind : 0 <= y \/ y <= 0) with b | b
    · exact ⟨y, b, fun z _ _ => ⟨by grind, by grind⟩⟩
    · exact ⟨y - x, by grind, fun z _ _ => ⟨by grind, by grind⟩⟩
    · exact ⟨y - x, by grind, fun z _ _ => ⟨by grind, by grind⟩⟩
    · exact ⟨-x, by grind, fun z _ _ => ⟨by grind, by grind⟩⟩
  obtain ⟨δ, d0, hd⟩ := h M hM
  obtain ⟨n, hn⟩ := HX ((y - x) / δ)
  have hn' : y - x <= (n : Rat) * δ := by
    have := Rat.mul_le_mul_of_nonneg_right hn (c := δ) (by grind)
    rwa [Rat.div_mul_cancel (by grind)] at this
  have key : ∀ n : Nat, ∀ a, x <= a -> a <= y -> y - a <= (n : Rat) * δ -> F a = F y := by
    intro n
    induction n with
    | zero =>
      intro a h1 h2 h3
      have e : a = y := by
        have : ((0 : Nat) : Rat) * δ = 0 := by simp
        grind
      rw [e]
    | succ n ih =>
      intro a h1 h2 h3
      have e : ((n + 1 : Nat) : Rat) = (n : Rat) + 1 := by simp
      rw [e] at h3
      by_cases c : y - a <= δ
      · exact hd a y (mx a h1 h2) (mx y hxy (by grind)) h2 c (hR a h1 h2) (hR y hxy (by grind))
      · rw [<- ih (a + δ) (by grind) (by grind) (by grind)]
        exact hd a (a + δ) (mx a h1 h2) (mx _ (by grind) (by grind)) (by grind) (by grind) (hR a h1 h2) (hR _ (by grind) (by grind))
  exact key n x (by grind) hxy hn'
theorem mO {σ m L : Int} {x : Rat} (hx : 0 <= x) (hL : 0 < σ * L) (hσ : σ = 1 \/ σ = -1) (hm : (σ * L : Int) + (m : Rat) <= x * (σ * L : Int)) : ∀ (l : List Int), (∀ y ∈ l, -m <= y /\ y <= m) -> ((σ * L : Int) : Rat) <= (σ : Rat) * ev x (l ++ [L])
  | [], _ => by
    show ((σ * L : Int) : Rat) <= (σ : Rat) * ((L : Rat) + x * 0)
    rw [Rat.intCast_mul]
    grind
  | a :: l, h => by
    have ih := mO hx hL hσ hm l fun y hy => h y (List.mem_cons_of_mem _ hy)
    obtain ⟨a1, a2⟩ := h a List.mem_cons_self
    show ((σ * L : Int) : Rat) <= (σ : Rat) * ((a : Rat) + x * ev x (l ++ [L]))
    have p := Rat.mul_le_mul_of_nonneg_left ih hx
    have a3 : (-(m : Rat)) <= (σ : Rat) * (a : Rat) := by
      rw [<- Rat.intCast_mul, <- Rat.intCast_neg]
      refine Rat.intCast_le_intCast.mpr ?_
      rcases hσ with r | r <;> subst r <;> omega
    grind
theorem mQ {m L : Int} {x : Rat} (hx : 0 <= x) : ∀ (l : List Int) (σ : Int), (σ = 1 \/ σ = -1) -> 0 < σ * L -> ((σ * L : Int) + (m : Rat) <= x * (σ * L : Int)) -> (∀ y ∈ l, -m <= y /\ y <= m) -> ((σ * L : Int) : Rat) <= ((σ * (-1) ^ l.length : Int) : Rat) * ev (-x) (l ++ [L])
  | [], σ, _, _, _, _ => by
    show ((σ * L : Int) : Rat) <= ((σ * 1 : Int) : Rat) * ((L : Rat) + -x * 0)
    rw [Int.mul_one, Rat.intCast_mul]
    grind
  | a :: l, σ, hσ, hL, hm, h => by
    have ih := mQ (m := m) (L := L) hx l σ hσ hL hm fun y hy => h y (List.mem_cons_of_mem _ hy)
    obtain ⟨a1, a2⟩ := h a List.mem_cons_self
    show ((σ * L : Int) : Rat) <= ((σ * (-1) ^ (l.length + 1) : Int) : Rat) * ((a : Rat) + -x * ev (-x) (l ++ [L]))
    have p := Rat.mul_le_mul_of_nonneg_left ih hx
    have e : (σ * (-1) ^ (l.length + 1) : Int) = - (σ * (-1) ^ l.length) := by
      rw [Int.pow_succ]; grind
    have s : (σ * (-1) ^ l.length : Int) = 1 \/ (σ * (-1) ^ l.length : Int) = -1 := by
      have : ((-1 : Int) ^ l.length = 1) \/ ((-1 : Int) ^ l.length = -1) := by
        induction l.length with
        | zero => exact .inl rfl
        | succ n ih => rw [Int.pow_succ]; rcases ih with q | q <;> rw [q] <;> simp
      rcases this with q | q <;> rw [q] <;> rcases hσ with r | r <;> subst r <;> simp
    rw [e]
    generalize (σ * (-1) ^ l.length : Int) = τ at *
    have a3 : (-(m : Rat)) <= ((-τ : Int) : Rat) * (a : Rat) := by
      rw [<- Rat.intCast_mul, <- Rat.intCast_neg]
      refine Rat.intCast_le_intCast.mpr ?_
      rcases s with r | r <;> subst r <;> omega
    rw [Rat.intCast_neg] at a3 ⊢
    grind
theorem J6 {p q : Int} (hq : 0 < q) : ∀ c : List Int, ((hv p q c : Int) : Rat) * (q : Rat) = ev ((p : Rat) / (q : Rat)) c * (q : Rat) ^ c.length
  | [] => by show ((0 : Int) : Rat) * _ = 0 * _; grind
  | c :: cs => by
    have ih := J6 (p := p) hq cs
    have q0 : (q : Rat) ≠ 0 := by have := bO hq; grind
    rw [Jc, Rat.intCast_add, Rat.intCast_mul, Rat.intCast_mul, Rat.intCast_pow]
    show _ = ((c : Rat) + (p : Rat) / (q : Rat) * ev ((p : Rat) / (q : Rat)) cs) * (q : Rat) ^ (cs.length + 1)
    rw [Rat.pow_succ]
    generalize hx : (p : Rat) / (q : Rat) = x at *
    have e : (p : Rat) = x * (q : Rat) := by rw [<- hx, Rat.div_mul_cancel q0]
    generalize (q : Rat) ^ cs.length = Q at *
    rw [e]
    grind
theorem yU (z : Int) : sgn z = rs (z : Rat) := by
  unfold sgn
  rcases Int.lt_trichotomy z 0 with h | h | h
  · rw [if_neg (by omega), if_pos h, iQ]
    have : ((z : Int) : Rat) < ((0 : Int) : Rat) := Rat.intCast_lt_intCast.mpr h
    simpa using this
  · subst h; rfl
  · rw [if_pos h, iM]
    have : ((0 : Int) : Rat) < ((z : Int) : Rat) := Rat.intCast_lt_intCast.mpr h
    simpa using this
theorem jF {v k : Rat} (hk : 0 < k) : rs (v * k) = rs v := by
  rcases cV v with ⟨h, e⟩ | ⟨h, e⟩ | ⟨h, e⟩
  · rw [e, iM (Rat.mul_pos h hk)]
  · rw [h]; simp
  · rw [e, iQ]
    have := Rat.mul_pos (a := -v) (by grind) hk
    grind
noncomputable def plc (p q : Int) : Rat := (p : Rat) / (q : Rat)
theorem yV {p q : Int} (hq : 0 < q) (c : List Int) : sgn (hv p q c) = rs (ev (plc p q) c) := by
  have h := J6 (p := p) hq c
  have q0 : (0 : Rat) < (q : Rat) := by have := bO hq; grind
  rw [yU, <- jF q0, h]
  exact jF (Rat.pow_pos q0)
theorem K8 {p q r s : Int} (hq : 0 < q) (hs : 0 < s) : plc p q <= plc r s ↔ p * s <= r * q := by
  have q0 : (0 : Rat) < (q : Rat) := by have := bO hq; grind
  have s0 : (0 : Rat) < (s : Rat) := by have := bO hs; grind
  have e1 : (p : Rat) = plc p q * q := by unfold plc; rw [Rat.div_mul_cancel (by grind)]
  have e2 : (r : Rat) = plc r s * s := by unfold plc; rw [Rat.div_mul_cancel (by grind)]
  rw [<- Rat.intCast_le_intCast, Rat.intCast_mul, Rat.intCast_mul, e1, e2]
  generalize plc p q = x
  generalize plc r s = y
  have qs := Rat.mul_pos q0 s0
  constructor
  · intro h
    have := Rat.mul_le_mul_of_nonneg_right h (c := (q : Rat) * s) (by grind)
    grind
  · intro h
    apply Classical.byContradiction
    intro n
    have := Rat.mul_lt_mul_of_pos_right (a := y) (b := x) (by grind) qs
    grind
end Zf
namespace Zf
open PS
theorem Hx {M : Rat} (hM : 0 <= M) {f g : List Int} (cp : Cop (co f) (co g)) : iI M fun x y => (∃ p, St x y f p) \/ ((∃ p, St x y g p)) := by
  obtain ⟨k, u, v, hk, e2⟩ := qI cp
  have hU := gQ hM u
  have hV := gQ hM v
  generalize hW : eB M u + eB M v + 1 = W
  have hW1 : 0 < W := by grind
  have p0 : 0 < 1 / W := fD (by decide) hW1
  have w1 : W * (1 / W) = 1 := by grind
  refine ((fu hM p0 f).and (fu hM p0 g)).mono fun x y hx hy _ ⟨d1, d2⟩ => ?_
  rcases d1 with d1 | d1
  · exact .inl d1
  rcases d2 with d2 | d2
  · exact .inr d2
  exfalso
  have kk := ((iw hx u).mul d1).add ((iw hx v).mul d2)
  rw [<- e2 x] at kk
  have w2 : eB M u * (1 / W) + eB M v * (1 / W) + 1 / W = 1 := by rw [<- w1, <- hW]; grind
  obtain ⟨k1, k2⟩ := kk
  rcases dZ hk with q1 | q1 <;> grind
theorem uP (u v : Rat) : rs (u * v) = rs u * rs v := by
  rcases cV u with ⟨h, e⟩ | ⟨h, e⟩ | ⟨h, e⟩
  · rw [e, Int.one_mul]
    have := jF (v := v) h
    rwa [Rat.mul_comm] at this
  · rw [e, h]; simp [Ij]
  · rw [e]
    have h1 := jF (v := v) (k := -u) (by grind)
    have h2 : v * -u = -(u * v) := by grind
    rw [h2] at h1
    have h3 : rs (-(u * v)) = - rs (u * v) := by
      rcases cV (u * v) with ⟨a, b⟩ | ⟨a, b⟩ | ⟨a, b⟩
      · rw [b, iQ (by grind)]
      · rw [b, a]; rfl
      · rw [b, iM (by grind)]; rfl
    omega
theorem zT (s : Int) : cross s s = 0 := by
  unfold cross
  rw [if_neg (by omega)]
end Zf
namespace Zf
open PS
theorem yE {M : Rat} (hM : 0 <= M) {c s : List Int} (hc : c ≠ []) (hg : bI c) (h : Simple c s) : iI M fun x y => ∀ p q : Int, (p = 1 \/ p = -1) -> (q = 1 \/ q = -1) -> rs (ev x c) = p -> rs (ev y c) = p -> rs (ev x (aM c)) = q -> rs (ev y (aM c)) = q -> rs (ev x s) = rs (ev y s) := by
  obtain ⟨s0, s1, s2, g, sh, e⟩ := h
  rcases sh with ⟨z, _⟩ | ⟨g0, g1, g2, g3, g4⟩
  · exact absurd z hc
  have ctp := cL hg hc
  obtain ⟨a, t, ha, ht, et⟩ := g4.2.1
  obtain ⟨b, u, v, hb, hu, hv, eb⟩ := g4.2.2
  obtain ⟨tl, htl⟩ := ht.list
  have ec : co c = C (ct c) * (co s * co g) := by rw [<- e, d9]
  have cp : Cop (co s) (co tl) := by
    refine ⟨a * b, C a * u * C (ct c), v, Int.mul_ne_zero ha hb, ((Po.C a).mul hu).mul (Po.C _), hv, ?_⟩
    refine cancel (Po.C _) ((((Po.C a).mul hu).mul (Po.C _)).mul (Po.co s) |>.add (hv.mul (Po.co tl))) (Po.co g) (lX g1 g0) ?_
    rw [<- CC, PS.mul_assoc, eb, htl]
    have : C a * (u * co c + v * co (aM c)) = C a * u * co c + v * (C a * co (aM c)) := by grind
    rw [this, et, ec]
    grind
  refine (Hx hM cp).mono fun x y _ _ _ d p q hp hq h1 h2 h3 h4 => ?_
  have rel : ∀ x, rs (ev x c) = rs (ev x s) * rs (ev x g) /\ sgn a * rs (ev x (aM c)) = rs (ev x tl) * rs (ev x g) := fun x => by
    constructor
    · have f1 := Ev.co x c
      have f2 := (Ev.C x (ct c)).mul ((Ev.co x s).mul (Ev.co x g))
      rw [<- ec] at f2
      rw [f1.uniq f2, uP, uP, <- yU, show sgn (ct c) = 1 from if_pos ctp, Int.one_mul]
    · have f1 := (Ev.C x a).mul (Ev.co x (aM c))
      have f2 := (Ev.co x tl).mul (Ev.co x g)
      rw [htl, <- et] at f2
      have := congrArg rs (f1.uniq f2)
      rwa [uP, uP, <- yU] at this
  obtain ⟨x1, x2⟩ := rel x
  obtain ⟨y1, y2⟩ := rel y
  rw [h1] at x1
  rw [h2] at y1
  rw [h3] at x2
  rw [h4] at y2
  rcases d with ⟨k, hk⟩ | ⟨k, hk⟩
  · rw [hk.1, hk.2.1]
  · rw [hk.1] at x2
    rw [hk.2.1] at y2
    have := hk.2.2
    have a1 := lV (ev x s)
    have a2 := lV (ev y s)
    have a3 := lV (ev x g)
    have a4 := lV (ev y g)
    generalize rs (ev x s) = X at *
    generalize rs (ev y s) = Y at *
    generalize rs (ev x g) = G at *
    generalize rs (ev y g) = G' at *
    have gg : G = G' := by
      have := x2.symm.trans y2
      rcases hk.2.2 with r | r <;> subst r <;> omega
    subst gg
    have := x1.symm.trans y1
    rcases a3 with r | r | r <;> subst r <;> omega
noncomputable def mxL (l : List Int) : Int := l.foldl (fun a x => max a (x.natAbs : Int)) 0
theorem uV : ∀ (l : List Int) (a : Int), a <= l.foldl (fun a x => max a (x.natAbs : Int)) a /\ ∀ y ∈ l, (y.natAbs : Int) <= l.foldl (fun a x => max a (x.natAbs : Int)) a
  | [], a => ⟨Int.le_refl a, fun y h => nomatch h⟩
  | x :: l, a => by
    obtain ⟨h1, h2⟩ := uV l (max a (x.natAbs : Int))
    refine ⟨Int.le_trans (Int.le_max_left _ _) h1, fun y hy => ?_⟩
    rcases List.mem_cons.mp hy with r | r
    · subst r
      exact Int.le_trans (Int.le_max_right _ _) h1
    · exact h2 y r
theorem Er {l : List Int} {y : Int} (h : y ∈ l) : -mxL l <= y /\ y <= mxL l := by
  have := (uV l 0).2 y h
  unfold mxL
  omega
theorem Aa (l : List Int) : 0 <= mxL l := (uV l 0).1
noncomputable def aX (c : List Int) : Int := 2 + mxL c.dropLast / ((c.getD (c.length - 1) 0).natAbs : Int)
theorem pJ {l : List Int} {L : Int} (hl : l ≠ []) : ∃ l', aM (l ++ [L]) = l' ++ [(l.length : Int) * L] /\ l'.length = l.length - 1 /\ ∀ y ∈ l', -((l.length : Int) * mxL l) <= y /\ y <= (l.length : Int) * mxL l := by
  have hl1 := List.length_pos_iff.mpr hl
  have len : (aM (l ++ [L])).length = l.length := by rw [bW, List.length_append]; simp
  refine ⟨(aM (l ++ [L])).take (l.length - 1), ?_, by rw [List.length_take, len]; omega, fun y hy => ?_⟩
  · have e : aM (l ++ [L]) = (aM (l ++ [L])).take (l.length - 1) ++ (aM (l ++ [L])).drop (l.length - 1) := (List.take_append_drop _ _).symm
    have e2 : (aM (l ++ [L])).drop (l.length - 1) = [(l.length : Int) * L] := by
      refine List.ext_getElem (by rw [List.length_drop, len]; simp; omega) fun i h1 h2 => ?_
      have i0 : i = 0 := by simp at h2; omega
      subst i0
      rw [List.getElem_drop]
      have := j6 (l ++ [L]) (l.length - 1)
      rw [List.getD_eq_getElem?_getD, List.getElem?_eq_getElem (by rw [len]; omega)] at this
      have e3 : (l ++ [L]).getD (l.length - 1 + 1) 0 = L := by
        rw [show l.length - 1 + 1 = l.length by omega, List.getD_eq_getElem?_getD]
        simp
      rw [e3] at this
      have e4 : (((l.length - 1 : Nat) : Int) + 1) = (l.length : Int) := by omega
      rw [e4] at this
      simpa using this
    rw [e2] at e
    exact e
  · obtain ⟨i, hi, rfl⟩ := List.mem_iff_getElem.mp hy
    rw [List.length_take, len] at hi
    have := j6 (l ++ [L]) i
    rw [List.getD_eq_getElem?_getD, List.getElem?_eq_getElem (by rw [len]; omega)] at this
    have e3 : (l ++ [L]).getD (i + 1) 0 = l[i + 1]'(by omega) := by
      rw [List.getD_eq_getElem?_getD, List.getElem?_append_left (by omega), List.getElem?_eq_getElem (by omega)]
      rfl
    rw [e3] at this
    have m := Er (List.getElem_mem (l := l) (n := i + 1) (by omega))
    rw [List.getElem_take]
    have e5 : (aM (l ++ [L]))[i]'(by rw [len]; omega) = ((i : Int) + 1) * l[i + 1]'(by omega) := this
    rw [e5]
    generalize l[i + 1]'(by omega) = z at m
    have nn := Aa l
    generalize mxL l = M at *
    have h1 : ((i : Int) + 1) * z <= ((i : Int) + 1) * M := Int.mul_le_mul_of_nonneg_left m.2 (by omega)
    have h2 : ((i : Int) + 1) * (-M) <= ((i : Int) + 1) * z := Int.mul_le_mul_of_nonneg_left m.1 (by omega)
    have h3 : ((i : Int) + 1) * M <= (l.length : Int) * M := Int.mul_le_mul_of_nonneg_right (by omega) nn
    rw [Int.mul_neg] at h2
    omega
theorem lN {σ : Int} {v w : Rat} (hσ : σ = 1 \/ σ = -1) (h : 0 < w) (k : w <= (σ : Rat) * v) : rs v = σ := by
  rcases hσ with r | r
  · subst r
    refine iM ?_
    have : ((1 : Int) : Rat) = 1 := rfl
    grind
  · subst r
    refine iQ ?_
    have : ((-1 : Int) : Rat) = -1 := rfl
    grind
theorem nO {l : List Int} {L : Int} {x : Rat} (hL : L ≠ 0) (hx : ((2 + mxL l / (L.natAbs : Int) : Int) : Rat) <= x) {k : Int} (hk : 0 < k) : (((sgn L) * (k * L) : Int) : Rat) + ((k * mxL l : Int) : Rat) <= x * (((sgn L) * (k * L) : Int) : Rat) /\ 0 < (sgn L) * (k * L) /\ 0 <= x := by
  have hs : sgn L * L = (L.natAbs : Int) := by
    unfold sgn
    rcases Int.lt_or_gt_of_ne hL with q | q
    · rw [if_neg (by omega), if_pos q]; omega
    · rw [if_pos q]; omega
  have h0 : 0 < (L.natAbs : Int) := by omega
  have e : sgn L * (k * L) = k * (L.natAbs : Int) := by rw [<- hs]; grind
  rw [e]
  have nn := Aa l
  have dm : mxL l < (L.natAbs : Int) * (mxL l / (L.natAbs : Int)) + (L.natAbs : Int) := by
    have := Int.lt_ediv_add_one_mul_self (mxL l) h0
    rw [Int.add_mul, Int.one_mul, Int.mul_comm] at this
    exact this
  have dn : 0 <= mxL l / (L.natAbs : Int) := Int.ediv_nonneg nn (by omega)
  have kp : 0 < k * (L.natAbs : Int) := Int.mul_pos hk h0
  have x0 : (0 : Rat) <= x := by
    have : ((0 : Int) : Rat) <= ((2 + mxL l / (L.natAbs : Int) : Int) : Rat) := Rat.intCast_le_intCast.mpr (by omega)
    have z : ((0 : Int) : Rat) = 0 := rfl
    grind
  refine ⟨?_, kp, x0⟩
  have h1 := Rat.mul_le_mul_of_nonneg_right hx (c := ((k * (L.natAbs : Int) : Int) : Rat)) (by
    have : ((0 : Int) : Rat) <= ((k * (L.natAbs : Int) : Int) : Rat) := Rat.intCast_le_intCast.mpr (by omega)
    exact this)
  refine Rat.le_trans ?_ h1
  rw [<- Rat.intCast_add, <- Rat.intCast_mul]
  refine Rat.intCast_le_intCast.mpr ?_
  generalize (L.natAbs : Int) = A at *
  generalize mxL l / A = D at *
  have h2 : k * mxL l <= k * (A * D + A) := Int.mul_le_mul_of_nonneg_left (by omega) (by omega)
  have h3 : (2 + D) * (k * A) = k * A + k * (A * D + A) := by grind
  omega
theorem Fe (n : Nat) : ((-1 : Int) ^ n = 1) \/ ((-1 : Int) ^ n = -1) := by
  induction n with
  | zero => exact .inl rfl
  | succ n ih => rw [Int.pow_succ]; rcases ih with q | q <;> rw [q] <;> simp
theorem DW {l : List Int} {L : Int} {x : Rat} (hL : L ≠ 0) (hx : ((2 + mxL l / (L.natAbs : Int) : Int) : Rat) <= x) : rs (ev x (l ++ [L])) = sgn L /\ (l ≠ [] -> rs (ev x (aM (l ++ [L]))) = sgn L) := by
  have hσ := uM hL
  constructor
  · obtain ⟨h1, h2, h3⟩ := nO hL hx (k := 1) (by decide)
    rw [Int.one_mul, Int.one_mul] at *
    have := mO h3 h2 hσ h1 l fun y hy => Er hy
    exact lN hσ (w := ((sgn L * L : Int) : Rat)) (by have : ((0 : Int) : Rat) < ((sgn L * L : Int) : Rat) := Rat.intCast_lt_intCast.mpr h2; exact this) this
  · intro hl
    have hl1 := List.length_pos_iff.mpr hl
    obtain ⟨l', e, _, hb⟩ := pJ (L := L) hl
    obtain ⟨h1, h2, h3⟩ := nO hL hx (k := (l.length : Int)) (by omega)
    rw [e]
    have := mO h3 h2 hσ h1 l' hb
    exact lN hσ (w := ((sgn L * ((l.length : Int) * L) : Int) : Rat)) (by have : ((0 : Int) : Rat) < ((sgn L * ((l.length : Int) * L) : Int) : Rat) := Rat.intCast_lt_intCast.mpr h2; exact this) this
theorem Ht {l : List Int} {L : Int} {x : Rat} (hL : L ≠ 0) (hx : ((2 + mxL l / (L.natAbs : Int) : Int) : Rat) <= x) : rs (ev (-x) (l ++ [L])) = sgn L * (-1) ^ l.length /\ (l ≠ [] -> rs (ev (-x) (aM (l ++ [L]))) = sgn L * (-1) ^ (l.length - 1)) := by
  have hσ := uM hL
  have pm : ∀ n : Nat, sgn L * (-1) ^ n = 1 \/ sgn L * (-1) ^ n = -1 := fun n => by
    rcases Fe n with q | q <;> rw [q] <;> rcases hσ with r | r <;> rw [r] <;> simp
  constructor
  · obtain ⟨h1, h2, h3⟩ := nO hL hx (k := 1) (by decide)
    rw [Int.one_mul, Int.one_mul] at *
    have := mQ (m := mxL l) h3 l (sgn L) hσ h2 h1 fun y hy => Er hy
    exact lN (pm _) (w := ((sgn L * L : Int) : Rat)) (by have : ((0 : Int) : Rat) < ((sgn L * L : Int) : Rat) := Rat.intCast_lt_intCast.mpr h2; exact this) this
  · intro hl
    have hl1 := List.length_pos_iff.mpr hl
    obtain ⟨l', e, el, hb⟩ := pJ (L := L) hl
    obtain ⟨h1, h2, h3⟩ := nO hL hx (k := (l.length : Int)) (by omega)
    rw [e, <- el]
    have := mQ (m := (l.length : Int) * mxL l) h3 l' (sgn L) hσ h2 h1 hb
    exact lN (pm _) (w := ((sgn L * ((l.length : Int) * L) : Int) : Rat)) (by have : ((0 : Int) : Rat) < ((sgn L * ((l.length : Int) * L) : Int) : Rat) := Rat.intCast_lt_intCast.mpr h2; exact this) this
end Zf
namespace Zf
open PS
theorem ji {c s : List Int} (hc : c ≠ []) (hg : bI c) (h : Simple c s) : ∃ g, Shared c (aM c) g /\ s.length + g.length = c.length + 1 /\ co (aF c) = co s * co g /\ g ≠ [] := by
  obtain ⟨s0, s1, s2, g, sh, e⟩ := h
  have sh' := sh
  rcases sh with ⟨z, _⟩ | ⟨g0, g1, g2, g3, g4⟩
  · exact absurd z hc
  refine ⟨g, sh', ?_, e, g0⟩
  have e2 : aF c = mulL s g := Gg (eV hg) (DP s1 g1 s0 g0) (by rw [Gf, e])
  have := congrArg List.length e2
  rw [bG, pK] at this
  have := List.length_pos_iff.mpr hc
  have := List.length_pos_iff.mpr s0
  have := List.length_pos_iff.mpr g0
  omega
theorem lB (z : Int) : chg 0 [z] = 0 := by
  show (if (0 : Int) * z = -1 then 1 else 0) + 0 = 0
  rw [if_neg (by omega)]
  rfl
theorem oU {s : List Int} {l : List (List Int)} (h : s.length <= 1) (k : Steps s (aF (aM s)) l) : l = [] := by
  have e : aF (aM s) = [] := List.eq_nil_of_length_eq_zero (by rw [bG, bW]; omega)
  rw [e] at k
  cases k with
  | stop => rfl
  | step _ _ _ _ h => exact absurd rfl h
theorem Aj {c : List Int} (h : c ≠ []) : c = c.dropLast ++ [c.getD (c.length - 1) 0] := by
  have hl := List.length_pos_iff.mpr h
  refine List.ext_getElem (by simp; omega) fun i h1 h2 => ?_
  by_cases hi : i < c.length - 1
  · rw [List.getElem_append_left (by simpa using hi)]
    simp
  · have e : i = c.length - 1 := by omega
    subst e
    rw [List.getElem_append_right (by simp)]
    simp only [List.getD_eq_getElem?_getD, List.getElem_singleton, List.getElem?_eq_getElem h1]
    rfl
theorem Bu {c s : List Int} {l : List (List Int)} {R : Rat -> Prop} {p q : Int} (hc : c ≠ []) (hg : bI c) (h1 : Simple c s) (h2 : Steps s (aF (aM s)) l) (cp : Cop (co s) (co (aF (aM s)))) (hp : p = 1 \/ p = -1) (hq : q = 1 \/ q = -1) (hR : ∀ z, R z -> rs (ev z c) = p /\ rs (ev z (aM c)) = q) {x y : Rat} (hxy : x <= y) (hz : ∀ z, x <= z -> z <= y -> R z) : Vc x (s :: l) = Vc y (s :: l) := by
  refine pL (F := fun x => Vc x (s :: l)) (R := R) (fun M hM => ?_) hxy hz
  refine ((rK hM h1.2.1 h1.1 h2 cp).and (yE hM hc hg h1)).mono fun x y _ _ _ ⟨d1, d2⟩ rx ry => ?_
  have := d2 p q hp hq (hR x rx).1 (hR y ry).1 (hR x rx).2 (hR y ry).2
  rw [this, zT] at d1
  show Vc x (s :: l) = Vc y (s :: l)
  omega
theorem Jv {c s : List Int} {l : List (List Int)} (hc : c ≠ []) (hg : bI c) (h1 : Simple c s) (h2 : Steps s (aF (aM s)) l) (cp : Cop (co s) (co (aF (aM s)))) {x y : Rat} (hx : ((aX c : Int) : Rat) <= x) (hxy : x <= y) : Vc x (s :: l) = Vc y (s :: l) := by
  by_cases h : c.dropLast = []
  · have l1 : c.length <= 1 := by have := congrArg List.length h; simp at this; omega
    obtain ⟨g, _, e, _, g0⟩ := ji hc hg h1
    have := List.length_pos_iff.mpr g0
    have hl := oU (s := s) (by omega) h2
    subst hl
    unfold Vc sgs
    rw [List.map_singleton, List.map_singleton, lB, lB]
  · have hL := hg hc
    have hs := uM hL
    refine Bu hc hg h1 h2 cp (R := fun z => ((aX c : Int) : Rat) <= z) hs hs (fun z hz => ?_) hxy fun z h1 _ => Rat.le_trans hx h1
    have := DW hL hz
    rw [<- Aj hc] at this
    exact ⟨this.1, this.2 h⟩
theorem Mv {c s : List Int} {l : List (List Int)} (hc : c ≠ []) (hg : bI c) (h1 : Simple c s) (h2 : Steps s (aF (aM s)) l) (cp : Cop (co s) (co (aF (aM s)))) {x y : Rat} (hy : y <= -((aX c : Int) : Rat)) (hxy : x <= y) : Vc x (s :: l) = Vc y (s :: l) := by
  by_cases h : c.dropLast = []
  · have l1 : c.length <= 1 := by have := congrArg List.length h; simp at this; omega
    obtain ⟨g, _, e, _, g0⟩ := ji hc hg h1
    have := List.length_pos_iff.mpr g0
    have hl := oU (s := s) (by omega) h2
    subst hl
    unfold Vc sgs
    rw [List.map_singleton, List.map_singleton, lB, lB]
  · have hL := hg hc
    have pm : ∀ n : Nat, sgn (c.getD (c.length - 1) 0) * (-1) ^ n = 1 \/ sgn (c.getD (c.length - 1) 0) * (-1) ^ n = -1 := fun n => by
      rcases Fe n with q | q <;> rw [q] <;> rcases uM hL with r | r <;> rw [r] <;> simp
    refine Bu hc hg h1 h2 cp (R := fun z => z <= -((aX c : Int) : Rat)) (pm c.dropLast.length) (pm (c.dropLast.length - 1)) (fun z hz => ?_) hxy fun z _ h1 => Rat.le_trans h1 hy
    have hz' : ((2 + mxL c.dropLast / ((c.getD (c.length - 1) 0).natAbs : Int) : Int) : Rat) <= -z := by
      have : ((aX c : Int) : Rat) <= -z := by grind
      exact this
    have := Ht hL hz'
    rw [<- Aj hc, Rat.neg_neg] at this
    exact ⟨this.1, this.2 h⟩
end Zf
namespace Zf
open PS
noncomputable def sp (s : List Int) (x : Rat) : Int := if rs (ev x s) = 0 then rs (ev x (aF (aM s))) else rs (ev x s)
noncomputable def KQ (s : List Int) (ls : List (List Int)) (x y : Rat) : Prop := ((Vc x (s :: ls) = Vc y (s :: ls) /\ sp s x = sp s y) \/ (Vc x (s :: ls) = Vc y (s :: ls) + 1 /\ sp s x = - sp s y)) /\ (x < y -> rs (ev y s) = 0 -> Vc x (s :: ls) = Vc y (s :: ls) + 1)
theorem j_ {M : Rat} (hM : 0 <= M) {s : List Int} {ls : List (List Int)} (hs : bI s) (s0 : s ≠ []) (h : Steps s (aF (aM s)) ls) (cp : Cop (co s) (co (aF (aM s)))) : iI M fun x y => KQ s ls x y := by
  have N0 := qp hM ls.length s _ ls (Nat.le_refl _) h cp
  have st : ∀ x y p, St x y s p -> Al p (sgs x ls) (sgs y ls) -> KQ s ls x y := by
    intro x y p hp al
    have p0 : p ≠ 0 := by have := hp.2.2; omega
    have v : Vc x (s :: ls) = Vc y (s :: ls) := by
      unfold Vc
      show chg 0 (rs (ev x s) :: sgs x ls) = chg 0 (rs (ev y s) :: sgs y ls)
      rw [hp.1, hp.2.1]
      unfold chg
      rw [if_pos (c := p ≠ 0) p0, al.chg]
    refine ⟨.inl ⟨v, ?_⟩, fun _ z => ?_⟩
    · unfold sp
      rw [hp.1, hp.2.1, if_neg p0, if_neg p0]
    · rw [hp.2.1] at z
      exact absurd z p0
  generalize hb : aF (aM s) = b0 at h cp
  cases h with
  | stop =>
    have hl : s.length = 1 := by
      have h1 : (aF (aM s)).length = 0 := by rw [hb]; rfl
      rw [bG, bW] at h1
      have := List.length_pos_iff.mpr s0
      omega
    obtain ⟨a, rfl⟩ := List.length_eq_one_iff.mp hl
    have ha : a ≠ 0 := hs s0
    refine iI.triv fun x y => ?_
    have e : ∀ x, ev x [a] = (a : Rat) := fun x => by show (a : Rat) + x * 0 = a; grind
    have p : ∃ p, St x y [a] p := by
      unfold St
      rw [e, e]
      rcases dZ ha with q | q
      · exact ⟨1, iM (by grind), iM (by grind), .inl rfl⟩
      · exact ⟨-1, iQ (by grind), iQ (by grind), .inr rfl⟩
    obtain ⟨p, hp⟩ := p
    exact st x y p hp (Al.nil p)
  | step _ _ r ls2 hne hl k =>
    have N1 := qp hM ls2.length b0 _ ls2 (Nat.le_refl _) k (nQ hl cp)
    obtain ⟨kk, u, v, hk, e2⟩ := qI cp
    have hU := gQ hM u
    have hV := gQ hM v
    generalize hW : eB M u + eB M v + 1 = W
    have hW1 : 0 < W := by grind
    have p0 : 0 < 1 / W := fD (by decide) hW1
    have w1 : W * (1 / W) = 1 := by grind
    have N2 := (fu hM p0 s).and (fu hM p0 b0)
    have N3 := qY (M := M) (wK hM s) p0
    have cp1 : 0 < ct (aM s) := by
      refine cL (eU hs) fun z => hne ?_
      rw [<- hb, z]; rfl
    have ct1 := bO cp1
    refine (((N0.and N1).and N2).and N3).mono fun x y hx hy hxy ⟨⟨⟨d0, d1⟩, ⟨d2, d3⟩⟩, d4⟩ => ?_
    rcases d2 with ⟨p, hp⟩ | d2
    · exact st x y p hp (d0 p hp)
    · have i1 := iw hx u
      have i2 := iw hx v
      have ub := i1.mul d2
      have e4 := e2 x
      have big : 1 / W < ev x b0 \/ ev x b0 < -(1 / W) := by
        by_cases c1 : In (1 / W) (ev x b0)
        · exfalso
          have vc := i2.mul c1
          have kk' := ub.add vc
          rw [<- e4] at kk'
          have w2 : eB M u * (1 / W) + eB M v * (1 / W) + 1 / W = 1 := by rw [<- w1, <- hW]; grind
          obtain ⟨k1, k2⟩ := kk'
          rcases dZ hk with q1 | q1 <;> grind
        · unfold In at c1
          grind
      have stb : ∃ p, St x y b0 p := by
        rcases d3 with q | q
        · exact q
        · obtain ⟨q1, q2⟩ := q
          grind
      obtain ⟨p, hp⟩ := stb
      have al := d1 p hp
      obtain ⟨t, ht, et⟩ := uZ hx hy s
      have es : ed x s = (ct (aM s) : Rat) * ev x b0 := by
        rw [<- rA, rB, hb]
      have id : In (y - x) (y - x) := by constructor <;> grind
      have dt := id.mul ht
      have mono : x < y -> (p = 1 -> ev x s < ev y s) /\ (p = -1 -> ev y s < ev x s) := by
        intro hlt
        obtain ⟨dt1, dt2⟩ := dt
        refine ⟨fun q => ?_, fun q => ?_⟩
        · have b1 : 0 < ev x b0 := uO (q ▸ hp.1)
          have b2 : ev x b0 <= (ct (aM s) : Rat) * ev x b0 := by
            have := Rat.mul_le_mul_of_nonneg_right ct1 (c := ev x b0) (by grind)
            grind
          have b3 : 0 < ed x s + (y - x) * t := by grind
          have b4 := Rat.mul_pos (a := y - x) (by grind) b3
          grind
        · have b1 : ev x b0 < 0 := qe (q ▸ hp.1)
          have b2 : (ct (aM s) : Rat) * ev x b0 <= ev x b0 := by
            have := Rat.mul_le_mul_of_nonneg_right ct1 (c := - ev x b0) (by grind)
            grind
          have b3 : 0 < - (ed x s + (y - x) * t) := by grind
          have b4 := Rat.mul_pos (a := y - x) (by grind) b3
          grind
      have c9 : ∀ z : Int, Sg z -> ∀ ss, chg 0 (z :: p :: ss) = (if z = -p then 1 else 0) + chg p ss := by
        intro z hz ss
        show (if (0 : Int) * z = -1 then 1 else 0) + ((if (if z ≠ 0 then z else 0) * p = -1 then 1 else 0) + chg (if p ≠ 0 then p else _) ss) = _
        rw [if_neg (by omega), Int.zero_add, if_pos (c := p ≠ 0) (by have := hp.2.2; omega)]
        congr 1
        rcases hp.2.2 with r | r <;> subst r <;> rcases hz with q | q | q <;> subst q <;> rfl
      have vx : Vc x (s :: b0 :: ls2) = (if rs (ev x s) = -p then 1 else 0) + chg p (sgs x ls2) := by
        unfold Vc
        show chg 0 (rs (ev x s) :: rs (ev x b0) :: sgs x ls2) = _
        rw [hp.1, c9 _ (lV _)]
      have vy : Vc y (s :: b0 :: ls2) = (if rs (ev y s) = -p then 1 else 0) + chg p (sgs x ls2) := by
        unfold Vc
        show chg 0 (rs (ev y s) :: rs (ev y b0) :: sgs y ls2) = _
        rw [hp.2.1, c9 _ (lV _), al.chg]
      have sx : sp s x = if rs (ev x s) = 0 then p else rs (ev x s) := by unfold sp; rw [hb, hp.1]
      have sy : sp s y = if rs (ev y s) = 0 then p else rs (ev y s) := by unfold sp; rw [hb, hp.2.1]
      unfold KQ
      rw [vx, vy, sx, sy]
      by_cases hlt : x < y
      · rcases hp.2.2 with r | r
        · have m := (mono hlt).1 r
          subst r
          rcases cV (ev x s) with ⟨a1, a2⟩ | ⟨a1, a2⟩ | ⟨a1, a2⟩ <;> rcases cV (ev y s) with ⟨c1, c2⟩ | ⟨c1, c2⟩ | ⟨c1, c2⟩ <;> rw [a2, c2] <;> simp <;> first | omega | (exfalso; grind)
        · have m := (mono hlt).2 r
          subst r
          rcases cV (ev x s) with ⟨a1, a2⟩ | ⟨a1, a2⟩ | ⟨a1, a2⟩ <;> rcases cV (ev y s) with ⟨c1, c2⟩ | ⟨c1, c2⟩ | ⟨c1, c2⟩ <;> rw [a2, c2] <;> simp <;> first | omega | (exfalso; grind)
      · have exy : x = y := by grind
        subst exy
        exact ⟨.inl ⟨rfl, rfl⟩, fun h => absurd h hlt⟩
theorem sJ {F : Rat -> Int} (h : ∀ M, 0 <= M -> iI M fun x y => F y <= F x) {x y : Rat} (hxy : x <= y) : F y <= F x := by
  obtain ⟨M, hM, mx⟩ : ∃ M : Rat, 0 <= M /\ ∀ z, x <= z -> z <= y -> In M z := by
    rcases (by grind : 0 <= x \/ x <= 0) with a | a <;> rcases (by grind : 0 <= y \/ y <= 0) with b | b
    · exact ⟨y, b, fun z _ _ => ⟨by grind, by grind⟩⟩
    · exact ⟨y - x, by grind, fun z _ _ => ⟨by grind, by grind⟩⟩
    · exact ⟨y - x, by grind, fun z _ _ => ⟨by grind, by grind⟩⟩
    · exact ⟨-x, by grind, fun z _ _ => ⟨by grind, by grind⟩⟩
  obtain ⟨δ, d0, hd⟩ := h M hM
  obtain ⟨n, hn⟩ := HX ((y - x) / δ)
  have hn' : y - x <= (n : Rat) * δ := by
    have := Rat.mul_le_mul_of_nonneg_right hn (c := δ) (by grind)
    rwa [Rat.div_mul_cancel (by grind)] at this
  have key : ∀ n : Nat, ∀ a, x <= a -> a <= y -> y - a <= (n : Rat) * δ -> F y <= F a := by
    intro n
    induction n with
    | zero =>
      intro a h1 h2 h3
      have e : a = y := by
        have : ((0 : Nat) : Rat) * δ = 0 := by simp
        grind
      rw [e]
      exact Int.le_refl _
    | succ n ih =>
      intro a h1 h2 h3
      have e : ((n + 1 : Nat) : Rat) = (n : Rat) + 1 := by simp
      rw [e] at h3
      by_cases c : y - a <= δ
      · exact hd a y (mx a h1 h2) (mx y hxy (by grind)) h2 c
      · have h4 := ih (a + δ) (by grind) (by grind) (by grind)
        have h5 := hd a (a + δ) (mx a h1 h2) (mx _ (by grind) (by grind)) (by grind) (by grind)
        exact Int.le_trans h4 h5
  exact key n x (by grind) hxy hn'
section
variable {s : List Int} {ls : List (List Int)}
theorem V_mono (hs : bI s) (s0 : s ≠ []) (h : Steps s (aF (aM s)) ls) (cp : Cop (co s) (co (aF (aM s)))) {x y : Rat} (hxy : x <= y) : Vc y (s :: ls) <= Vc x (s :: ls) :=
  sJ (F := fun x => Vc x (s :: ls)) (fun M hM => (j_ hM hs s0 h cp).mono fun x y _ _ _ d => by rcases d.1 with ⟨e, _⟩ | ⟨e, _⟩ <;> (show Vc y (s :: ls) <= Vc x (s :: ls)) <;> omega) hxy
noncomputable def par (n : Int) : Int := if n % 2 = 0 then 1 else -1
theorem wR (n : Int) : par (n + 1) = - par n := by
  unfold par
  split <;> split <;> omega
theorem KJ (hs : bI s) (s0 : s ≠ []) (h : Steps s (aF (aM s)) ls) (cp : Cop (co s) (co (aF (aM s)))) {x y : Rat} (hxy : x <= y) : sp s x * par (Vc x (s :: ls)) = sp s y * par (Vc y (s :: ls)) := by
  refine pL (F := fun x => sp s x * par (Vc x (s :: ls))) (R := fun _ => True) (fun M hM => ?_) hxy fun _ _ _ => trivial
  refine (j_ hM hs s0 h cp).mono fun x y _ _ _ d _ _ => ?_
  show sp s x * par (Vc x (s :: ls)) = sp s y * par (Vc y (s :: ls))
  rcases d.1 with ⟨e, e2⟩ | ⟨e, e2⟩
  · rw [e, e2]
  · rw [e, e2, wR]
    grind
theorem V_zero (hs : bI s) (s0 : s ≠ []) (h : Steps s (aF (aM s)) ls) (cp : Cop (co s) (co (aF (aM s)))) {x z : Rat} (hxz : x < z) (hz : rs (ev z s) = 0) : Vc z (s :: ls) < Vc x (s :: ls) := by
  obtain ⟨M, hM, mx⟩ : ∃ M : Rat, 0 <= M /\ ∀ y, x <= y -> y <= z -> In M y := by
    rcases (by grind : 0 <= x \/ x <= 0) with a | a <;> rcases (by grind : 0 <= z \/ z <= 0) with b | b
    · exact ⟨z, b, fun y _ _ => ⟨by grind, by grind⟩⟩
    · exact ⟨z - x, by grind, fun y _ _ => ⟨by grind, by grind⟩⟩
    · exact ⟨z - x, by grind, fun y _ _ => ⟨by grind, by grind⟩⟩
    · exact ⟨-x, by grind, fun y _ _ => ⟨by grind, by grind⟩⟩
  obtain ⟨δ, d0, hd⟩ := j_ hM hs s0 h cp
  by_cases c : z - x <= δ
  · have := (hd x z (mx x (by grind) (by grind)) (mx z (by grind) (by grind)) (by grind) c).2 hxz hz
    omega
  · have h1 := (hd (z - δ) z (mx _ (by grind) (by grind)) (mx z (by grind) (by grind)) (by grind) (by grind)).2 (by grind) hz
    have h2 := V_mono hs s0 h cp (x := x) (y := z - δ) (by grind)
    omega
theorem qx {x : Rat} (h : rs (ev x s) ≠ 0) : sp s x = rs (ev x s) := if_neg h
theorem DN (hs : bI s) (s0 : s ≠ []) (h : Steps s (aF (aM s)) ls) (cp : Cop (co s) (co (aF (aM s)))) {b z t : Rat} (h1 : b < z) (h2 : z < t) (one : Vc b (s :: ls) - Vc t (s :: ls) = 1) {e : Int} (he : e = rs (ev t s) \/ ∃ t', t < t' /\ Vc t (s :: ls) = Vc t' (s :: ls) /\ e = rs (ev t' s)) :
    ((rs (ev z s) = 0 \/ rs (ev z s) = e) -> Vc b (s :: ls) - Vc z (s :: ls) = 1) /\ (¬ (rs (ev z s) = 0 \/ rs (ev z s) = e) -> Vc z (s :: ls) - Vc t (s :: ls) = 1) := by
  have m1 := V_mono hs s0 h cp (x := b) (y := z) (by grind)
  have m2 := V_mono hs s0 h cp (x := z) (y := t) (by grind)
  have q2 := KJ hs s0 h cp (x := z) (y := t) (by grind)
  by_cases c : Vc z (s :: ls) = Vc t (s :: ls)
  ·
    refine ⟨fun _ => by omega, fun k => absurd ?_ k⟩
    rw [c] at q2
    have pz : par (Vc t (s :: ls)) ≠ 0 := by unfold par; split <;> omega
    have q3 := Int.eq_of_mul_eq_mul_right pz q2
    by_cases zz : rs (ev z s) = 0
    · exact .inl zz
    · right
      have tz : rs (ev t s) ≠ 0 := fun k => by
        have := V_zero hs s0 h cp h2 k
        omega
      rw [qx zz, qx tz] at q3
      rcases he with r | ⟨t', r1, r2, r⟩
      · rw [q3, r]
      · have q4 := KJ hs s0 h cp (x := t) (y := t') (by grind)
        rw [<- r2] at q4
        have q5 := Int.eq_of_mul_eq_mul_right pz q4
        have tz' : rs (ev t' s) ≠ 0 := fun k => by
          have := V_zero hs s0 h cp r1 k
          omega
        rw [qx tz, qx tz'] at q5
        rw [q3, q5, r]
  · have cz : Vc z (s :: ls) = Vc b (s :: ls) := by omega
    refine ⟨fun k => ?_, fun _ => by omega⟩
    exfalso
    have zz : rs (ev z s) ≠ 0 := fun k => by
      have := V_zero hs s0 h cp h1 k
      omega
    have ct : Vc z (s :: ls) = Vc t (s :: ls) + 1 := by omega
    rw [ct, wR] at q2
    have pz : par (Vc t (s :: ls)) ≠ 0 := by unfold par; split <;> omega
    have q3 : sp s t = - sp s z := by
      have : (- sp s z) * par (Vc t (s :: ls)) = sp s t * par (Vc t (s :: ls)) := by rw [<- q2]; grind
      exact (Int.eq_of_mul_eq_mul_right pz this).symm
    rw [qx zz] at q3
    rcases k with k | k
    · exact zz k
    · rcases he with r | ⟨t', r1, r2, r⟩
      · have tz : rs (ev t s) ≠ 0 := by rw [<- r, <- k]; exact zz
        rw [qx tz, <- r, <- k] at q3
        omega
      · have q4 := KJ hs s0 h cp (x := t) (y := t') (by grind)
        rw [<- r2] at q4
        have q5 := Int.eq_of_mul_eq_mul_right pz q4
        have tz' : rs (ev t' s) ≠ 0 := by rw [<- r, <- k]; exact zz
        rw [q3, qx tz', <- r, <- k] at q5
        omega
end
end Zf
namespace Zf
open PS
theorem lD {a b : Int} (h : a <= b) : (a : Rat) <= (b : Rat) := Rat.intCast_le_intCast.mpr h
end Zf
namespace Zf
open PS
theorem Cw {a b : List Int} {ls : List (List Int)} (h : Steps a b ls) : ∃ g, Po g /\ IsG g (co a) (co b) := by
  induction h with
  | stop a => exact ⟨co a, Po.co a, by rw [gj]; exact IsG.self _⟩
  | step a b r ls hne hl _ ih =>
    obtain ⟨g, pg, ih⟩ := ih
    refine ⟨g, pg, ?_⟩
    obtain ⟨gr, _, A, d, q, hA, hq, e⟩ := hl
    have e3 : C (- ct r) * co (negL (aF r)) = co r := by
      unfold negL
      rw [vd, <- PS.mul_assoc, CC, show - ct r * -1 = ct r by omega, d9]
    by_cases hr : r = []
    · subst hr
      refine IsG.step (a := A) (k := 1) (q := q) (r := co (negL (aF []))) (by omega) (by decide) ⟨d, hq⟩ ?_ ih
      rw [e, show negL (aF []) = [] from rfl, gj]
      grind
    · have := cL gr hr
      refine IsG.step (a := A) (k := - ct r) (q := q) (by omega) (by omega) ⟨d, hq⟩ ?_ ih
      rw [e, e3]
theorem Dv.mul_right {d f g : PS} (h : Dv d f) (hg : Po g) : Dv d (f * g) := by
  obtain ⟨a, q, ha, hq, e⟩ := h
  exact ⟨a, q * g, ha, hq.mul hg, by rw [<- PS.mul_assoc, e]; grind⟩
theorem Dv.add {d f g : PS} (h : Dv d f) (k : Dv d g) : Dv d (f + g) := by
  obtain ⟨a, q, ha, hq, e⟩ := h
  obtain ⟨b, p, hb, hp, e2⟩ := k
  refine ⟨a * b, C b * q + C a * p, Int.mul_ne_zero ha hb, ((Po.C b).mul hq).add ((Po.C a).mul hp), ?_⟩
  rw [<- CC]
  have : C a * C b * (f + g) = C b * (C a * f) + C a * (C b * g) := by grind
  rw [this, e, e2]
  grind
theorem Dv.qT {d f : PS} {k : Int} (hk : k ≠ 0) (h : Dv d (C k * f)) : Dv d f := by
  obtain ⟨a, q, ha, hq, e⟩ := h
  exact ⟨a * k, q, Int.mul_ne_zero ha hk, hq, by rw [<- CC, PS.mul_assoc, e]⟩
theorem Dv.prod {d e f g : PS} (h : Dv d f) (k : Dv e g) : Dv (d * e) (f * g) := by
  obtain ⟨a, q, ha, hq, e1⟩ := h
  obtain ⟨b, p, hb, hp, e2⟩ := k
  refine ⟨a * b, q * p, Int.mul_ne_zero ha hb, hq.mul hp, ?_⟩
  rw [<- CC]
  have : C a * C b * (f * g) = (C a * f) * (C b * g) := by grind
  rw [this, e1, e2]
  grind
theorem Dv.self (d : PS) : Dv d d := ⟨1, 1, by decide, Po.one, by rw [show C 1 = (1 : PS) from rfl]⟩
theorem Dv.left {d q : PS} (hq : Po q) : Dv d (q * d) := ⟨1, q, by decide, hq, by rw [show C 1 = (1 : PS) from rfl]; grind⟩
theorem pow_succ' (h : PS) (n : Nat) : h ^ (n + 1) = h ^ n * h := rfl
theorem uc {c f g h t : PS} {kc ka : Int} (pf : Po f) (pg : Po g) (ph : Po h) (pt : Po t) (hka : ka ≠ 0) (ec : c = C kc * (f * g)) (et : C ka * dv c = t * g) (cp : Cop f t) (d1 : Dv h f) (d2 : Dv h (dv f)) : ∀ n : Nat, Dv (h ^ n) g
  | 0 => ⟨1, g, by decide, pg, by
    have e : h ^ 0 = 1 := rfl
    rw [e, show C 1 = (1 : PS) from rfl]; grind⟩
  | n + 1 => by
    have ih := uc pf pg ph pt hka ec et cp d1 d2 n
    have ih' := ih
    obtain ⟨A, q, hA, hq, eq⟩ := ih'
    obtain ⟨a1, q1, ha1, hq1, e1⟩ := id d1
    have d3 : Dv h (q1 * dv h) := by
      have x1 : C a1 * dv f = dv q1 * h + q1 * dv h := by rw [<- rC, e1, mF]
      have x2 : q1 * dv h = C a1 * dv f + (C (-1) * dv q1) * h := by
        rw [x1, show C (-1) = (-1 : PS) from by rw [Ae]; rfl]; grind
      rw [x2]
      refine Dv.add ?_ (Dv.left ((Po.C _).mul hq1.dv))
      have := d2.mul_right (Po.C a1)
      rwa [PS.mul_comm] at this
    have k1 : Dv (h ^ (n + 1)) (f * g) := by
      have := d1.prod ih
      rwa [PS.mul_comm h] at this
    have k2 : Dv (h ^ (n + 1)) (dv f * g) := by
      have := d2.prod ih
      rwa [PS.mul_comm h] at this
    have k3 : Dv (h ^ (n + 1)) (f * dv g) := by
      refine Dv.qT hA (Dv.qT ha1 ?_)
      have x : C A * dv g = dv q * h ^ n + q * dv (h ^ n) := by rw [<- rC, eq, mF]
      have y : C a1 * (C A * (f * dv g)) = (C a1 * f) * (C A * dv g) := by grind
      rw [y, x, e1]
      have z : q1 * h * (dv q * h ^ n + q * dv (h ^ n)) = (q1 * dv q) * (h ^ n * h) + q1 * q * (h * dv (h ^ n)) := by grind
      rw [z]
      refine Dv.add (Dv.left (hq1.mul hq.dv)) ?_
      cases n with
      | zero =>
        have e : h ^ 0 = 1 := rfl
        rw [e, FW]
        have : q1 * q * (h * 0) = 0 * (1 * h) := by grind
        rw [pow_succ', e, this]
        exact Dv.left Po.zero
      | succ m =>
        rw [FT]
        have w : q1 * q * (h * (C ((m : Int) + 1) * (h ^ m * dv h))) = (C ((m : Int) + 1) * q) * ((h ^ m * h) * (q1 * dv h)) := by grind
        rw [w, <- pow_succ' h m, pow_succ' h (m + 1)]
        have := (Dv.self (h ^ (m + 1))).prod d3
        have := this.mul_right ((Po.C ((m : Int) + 1)).mul hq)
        rwa [PS.mul_comm _ (C ((m : Int) + 1) * q)] at this
    have k4 : Dv (h ^ (n + 1)) (t * g) := by
      have x : t * g = (dv f * g + f * dv g) * C (ka * kc) := by
        rw [<- et, ec, rC, mF, <- CC]; grind
      rw [x]
      exact (k2.add k3).mul_right (Po.C _)
    obtain ⟨k, u, v, hk, hu, hv, ek⟩ := cp
    refine Dv.qT hk ?_
    have x : C k * g = (f * g) * u + (t * g) * v := by rw [ek]; grind
    rw [x]
    exact (k1.mul_right hu).add (k4.mul_right hv)
theorem Av {h : PS} {m : Nat} (h1 : Dg (m + 1) h) (h2 : h m ≠ 0) : ∀ n : Nat, Dg (n * m + 1) (h ^ n) /\ (h ^ n) (n * m) ≠ 0
  | 0 => by
    have e : h ^ 0 = 1 := rfl
    rw [e, Nat.zero_mul]
    exact ⟨Dg.C 1, by show (if 0 = 0 then (1 : Int) else 0) ≠ 0; decide⟩
  | n + 1 => by
    obtain ⟨k1, k2⟩ := Av h1 h2 n
    rw [pow_succ', Nat.succ_mul]
    refine ⟨?_, ?_⟩
    · intro t ht
      rw [cZ]
      refine dB fun a _ => ?_
      by_cases c : n * m + 1 <= a
      · rw [k1 a c, Int.zero_mul]
      · rw [h1 (t - a) (by omega), Int.mul_zero]
    · rw [gP k1 h1]
      exact Int.mul_ne_zero k2 h2
theorem tu {g h : PS} (pg : Po g) (g0 : g ≠ 0) (ph : Po h) (all : ∀ n : Nat, Dv (h ^ n) g) : ∃ k : Int, k ≠ 0 /\ h = C k := by
  obtain ⟨d, hd⟩ := pg
  have h0 : h ≠ 0 := fun z => by
    obtain ⟨a, q, ha, hq, e⟩ := all 1
    rw [Gx, z] at e
    have : C a * g = 0 := by rw [e]; grind
    exact jt (Po.C a) ⟨d, hd⟩ (El ha) g0 this
  obtain ⟨n, hn⟩ := ph
  obtain ⟨m, h1, h2⟩ := jP hn h0
  by_cases m0 : m = 0
  · subst m0
    refine ⟨h 0, h2, ?_⟩
    ext t
    show h t = if t = 0 then h 0 else 0
    by_cases c : t = 0
    · rw [if_pos c, c]
    · rw [if_neg c, h1 t (by omega)]
  · exfalso
    obtain ⟨a, q, ha, hq, e⟩ := all d
    obtain ⟨p1, p2⟩ := Av h1 h2 d
    have q0 : q ≠ 0 := fun z => by
      rw [z] at e
      have : C a * g = 0 := by rw [e]; grind
      exact jt (Po.C a) ⟨d, hd⟩ (El ha) g0 this
    obtain ⟨nq, hq⟩ := hq
    obtain ⟨k, q1, q2⟩ := jP hq q0
    have t1 := gP q1 p1
    rw [<- e, dW, hd (k + d * m) (by
      have : d * 1 <= d * m := Nat.mul_le_mul_left _ (by omega)
      omega), Int.mul_zero] at t1
    exact Int.mul_ne_zero q2 p2 t1.symm
theorem rM {c s : List Int} {ls : List (List Int)} (hc : c ≠ []) (hg : bI c) (h : Simple c s) (st : Steps s (aF (aM s)) ls) : Cop (co s) (co (aF (aM s))) := by
  obtain ⟨s0, s1, s2, g, sh, e⟩ := h
  rcases sh with ⟨z, _⟩ | ⟨g0, g1, g2, g3, g4⟩
  · exact absurd z hc
  have ctp := cL hg hc
  obtain ⟨a, t, ha, ht, et⟩ := g4.2.1
  obtain ⟨b, u, v, hb, hu, hv, eb⟩ := g4.2.2
  have ec : co c = C (ct c) * (co s * co g) := by rw [<- e, d9]
  have cp : Cop (co s) t := by
    refine ⟨a * b, C a * u * C (ct c), v, Int.mul_ne_zero ha hb, ((Po.C a).mul hu).mul (Po.C _), hv, ?_⟩
    refine cancel (Po.C _) ((((Po.C a).mul hu).mul (Po.C _)).mul (Po.co s) |>.add (hv.mul ht)) (Po.co g) (lX g1 g0) ?_
    rw [<- CC, PS.mul_assoc, eb]
    have : C a * (u * co c + v * co (aM c)) = C a * u * co c + v * (C a * co (aM c)) := by grind
    rw [this, et, ec]
    grind
  obtain ⟨h, ph, ih⟩ := Cw st
  have d2 : Dv h (dv (co s)) := by
    rw [<- rF, <- d9]
    have := ih.2.1.mul_right (Po.C (ct (aM s)))
    rwa [PS.mul_comm] at this
  obtain ⟨k, hk, ek⟩ := tu (Po.co g) (lX g1 g0) ph (uc (Po.co s) (Po.co g) ph ht ha ec (by rw [<- rF]; exact et) cp ih.1 d2)
  obtain ⟨a3, u3, v3, ha3, hu3, hv3, e3⟩ := ih.2.2
  exact ⟨a3 * k, u3, v3, Int.mul_ne_zero ha3 hk, hu3, hv3, by rw [<- CC, <- ek, e3]⟩
end Zf
namespace Zf
open PySem L2 PS
structure Szs (c : List Int) (p L ps Ls B : Nat) : Prop where
  good : bI c
  ne : c ≠ []
  len : c.length <= L
  l30 : L <= 30
  bd : ∀ x ∈ c, Bd p x
  room : p + (jL p L + 1) * L + jL p L <= 134217728
  sim : ∀ s, Simple c s -> (∀ x ∈ s, Bd (p + (jL p L + 1) * L) x) -> s.length <= Ls /\ ∀ x ∈ s, Bd ps x
  wC : Ls <= 30
  grow : cb (Ls - 1) Ls ps (ps + 5) <= B
  most : B <= 1000000
inductive kJ (K : PySem.W.Frag) (vs : List V) (H : Hp) (Q : VK) : Prop
  | mk (d e : Addr) (p q r t : Int) (B : Nat) (h0 : vs = [.ref d, .ref e]) (h1 : SqT K H d [.int p, .int q]) (h2 : SqT K H e [.int r, .int t]) (h3 : 0 < q) (h4 : 0 < t) (h5 : Bd B p) (h6 : Bd B q) (h7 : Bd B r) (h8 : Bd B t) (h9 : B <= 1000000) (h10 : p * t <= r * q) (h11 : Q .non H) : kJ K vs H Q
noncomputable def dF (K : PySem.W.Frag) : Sp := fun vs H Q _ => kJ K vs H Q
inductive yc (K : PySem.W.Frag) (vs : List V) (H : Hp) (Q : VK) : Prop
  | mk (a d e : Addr) (ws : List V) (ls : List (List Int)) (p q r t : Int) (B : Nat) (h0 : vs = [.ref a, .ref d, .ref e]) (h1 : SqL K H a ws) (h2 : cu H ws ls) (h3 : (∀ l ∈ ls, bI l /\ l.length <= 64 /\ ∀ x ∈ l, Bd B x)) (h4 : ws.length <= 1000) (h5 : SqT K H d [.int p, .int q]) (h6 : SqT K H e [.int r, .int t]) (h7 : Bd B p) (h8 : Bd B q) (h9 : Bd B r) (h10 : Bd B t) (h11 : B <= 1000000) (h12 : 0 < q) (h13 : 0 < t) (h14 : Q (.int (Vc (plc p q) ls - Vc (plc r t) ls)) H) : yc K vs H Q
noncomputable def j5 (K : PySem.W.Frag) : Sp := fun vs H Q _ => yc K vs H Q
theorem zq {p q : Int} (hq : 0 < q) (ls : List (List Int)) : chg 0 (ls.map fun l => sgn (hv p q l)) = Vc (plc p q) ls := by
  unfold Vc sgs
  congr 1
  exact List.map_congr_left fun l _ => yV hq l
inductive uF (K : PySem.W.Frag) (vs : List V) (H : Hp) (Q : VK) : Prop
  | mk (a d e : Addr) (c : List Int) (p L ps Ls B : Nat) (x q r t : Int) (h0 : vs = [.ref a, .ref d, .ref e]) (h1 : SqL K H a (c.map V.int)) (h2 : SqT K H d [.int x, .int q]) (h3 : SqT K H e [.int r, .int t]) (h4 : Szs c p L ps Ls B) (h5 : Bd B x) (h6 : Bd B q) (h7 : Bd B r) (h8 : Bd B t) (h9 : 0 < q) (h10 : 0 < t) (h11 : x * t <= r * q) (h12 : ∀ (H' : Hp) (ls : List (List Int)), Same H H' -> Chain c ls -> Q (.int (Vc (plc x q) ls - Vc (plc r t) ls)) H') : uF K vs H Q
noncomputable def lM (K : PySem.W.Frag) : Sp := fun vs H Q _ => uF K vs H Q
inductive BP (K : PySem.W.Frag) (vs : List V) (H : Hp) (Q : VK) : Prop
  | mk (a : Addr) (c : List Int) (h0 : vs = [.ref a]) (h1 : SqL K H a (c.map V.int)) (h2 : bI c) (h3 : c ≠ []) (h4 : c.length <= 1000) (h5 : ∀ H' : Hp, Same H H' -> Q (.int (aX c)) H') : BP K vs H Q
noncomputable def jx (K : PySem.W.Frag) : Sp := fun vs H Q _ => BP K vs H Q
inductive BW (K : PySem.W.Frag) (vs : List V) (H : Hp) (Q : VK) : Prop
  | mk (a : Addr) (c : List Int) (p L ps Ls B : Nat) (h0 : vs = [.ref a]) (h1 : SqL K H a (c.map V.int)) (h2 : Szs c p L ps Ls B) (h3 : p + 2 <= B) (h4 : ∀ (H' : Hp) (ls : List (List Int)), Same H H' -> Chain c ls -> Q (.int (Vc (-((aX c : Int) : Rat)) ls - Vc ((aX c : Int) : Rat) ls)) H') : BW K vs H Q
noncomputable def p8 (K : PySem.W.Frag) : Sp := fun vs H Q _ => BW K vs H Q
theorem zf : ∀ (l : List Int) (a : Int), l.foldl (fun a x => max a (x.natAbs : Int)) a = a \/ l.foldl (fun a x => max a (x.natAbs : Int)) a ∈ l.map fun x => (x.natAbs : Int)
  | [], a => .inl rfl
  | x :: l, a => by
    rcases zf l (max a (x.natAbs : Int)) with h | h
    · by_cases c : a <= (x.natAbs : Int)
      · right
        rw [List.foldl_cons, h, Int.max_eq_right c]
        exact List.mem_cons_self
      · left
        rw [List.foldl_cons, h, Int.max_eq_left (by omega)]
    · right
      rw [List.foldl_cons]
      exact List.mem_cons_of_mem _ h
theorem mx_is {l : List Int} {m : Int} (h0 : (l.map fun x => (x.natAbs : Int)) = [] -> m = 0) (h1 : (l.map fun x => (x.natAbs : Int)) ≠ [] -> m ∈ (l.map fun x => (x.natAbs : Int)) /\ ∀ z ∈ (l.map fun x => (x.natAbs : Int)), z <= m) : m = mxL l := by
  by_cases c : l = []
  · subst c; exact h0 rfl
  · obtain ⟨a, b⟩ := h1 (by simpa using c)
    obtain ⟨x, hx, rfl⟩ := List.mem_map.mp a
    have u := (uV l 0).2 x hx
    rcases zf l 0 with h | h
    · unfold mxL
      rw [h] at u ⊢
      omega
    · have := b _ h
      unfold mxL
      omega
theorem mx_bd {n : Nat} {l : List Int} (h : ∀ x ∈ l, Bd n x) : Bd n (mxL l) := by
  rcases zf l 0 with e | e
  · unfold mxL
    rw [e]
    exact Bd.zero n
  · obtain ⟨x, hx, e2⟩ := List.mem_map.mp e
    unfold mxL
    rw [<- e2]
    have := h x hx
    unfold Bd at *
    omega
theorem nF {n : Nat} {c : List Int} (hg : bI c) (hne : c ≠ []) (h : ∀ x ∈ c, Bd n x) : Bd (n + 2) (aX c) /\ 2 <= aX c := by
  have b1 := mx_bd (n := n) (l := c.dropLast) fun x hx => h x ((List.dropLast_subset c) hx)
  have nn := Aa c.dropLast
  have l0 := hg hne
  have hd : 0 <= mxL c.dropLast / ((c.getD (c.length - 1) 0).natAbs : Int) := Int.ediv_nonneg nn (by omega)
  have hd2 : mxL c.dropLast / ((c.getD (c.length - 1) 0).natAbs : Int) <= mxL c.dropLast := Int.ediv_le_self _ nn
  unfold aX
  generalize mxL c.dropLast / ((c.getD (c.length - 1) 0).natAbs : Int) = D at *
  refine ⟨?_, by omega⟩
  unfold Bd at *
  have : 1 <= 2 ^ n := Nat.one_le_two_pow
  rw [Nat.pow_add]
  omega
theorem Hv {c : List Int} (h : c ≠ []) : jM (c.map V.int) none (some (-1)) = c.dropLast.map V.int := by
  have hl := List.length_pos_iff.mpr h
  unfold jM
  have e : HT.sIx (c.map V.int).length (c.map V.int).length (some (-1)) = c.length - 1 := by
    show (if (-1 : Int) < 0 then ((-1 : Int) + ((c.map V.int).length : Nat)).toNat else min (-1 : Int).toNat (c.map V.int).length) = _
    rw [if_pos (by decide), List.length_map]
    omega
  rw [e, HT.wL, List.drop_zero, Nat.sub_zero, <- List.map_take, List.dropLast_eq_take]
end Zf
namespace Zf
open PS
noncomputable def Pr (F q : Int) : Prop := 0 < F /\ ∃ k : Nat, q = F * 2 ^ k
theorem Pr.pos {F q : Int} (h : Pr F q) : 0 < q := by
  obtain ⟨h0, k, rfl⟩ := h
  exact Int.mul_pos h0 (Int.pow_pos (by decide))
theorem Pr.self {F : Int} (h : 0 < F) : Pr F F := ⟨h, 0, by simp⟩
theorem Pr.double {F q : Int} (h : Pr F q) : Pr F (2 * q) := by
  obtain ⟨h0, k, rfl⟩ := h
  exact ⟨h0, k + 1, by rw [Int.pow_succ]; grind⟩
theorem Pr.mx {F q r : Int} (h : Pr F q) (k : Pr F r) : Pr F (max q r) := by
  rcases (by omega : max q r = q \/ max q r = r) with e | e <;> rw [e] <;> assumption
theorem Pr.dvd {F q r : Int} (h : Pr F q) (k : Pr F r) (l : q <= r) : q ∣ r := by
  obtain ⟨h0, i, rfl⟩ := h
  obtain ⟨_, j, rfl⟩ := k
  rcases Nat.le_total i j with c | c
  · exact ⟨2 ^ (j - i), by rw [Int.mul_assoc, <- Int.pow_add, show i + (j - i) = j by omega]⟩
  · obtain ⟨d, hd⟩ := Nat.exists_eq_add_of_le c
    subst hd
    have : (1 : Int) <= 2 ^ d := Int.pow_pos (by decide : (0 : Int) < 2)
    have hp : 0 < F * 2 ^ j := Int.mul_pos h0 (Int.pow_pos (by decide))
    have e : F * 2 ^ (j + d) = F * 2 ^ j * 2 ^ d := by rw [Int.pow_add]; grind
    rw [e] at l ⊢
    have : F * 2 ^ j * 1 <= F * 2 ^ j * 2 ^ d := Int.mul_le_mul_of_nonneg_left (by omega) (by omega)
    have e2 : F * 2 ^ j * 2 ^ d = F * 2 ^ j * 1 := by omega
    rw [e2, Int.mul_one]
    exact Int.dvd_refl _
noncomputable def inP (t q P : Int) : Int := t * (P / q)
theorem qj {F t q P : Int} (h : Pr F q) (k : Pr F P) (l : q <= P) : plc (inP t q P) P = plc t q := by
  have q0 := h.pos
  have p0 := k.pos
  obtain ⟨m, hm⟩ := h.dvd k l
  have e : P / q = m := by rw [hm]; exact Int.mul_ediv_cancel_left _ (by omega)
  unfold inP
  rw [e]
  have m0 : 0 < m := by
    rcases Int.lt_or_le 0 m with c | c
    · exact c
    · have := Int.mul_nonpos_of_nonneg_of_nonpos (by omega : 0 <= q) c
      omega
  unfold plc
  have c1 : (q : Rat) ≠ 0 := by have := bO q0; grind
  have c2 : (m : Rat) ≠ 0 := by have := bO m0; grind
  rw [hm, Rat.intCast_mul, Rat.intCast_mul]
  have e1 : (t : Rat) / (q : Rat) * (q : Rat) = (t : Rat) := Rat.div_mul_cancel c1
  have c3 : (q : Rat) * (m : Rat) ≠ 0 := fun z => by
    rcases Rat.mul_eq_zero.mp z with z | z
    · exact c1 z
    · exact c2 z
  generalize (t : Rat) / (q : Rat) = x at *
  rw [<- e1]
  have e2 : x * (q : Rat) * (m : Rat) = x * ((q : Rat) * (m : Rat)) := by grind
  rw [e2, Rat.div_def, Rat.mul_assoc, Rat.mul_inv_cancel _ c3, Rat.mul_one]
noncomputable def eE (lo hi : Int × Int) : Int × Int :=
  if inP hi.1 hi.2 (max lo.2 hi.2) - inP lo.1 lo.2 (max lo.2 hi.2) > 1 then ((inP lo.1 lo.2 (max lo.2 hi.2) + inP hi.1 hi.2 (max lo.2 hi.2)) / 2, max lo.2 hi.2)
  else (inP lo.1 lo.2 (max lo.2 hi.2) + inP hi.1 hi.2 (max lo.2 hi.2), 2 * max lo.2 hi.2)
noncomputable def pl (p : Int × Int) : Rat := plc p.1 p.2
theorem gO {t q : Int} (hq : 0 < q) : plc t q * (q : Rat) = (t : Rat) := by
  unfold plc
  exact Rat.div_mul_cancel (by have := bO hq; grind)
theorem yX {p q r s : Int} (hq : 0 < q) (hs : 0 < s) : plc p q < plc r s ↔ p * s < r * q := by
  have h := K8 (p := r) (q := s) (r := p) (s := q) hs hq
  constructor
  · intro a
    apply Classical.byContradiction
    intro b
    have := h.mpr (by omega)
    grind
  · intro a
    apply Classical.byContradiction
    intro b
    have := h.mp (by grind)
    omega
theorem qG {F : Int} {lo hi : Int × Int} (h1 : Pr F lo.2) (h2 : Pr F hi.2) (hlt : pl lo < pl hi) :
    pl lo < pl (eE lo hi) /\ pl (eE lo hi) < pl hi /\ Pr F (eE lo hi).2 /\ (pl (eE lo hi) - pl lo) * 4 <= (pl hi - pl lo) * 3 /\ (pl hi - pl (eE lo hi)) * 4 <= (pl hi - pl lo) * 3 /\
    ((eE lo hi).2 = max lo.2 hi.2 \/ ((eE lo hi).2 = 2 * max lo.2 hi.2 /\ (pl hi - pl lo) * ((max lo.2 hi.2 : Int) : Rat) = 1)) := by
  have hP := h1.mx h2
  have e1 := qj (t := lo.1) h1 hP (by omega)
  have e2 := qj (t := hi.1) h2 hP (by omega)
  have l1 : pl lo = plc (inP lo.1 lo.2 (max lo.2 hi.2)) (max lo.2 hi.2) := e1.symm
  have l2 : pl hi = plc (inP hi.1 hi.2 (max lo.2 hi.2)) (max lo.2 hi.2) := e2.symm
  have p0 := hP.pos
  unfold eE
  generalize inP lo.1 lo.2 (max lo.2 hi.2) = a at *
  generalize inP hi.1 hi.2 (max lo.2 hi.2) = b at *
  generalize max lo.2 hi.2 = P at *
  rw [l1, l2] at hlt ⊢
  have ab : a < b := by
    have := (yX p0 p0).mp hlt
    rcases Int.lt_or_le a b with c | c
    · exact c
    · have := Int.mul_le_mul_of_nonneg_right c (by omega : 0 <= P)
      omega
  have P1 := bO p0
  have ma := gO (t := a) p0
  have mb := gO (t := b) p0
  generalize hx : plc a P = x at *
  generalize hy : plc b P = y at *
  split
  · rename_i c
    have hm1 : 2 * ((a + b) / 2) <= a + b := by omega
    have hm2 : a + b <= 2 * ((a + b) / 2) + 1 := by omega
    generalize hm : (a + b) / 2 = m at *
    have mm := gO (t := m) p0
    have i1 : ((2 * m : Int) : Rat) <= ((a + b : Int) : Rat) := lD hm1
    have i2 : ((a + b : Int) : Rat) <= ((2 * m + 1 : Int) : Rat) := lD hm2
    have i3 : ((a + 2 : Int) : Rat) <= (b : Rat) := lD (by omega)
    rw [Rat.intCast_mul, Rat.intCast_add] at i1
    rw [Rat.intCast_add, Rat.intCast_add, Rat.intCast_mul] at i2
    rw [Rat.intCast_add] at i3
    have t2 : ((2 : Int) : Rat) = 2 := rfl
    have t1 : ((1 : Int) : Rat) = 1 := rfl
    refine ⟨?_, ?_, hP, ?_, ?_, .inl rfl⟩
    · show x < plc m P
      rw [<- hx]
      refine (yX p0 p0).mpr (Int.mul_lt_mul_of_pos_right (by omega) p0)
    · show plc m P < y
      rw [<- hy]
      refine (yX p0 p0).mpr (Int.mul_lt_mul_of_pos_right (by omega) p0)
    · show (plc m P - x) * 4 <= (y - x) * 3
      generalize plc m P = z at *
      apply Classical.byContradiction
      intro n
      have := Rat.mul_lt_mul_of_pos_right (a := (y - x) * 3) (b := (z - x) * 4) (by grind) (c := (P : Rat)) (by grind)
      grind
    · show (y - plc m P) * 4 <= (y - x) * 3
      generalize plc m P = z at *
      apply Classical.byContradiction
      intro n
      have := Rat.mul_lt_mul_of_pos_right (a := (y - x) * 3) (b := (y - z) * 4) (by grind) (c := (P : Rat)) (by grind)
      grind
  · rename_i c
    have eb : b = a + 1 := by omega
    have d0 : 0 < 2 * P := by omega
    have mm := gO (t := a + b) d0
    rw [Rat.intCast_mul, Rat.intCast_add] at mm
    have t2 : ((2 : Int) : Rat) = 2 := rfl
    have eh : plc (a + b) (2 * P) * 2 = x + y := by
      have : (plc (a + b) (2 * P) * 2 - (x + y)) * (P : Rat) = 0 := by grind
      rcases Rat.mul_eq_zero.mp this with h | h <;> grind
    have e1' : (b : Rat) = (a : Rat) + 1 := by rw [eb, Rat.intCast_add]; rfl
    refine ⟨?_, ?_, hP.double, ?_, ?_, .inr ⟨rfl, ?_⟩⟩
    · show x < plc (a + b) (2 * P); grind
    · show plc (a + b) (2 * P) < y; grind
    · show (plc (a + b) (2 * P) - x) * 4 <= (y - x) * 3; grind
    · show (y - plc (a + b) (2 * P)) * 4 <= (y - x) * 3; grind
    · show (y - x) * (P : Rat) = 1; grind
theorem tY {F : Int} {lo hi : Int × Int} (h1 : Pr F lo.2) (h2 : Pr F hi.2) (fine : Int) : ((inP hi.1 hi.2 (max lo.2 hi.2) - inP lo.1 lo.2 (max lo.2 hi.2)) * fine > max lo.2 hi.2) ↔ 1 < (pl hi - pl lo) * (fine : Rat) := by
  have hP := h1.mx h2
  have e1 := qj (t := lo.1) h1 hP (by omega)
  have e2 := qj (t := hi.1) h2 hP (by omega)
  have l1 : pl lo = plc (inP lo.1 lo.2 (max lo.2 hi.2)) (max lo.2 hi.2) := e1.symm
  have l2 : pl hi = plc (inP hi.1 hi.2 (max lo.2 hi.2)) (max lo.2 hi.2) := e2.symm
  have p0 := hP.pos
  generalize inP lo.1 lo.2 (max lo.2 hi.2) = a at *
  generalize inP hi.1 hi.2 (max lo.2 hi.2) = b at *
  generalize max lo.2 hi.2 = P at *
  rw [l1, l2]
  have ma := gO (t := a) p0
  have mb := gO (t := b) p0
  have P1 := bO p0
  generalize plc a P = x at *
  generalize plc b P = y at *
  rw [gt_iff_lt, <- Rat.intCast_lt_intCast, Rat.intCast_mul, Rat.intCast_sub, <- ma, <- mb]
  constructor
  · intro h
    apply Classical.byContradiction
    intro n
    have := Rat.mul_le_mul_of_nonneg_right (a := (y - x) * (fine : Rat)) (b := 1) (by grind) (c := (P : Rat)) (by grind)
    grind
  · intro h
    have := Rat.mul_lt_mul_of_pos_right h (c := (P : Rat)) (by grind)
    grind
end Zf
namespace Zf
open PS
noncomputable def lQ : Nat -> Rat
  | 0 => 1
  | k + 1 => lQ k * 4 / 3
theorem wO : ∀ k, 0 < lQ k
  | 0 => by show (0 : Rat) < 1; decide
  | k + 1 => by
    have := wO k
    show 0 < lQ k * 4 / 3
    exact fD (by grind) (by decide)
theorem wQ : ∀ k : Nat, 1 + (k : Rat) / 3 <= lQ k
  | 0 => by
    show 1 + ((0 : Nat) : Rat) / 3 <= 1
    have : ((0 : Nat) : Rat) = 0 := rfl
    rw [this]
    grind
  | k + 1 => by
    have h := wQ k
    have e : ((k + 1 : Nat) : Rat) = (k : Rat) + 1 := by simp
    have k0 : (0 : Rat) <= (k : Rat) := by
      have : ((0 : Int) : Rat) <= (((k : Nat) : Int) : Rat) := Rat.intCast_le_intCast.mpr (by omega)
      exact this
    rw [e]
    show 1 + ((k : Rat) + 1) / 3 <= lQ k * 4 / 3
    grind
theorem Ir (x : Rat) : ∃ k, x <= lQ k := by
  obtain ⟨n, hn⟩ := HX (x * 3)
  refine ⟨n, ?_⟩
  have := wQ n
  grind
structure fY (F Pm E : Int) (p : Int × Int) : Prop where
  pr : Pr F p.2
  le : p.2 <= Pm
  lo : -(E : Rat) <= pl p
  hi : pl p <= (E : Rat)
theorem fY.bd {F Pm E : Int} {p : Int × Int} (h : fY F Pm E p) {bE bP : Nat} (hE : Bd bE E) (hP : Bd bP Pm) : Bd (bE + bP) p.1 /\ Bd bP p.2 /\ 0 < p.2 := by
  have p0 := h.pr.pos
  have l1 := h.le
  have m := gO (t := p.1) p0
  have P1 := bO p0
  have h1 : (p.1 : Rat) <= (E : Rat) * (p.2 : Rat) := by
    rw [<- m]
    exact Rat.mul_le_mul_of_nonneg_right h.hi (by grind)
  have h2 : -(E : Rat) * (p.2 : Rat) <= (p.1 : Rat) := by
    rw [<- m]
    exact Rat.mul_le_mul_of_nonneg_right h.lo (by grind)
  rw [<- Rat.intCast_mul] at h1
  rw [<- Rat.intCast_neg, <- Rat.intCast_mul] at h2
  have i1 := Rat.intCast_le_intCast.mp h1
  have i2 := Rat.intCast_le_intCast.mp h2
  have b2 : Bd bP p.2 := by unfold Bd at *; omega
  have b3 := hE.mul b2
  refine ⟨?_, b2, p0⟩
  rw [Int.neg_mul] at i2
  unfold Bd at b3 ⊢
  omega
theorem xu {F Pm E : Int} {lo hi : Int × Int} (h1 : fY F Pm E lo) (h2 : fY F Pm E hi) (hlt : pl lo < pl hi) (hp : (eE lo hi).2 <= Pm) : fY F Pm E (eE lo hi) := by
  obtain ⟨a, b, c, _⟩ := qG h1.pr h2.pr hlt
  have := h1.lo
  have := h2.hi
  exact ⟨c, hp, by grind, by grind⟩
theorem Pr.ge {F q : Int} (h : Pr F q) : F <= q := by
  obtain ⟨h0, k, rfl⟩ := h
  have : (1 : Int) <= 2 ^ k := Int.pow_pos (by decide : (0 : Int) < 2)
  have := Int.mul_le_mul_of_nonneg_left this (by omega : 0 <= F)
  omega
theorem zN {F Pm E : Int} {lo hi : Int × Int} (h1 : fY F Pm E lo) (h2 : fY F Pm E hi) (hlt : pl lo < pl hi) (hl : 1 < (pl hi - pl lo) * (F : Rat)) : (eE lo hi).2 <= Pm := by
  obtain ⟨_, _, _, _, _, e⟩ := qG h1.pr h2.pr hlt
  have := h1.le
  have := h2.le
  rcases e with e | ⟨_, e⟩
  · rw [e]; omega
  · exfalso
    have g := (h1.pr.mx h2.pr).ge
    have g' : (F : Rat) <= ((max lo.2 hi.2 : Int) : Rat) := lD g
    have := Rat.mul_le_mul_of_nonneg_left g' (c := pl hi - pl lo) (by grind)
    grind
theorem Du {F Pm E S : Int} {lo hi : Int × Int} (h1 : fY F Pm E lo) (h2 : fY F Pm E hi) (hlt : pl lo < pl hi) (hS : 1 <= (pl hi - pl lo) * (S : Rat)) (hP : 2 * S <= Pm) : (eE lo hi).2 <= Pm := by
  obtain ⟨_, _, _, _, _, e⟩ := qG h1.pr h2.pr hlt
  have := h1.le
  have := h2.le
  rcases e with e | ⟨e1, e⟩
  · rw [e]; omega
  · rw [e1]
    have : max lo.2 hi.2 <= S := by
      apply Classical.byContradiction
      intro n
      have c : ((S + 1 : Int) : Rat) <= ((max lo.2 hi.2 : Int) : Rat) := lD (by omega)
      rw [Rat.intCast_add] at c
      have t1 : ((1 : Int) : Rat) = 1 := rfl
      have := Rat.mul_le_mul_of_nonneg_left c (c := pl hi - pl lo) (by grind)
      grind
    omega
noncomputable def turns : Nat -> Nat
  | 0 => 1
  | k + 1 => 2 * turns k + 1
theorem Ck : ∀ k, 0 < turns k
  | 0 => by decide
  | k + 1 => by show 0 < 2 * turns k + 1; omega
noncomputable def Gp (S : Int) : Rat -> List (Int × Int) -> List Nat -> Prop
  | _, [], [] => True
  | x, e :: es, k :: ks => x < pl e /\ (pl e - x) * (S : Rat) <= lQ k /\ Gp S (pl e) es ks
  | _, _, _ => False
noncomputable def Dep (k0 : Nat) : List Nat -> Prop
  | [] => True
  | k :: ks => ks.length + 1 + k <= k0 + 1 /\ Dep k0 ks
theorem wN : ∀ n : Nat, (2 : Rat) ^ n <= lQ (3 * n)
  | 0 => by show (2 : Rat) ^ 0 <= 1; rw [Rat.pow_zero]; grind
  | n + 1 => by
    have h := wN n
    have p := wO (3 * n)
    rw [Rat.pow_succ, show 3 * (n + 1) = 3 * n + 1 + 1 + 1 by omega]
    show _ <= lQ (3 * n) * 4 / 3 * 4 / 3 * 4 / 3
    grind
theorem DQ {F Pm E S : Int} {lo hi : Int × Int} (h1 : fY F Pm E lo) (h2 : fY F Pm E hi) (hlt : pl lo < pl hi) (S0 : 0 < S) (hS : 2 * S <= Pm) {bE bP : Nat} (hE : Bd bE E) (hP : Bd bP Pm) : (pl hi - pl lo) * (S : Rat) <= lQ (3 * (bE + bP)) := by
  refine Rat.le_trans ?_ (wN _)
  have a1 := h1.lo
  have a2 := h2.hi
  have S1 := bO S0
  have E0 : (0 : Rat) < (E : Rat) := by grind
  have E0' : 0 < E := by
    have : ((0 : Int) : Rat) < (E : Rat) := E0
    exact Rat.intCast_lt_intCast.mp this
  have b1 : (pl hi - pl lo) * (S : Rat) <= (2 * (E : Rat)) * (S : Rat) := Rat.mul_le_mul_of_nonneg_right (by grind) (by grind)
  have b2 : E * (2 * S) <= E * Pm := Int.mul_le_mul_of_nonneg_left hS (by omega)
  have b3 : (E * Pm).natAbs < 2 ^ (bE + bP) := hE.mul hP
  have b4 : E * (2 * S) <= ((2 ^ (bE + bP) : Nat) : Int) := by omega
  have b5 := lD b4
  have e1 : ((E * (2 * S) : Int) : Rat) = 2 * (E : Rat) * (S : Rat) := by
    rw [Rat.intCast_mul, Rat.intCast_mul, show ((2 : Int) : Rat) = 2 from rfl]; grind
  have e2 : ((((2 ^ (bE + bP) : Nat) : Int)) : Rat) = (2 : Rat) ^ (bE + bP) := by
    have : (((2 ^ (bE + bP) : Nat) : Int)) = (2 : Int) ^ (bE + bP) := by simp
    rw [this, Rat.intCast_pow]
    rfl
  rw [e1, e2] at b5
  grind
end Zf
namespace Zf
open PS
end Zf
namespace Zf
open PySem L2 PS
noncomputable def TP2 (p : Int × Int) : HO := .tup [.int p.1, .int p.2]
inductive uy (K : PySem.W.Frag) (vs : List V) (H : Hp) (Q : VK) : Prop
  | mk (d : Addr) (t q P : Int) (B : Nat) (h0 : vs = [.ref d, .int P]) (h1 : SqT K H d [.int t, .int q]) (h2 : 0 < q) (h3 : 0 <= P) (h4 : Bd B t) (h5 : Bd B P) (h6 : B <= 1000000) (h7 : Q (.int (inP t q P)) H) : uy K vs H Q
noncomputable def lJ (K : PySem.W.Frag) : Sp := fun vs H Q _ => uy K vs H Q
inductive yh (K : PySem.W.Frag) (vs : List V) (H : Hp) (Q : VK) : Prop
  | mk (d e : Addr) (lo hi : Int × Int) (B : Nat) (h0 : vs = [.ref d, .ref e]) (h1 : SqT K H d [.int lo.1, .int lo.2]) (h2 : SqT K H e [.int hi.1, .int hi.2]) (h3 : 0 < lo.2) (h4 : 0 < hi.2) (h5 : Bd B lo.1) (h6 : Bd B lo.2) (h7 : Bd B hi.1) (h8 : Bd B hi.2) (h9 : B <= 1000000) (h10 : ∀ (r : Addr) (H' : Hp), H r = none -> Same H H' -> H' r = some (TP2 (eE lo hi)) -> Q (.ref r) H') : yh K vs H Q
noncomputable def nD (K : PySem.W.Frag) : Sp := fun vs H Q _ => yh K vs H Q
inductive yj (K : PySem.W.Frag) (vs : List V) (H : Hp) (Q : VK) : Prop
  | mk (d e : Addr) (lo hi : Int × Int) (fine : Int) (B : Nat) (h0 : vs = [.ref d, .ref e, .int fine]) (h1 : SqT K H d [.int lo.1, .int lo.2]) (h2 : SqT K H e [.int hi.1, .int hi.2]) (h3 : 0 < lo.2) (h4 : 0 < hi.2) (h5 : Bd B lo.1) (h6 : Bd B lo.2) (h7 : Bd B hi.1) (h8 : Bd B hi.2) (h9 : Bd B fine) (h10 : B <= 1000000) (h11 : Q (.bl (decide ((inP hi.1 hi.2 (max lo.2 hi.2) - inP lo.1 lo.2 (max lo.2 hi.2)) * fine > max lo.2 hi.2))) H) : yj K vs H Q
noncomputable def qQ (K : PySem.W.Frag) : Sp := fun vs H Q _ => yj K vs H Q
structure Stm (s : List Int) (l : List (List Int)) : Prop where
  good : bI s
  ne : s ≠ []
  st : Steps s (aF (aM s)) l
  cop : Cop (co s) (co (aF (aM s)))
structure Fen (s : List Int) (l : List (List Int)) (F Pm E : Int) (lo hi b t : Int × Int) : Prop where
  ok1 : fY F Pm E b
  ok2 : fY F Pm E t
  h1 : pl lo <= pl b
  h2 : pl b < pl t
  h3 : pl t <= pl hi
  v1 : Vc (pl b) (s :: l) = Vc (pl lo) (s :: l)
  v2 : Vc (pl t) (s :: l) = Vc (pl hi) (s :: l)
inductive rZ (K : PySem.W.Frag) (vs : List V) (H : Hp) (Q : VK) : Prop
  | mk (a d e : Addr) (s : List Int) (l : List (List Int)) (F Pm E : Int) (lo hi : Int × Int) (bE bP B : Nat) (h0 : vs = [.ref a, .ref d, .ref e, .int F]) (h1 : SqL K H a (s.map V.int)) (h2 : H d = some (TP2 lo)) (h3 : H e = some (TP2 hi)) (h4 : Stm s l) (h5 : fY F Pm E lo) (h6 : fY F Pm E hi) (h7 : pl lo < pl hi) (h8 : Vc (pl lo) (s :: l) - Vc (pl hi) (s :: l) = 1) (h9 : s.length <= 64) (h10 : (∀ x ∈ s, Bd B x)) (h11 : Bd bE E) (h12 : Bd bP Pm) (h13 : bE + bP <= B) (h14 : B <= 1000000) (h15 : ∀ (r rb rt : Addr) (H' : Hp) (b t : Int × Int), H r = none -> Same H H' -> H' r = some (.tup [.ref rb, .ref rt]) -> H' rb = some (TP2 b) -> H' rt = some (TP2 t) -> Fen s l F Pm E lo hi b t -> (pl t - pl b) * (F : Rat) <= 1 -> Q (.ref r) H') : rZ K vs H Q
noncomputable def mH (K : PySem.W.Frag) : Sp := fun vs H Q _ => rZ K vs H Q
end Zf
namespace Zf
open PySem L2 PS
inductive gH (G : Hp) (vl : Int × Int -> Int) : List V -> List (Int × Int) -> Prop
  | nil : gH G vl [] []
  | snoc (ws : List V) (es : List (Int × Int)) (t p : Addr) (e : Int × Int) : gH G vl ws es -> G t = some (.tup [.ref p, .int (vl e)]) -> G p = some (TP2 e) -> gH G vl (ws ++ [.ref t]) (e :: es)
theorem gH.mono {G G' : Hp} {vl : Int × Int -> Int} {ws : List V} {es : List (Int × Int)} {r : Addr} (h : gH G vl ws es) (k : ∀ b o, b ≠ r -> G b = some o -> G' b = some o) (hr : ∃ xs, G r = some (.lst xs)) : gH G' vl ws es := by
  induction h with
  | nil => exact .nil
  | snoc ws es t p e _ h1 h2 ih =>
    obtain ⟨xs, hr⟩ := hr
    have n1 : t ≠ r := fun z => by rw [z, hr] at h1; cases h1
    have n2 : p ≠ r := fun z => by rw [z, hr] at h2; cases h2
    exact .snoc ws es t p e ih (k _ _ n1 h1) (k _ _ n2 h2)
theorem gH.length {G : Hp} {vl : Int × Int -> Int} {ws : List V} {es : List (Int × Int)} (h : gH G vl ws es) : ws.length = es.length := by
  induction h with
  | nil => rfl
  | snoc ws es t p e _ _ _ ih => simp [ih]
noncomputable def jW (G : Hp) (v : V) (p : (Int × Int) × (Int × Int)) : Prop := ∃ t a b : Addr, v = .ref t /\ G t = some (.tup [.ref a, .ref b]) /\ G a = some (TP2 p.1) /\ G b = some (TP2 p.2)
noncomputable def dH (G : Hp) (vs : List V) (ps : List ((Int × Int) × (Int × Int))) : Prop := vs.length = ps.length /\ ∀ (i : Nat) (v : V) (p : (Int × Int) × (Int × Int)), vs[i]? = some v -> ps[i]? = some p -> jW G v p
theorem jW.mono {G G' : Hp} {v : V} {p : (Int × Int) × (Int × Int)} {r : Addr} (h : jW G v p) (k : ∀ b o, b ≠ r -> G b = some o -> G' b = some o) (hr : ∃ xs, G r = some (.lst xs)) : jW G' v p := by
  obtain ⟨t, a, b, e, h1, h2, h3⟩ := h
  obtain ⟨xs, hr⟩ := hr
  exact ⟨t, a, b, e, k _ _ (fun z => by rw [z, hr] at h1; cases h1) h1, k _ _ (fun z => by rw [z, hr] at h2; cases h2) h2, k _ _ (fun z => by rw [z, hr] at h3; cases h3) h3⟩
theorem dH.mono {G G' : Hp} {vs : List V} {ps : List ((Int × Int) × (Int × Int))} {r : Addr} (h : dH G vs ps) (k : ∀ b o, b ≠ r -> G b = some o -> G' b = some o) (hr : ∃ xs, G r = some (.lst xs)) : dH G' vs ps := ⟨h.1, fun i v p a b => (h.2 i v p a b).mono k hr⟩
theorem dH.nil (G : Hp) : dH G [] [] := ⟨rfl, fun i _ _ a => by cases i <;> cases a⟩
theorem dH.snoc {G : Hp} {vs : List V} {ps : List ((Int × Int) × (Int × Int))} {v : V} {p : (Int × Int) × (Int × Int)} (h : dH G vs ps) (k : jW G v p) : dH G (vs ++ [v]) (ps ++ [p]) := by
  refine ⟨by simp [h.1], fun i w q a b => ?_⟩
  by_cases hi : i < vs.length
  · rw [List.getElem?_append_left hi] at a
    rw [List.getElem?_append_left (by rw [<- h.1]; exact hi)] at b
    exact h.2 i w q a b
  · have hi1 : i < (vs ++ [v]).length := (List.getElem?_eq_some_iff.mp a).1
    rw [List.length_append, List.length_singleton] at hi1
    have e : i = vs.length := by omega
    subst e
    rw [List.getElem?_append_right (Nat.le_refl _), Nat.sub_self] at a
    rw [h.1, List.getElem?_append_right (Nat.le_refl _), Nat.sub_self] at b
    cases a
    cases b
    exact k
theorem dH.get {G : Hp} {vs : List V} {ps : List ((Int × Int) × (Int × Int))} (h : dH G vs ps) {i : Nat} {v : V} (a : vs[i]? = some v) : ∃ p, ps[i]? = some p /\ jW G v p := by
  have hi : i < vs.length := (List.getElem?_eq_some_iff.mp a).1
  have hp : ps[i]? = some (ps[i]'(by rw [<- h.1]; exact hi)) := List.getElem?_eq_getElem _
  exact ⟨_, hp, h.2 i v _ a hp⟩
structure Row (s : List Int) (l : List (List Int)) (F Pm E : Int) (V0 : Int) (x y : Rat) (ps : List ((Int × Int) × (Int × Int))) : Prop where
  ok : ∀ p ∈ ps, fY F Pm E p.1 /\ fY F Pm E p.2 /\ x <= pl p.1 /\ pl p.1 < pl p.2 /\ pl p.2 <= y
  at_ : ∀ (i : Nat) (p : (Int × Int) × (Int × Int)), ps[i]? = some p -> Vc (pl p.1) (s :: l) = V0 - i /\ Vc (pl p.2) (s :: l) = V0 - i - 1
  up : ∀ (i : Nat) (p q : (Int × Int) × (Int × Int)), ps[i]? = some p -> ps[i + 1]? = some q -> pl p.2 <= pl q.1
  num : (ps.length : Int) = V0 - Vc y (s :: l)
inductive ux (K : PySem.W.Frag) (vs : List V) (H : Hp) (Q : VK) : Prop
  | mk (a d e : Addr) (ws : List V) (s : List Int) (l : List (List Int)) (F Pm E S : Int) (lo hi : Int × Int) (bE bP B : Nat) (h0 : vs = [.ref a, .ref d, .ref e]) (h1 : H a = some (.lst ws)) (h2 : cu H ws (s :: l)) (h3 : (∀ u ∈ s :: l, bI u /\ u.length <= 64 /\ ∀ x ∈ u, Bd B x)) (h4 : ws.length <= 1000) (h5 : H d = some (TP2 lo)) (h6 : H e = some (TP2 hi)) (h7 : Stm s l) (h8 : fY F Pm E lo) (h9 : fY F Pm E hi) (h10 : pl lo < pl hi) (h11 : (∀ x y : Rat, x <= y -> 2 <= Vc x (s :: l) - Vc y (s :: l) -> 1 < (y - x) * (S : Rat))) (h12 : 0 < S) (h13 : 2 * S <= Pm) (h14 : Vc (pl lo) (s :: l) - Vc (pl hi) (s :: l) <= 100) (h15 : Bd bE E) (h16 : Bd bP Pm) (h17 : bE + bP <= B) (h18 : B <= 1000000) (h19 : ∀ (r : Addr) (H' : Hp) (zs : List V) (ps : List ((Int × Int) × (Int × Int))), H r = none -> Same H H' -> H' r = some (.lst zs) -> dH H' zs ps -> Row s l F Pm E (Vc (pl lo) (s :: l)) (pl lo) (pl hi) ps -> Q (.ref r) H') : ux K vs H Q
noncomputable def oW (K : PySem.W.Frag) : Sp := fun vs H Q _ => ux K vs H Q
theorem Gp.split {S : Int} {x : Rat} {e m : Int × Int} {es : List (Int × Int)} {k : Nat} {ks : List Nat} (h : Gp S x (e :: es) ((k + 1) :: ks)) (S0 : 0 < S) (h1 : x < pl m) (h2 : pl m < pl e) (h3 : (pl m - x) * 4 <= (pl e - x) * 3) (h4 : (pl e - pl m) * 4 <= (pl e - x) * 3) : Gp S x (m :: e :: es) (k :: k :: ks) := by
  obtain ⟨a, b, c⟩ := h
  have b' : (pl e - x) * (S : Rat) <= lQ k * 4 / 3 := b
  have S1 := bO S0
  have m3 := Rat.mul_le_mul_of_nonneg_right h3 (c := (S : Rat)) (by grind)
  have m4 := Rat.mul_le_mul_of_nonneg_right h4 (c := (S : Rat)) (by grind)
  exact ⟨h1, by grind, h2, by grind, c⟩
theorem Gp.le_last {S : Int} : ∀ {x : Rat} {es : List (Int × Int)} {ks : List Nat}, Gp S x es ks -> ∀ {q : Int × Int}, es.getLast? = some q -> x <= pl q
  | _, [], [], _, _, h => by cases h
  | x, e :: es, k :: ks, ⟨a, _, c⟩, q, h => by
    cases es with
    | nil =>
      cases h
      grind
    | cons b bs =>
      rw [List.getLast?_cons_cons] at h
      have := Gp.le_last c h
      grind
theorem Row.snoc {s : List Int} {l : List (List Int)} {F Pm E V0 : Int} {lo : Rat} {x e : Int × Int} {ps : List ((Int × Int) × (Int × Int))} (h : Row s l F Pm E V0 lo (pl x) ps) (o1 : fY F Pm E x) (o2 : fY F Pm E e) (h0 : lo <= pl x) (h1 : pl x < pl e) (h2 : Vc (pl x) (s :: l) - Vc (pl e) (s :: l) = 1) : Row s l F Pm E V0 lo (pl e) (ps ++ [(x, e)]) := by
  have num := h.num
  refine ⟨fun p hp => ?_, fun i p hp => ?_, fun i p q hp hq => ?_, by simp; omega⟩
  · rcases List.mem_append.mp hp with r | r
    · obtain ⟨a1, a2, a3, a4, a5⟩ := h.ok p r
      exact ⟨a1, a2, a3, a4, by grind⟩
    · rw [List.mem_singleton.mp r]
      exact ⟨o1, o2, h0, h1, by grind⟩
  · by_cases hi : i < ps.length
    · rw [List.getElem?_append_left hi] at hp
      exact h.at_ i p hp
    · have hi1 : i < (ps ++ [(x, e)]).length := (List.getElem?_eq_some_iff.mp hp).1
      rw [List.length_append, List.length_singleton] at hi1
      have e' : i = ps.length := by omega
      subst e'
      rw [List.getElem?_append_right (Nat.le_refl _), Nat.sub_self] at hp
      cases hp
      constructor
      · show Vc (pl x) (s :: l) = _; omega
      · show Vc (pl e) (s :: l) = _; omega
  · by_cases hi : i + 1 < ps.length
    · rw [List.getElem?_append_left (by omega)] at hp
      rw [List.getElem?_append_left hi] at hq
      exact h.up i p q hp hq
    · have hi1 : i + 1 < (ps ++ [(x, e)]).length := (List.getElem?_eq_some_iff.mp hq).1
      rw [List.length_append, List.length_singleton] at hi1
      have e' : i + 1 = ps.length := by omega
      rw [e', List.getElem?_append_right (Nat.le_refl _), Nat.sub_self] at hq
      cases hq
      rw [List.getElem?_append_left (by omega)] at hp
      exact (h.ok p (List.mem_of_getElem? hp)).2.2.2.2
end Zf
namespace Zf
open PySem L2 PS
inductive pO (vs : List V) (H : Hp) (Q : VK) : Prop
  | mk (k : Int) (h0 : vs = [.int k]) (h1 : 0 < k) (h2 : Q .non H) : pO vs H Q
noncomputable def g_ : Sp := fun vs H Q _ => pO vs H Q
inductive pN (K : PySem.W.Frag) (vs : List V) (H : Hp) (Q : VK) : Prop
  | mk (a : Addr) (c : List Int) (p L ps Ls B bP : Nat) (F Pm S : Int) (h0 : vs = [.ref a, .int F]) (h1 : SqL K H a (c.map V.int)) (h2 : Szs c p L ps Ls B) (h3 : 0 < F) (h4 : F <= Pm) (h5 : 0 < S) (h6 : 2 * S <= Pm) (h7 : Bd bP Pm) (h8 : p + 2 + bP <= B) (h9 : Bd B F) (h10 : (∀ s l, Chain c (s :: l) -> Stm s l /\ (∀ x y : Rat, x <= y -> 2 <= Vc x (s :: l) - Vc y (s :: l) -> 1 < (y - x) * (S : Rat)) /\ Vc (-((aX c : Int) : Rat)) (s :: l) - Vc ((aX c : Int) : Rat) (s :: l) <= 100)) (h11 : ∀ (r : Addr) (H' : Hp) (zs : List V) (ps : List ((Int × Int) × (Int × Int))) (s : List Int) (l : List (List Int)), H r = none -> Same H H' -> H' r = some (.lst zs) -> dH H' zs ps -> Chain c (s :: l) -> Row s l F Pm (aX c) (Vc (-((aX c : Int) : Rat)) (s :: l)) (-((aX c : Int) : Rat)) ((aX c : Int) : Rat) ps -> (∀ q ∈ ps, (pl q.2 - pl q.1) * (F : Rat) <= 1) -> Q (.ref r) H') : pN K vs H Q
noncomputable def fU (K : PySem.W.Frag) : Sp := fun vs H Q _ => pN K vs H Q
theorem Iw {E F : Int} (hF : 0 < F) : pl (E * F, F) = (E : Rat) /\ pl (-(E * F), F) = -(E : Rat) := by
  have f1 := bO hF
  constructor
  · have m := gO (t := E * F) hF
    rw [Rat.intCast_mul] at m
    show plc (E * F) F = _
    have : (plc (E * F) F - (E : Rat)) * (F : Rat) = 0 := by grind
    rcases Rat.mul_eq_zero.mp this with h | h <;> grind
  · have m := gO (t := -(E * F)) hF
    rw [Rat.intCast_neg, Rat.intCast_mul] at m
    show plc (-(E * F)) F = _
    have : (plc (-(E * F)) F + (E : Rat)) * (F : Rat) = 0 := by grind
    rcases Rat.mul_eq_zero.mp this with h | h <;> grind
end Zf
namespace L2
open PySem PySem.Spec PyProof.Rows
structure Fly (P : Program) (w : World) (outer : List Env) (H : Hp) (s : Shared) (H' : Hp) (e : Addr) (C : Value) (s' : Shared) : Prop where
  os : s'.os = s.os
  bare : AllBare s'.gens
  fly : ∃ (B : Heap) (a0 : Value), Heap.FlyingW B outer e C a0 s'.heap /\ (∀ b o, s.heap.get? b = some o -> b ∉ frs outer -> ∃ o', B.get? b = some o' /\ (H b = none -> o' = o)) /\ ∀ b o, H' b = some o -> ∃ o', B.get? b = some o'
  un : Un (frs outer) [] H H' s.heap s'.heap
  hok : HOk P w H' s'.heap
noncomputable def CXE (P : Program) (w : World) : CXT := fun outer H s E u s' => ∃ e C H', u = .ref e /\ Fly P w outer H s H' e C s' /\ E C none H'
section
variable {P : Program} {w : World} {H H' : Hp} {h h' B : Heap}
theorem HOk.on (x : HOk P w H h) (k : B.StaysIn h) (k' : B.StaysIn h') (t : ∀ b o, H b = some o -> ∃ o', B.get? b = some o') : HOk P w H h' := fun a o e => by
  refine (x a o e).stay (fun b u hb q => ?_) (fun _ q => q) fun _ _ q => q
  have tb : ∃ o', B.get? b = some o' := by
    rcases hb with rfl | hb
    · exact t _ _ e
    · exact t _ _ hb
  obtain ⟨o', ho'⟩ := tb
  have := k b o' ho'
  rw [q] at this
  cases this
  exact k' b _ ho'
end
section
variable {P : Program} {w : World} {K : PySem.W.Frag} {mg : Str -> Option Value} {base : Heap} {N : List Str} {qual : Str} {scope : Scope} {f : Addr} {cd : Value} {A : Around} {outer : List Env} {s₀ : Shared} {H₀ : Hp} {E : XK}
theorem Ag {X : Cx} {pins : List (Addr × Obj)} {σ : St} {H H' : Hp} {s : Shared} {B h' h'' : Heap} (I : Inv X pins σ H s) (hex : X.ex = []) (hst : X.stack = X.env :: X.outer) (hfr : X.env.frame = some X.env.locals)
    (cov : ∀ b o, s.heap.get? b = some o -> b ∉ frs X.stack -> ∃ o', B.get? b = some o' /\ (H b = none -> o' = o)) (un : Un (frs X.stack) [] H H' s.heap h') (k : B.StaysIn h'') (sm : h'.UpToSlots h'') :
    Un X.fs [] X.H₀ H' X.s₀.heap h'' /\ ∀ b o, X.s₀.heap.get? b = some o -> b ∉ X.fs -> ∃ o', B.get? b = some o' /\ (X.H₀ b = none -> o' = o) := by
  have nex : ∀ b : Addr, b ∉ X.ex := fun b z => by rw [hex] at z; exact absurd z (by simp)
  have neL : ∀ b o, X.s₀.heap.get? b = some o -> b ≠ X.env.locals := fun b o e => Nat.ne_of_lt (Nat.lt_of_lt_of_le (Heap.lt_size e) I.ok.above)
  have nst : ∀ b o, X.s₀.heap.get? b = some o -> b ∉ X.fs -> b ∉ frs X.stack := fun b o e hb hm => by
    rcases List.mem_cons.mp (I.qD b hm) with z | z
    · exact neL b o e z
    · exact hb z
  have sub : ∀ b, b ∈ X.fs -> b ∈ frs X.stack := fun b hb => by
    rw [hst]
    unfold frs
    rw [List.filterMap_cons, hfr]
    exact List.mem_cons_of_mem _ hb
  have cov' : ∀ b o, X.s₀.heap.get? b = some o -> b ∉ X.fs -> ∃ o', B.get? b = some o' /\ (X.H₀ b = none -> o' = o) := fun b o e hb => by
    obtain ⟨o1, e1⟩ := I.base.there b o e (nex b)
    obtain ⟨o', ho', ho⟩ := cov b o1 e1 (nst b o e hb)
    refine ⟨o', ho', fun n => ?_⟩
    have e2 := I.base.keep b o e n hb (nex b)
    rw [e1] at e2
    cases e2
    exact ho (I.base.free b o e n (nex b))
  have slot : ∀ b o, X.s₀.heap.get? b = some o -> X.H₀ b = none -> b ∈ X.fs -> ∃ sl, h''.get? b = some { o with slots := sl } := fun b o e n hb => by
    obtain ⟨sl, e1⟩ := I.base.slot b o e n hb (nex b)
    obtain ⟨sl', e2⟩ := un.slot b _ e1 (I.base.free b o e n (nex b)) (sub b hb) (by simp)
    obtain ⟨_, o', ho', hnf⟩ := I.ok.oE.mem hb
    rw [e] at ho'
    cases ho'
    obtain ⟨sl'', e3⟩ := sm b _ e2 hnf
    exact ⟨sl'', e3⟩
  refine ⟨⟨fun b o e n hb _ => ?_, fun b o e n hb _ => slot b o e n hb, fun b o e n _ => ?_, fun b o e _ => ?_, fun b xs q => un.tups b xs (I.base.tups b xs q), fun b o xs q => un.lY b o xs (I.base.lY b o xs q), fun b ps q => ?_⟩, cov'⟩
  · obtain ⟨o', ho', ho⟩ := cov' b o e hb
    rw [ho n] at ho'
    exact k b o ho'
  · obtain ⟨o1, e1⟩ := I.base.there b o e (nex b)
    exact un.free b o1 e1 (I.base.free b o e n (nex b)) (by simp)
  · by_cases hb : b ∈ X.fs
    · obtain ⟨sl, q⟩ := slot b o e (I.ok.frf b hb) hb
      exact ⟨_, q⟩
    · obtain ⟨o', ho', _⟩ := cov' b o e hb
      exact ⟨o', k b o' ho'⟩
  · obtain ⟨m1, e1⟩ := I.base.oh b ps q
    obtain ⟨m2, e2⟩ := un.oh b _ e1
    exact ⟨m1 ++ m2, by rw [e2, Array.append_assoc]⟩
theorem bH : Passes (CXE P w) (iy (CXE P w) P w K mg base N qual scope f cd A outer s₀ H₀ E) E := by
  rintro pins σ H s u s' I ⟨e, C, H', rfl, F, hE⟩
  obtain ⟨B, a0, fl, cov, trk⟩ := F.fly
  refine wpAny_leaves_onW I.ok.frames rfl fl fun h'' fl' sm => ⟨e, C, H', rfl, ?_, hE⟩
  obtain ⟨un, cov'⟩ := Ag I rfl rfl rfl cov F.un fl'.1 sm
  exact ⟨F.os.trans I.os, F.bare, ⟨B, a0, fl', cov', trk⟩, un, F.hok.on fl.1 fl'.1 trk⟩
end
theorem HOk.there {P : Program} {w : World} {H : Hp} {h : Heap} {a : Addr} {o : HO} (x : HOk P w H h) (e : H a = some o) : ∃ ob, h.get? a = some ob := by
  have y := x a o e
  cases o with
  | lst xs => exact ⟨_, y.2.choose_spec.choose_spec.2⟩
  | tup xs => obtain ⟨_, _, _, ob, e1, _⟩ := y; exact ⟨_, e1⟩
  | dK kvs => obtain ⟨_, _, _, _, ob, _, _, e1, _⟩ := y; exact ⟨_, e1⟩
  | dT kvs => obtain ⟨_, _, _, _, ob, _, _, e1, _⟩ := y; exact ⟨_, e1⟩
  | set S n => obtain ⟨ob, _, _, _, e1, _⟩ := y; exact ⟨_, e1⟩
  | ins C dx fs => exact ⟨_, y.2.2.2.1⟩
  | own y' => exact y
  | xd fs => obtain ⟨_, ⟨_, _, _, e1, _⟩, _⟩ := y; exact ⟨_, e1⟩
  | rng lo hi => obtain ⟨_, _, _, e1⟩ := y; exact ⟨_, e1⟩
  | frz ob u => exact ⟨_, y.1⟩
  | tbl ps => exact ⟨_, y⟩
  | met f z => exact ⟨_, y⟩
  | ext φ => exact y.2.1
theorem Jq {K : PySem.W.Frag} {h : Heap} {C : Addr} {bmB : List Value} {newId : String} (X : K.In h) (q : PySem.W.excIn K C bmB newId = true) :
    ∃ bm N nm qn bs hd sn sub ab col dd k0 k1 k2 k3 k5 mN, h.get? C = some (excClassObj nm qn C N bs bm hd sn sub ab col dd k0 k1 k2 k3 k5 newId) /\ h.Ns N mN /\ mN "__init__" = none /\ OwnTail h bmB bm := by
  revert q
  unfold PySem.W.excIn
  rcases ho : K.lookup C with _ | ⟨c0, dd, dat, sl⟩
  · intro q; cases q
  intro q
  have hC := X C _ ho
  split at q
  case h_2 => cases q
  case h_1 z dd' cd sl' hz =>
    cases hz
    split at q
    case h_2 => cases q
    case h_1 z1 z2 C' bm k0 k1 k2 k3 n k5 em es =>
      rw [Bool.and_eq_true, Bool.and_eq_true, Bool.and_eq_true, Bool.and_eq_true, Bool.and_eq_true] at q
      obtain ⟨⟨⟨⟨⟨q1, q2⟩, q3⟩, q4⟩, q5⟩, q6⟩ := q
      have e1 := beq_iff_eq.mp q1
      have e2 := beq_iff_eq.mp q2
      have e3 : cd.hasDel = false := by cases e : cd.hasDel <;> rw [e] at q3 <;> simp_all
      have e4 : sl = #[k0, k1, k2, k3, some (.builtin n), k5] := Array.toList_inj.mp es
      subst e1 e2 e4
      cases cd
      cases em
      cases e3
      exact ⟨bm, _, _, _, _, _, _, _, _, _, dd, k0, k1, k2, k3, k5, _, hC, .of_isNs (PySem.W.isNs_of_in X q5), PySem.W.nsMap_none_of_in X q5 (beq_iff_eq.mp q6), PySem.W.tail_of_in X q4⟩
noncomputable def K3 (E : XK) (C : Addr) (t : TA) : TS := fun _ σ H => t σ H fun vs H1 => vs.length <= sizeLine /\ E (.ref C) none H1
section
variable {P : Program} {w : World} {K : PySem.W.Frag} {mg : Str -> Option Value} {base : Heap} {N : List Str} {qual : Str} {scope : Scope} {f : Addr} {cd : Value} {A : Around} {outer : List Env} {s₀ : Shared} {H₀ : Hp} {E : XK}
theorem Mg {pins : List (Addr × Obj)} {σ : St} {H : Hp} {s : Shared} {h' : Heap} {e C : Addr} {args : List Value} (I : Inv (iy (CXE P w) P w K mg base N qual scope f cd A outer s₀ H₀ E) pins σ H s) (hx : Heap.MadeExcOf s.heap h' e (.ref C) args) (hE : E (.ref C) none H) :
    (iy (CXE P w) P w K mg base N qual scope f cd A outer s₀ H₀ E).xe (.ref e) { s with heap := h' } := by
  have free := I.kO
  have st : (PySem.W.hideAll s.heap (frs (iy (CXE P w) P w K mg base N qual scope f cd A outer s₀ H₀ E).stack)).StaysIn s.heap := fun b o q => PySem.W.of_hideAll _ q
  have cov : ∀ b o, s.heap.get? b = some o -> b ∉ frs (iy (CXE P w) P w K mg base N qual scope f cd A outer s₀ H₀ E).stack -> ∃ o', (PySem.W.hideAll s.heap (frs (iy (CXE P w) P w K mg base N qual scope f cd A outer s₀ H₀ E).stack)).get? b = some o' /\ (H b = none -> o' = o) :=
    fun b o q n => ⟨o, PySem.W.hideAll_get _ q n, fun _ => rfl⟩
  have trk : ∀ b o, H b = some o -> ∃ o', (PySem.W.hideAll s.heap (frs (iy (CXE P w) P w K mg base N qual scope f cd A outer s₀ H₀ E).stack)).get? b = some o' := fun b o q => by
    obtain ⟨o', ho'⟩ := I.hok.there q
    exact ⟨o', PySem.W.hideAll_get _ ho' fun m => by rw [free b m] at q; cases q⟩
  refine wpAny_leaves_madeW (s := { s with heap := h' }) (base := PySem.W.hideAll s.heap (frs (iy (CXE P w) P w K mg base N qual scope f cd A outer s₀ H₀ E).stack)) (h := s.heap) I.ok.frames rfl st (PySem.W.funFrames_hide I.stack fun env he a ha => List.mem_filterMap.mpr ⟨env, he, ha⟩) hx fun h'' t fl tup hn sm => ?_
  obtain ⟨un, cov'⟩ := Ag I rfl rfl rfl cov (Un.kept hx.keeps) fl.1 sm
  exact ⟨e, .ref C, H, rfl, ⟨I.os, I.bare, ⟨_, .ref t, fl, cov', trk⟩, un, I.hok.on st fl.1 trk⟩, hE⟩
theorem jr {x : Str} {np cpos pos : Pos} {e : Expr} {es : List Expr} {t : TA} {C : Addr} {B newId initId : String} {bmB : List Value} (F : ExcBaseFacts B newId initId bmB) (hg : Gl (iy (CXE P w) P w K mg base N qual scope f cd A outer s₀ H₀ E) x) (hm : mg x = some (.ref C))
    (hq : PySem.W.excIn K C bmB newId = true) (ha : PA (iy (CXE P w) P w K mg base N qual scope f cd A outer s₀ H₀ E) (e :: es) t) (hdb : (x == ("__debug__" : Str)) = false := by decide)
    (he : starEach (e :: es) (iy (CXE P w) P w K mg base N qual scope f cd A outer s₀ H₀ E).env = (false, eval e (iy (CXE P w) P w K mg base N qual scope f cd A outer s₀ H₀ E).env) :: starEach es (iy (CXE P w) P w K mg base N qual scope f cd A outer s₀ H₀ E).env := by rfl)
    (hpl : (backTo cpos (starEach (e :: es) (iy (CXE P w) P w K mg base N qual scope f cd A outer s₀ H₀ E).env)).any (·.1) = false := by rfl) :
    PS (iy (CXE P w) P w K mg base N qual scope f cd A outer s₀ H₀ E) (.Raise (some (.Call (.Name x np) (e :: es) [] cpos)) none pos) (K3 E C t) := by
  intro pins s σ H D I h
  obtain ⟨bm, Nn, nm, qn, bs, hd, sn, sub, ab, col, dd, k0, k1, k2, k3, k5, mN, hC, hN, hni, T⟩ := Jq I.ok.mod.kin hq
  refine wpAny_Raise_call_subT (nm := nm) (q := qn) (N := Nn) (bs := bs) (hdct := hd) (sn := sn) (sub := sub) (ab := ab) (col := col) (dd := dd) (k0 := k0) (k1 := k1) (k2 := k2) (k3 := k3) (k5 := k5) F (T.hasType F.hasBase) (I.ok.hd rfl) hpl hni (m_ I hg hm ⟨rfl, ?_⟩ hdb)
  have hb : ∃ rest, backTo cpos (starEach (e :: es) (iy (CXE P w) P w K mg base N qual scope f cd A outer s₀ H₀ E).env) = (false, eval e (iy (CXE P w) P w K mg base N qual scope f cd A outer s₀ H₀ E).env) :: rest := ⟨_, by rw [he]; rfl⟩
  obtain ⟨rest, hb⟩ := hb
  have q := ha cpos pins s σ H _ I h
  rw [hb] at q ⊢
  refine Calls.evalArgs_plain (thn q fun us s2 z => ?_)
  obtain ⟨vs, H1, I1, r, hl, hE⟩ := z
  exact ⟨rfl, by rw [<- r.length]; exact hl, I1.bk _ _ hC, hN.keeps I1.bk, T.keeps I1.bk, fun h' e' hx => Mg I1 hx hE⟩
end
section
variable {P : Program} {w : World} {K : PySem.W.Frag} {mg : Str -> Option Value} {base : Heap}
theorem bw.any {CX : CXT} {k : Nat} {f : Addr} {fd : FuncData} {ps : List Str} {sp : Sp} (F : bw P w K mg base CX0 k f fd ps sp) : bw P w K mg base CX k f fd ps sp := ⟨F.len, fun A outer s H args us vs Q E hr he hb hv hs => codeAny_mono (F.run A outer s H args us vs Q E hr he hb hv hs) fun r s' q => by
  cases r with
  | ok fl => cases fl <;> exact q
  | error e => exact q.elim⟩
theorem bw.or {CX : CXT} {k : Nat} {f : Addr} {fd : FuncData} {ps : List Str} {sp sp' : Sp} (F : bw P w K mg base CX k f fd ps sp) (G : bw P w K mg base CX k f fd ps sp') : bw P w K mg base CX k f fd ps (fun vs H Q E => sp vs H Q E \/ sp' vs H Q E) :=
  ⟨fun vs H Q E h => h.elim (F.len vs H Q E) (G.len vs H Q E), fun A outer s H args us vs Q E hr he hb hv hs => hs.elim (F.run A outer s H args us vs Q E hr he hb hv) (G.run A outer s H args us vs Q E hr he hb hv)⟩
theorem Fun.okE {x qual : Str} {st : Stmt} {f : Addr} {fd : FuncData} {N ps : List Str} {k : Nat} {sp : Sp} (F : Fun K x qual st f fd) (S : aZ N ps (aB st)) (len : ∀ vs H Q E, sp vs H Q E -> vs.length = ps.length)
    (hbody : ∀ (cdv : Value) (A : Around) (outer : List Env) (s : Shared) (H : Hp) (vs : List V) (Q : VK) (E : XK), jg k (A.deeper (envOfC qual (aB st) s.heap.objs.size f cdv)) -> sp vs H Q E ->
      ∃ t, PSs (iy (CXE P w) P w K mg base N qual (aB st) f cdv A outer s H E) (aW st) t /\ t { nx := fun _ H' => Q .non H', rt := Q } (start N vs) H) : bw P w K mg base (CXE P w) (k + 1) f fd ps sp := by
  obtain ⟨oc, od, kV, doc, pm, an, cdv, ct, osl, rfl, lk, hcd⟩ := F.ex
  exact J9 lk hcd S len fun A outer s H vs Q E hr hsp => hbody cdv A outer s H vs Q E hr hsp
noncomputable def bJ (P : Program) (w : World) (K : PySem.W.Frag) (mg : Str -> Option Value) (base : Heap) (k : Nat) (x : Str) (ps : List Str) (sp : Sp) : Prop :=
  ∃ (f : Addr) (fd : FuncData), bw P w K mg base (CXE P w) k f fd ps sp /\ Binds K fd ps [] /\ PySem.W.keepIn K (.ref f) = true /\ mg x = some (.ref f)
theorem aG {X : Cx} {j k : Nat} {x : Str} {ps : List Str} {sp : Sp} {e : Expr} {es : List Expr} {p pos : Pos} {t : TA} {E : XK} (F : bJ X.prog X.w X.K X.mg X.base j x ps sp) (hr : jg k X.A) (hg : Gl X x) (hx : Passes (CXE X.prog X.w) X E) (ha : PA X (e :: es) t) (hj : j <= k := by decide)
    (hdb : (x == ("__debug__" : Str)) = false := by decide) (he : starEach (e :: es) X.env = (false, eval e X.env) :: starEach es X.env := by rfl) (hpl : (backTo pos (starEach es X.env)).any (·.1) = false := by rfl) :
    PE X (.Call (.Name x p) (e :: es) [] pos) (wH sp [] E t) := by
  obtain ⟨f, fd, G, b, kp, m⟩ := F
  exact Az G (hr.mono hj) hg m kp b .nil hx ha hdb he hpl
end
end L2
namespace L2
open PySem PySem.Spec PySem.Calls PyProof.Rows PySem.W Builtin.Getset_descriptor
noncomputable def ExcAt (h : Heap) (x D : Addr) : Prop := ∃ ox, h.get? x = some ox /\ ox.cls = .ref D
theorem ExcAt.type {M : Model} {h : Heap} {x D : Addr} (I : ExcAt h x D) : Looks M h (typeOf (.ref x)) (.ref D) := by
  obtain ⟨o, h1, h2⟩ := I
  exact h2 ▸ (Looks.ld h1).andThen .now
theorem DR {K : Frag} {M : Model} {h : Heap} {x D : Addr} {name : Str} {a g : Value} (X : K.In h) (ha : findIn K (.ref D) name = some (some a)) (hg : specialIn K a "__get__" = some (some g)) (ht : takesIn K a = some true) :
    Looks M h (Builtin.ObjectAttr.find (.ref x) (.ref D) name) (.bind g a) := by
  refine (looks_findIn X ha).andThen ((looks_specialIn X hg).andThen ?_)
  have L3 := looks_takesIn (M := M) X ht
  have L4 : Looks M h (Builtin.ObjectAttr.dataDescriptor? (some a) (some g)) (some (g, a)) := L3.andThen .now
  exact L4.andThen (Looks.tag .now)
section
variable {prog : Program} {w : World} {A : Around} {E : Value -> Shared -> Prop} {s : Shared} {K : Frag} {x D : Addr}
theorem D_ {M : Model} {nameV : Value} {Q : Unit -> Shared -> Prop} (X : K.In s.heap) (I : ExcAt s.heap x D) (hb : subIn K (.ref D) (.type "BaseException") = some true) (h : Q () s) :
    wpAny M A (checkBuiltinCall "BaseException.__getattribute__" ⟨[.ref x, nameV], []⟩) Q E s := by
  obtain ⟨hh, g, d, t, os⟩ := s
  have L0 := I.type (M := M)
  have L3 := looks_subIn (M := M) X hb
  have hk : builtinKind "BaseException.__getattribute__" = some .slot := by decide +kernel
  have hsplit : splitId "BaseException.__getattribute__" = some ("BaseException", "__getattribute__") := by decide +kernel
  have ha := F.args_bexc_ga (.ref x) nameV
  simp only [checkBuiltinCall, hk, hsplit]
  refine wpAny_bind ?_
  unfold isInstance
  refine wpAny_bind (L0.at (L3.at ?_))
  repeat (first | exact h | wp_step)
theorem Jh {R : Result -> Shared -> Prop} {tp : Value} (X : K.In s.heap) (I : ExcAt s.heap x D) (hm : mroIn K D (.type "object") = some true) (h : R (.ok (.ret (.ref D))) s) :
    codeAny (model prog w) A (.call (.builtin "getset_descriptor.__get__") ⟨[.builtin "object.__class__", .ref x, tp], []⟩) R s := by
  have L0 := I.type (M := model prog w)
  have L1 := looks_mroIn (M := model prog w) X hm
  obtain ⟨hh, g, dr, t, os⟩ := s
  refine codeAny_call_builtin KF.slot_gs.plain KF.entry_gs ?_
  refine KF.slot_gs.check _ _ _ _ _ _ _ _ KF.type_class (KF.args_gs _ _ _) ?_
  unfold Builtin.«getset_descriptor.__get__» descrGet; rw [dga_obj]; refine wpAny_bind (wpAny_pure ?_)
  unfold descrGetter descrCheckInstance descrNameAndClass isInstance; simp only [KF.owner_class]
  repeat lk
  refine ⟨Code.quiet_builtin _ (by decide +kernel), ?_⟩
  refine codeAny_builtin KF.entry_class ?_
  unfold Builtin.«object.__class__» shownTypeOf; (repeat lk); exact h
theorem DX {tk : Tok} {Q : Fin -> Shared -> Prop} (X : K.In s.heap) (I : ExcAt s.heap x D) (hf : findIn K (.ref D) "__class__" = some (some (.builtin "object.__class__"))) (hs : specialIn K (.builtin "object.__class__") "__get__" = some (some (.builtin "getset_descriptor.__get__"))) (ht : takesIn K (.builtin "object.__class__") = some true) (hm : mroIn K D (.type "object") = some true)
    (h : Q (.done (.ret (.ref D))) s) : wpAny (model prog w) A (Builtin.«object.__getattribute__» ⟨[.ref x, .str "__class__" tk], []⟩) Q E s := by
  obtain ⟨hh, g, d, t, os⟩ := s
  have L0 := I.type (M := model prog w)
  have L4 := DR (x := x) (M := model prog w) X hf hs ht
  unfold Builtin.«object.__getattribute__»
  refine wpAny_bind (wpAny_pure ?_)
  refine wpAny_bind (wpAny_pure ?_)
  refine wpAny_bind (L0.at ?_)
  refine wpAny_bind (L4.at ?_)
  show wpAny _ _ (holding [Value.builtin "object.__class__"] (call (.builtin "getset_descriptor.__get__") [.builtin "object.__class__", .ref x, .ref D]) >>= fun v => _) _ _ _
  refine wpAny_bind (wpAny_holding (wpAny_call (Jh (s := ⟨hh, g, d, t, os⟩) X I hm ?_)))
  exact wpAny_pure h
theorem DY {Q : Option Value -> Shared -> Prop} (X : K.In s.heap) (I : ExcAt s.heap x D) (hga : findIn K (.ref D) "__getattribute__" = some (some (.builtin "BaseException.__getattribute__"))) (hno : findIn K (.ref D) "__getattr__" = some none)
    (hb : subIn K (.ref D) (.type "BaseException") = some true) (hf : findIn K (.ref D) "__class__" = some (some (.builtin "object.__class__"))) (hs : specialIn K (.builtin "object.__class__") "__get__" = some (some (.builtin "getset_descriptor.__get__"))) (ht : takesIn K (.builtin "object.__class__") = some true) (hm : mroIn K D (.type "object") = some true)
    (h : Q (some (.ref D)) { s with toks := s.toks + 1 }) : wpAny (model prog w) A (getAttr? (.ref x) "__class__") Q E s := by
  obtain ⟨hh, g, d, t, os⟩ := s
  have L0 := I.type (M := model prog w)
  have L1 := looks_findIn (M := model prog w) X hga
  have L2 := looks_findIn (M := model prog w) X hno
  unfold getAttr? getAttrBy? getAttrBy
  refine wpAny_bind (wpAny_mkText (wpAny_bind (wpAny_attempt (wpAny_holding (wpAny_bind (L0.at (wpAny_bind (L1.at ?_))))))))
  have hx2 : (onTheHeap (Value.ref D) && Value.builtin "BaseException.__getattribute__" == Value.builtin "object.__getattribute__") = false := by rw [show (Value.builtin "BaseException.__getattribute__" == Value.builtin "object.__getattribute__") = false from by decide +kernel, Bool.and_false]
  show wpAny _ _ (if (onTheHeap (Value.ref D) && Value.builtin "BaseException.__getattribute__" == Value.builtin "object.__getattribute__") = true then _ else _) _ _ _
  rw [hx2, if_neg (by decide)]
  unfold getAttrByItsOwn
  refine wpAny_bind (L2.at ?_)
  refine wpAny_bind (wpAny_attempt (wpAny_holding ?_))
  show wpAny _ _ (boundAndCalled _ _ _) _ _ _
  unfold boundAndCalled
  rw [PySem.F.attr_ValueError.ga.bind (.ref x)]
  refine wpAny_bind (wpAny_pure ?_)
  refine wpAny_call (codeAny_call_builtin PySem.F.attr_ValueError.ga.plain F.entry_bexc_ga ?_)
  refine D_ X I hb (DX X I hf hs ht hm ?_)
  exact handed_on rfl (wpAny_pure h)
theorem Hl (hc : (clsIn K D).isSome = true) (hga : findIn K (.ref D) "__getattribute__" = some (some (.builtin "BaseException.__getattribute__"))) (hno : findIn K (.ref D) "__getattr__" = some none)
    (hb : subIn K (.ref D) (.type "BaseException") = some true) (hf : findIn K (.ref D) "__class__" = some (some (.builtin "object.__class__"))) (hs : specialIn K (.builtin "object.__class__") "__get__" = some (some (.builtin "getset_descriptor.__get__"))) (ht : takesIn K (.builtin "object.__class__") = some true) (hm : mroIn K D (.type "object") = some true) :
    KitX K (.ref x) (.ref D) (fun h => ExcAt h x D) where
  ty := fun _ _ _ I => I.type
  it := fun _ _ X _ => by
    unfold clsIn at hc
    split at hc
    case h_2 => cases hc
    case h_1 ho =>
      intro A' Q' E' s' k q
      unfold isType loadHead
      exact wpAny_bind (wpAny_loadPart (k _ _ (X _ _ ho)) (wpAny_pure q))
  ne := fun h tp dd its n sl X htp => by
    refine Bool.eq_false_iff.mpr fun q => ?_
    have e : D = tp := Value.ref.inj (beq_iff_eq.mp q)
    subst e
    unfold clsIn at hc
    split at hc
    case h_2 => cases hc
    case h_1 ho =>
      have := X _ _ ho
      rw [htp] at this
      cases this
  ca := fun X I k => DY X I hga hno hb hf hs ht hm k
end
structure H9 (K : Frag) (D : Addr) : Prop where
  hc : (clsIn K D).isSome = true
  ga : findIn K (.ref D) "__getattribute__" = some (some (.builtin "BaseException.__getattribute__"))
  no : findIn K (.ref D) "__getattr__" = some none
  hb : subIn K (.ref D) (.type "BaseException") = some true
  hf : findIn K (.ref D) "__class__" = some (some (.builtin "object.__class__"))
  hs : specialIn K (.builtin "object.__class__") "__get__" = some (some (.builtin "getset_descriptor.__get__"))
  ht : takesIn K (.builtin "object.__class__") = some true
  hm : mroIn K D (.type "object") = some true
noncomputable def mU (e D : Addr) : HO := .ext fun h => ExcAt h e D
inductive XIsE (K : Frag) (xs : List V) (H : Hp) (Q : VK) : Prop
  | mk (e D : Addr) (c : V) (cv : Value) (k : Bool) (h0 : xs = [.ref e, c]) (h1 : H e = some (mU e D)) (h2 : H9 K D) (h3 : ∀ u, RelV c u -> u = cv) (h4 : kitOne K (.ref D) cv = some k) (h5 : Q (.bl k) H) : XIsE K xs H Q
noncomputable def rIsE (K : Frag) : List V -> Hp -> VK -> Prop := fun xs H Q => XIsE K xs H Q
theorem HB {X : Cx} : jK X (.builtin "isinstance") (rIsE X.K) := by
  rintro pins s σ H xs us Q I r ⟨e, D, c, cv, k, rfl, h1, h2, h3, h4, q⟩
  obtain ⟨u, w', rfl, r1, r2⟩ := vals2 r
  cases r1
  cases h3 _ r2
  have p : ExcAt s.heap e D := (I.hok e _ h1).1
  exact kia_one (Hl h2.hc h2.ga h2.no h2.hb h2.hf h2.hs h2.ht h2.hm) I.kIn p h4 (by intro z; cases z) fun tk => ⟨.bl k, H, I.tok tk, rfl, q⟩
theorem cJ {X : Cx} {K : Frag} (hK : X.K = K) : jK X (.builtin "isinstance") (rIsE K) := by
  subst hK
  exact HB
end L2
namespace L2
open PySem PySem.Spec PyProof.Rows PySem.W
section
variable {X : Cx} {pins : List (Addr × Obj)} {σ : St} {H : Hp} {s : Shared}
theorem Bf {M : Model} {A : Around} {E : Value -> Shared -> Prop} {i : Nat} {x : Str} {pos : Pos} {Q : Unit -> Shared -> Prop} (I : Inv X pins σ H s) (hN : X.N.Nodup) (hi : X.N[i]? = some x) (hk : X.env.scope.names.lookup x = some .local)
    (h : ∀ s', Inv X pins (σ.set i none) H s' -> Q () s') : wpAny M A (do bindName X.env x .none; unbindBehindTheSuite X.env x pos) Q E s := by
  obtain ⟨m, hn, hl⟩ := id I.loc
  have hcls : (X.env.scope.kind == .class || (X.env.scope.kind == .module && X.env.locals != X.env.globals)) = false := by rw [I.ok.kind]; rfl
  have hiσ : i < σ.length := by rw [I.len]; exact (List.getElem?_eq_some_iff.mp hi).1
  have neL : ∀ b o, X.s₀.heap.get? b = some o -> b ≠ X.env.locals := fun b o e => Nat.ne_of_lt (Nat.lt_of_lt_of_le (Heap.lt_size e) I.ok.above)
  refine wpAny_nameGoes_keeps hk hn hcls fun h' v hn' hs => h _ ⟨I.ok, I.os, I.bare, ⟨fun b o e n hb hx => (hs.2 b (neL b o e)).trans (I.base.keep b o e n hb hx), fun b o e n hb hx => ?_, I.base.free, fun b o e hx => ?_, I.base.tups, I.base.lY, I.base.oh⟩, ⟨_, hn', fun j y v' e1 e2 e3 => ?_⟩, fun y c e => ?_, I.free, I.jk, fun p hp => ?_, fun b o e => ?_, by simpa using I.len⟩
  · obtain ⟨sl, q⟩ := I.base.slot b o e n hb hx
    exact ⟨sl, (hs.2 b (neL b o e)).trans q⟩
  · obtain ⟨o', q⟩ := I.base.there b o e hx
    exact ⟨o', (hs.2 b (neL b o e)).trans q⟩
  · have hj : j ≠ i := fun z => by
      rw [z, List.getElem?_set_self hiσ] at e2
      cases e2
    rw [List.getElem?_set_ne (Ne.symm hj)] at e2
    obtain ⟨u, r, q⟩ := hl j y v' e1 e2 e3
    refine ⟨u, r, ?_⟩
    rcases q with ⟨q1, q2⟩ | ⟨q1, c, q2, q3⟩
    · have hy : y ≠ x := fun z => hj (qX hN (z ▸ e1) hi)
      exact .inl ⟨q1, by show (if y = x then v else m y) = _; rw [if_neg hy]; exact q2⟩
    · exact .inr ⟨q1, c, q2, q3.sameBut hs (I.cne y c q2)⟩
  · obtain ⟨v', z⟩ := I.cell y c e
    exact ⟨v', z.sameBut hs (I.cne y c e)⟩
  · obtain ⟨e, n, ne, nf, d⟩ := I.pin p hp
    exact ⟨(hs.2 p.1 ne).trans e, n, ne, nf, d⟩
  · refine (I.hok b o e).stay (fun c w' hc q => (hs.2 c ?_).trans q) (fun _ q => q) fun _ _ q => q
    rintro rfl
    rcases hc with rfl | hc
    · rw [I.free] at e; cases e
    · rw [I.free] at hc; cases hc
theorem Inv.re {A' : Around} {c : Bool} {pn' pins' : List (Addr × Obj)} {W : Value -> Shared -> Prop} (I : Inv X pins σ H s) (hd : c = true -> A'.handled = none) (hf : A'.frames = X.A.frames) (hp : ∀ p ∈ pn' ++ pins', p ∈ X.pn ++ pins) :
    Inv { X with A := A', calm := c, pn := pn', xe := W } pins' σ H s :=
  ⟨⟨I.ok.mod, I.ok.kind, I.ok.glob, I.ok.blt, I.ok.above, I.ok.inj, I.ok.has, I.ok.cab, hd, hf.trans I.ok.frames, I.ok.stk, I.ok.exf, I.ok.bs, I.ok.bsz, I.ok.yM, I.ok.yO, I.ok.oE, I.ok.frf⟩,
    I.os, I.bare, I.base, I.loc, I.cell, I.free, I.jk, fun p h => I.pin p (hp p h), I.hok, I.len⟩
end
noncomputable def Cx.tr (X : Cx) (pn : List (Addr × Obj)) (Ew : St -> XK) : Cx :=
  { X with A := X.A, calm := X.calm, pn := pn, xe := fun u s' => ∃ (pins : List (Addr × Obj)) (σ : St) (H : Hp) (s : Shared), Inv { X with A := X.A, calm := X.calm, pn := pn, xe := X.xe } pins σ H s /\ CXE X.prog X.w X.stack H s (Ew σ) u s' }
noncomputable def Cx.hand (X : Cx) (e : Addr) : Cx := { X with A := X.A.mark (some (.ref e)), calm := false, pn := X.pn, xe := fun _ _ => False }
section
variable {X : Cx} {pins : List (Addr × Obj)} {σ : St} {H : Hp} {s : Shared}
noncomputable def K5 (sp : Sp) (Ew : St -> XK) (t : TA) : TE := fun σ H Q => t σ H fun vs H1 => sp vs H1 Q (Ew σ)
theorem nG {pn : List (Addr × Obj)} {Ew : St -> XK} {j k : Nat} {x : Str} {ps : List Str} {sp : Sp} {e : Expr} {es : List Expr} {p pos : Pos} {t : TA} (F : bJ X.prog X.w X.K X.mg X.base j x ps sp) (hr : jg k X.A) (hg : Gl X x) (ha : PA (X.tr pn Ew) (e :: es) t) (hj : j <= k := by decide)
    (hdb : (x == ("__debug__" : Str)) = false := by decide) (he : starEach (e :: es) X.env = (false, eval e X.env) :: starEach es X.env := by rfl) (hpl : (backTo pos (starEach es X.env)).any (·.1) = false := by rfl) :
    PE (X.tr pn Ew) (.Call (.Name x p) (e :: es) [] pos) (K5 sp Ew t) := by
  obtain ⟨f, fd, G, hb, kp, hm⟩ := F
  intro pins s σ H Q I h
  refine wpAny_Call_Name_kw (m_ I hg hm ?_ hdb)
  refine PySem.W.callWith_K (h₀ := X.base) I.ok.mod.kin kp (thn (ha pos pins s σ H _ I h) fun us s1 z => ?_) he hpl
  obtain ⟨vs, H1, I1, r, q⟩ := z
  refine ⟨I1.kIn, ?_⟩
  have hl : us.length = ps.length := by rw [<- r.length]; exact G.len _ _ _ _ q
  have hb' := hb s1 us I1.kIn (by rw [List.append_nil]; exact hl)
  rw [List.append_nil] at hb'
  refine wpAny_call (codeAny_mono (G.run X.A X.stack s1 H1 ⟨us, []⟩ us vs Q (Ew σ) (hr.mono hj) I1.env0 hb' r q) fun r s' hq => ?_)
  cases r with
  | error e => exact ⟨pins, σ, H1, s1, I1.re (fun z => I1.ok.hd z) rfl fun p hp => hp, hq⟩
  | ok fl =>
    cases fl with
    | ret u => exact I1.after hq
    | next => exact False.elim hq
    | brk => exact False.elim hq
    | cont => exact False.elim hq
theorem Un.more {fs : List Addr} {H H' : Hp} {h h' : Heap} {e : Addr} {o : HO} (u : Un fs [] H H' h h') (hn : h.get? e = none) (hf : H' e = none) : Un fs [] H (upd H' e o) h h' := by
  have ne : ∀ b ob, h.get? b = some ob -> b ≠ e := fun b ob q z => by rw [z, hn] at q; cases q
  have nu : ∀ b ob, H' b = some ob -> b ≠ e := fun b ob q z => by rw [z, hf] at q; cases q
  exact ⟨u.keep, u.slot, fun b ob q n hx => (bK (ne b ob q)).trans (u.free b ob q n hx), u.there, fun b xs q => (bK (nu b _ (u.tups b xs q))).trans (u.tups b xs q), fun b ob xs q => (bK (nu b _ (u.lY b ob xs q))).trans (u.lY b ob xs q),
    fun b ps q => let ⟨m, z⟩ := u.oh b ps q; ⟨m, (bK (nu b _ z)).trans z⟩⟩
theorem HOk.more {P : Program} {w : World} {H : Hp} {h : Heap} {e D : Addr} (x : HOk P w H h) (hf : H e = none) (p : ExcAt h e D) : HOk P w (upd H e (mU e D)) h := fun a o q => by
  by_cases ha : a = e
  · subst ha
    rw [aH] at q
    cases q
    obtain ⟨ox, h1, h2⟩ := p
    exact ⟨⟨ox, h1, h2⟩, ⟨ox, h1⟩, fun g1 g2 ⟨o1, z1, z2⟩ k => ⟨o1, k _ z1, z2⟩⟩
  · rw [bK ha] at q
    have nu : ∀ b ob, H b = some ob -> b ≠ e := fun b ob q z => by rw [z, hf] at q; cases q
    exact (x a o q).stay (fun _ _ _ z => z) (fun b z => (bK (nu b _ z)).trans z) fun b xs z => (bK (nu b _ z)).trans z
noncomputable def tTry (K : Frag) (c0 : Addr) (Ew : St -> XK) (i : Nat) (tb ts : TS) : TS := fun D σ H => tb D σ H /\ ∀ (σ' : St) (C : Value) (H' : Hp), Ew σ' C none H' -> ∃ D0 : Addr, C = .ref D0 /\ exmOne K (.ref D0) (.ref c0) = some true /\
  ∀ e : Addr, H' e = none -> ts { nx := fun σ H => D.nx (σ.set i none) H, rt := D.rt } (σ'.set i (some (.ref e))) (upd H' e (mU e D0))
theorem Fd {i : Nat} {n c : Str} {c0 : Addr} {body suite : List Stmt} {b₀ : Stmt} {np hpos pos : Pos} {Ew : St -> XK} {tb ts : TS} (hst : X.stack = X.env :: X.outer) (hfr : X.env.frame = some X.env.locals) (hN : X.N.Nodup) (hi : X.N[i]? = some n) (hk : X.env.scope.names.lookup n = some .local)
    (hg : Gl X c) (hm : X.mg c = some (.ref c0)) (hb : ∀ pn, PSs (X.tr pn Ew) body tb) (hs : ∀ e, PSs (X.hand e) (b₀ :: suite) ts) (hdb : (c == ("__debug__" : Str)) = false := by decide) :
    PS X (.Try body [.ExceptHandler (some (.Name c np)) (some n) (b₀ :: suite) hpos] [] [] pos) (tTry X.K c0 Ew i tb ts) := by
  rintro pins s σ H D I ⟨hbd, hsu⟩
  refine wpAny_Try_except ?_
  have Ib : Inv (X.tr (X.pn ++ pins) Ew) [] σ H s := I.re (fun z => I.ok.hd z) rfl fun p hp => by simpa using hp
  refine wpAny_mono (hb (X.pn ++ pins) [] s σ H D Ib hbd) (fun f s1 hf => ?_) (fun u s1 hu => ?_)
  · have back : ∀ {σ' : St} {H' : Hp}, Inv (X.tr (X.pn ++ pins) Ew) [] σ' H' s1 -> Inv X pins σ' H' s1 := fun {σ' H'} J => J.re (A' := X.A) (c := X.calm) (pn' := X.pn) (W := X.xe) (fun z => J.ok.hd z) rfl fun p hp => List.mem_append_left _ hp
    cases f with
    | next =>
      obtain ⟨σ', H', J, q⟩ := hf
      exact bB pins s1 σ' H' D (back J) q
    | brk => obtain ⟨σ', H', J, q⟩ := hf; exact ⟨σ', H', back J, q⟩
    | cont => obtain ⟨σ', H', J, q⟩ := hf; exact ⟨σ', H', back J, q⟩
    | ret u => obtain ⟨v, σ', H', J, r, q⟩ := hf; exact ⟨v, σ', H', back J, r, q⟩
  · obtain ⟨pins1, σ1, H1, s0, I0', e, C, H2, rfl, F, hE⟩ := hu
    obtain ⟨D0, rfl, hmt, hsu⟩ := hsu σ1 C H2 hE
    obtain ⟨B, a0, fl, cov, trk⟩ := F.fly
    have I0 : Inv X pins σ1 H1 s0 := I0'.re (A' := X.A) (c := X.calm) (pn' := X.pn) (W := X.xe) (fun z => I0'.ok.hd z) rfl fun p hp => List.mem_append_left _ hp
    have hH2e : H2 e = none := by
      cases q : H2 e with
      | none => rfl
      | some o =>
        obtain ⟨o', ho'⟩ := trk e o q
        rw [fl.2.1] at ho'
        cases ho'
    have frN : ∀ b ∈ frs X.stack, ∃ o, s0.heap.get? b = some o /\ ∀ vs, o.data ≠ .fields vs := fun b hb => (I0.stack.mem hb).2
    have he0 : s0.heap.get? e = none := by
      cases q : s0.heap.get? e with
      | none => rfl
      | some o =>
        by_cases hb : e ∈ frs X.stack
        · obtain ⟨sl, z⟩ := F.un.slot e o q (I0.kO e hb) hb (by simp)
          obtain ⟨oe, vs, z1, z2, z3, _⟩ := fl.first
          rw [z] at z1
          cases z1
          obtain ⟨o', z4, z5⟩ := frN e hb
          rw [q] at z4
          cases z4
          exact absurd z3 (z5 vs)
        · obtain ⟨o', z, _⟩ := cov e o q hb
          rw [fl.2.1] at z
          cases z
    have land : ∀ h' : Heap, Heap.FlyingW B X.stack e (.ref D0) a0 h' -> s1.heap.UpToSlots h' -> Inv X pins σ1 (upd H2 e (mU e D0)) { s1 with heap := h' } := fun h' fl' sm => by
      have un2 : Un (frs X.stack) [] H1 H2 s0.heap h' := by
        have slot : ∀ b o, s0.heap.get? b = some o -> b ∈ frs X.stack -> ∃ sl, h'.get? b = some { o with slots := sl } := fun b o q hb => by
          obtain ⟨sl, z⟩ := F.un.slot b o q (I0.kO b hb) hb (by simp)
          obtain ⟨o', z4, z5⟩ := frN b hb
          rw [q] at z4
          cases z4
          obtain ⟨sl', z'⟩ := sm b _ z z5
          exact ⟨sl', z'⟩
        refine ⟨fun b o q n hb _ => ?_, fun b o q n hb _ => slot b o q hb, F.un.free, fun b o q _ => ?_, F.un.tups, F.un.lY, F.un.oh⟩
        · obtain ⟨o', z, z'⟩ := cov b o q hb
          rw [z' n] at z
          exact fl'.1 b o z
        · by_cases hb : b ∈ frs X.stack
          · obtain ⟨sl, z⟩ := slot b o q hb
            exact ⟨_, z⟩
          · obtain ⟨o', z, _⟩ := cov b o q hb
            exact ⟨o', fl'.1 b o' z⟩
      obtain ⟨oe, vs, z1, z2, _⟩ := fl'.first
      exact I0.call' (s' := { s1 with heap := h' }) F.os (un2.more he0 hH2e) ((F.hok.on fl.1 fl'.1 trk).more hH2e ⟨oe, z1, z2⟩) F.bare fun b z => absurd z (by simp)
    have hfr0 : X.A.frames = some (X.env :: X.outer) := by rw [<- hst]; exact I.ok.frames
    have fl0 : Heap.FlyingW B (X.env :: X.outer) e (.ref D0) a0 s1.heap := by rw [<- hst]; exact fl
    refine wpAny_looks_onW hfr0 hfr fl0 fun h1 held1 sm1 => ?_
    refine wpAny_landsW held1 fun h2 fl2 sm2 => ?_
    have up2 : s1.heap.UpToSlots h2 := sm1.trans sm2
    have I2 := land h2 (by rw [hst]; exact fl2) up2
    refine wpAny_handleBy_cons (codeAny_handlers_test ?_) (by intro q; cases q)
    have Ih : Inv (X.hand e) pins σ1 (upd H2 e (mU e D0)) { s1 with heap := h2 } := I2.re (fun z => nomatch z) rfl fun p hp => hp
    refine m_ (X := X.hand e) Ih hg hm ?_ hdb
    have hExc : ExcAt h2 e D0 := by
      obtain ⟨oe, vs, z1, z2, _⟩ := fl2.first
      exact ⟨oe, z1, z2⟩
    have LM := exm_one (M := model X.prog X.w) (K := X.K) Ih.kIn hExc.type hmt
    refine LM.at ?_
    refine codeAny_handlers_suite_as (lands_againW fl2 fun h3 fl3 sm3 => ?_)
    have I3 := land h3 (by rw [hst]; exact fl3) (up2.trans sm3)
    have Ih3 : Inv (X.hand e) pins σ1 (upd H2 e (mU e D0)) { s1 with heap := h3 } := I3.re (fun z => nomatch z) rfl fun p hp => hp
    refine qK (X := X.hand e) Ih3 hN hi (.inl hk) (v := .ref e) rfl (fun s4 I4 => ?_) (.inr hk)
    refine wpAny_mono (hs e pins s4 _ _ _ I4 (hsu e hH2e)) (fun f s5 hf => ?_) (fun _ _ z => z.elim)
    have back : ∀ {σ' : St} {H' : Hp} {s' : Shared}, Inv (X.hand e) pins σ' H' s' -> Inv X pins σ' H' s' := fun {σ' H' s'} J => J.re (A' := X.A) (c := X.calm) (pn' := X.pn) (W := X.xe) (fun z => I.ok.hd z) rfl fun p hp => hp
    cases f with
    | next =>
      obtain ⟨σ', H', J, q⟩ := hf
      exact Bf (back J) hN hi hk fun s6 I6 => ⟨_, H', I6, q⟩
    | brk => obtain ⟨σ', H', J, q⟩ := hf; exact q.elim
    | cont => obtain ⟨σ', H', J, q⟩ := hf; exact q.elim
    | ret u =>
      obtain ⟨v, σ', H', J, r, q⟩ := hf
      exact Bf (back J) hN hi hk fun s6 I6 => ⟨v, _, H', I6, r, q⟩
end
end L2
namespace L2
open PySem PySem.Spec PyProof.Rows
section
variable {X : Cx}
end
section
variable {PG : Program} {ww : World} {Ar : Around} {EE : Value -> Shared -> Prop}
end
section
variable {X : Cx} {pos : Pos}
end
end L2
namespace Zf
open PS
end Zf
namespace Zf
open PS
noncomputable def dot : List Int -> List Int -> Int
  | a :: l, b :: m => a * b + dot l m
  | _, _ => 0
theorem Jj (l : List Int) : dot l [] = 0 := by cases l <;> rfl
theorem rD (k : Int) : ∀ l m : List Int, dot l (m.map (k * ·)) = k * dot l m
  | [], m => by show (0 : Int) = k * 0; omega
  | a :: l, [] => by show (0 : Int) = k * 0; omega
  | a :: l, b :: m => by
    show a * (k * b) + dot l (m.map (k * ·)) = k * (a * b + dot l m)
    rw [rD k l m]
    grind
theorem xJ (p h : Int) : ∀ l m y : List Int, l.length = m.length -> dot (List.zipWith (fun a b => p * a - h * b) l m) y = p * dot l y - h * dot m y
  | [], [], y, _ => by show (0 : Int) = p * 0 - h * 0; omega
  | [], b :: m, y, e => by simp at e
  | a :: l, [], y, e => by simp at e
  | a :: l, b :: m, [], _ => by show (0 : Int) = p * 0 - h * 0; omega
  | a :: l, b :: m, c :: y, e => by
    show (p * a - h * b) * c + dot (List.zipWith _ l m) y = p * (a * c + dot l y) - h * (b * c + dot m y)
    rw [xJ p h l m y (by simpa using e)]
    grind
theorem FZ {b d : Nat} : ∀ {l m : List Int}, (∀ x ∈ l, Bd b x) -> (∀ x ∈ m, Bd d x) -> Bd (b + d + m.length) (dot l m)
  | [], m, _, _ => Bd.zero _
  | a :: l, [], _, _ => Bd.zero _
  | a :: l, c :: m, h, k => by
    show Bd _ (a * c + dot l m)
    have h1 := (h a List.mem_cons_self).mul (k c List.mem_cons_self)
    have h2 := FZ (l := l) (m := m) (fun x hx => h x (List.mem_cons_of_mem _ hx)) fun x hx => k x (List.mem_cons_of_mem _ hx)
    exact (h1.mono (by omega : b + d <= b + d + m.length)).add h2
noncomputable def sg : Nat -> Nat -> Nat
  | 0, _ => 1
  | m + 1, b => b + sg m (2 * b + 1) + (m + 1)
theorem Fb : ∀ (m b : Nat) (fs : List (List Int)), fs.length <= m -> (∀ f ∈ fs, f.length = m + 1 /\ ∀ x ∈ f, Bd b x) -> ∃ x : List Int, x.length = m + 1 /\ (∃ y ∈ x, y ≠ 0) /\ (∀ y ∈ x, Bd (sg m b) y) /\ ∀ f ∈ fs, dot f x = 0
  | 0, b, fs, hl, _ => by
    have : fs = [] := List.eq_nil_of_length_eq_zero (by omega)
    subst this
    exact ⟨[1], rfl, ⟨1, List.mem_singleton.mpr rfl, by decide⟩, fun y hy => by rw [List.mem_singleton.mp hy]; show (1 : Nat) < 2 ^ 1; decide, fun f hf => nomatch hf⟩
  | m + 1, b, fs, hl, hf => by
    by_cases c : ∀ f ∈ fs, f.headD 0 = 0
    · refine ⟨1 :: List.replicate (m + 1) 0, by simp, ⟨1, List.mem_cons_self, by decide⟩, fun y hy => ?_, fun f h => ?_⟩
      · have h1 : 1 <= sg (m + 1) b := by unfold sg; omega
        rcases List.mem_cons.mp hy with e | e
        · subst e
          exact Bd.mono (show (1 : Nat) < 2 ^ 1 by decide) h1
        · rw [(List.mem_replicate.mp e).2]
          exact Bd.zero _
      · have e := c f h
        cases f with
        | nil => rfl
        | cons a l =>
          have a0 : a = 0 := e
          subst a0
          show 0 * 1 + dot l (List.replicate (m + 1) 0) = 0
          have z : ∀ (n : Nat) (l : List Int), dot l (List.replicate n 0) = 0 := by
            intro n
            induction n with
            | zero => exact Jj
            | succ n ih =>
              intro l
              cases l with
              | nil => rfl
              | cons a l => show a * 0 + dot l (List.replicate n 0) = 0; rw [ih]; omega
          rw [z]; omega
    · obtain ⟨f0, h0, p0⟩ : ∃ f ∈ fs, f.headD 0 ≠ 0 := by
        apply Classical.byContradiction
        intro hn
        exact c fun f h => Classical.byContradiction fun q => hn ⟨f, h, q⟩
      obtain ⟨pre, post, rfl⟩ := List.append_of_mem h0
      obtain ⟨l0, b0⟩ := hf f0 h0
      cases f0 with
      | nil => exact absurd rfl p0
      | cons p t =>
        have p0' : p ≠ 0 := p0
        have lt : t.length = m + 1 := by simpa using l0
        let g : List Int -> List Int := fun f => List.zipWith (fun a b => p * a - (f.headD 0) * b) f.tail t
        have hp : Bd b p := b0 p List.mem_cons_self
        have ht : ∀ x ∈ t, Bd b x := fun x hx => b0 x (List.mem_cons_of_mem _ hx)
        obtain ⟨y, y1, y2, y3, y4⟩ := Fb m (2 * b + 1) ((pre ++ post).map g) (by simp at hl ⊢; omega) (by
          intro f hf'
          obtain ⟨f1, h1, rfl⟩ := List.mem_map.mp hf'
          have h2 : f1 ∈ pre ++ (p :: t) :: post := by
            rcases List.mem_append.mp h1 with h | h
            · exact List.mem_append_left _ h
            · exact List.mem_append_right _ (List.mem_cons_of_mem _ h)
          obtain ⟨l1, b1⟩ := hf f1 h2
          cases f1 with
          | nil => simp at l1
          | cons a l =>
            have l2 : l.length = m + 1 := by simpa using l1
            refine ⟨by show (List.zipWith _ l t).length = _; rw [List.length_zipWith]; omega, fun x hx => ?_⟩
            have hx' : x ∈ List.zipWith (fun u v => p * u - a * v) l t := hx
            obtain ⟨i, hi, e⟩ := List.getElem_of_mem hx'
            have hi1 : i < l.length := by rw [List.length_zipWith] at hi; omega
            have hi2 : i < t.length := by rw [List.length_zipWith] at hi; omega
            rw [List.getElem_zipWith] at e
            rw [<- e]
            have q1 : Bd (b + b) (p * l[i]) := hp.mul (b1 _ (List.mem_cons_of_mem a (List.getElem_mem hi1)))
            have q2 : Bd (b + b) (a * t[i]) := (b1 a List.mem_cons_self).mul (ht _ (List.getElem_mem hi2))
            exact (q1.sub q2).mono (by omega))
        refine ⟨-dot t y :: y.map (p * ·), by simp [y1], ?_, fun x hx => ?_, fun f hf' => ?_⟩
        · obtain ⟨z, hz, z0⟩ := y2
          exact ⟨p * z, List.mem_cons_of_mem _ (List.mem_map.mpr ⟨z, hz, rfl⟩), Int.mul_ne_zero p0' z0⟩
        · rcases List.mem_cons.mp hx with e | e
          · subst e
            refine ((FZ ht y3).neg).mono ?_
            show _ <= b + sg m (2 * b + 1) + (m + 1)
            omega
          · obtain ⟨z, hz, rfl⟩ := List.mem_map.mp e
            refine (hp.mul (y3 z hz)).mono ?_
            show _ <= b + sg m (2 * b + 1) + (m + 1)
            omega
        · have own : dot (p :: t) (-dot t y :: y.map (p * ·)) = 0 := by
            show p * (-dot t y) + dot t (y.map (p * ·)) = 0
            rw [rD]
            grind
          have oth : ∀ f ∈ pre ++ post, f ∈ pre ++ (p :: t) :: post -> dot f (-dot t y :: y.map (p * ·)) = 0 := by
            intro f h1 h2
            obtain ⟨l1, _⟩ := hf f h2
            have e := y4 (g f) (List.mem_map.mpr ⟨f, h1, rfl⟩)
            cases f with
            | nil => simp at l1
            | cons a l =>
              have l2 : l.length = t.length := by simp at l1; omega
              have e' : dot (List.zipWith (fun u v => p * u - a * v) l t) y = 0 := e
              rw [xJ p a l t y l2] at e'
              show a * (-dot t y) + dot l (y.map (p * ·)) = 0
              rw [rD]
              grind
          rcases List.mem_append.mp hf' with h | h
          · exact oth f (List.mem_append_left _ h) hf'
          · rcases List.mem_cons.mp h with e | e
            · rw [e]; exact own
            · exact oth f (List.mem_append_right _ e) hf'
end Zf
namespace Zf
open PS
theorem rT : ∀ (a b u v : List Int), a.length = u.length -> dot (a ++ b) (u ++ v) = dot a u + dot b v
  | [], b, [], v, _ => by show dot b v = 0 + dot b v; omega
  | [], b, c :: u, v, h => by simp at h
  | a :: l, b, [], v, h => by simp at h
  | a :: l, b, c :: u, v, h => by
    show a * c + dot (l ++ b) (u ++ v) = a * c + dot l u + dot b v
    rw [rT l b u v (by simpa using h)]
    omega
noncomputable def sU (g : PS) (n t : Nat) : List Int := (List.range n).map fun i => if i <= t then g (t - i) else 0
theorem kh (g : PS) (n t : Nat) : (sU g n t).length = n := by simp [sU]
theorem CJ (g : PS) (n t : Nat) : sU g (n + 1) t = g t :: (List.range n).map fun i => if i + 1 <= t then g (t - (i + 1)) else 0 := by
  unfold sU
  rw [List.range_succ_eq_map, List.map_cons, List.map_map]
  rfl
theorem xH {α : Type} : ∀ (l : List α) (m : List Int), dot (l.map fun _ => (0 : Int)) m = 0
  | [], _ => rfl
  | _ :: _, [] => rfl
  | _ :: l, b :: m => by
    show 0 * b + dot (l.map fun _ => (0 : Int)) m = 0
    rw [xH l m]
    omega
theorem rE (g : PS) : ∀ (l : List Int) (t : Nat), (co l * g) t = dot (sU g l.length t) l
  | [], t => by
    rw [gj]
    show (0 * g) t = 0
    have : (0 : PS) * g = 0 := by grind
    rw [this, dh]
  | a :: l, t => by
    show _ = dot (sU g (l.length + 1) t) (a :: l)
    rw [CJ]
    show _ = g t * a + dot _ l
    have e : co (a :: l) * g = C a * g + X1 * (co l * g) := by rw [eN]; grind
    rw [e, fC, dW]
    cases t with
    | zero =>
      have z : (List.range l.length).map (fun i => if i + 1 <= 0 then g (0 - (i + 1)) else 0) = (List.range l.length).map fun _ => (0 : Int) := List.map_congr_left fun i _ => if_neg (by omega)
      rw [z, xH]
      have : (X1 * (co l * g)) 0 = 0 := by
        rw [cZ]
        show 0 + X1 0 * _ = 0
        rw [show X1 0 = 0 from rfl]
        omega
      rw [this]
      grind
    | succ t =>
      have z : (List.range l.length).map (fun i => if i + 1 <= t + 1 then g (t + 1 - (i + 1)) else 0) = sU g l.length t := List.map_congr_left fun i _ => by
        by_cases c : i <= t
        · rw [if_pos (by omega), if_pos c]
          congr 1
          omega
        · rw [if_neg (by omega), if_neg c]
      rw [z, <- rE g l t]
      have : (X1 * (co l * g)) (t + 1) = (co l * g) t := by
        show (xp 1 * (co l * g)) (t + 1) = _
        rw [uJ, if_pos (by omega)]
        rfl
      rw [this]
      grind
theorem Dg.mul1 {m n : Nat} {f g : PS} (h : Dg m f) (k : Dg n g) : Dg (m + n - 1) (f * g) := fun t ht => by
  rw [cZ]
  refine dB fun a ha => ?_
  by_cases c : m <= a
  · rw [h a c, Int.zero_mul]
  · rw [k (t - a) (by omega), Int.mul_zero]
theorem pH {b : Nat} {c : List Int} (h : ∀ x ∈ c, Bd b x) (t : Nat) : Bd b (co c t) := by
  show Bd b (c.getD t 0)
  by_cases hi : t < c.length
  · rw [List.getD_eq_getElem?_getD, List.getElem?_eq_getElem hi]
    exact h _ (List.getElem_mem hi)
  · rw [bZ (by omega)]
    exact Bd.zero b
theorem Ao {b n t : Nat} {c : List Int} (h : ∀ x ∈ c, Bd b x) : ∀ x ∈ sU (co c) n t, Bd b x := fun x hx => by
  obtain ⟨i, _, rfl⟩ := List.mem_map.mp hx
  show Bd b (if i <= t then co c (t - i) else 0)
  split
  · exact pH h _
  · exact Bd.zero b
theorem vZ {s t : List Int} {n b : Nat} (hn : 1 <= n) (hs : s.length = n + 1) (gs : bI s) (ht : t.length <= n) (cp : Cop (co s) (co t)) (bs : ∀ x ∈ s, Bd b x) (bt : ∀ x ∈ t, Bd b x) :
    ∃ (k : Int) (u v : List Int), k ≠ 0 /\ v.length = n /\ (∀ x ∈ v, Bd (sg (2 * n - 2) b) x) /\ C k = co u * co s + co v * co t := by
  have s0 : s ≠ [] := fun z => by rw [z] at hs; simp at hs
  have st : co s n ≠ 0 := by
    have := gs s0
    rwa [hs, Nat.add_sub_cancel] at this
  obtain ⟨x, x1, x2, x3, x4⟩ := Fb (2 * n - 2) b ((List.range (2 * n - 2)).map fun j => sU (co s) (n - 1) (j + 1) ++ sU (co t) n (j + 1)) (by simp) (by
    intro f hf
    obtain ⟨j, _, rfl⟩ := List.mem_map.mp hf
    refine ⟨by rw [List.length_append, kh, kh]; omega, fun y hy => ?_⟩
    rcases List.mem_append.mp hy with h | h
    · exact Ao bs y h
    · exact Ao bt y h)
  have lu : (x.take (n - 1)).length = n - 1 := by rw [List.length_take]; omega
  have lv : (x.drop (n - 1)).length = n := by rw [List.length_drop]; omega
  have at_ : ∀ j, j < 2 * n - 2 -> (co (x.take (n - 1)) * co s + co (x.drop (n - 1)) * co t) (j + 1) = 0 := fun j hj => by
    have e := x4 _ (List.mem_map.mpr ⟨j, List.mem_range.mpr hj, rfl⟩)
    rw [<- List.take_append_drop (n - 1) x, rT _ _ _ _ (by rw [kh, lu])] at e
    rw [fC, rE, rE, lu, lv]
    exact e
  have dg : Dg (2 * n - 1) (co (x.take (n - 1)) * co s + co (x.drop (n - 1)) * co t) := by
    refine Dg.add ?_ ?_
    · have h1 : Dg (n - 1) (co (x.take (n - 1))) := by
        have := Dg.co (x.take (n - 1))
        rwa [lu] at this
      have h2 : Dg (n + 1) (co s) := by
        have := Dg.co s
        rwa [hs] at this
      by_cases c : n = 1
      · subst c
        intro k _
        rw [cZ]
        exact dB fun a _ => by rw [h1 a (Nat.zero_le a), Int.zero_mul]
      · exact (h1.mul1 h2).mono (by omega)
    · have h1 : Dg n (co (x.drop (n - 1))) := by
        have := Dg.co (x.drop (n - 1))
        rwa [lv] at this
      exact (h1.mul1 ((Dg.co t).mono ht)).mono (by omega)
  have ek : C ((co (x.take (n - 1)) * co s + co (x.drop (n - 1)) * co t) 0) = co (x.take (n - 1)) * co s + co (x.drop (n - 1)) * co t := by
    ext j
    show (if j = 0 then _ else 0) = _
    cases j with
    | zero => rfl
    | succ j =>
      rw [if_neg (by omega)]
      by_cases hj : j < 2 * n - 2
      · exact (at_ j hj).symm
      · exact (dg (j + 1) (by omega)).symm
  refine ⟨_, x.take (n - 1), x.drop (n - 1), fun k0 => ?_, lv, fun y hy => x3 y (List.drop_subset _ _ hy), ek⟩
  rw [k0, show C 0 = (0 : PS) from rfl] at ek
  obtain ⟨K, U, W, hK, hU, hW, e⟩ := cp
  have e2 : C K * co (x.drop (n - 1)) = (U * co (x.drop (n - 1)) - W * co (x.take (n - 1))) * co s := by
    rw [e]
    have : W * (co (x.take (n - 1)) * co s) = - (W * (co (x.drop (n - 1)) * co t)) := by
      have : W * (co (x.take (n - 1)) * co s) + W * (co (x.drop (n - 1)) * co t) = W * (co (x.take (n - 1)) * co s + co (x.drop (n - 1)) * co t) := by grind
      rw [<- ek] at this
      grind
    grind
  obtain ⟨d, hd⟩ := (hU.mul (Po.co (x.drop (n - 1)))).sub (hW.mul (Po.co (x.take (n - 1))))
  have q0 := Cy hd (by have := Dg.co s; rwa [hs] at this) st (by
    rw [<- e2]
    have := Dg.co (x.drop (n - 1))
    rw [lv] at this
    exact this.smul K)
  have v0 : co (x.drop (n - 1)) = 0 := by
    apply Classical.byContradiction
    intro hne
    refine jt (Po.C K) (Po.co _) (El hK) hne ?_
    rw [e2, q0]
    grind
  have u0 : co (x.take (n - 1)) = 0 := by
    apply Classical.byContradiction
    intro hne
    refine jt (Po.co _) (Po.co s) hne (fun z => st (by rw [z]; exact dh n)) ?_
    rw [v0] at ek
    rw [show co (x.take (n - 1)) * co s = co (x.take (n - 1)) * co s + 0 * co t by grind, <- ek]
  obtain ⟨y, hy, y0⟩ := x2
  rw [<- List.take_append_drop (n - 1) x] at hy
  have zero_of : ∀ {l : List Int}, co l = 0 -> y ∈ l -> False := fun {l} z h => by
    obtain ⟨i, hi, rfl⟩ := List.getElem_of_mem h
    have := congrFun z i
    rw [dh, mW, List.getD_eq_getElem?_getD, List.getElem?_eq_getElem hi] at this
    exact y0 this
  rcases List.mem_append.mp hy with h | h
  · exact zero_of u0 h
  · exact zero_of v0 h
end Zf
namespace Zf
open PS
theorem KC {V : Rat -> Int} (mono : ∀ x y, x <= y -> V y <= V x) {h : Rat} (h0 : 0 < h) : ∀ (n : Nat) (x y : Rat), x <= y -> y - x <= (n : Rat) * h -> V y < V x -> ∃ a b, x <= a /\ a <= b /\ b <= y /\ b - a <= h /\ V a = V x /\ V b < V x
  | 0, x, y, hxy, hn, hv => by
    have : y = x := by
      have : ((0 : Nat) : Rat) = 0 := rfl
      grind
    rw [this] at hv
    omega
  | n + 1, x, y, hxy, hn, hv => by
    by_cases c : y <= x + h
    · exact ⟨x, y, by grind, hxy, by grind, by grind, rfl, hv⟩
    · by_cases d : V (x + h) < V x
      · exact ⟨x, x + h, by grind, by grind, by grind, by grind, rfl, d⟩
      · have e : V (x + h) = V x := by
          have := mono x (x + h) (by grind)
          omega
        have hn' : y - (x + h) <= (n : Rat) * h := by
          rw [show ((n + 1 : Nat) : Rat) = (n : Rat) + 1 by simp] at hn
          grind
        obtain ⟨a, b, h1, h2, h3, h4, h5, h6⟩ := KC mono h0 n (x + h) y (by grind) hn' (by omega)
        exact ⟨a, b, by grind, h2, h3, h4, by omega, by omega⟩
theorem xM (s t : Int) : cross s t <= 1 := by
  unfold cross
  split <;> omega
theorem kE {M h : Rat} {s : List Int} {a b : Rat} (hM : 0 <= M) (ha : In M a) (hb : In M b) (hab : a <= b) (hh : b - a <= h) (c : 1 <= cross (rs (ev a s)) (rs (ev b s))) : In (h * eL M s) (ev a s) := by
  obtain ⟨g, hg, e⟩ := u5 ha hb s
  have hL := wJ hM s
  have i : In (h * eL M s) (ev b s - ev a s) := by
    rw [e]
    refine In.mul ⟨by grind, hh⟩ hg
  obtain ⟨i1, i2⟩ := i
  unfold cross at c
  split at c
  · rename_i hc
    rcases cV (ev a s) with ⟨p, q⟩ | ⟨p, q⟩ | ⟨p, q⟩
    · rcases cV (ev b s) with ⟨p', q'⟩ | ⟨p', q'⟩ | ⟨p', q'⟩
      · exact absurd (q.trans q'.symm) hc.2
      · constructor <;> grind
      · constructor <;> grind
    · exact absurd q hc.1
    · rcases cV (ev b s) with ⟨p', q'⟩ | ⟨p', q'⟩ | ⟨p', q'⟩
      · constructor <;> grind
      · constructor <;> grind
      · exact absurd (q.trans q'.symm) hc.2
  · omega
theorem In.Lz {B c z : Rat} (hc : 1 <= c) (h : In B (c * z)) : In B z := by
  obtain ⟨h1, h2⟩ := h
  by_cases p : 0 <= z
  · have := Rat.mul_le_mul_of_nonneg_right hc p
    constructor <;> grind
  · have := Rat.mul_le_mul_of_nonneg_right hc (c := -z) (by grind)
    constructor <;> grind
theorem In.Dt {B d c z : Rat} (d0 : 0 < d) (hc : d <= c) (h : In (B * d) (c * z)) : In B z := by
  obtain ⟨h1, h2⟩ := h
  have key : ∀ {z : Rat}, 0 <= z -> c * z <= B * d -> z <= B := fun {z} p q => by
    have h3 := Rat.mul_le_mul_of_nonneg_right hc p
    have h4 : z * d <= B * d := by grind
    exact Rat.le_of_mul_le_mul_right h4 d0
  by_cases p : 0 <= z
  · have := key p h2
    constructor <;> grind
  · have := key (z := -z) (by grind) (by grind)
    constructor <;> grind
theorem uY {M x y z : Rat} (hx : In M x) (hy : In M y) (h1 : x <= z) (h2 : z <= y) : In M z := by
  obtain ⟨a, b⟩ := hx
  obtain ⟨c, d⟩ := hy
  constructor <;> grind
theorem Gu {s : List Int} {ls : List (List Int)} (hs : bI s) (s0 : s ≠ []) (st : Steps s (aF (aM s)) ls) (cp : Cop (co s) (co (aF (aM s)))) {k : Int} {u v : List Int} (hk : k ≠ 0)
    (e : ∀ x, (k : Rat) = ev x u * ev x s + ev x v * ev x (aF (aM s))) {M : Rat} (hM : 0 <= M) {x y : Rat} (hx : In M x) (hy : In M y) (hxy : x <= y) (two : 2 <= Vc x (s :: ls) - Vc y (s :: ls)) :
    1 <= (y - x) * (2 * (eB M v * eK M s)) := by
  obtain ⟨δ, δ0, near⟩ := rK hM hs s0 st cp
  have mono : ∀ x y, x <= y -> Vc y (s :: ls) <= Vc x (s :: ls) := fun x y h => V_mono hs s0 st cp h
  have hL := wJ hM s
  have hU := gQ hM u
  have hW := gQ hM v
  have hK := wK hM s
  generalize hLc : eL M s = Lc at *
  have UL := Rat.mul_nonneg hU hL
  have WL := Rat.mul_nonneg hW hL
  have q4 : 0 <= 4 / δ := by have := fD (a := 4) (by decide) δ0; grind
  have WL4 : 0 <= eB M v * Lc * (4 / δ) := Rat.mul_nonneg WL q4
  generalize hD : eB M u * Lc + eB M v * Lc * (4 / δ) + 1 = D
  have D1 : 1 <= D := by grind
  have D0 : 0 < 2 * D := by grind
  obtain ⟨h, h0, hh1, hh2⟩ : ∃ h : Rat, 0 < h /\ h <= δ / 2 /\ h * (2 * D) <= 1 := by
    by_cases c : δ / 2 <= 1 / (2 * D)
    · refine ⟨δ / 2, by grind, by grind, ?_⟩
      have := Rat.mul_le_mul_of_nonneg_right c (c := 2 * D) (by grind)
      have e2 : 1 / (2 * D) * (2 * D) = 1 := by grind
      grind
    · refine ⟨1 / (2 * D), fD (by decide) D0, by grind, ?_⟩
      have e2 : 1 / (2 * D) * (2 * D) = 1 := by grind
      grind
  obtain ⟨n, hn⟩ := HX ((y - x) / h)
  have hn2 : y - x <= (n : Rat) * h := by
    have := Rat.mul_le_mul_of_nonneg_right hn (c := h) (by grind)
    have e2 : (y - x) / h * h = y - x := by grind
    grind
  obtain ⟨a, b, a1, a2, a3, a4, a5, a6⟩ := KC mono h0 n x y hxy hn2 (by omega)
  have ia := uY hx hy a1 (by grind)
  have ib := uY hx hy (z := b) (by grind) a3
  have n1 := near a b ia ib a2 (by grind)
  have cr1 : 1 <= cross (rs (ev a s)) (rs (ev b s)) := by omega
  have cl1 := xM (rs (ev a s)) (rs (ev b s))
  have sa := kE hM ia ib a2 a4 cr1
  rw [hLc] at sa
  obtain ⟨c, d, c1, c2, c3, c4, c5, c6⟩ := KC mono h0 n b y a3 (by grind) (by omega)
  have ic := uY hx hy (z := c) (by grind) (by grind)
  have id := uY hx hy (z := d) (by grind) c3
  have n2 := near c d ic id c2 (by grind)
  have cr2 : 1 <= cross (rs (ev c s)) (rs (ev d s)) := by omega
  have sc := kE hM ic id c2 c4 cr2
  rw [hLc] at sc
  have far : ¬ d - a <= δ := fun z => by
    have n3 := near a d ia id (by grind) z
    have cl3 := xM (rs (ev a s)) (rs (ev d s))
    omega
  have ca : δ / 2 <= c - a := by grind
  obtain ⟨k', hk', et⟩ := uZ ia ic s
  have i1 : In (h * Lc * (4 / δ) * (δ / 2)) ((c - a) * (ed a s + (c - a) * k')) := by
    rw [<- et]
    have e2 : h * Lc * (4 / δ) * (δ / 2) = h * Lc + h * Lc := by grind
    rw [e2]
    have := sc.add sa.neg
    have e3 : ev c s + -ev a s = ev c s - ev a s := by grind
    rwa [e3] at this
  have i2 := In.Dt (by grind) ca i1
  have i3 : In ((c - a) * eK M s) ((c - a) * k') := In.mul ⟨by grind, by grind⟩ hk'
  have i4 : In (h * Lc * (4 / δ) + (c - a) * eK M s) (ed a s) := by
    have := i2.add i3.neg
    have e3 : ed a s + (c - a) * k' + -((c - a) * k') = ed a s := by grind
    rwa [e3] at this
  have i5 : In (h * Lc * (4 / δ) + (c - a) * eK M s) (ev a (aF (aM s))) := by
    by_cases sl : aM s = []
    · have z : ev a (aF (aM s)) = 0 := by rw [sl]; rfl
      rw [z]
      have w1 : 0 <= h * Lc * (4 / δ) := Rat.mul_nonneg (Rat.mul_nonneg (by grind) hL) q4
      have w2 : 0 <= (c - a) * eK M s := Rat.mul_nonneg (by grind) hK
      constructor <;> grind
    · have ctp := cL (eU hs) sl
      have := bO ctp
      rw [<- rA, rB] at i4
      exact In.Lz this i4
  have kk := ((iw ia u).mul sa).add ((iw ia v).mul i5)
  rw [<- e a] at kk
  have fin : 1 <= eB M u * (h * Lc) + eB M v * (h * Lc * (4 / δ) + (c - a) * eK M s) := by
    obtain ⟨k1, k2⟩ := kk
    rcases dZ hk with q | q <;> grind
  have g1 : eB M u * (h * Lc) + eB M v * (h * Lc * (4 / δ) + (c - a) * eK M s) = h * D - h + (c - a) * (eB M v * eK M s) := by
    rw [<- hD]
    grind
  have g2 : (c - a) * (eB M v * eK M s) <= (y - x) * (eB M v * eK M s) := Rat.mul_le_mul_of_nonneg_right (by grind) (Rat.mul_nonneg hW hK)
  grind
end Zf
namespace Zf
open PS
noncomputable def eBI (m : Int) : List Int -> Int
  | [] => 0
  | c :: cs => (c.natAbs : Int) + m * eBI m cs
noncomputable def eLI (m : Int) : List Int -> Int
  | [] => 0
  | _ :: cs => eBI m cs + m * eLI m cs
noncomputable def eKI (m : Int) : List Int -> Int
  | [] => 0
  | _ :: cs => eLI m cs + m * eKI m cs
theorem zm (m : Int) : ∀ c : List Int, ((eBI m c : Int) : Rat) = eB (m : Rat) c
  | [] => rfl
  | c :: cs => by
    show (((c.natAbs : Int) + m * eBI m cs : Int) : Rat) = (c.natAbs : Rat) + (m : Rat) * eB (m : Rat) cs
    rw [Rat.intCast_add, Rat.intCast_mul, zm m cs]
    rfl
theorem FJ (m : Int) : ∀ c : List Int, ((eLI m c : Int) : Rat) = eL (m : Rat) c
  | [] => rfl
  | c :: cs => by
    show ((eBI m cs + m * eLI m cs : Int) : Rat) = eB (m : Rat) cs + (m : Rat) * eL (m : Rat) cs
    rw [Rat.intCast_add, Rat.intCast_mul, zm m cs, FJ m cs]
theorem FP (m : Int) : ∀ c : List Int, ((eKI m c : Int) : Rat) = eK (m : Rat) c
  | [] => rfl
  | c :: cs => by
    show ((eLI m cs + m * eKI m cs : Int) : Rat) = eL (m : Rat) cs + (m : Rat) * eK (m : Rat) cs
    rw [Rat.intCast_add, Rat.intCast_mul, FJ m cs, FP m cs]
theorem zp {m : Int} {r b : Nat} (hm : Bd r m) : ∀ {c : List Int}, (∀ x ∈ c, Bd b x) -> Bd (b + (r + 1) * c.length) (eBI m c)
  | [], _ => Bd.zero _
  | c :: cs, h => by
    show Bd _ ((c.natAbs : Int) + m * eBI m cs)
    have h1 : Bd b (c.natAbs : Int) := by
      have := h c List.mem_cons_self
      unfold Bd at *
      omega
    have h2 := hm.mul (zp (c := cs) hm fun x hx => h x (List.mem_cons_of_mem _ hx))
    have e : (r + 1) * (c :: cs).length = (r + 1) * cs.length + (r + 1) := by rw [List.length_cons, Nat.mul_add, Nat.mul_one]
    rw [e]
    exact ((h1.mono (by omega : b <= r + (b + (r + 1) * cs.length))).add h2).mono (by omega)
theorem FN {m : Int} {r b : Nat} (hm : Bd r m) : ∀ {c : List Int}, (∀ x ∈ c, Bd b x) -> Bd (b + (r + 1) * c.length) (eLI m c)
  | [], _ => Bd.zero _
  | c :: cs, h => by
    show Bd _ (eBI m cs + m * eLI m cs)
    have h1 := zp (c := cs) hm fun x hx => h x (List.mem_cons_of_mem _ hx)
    have h2 := hm.mul (FN (c := cs) hm fun x hx => h x (List.mem_cons_of_mem _ hx))
    have e : (r + 1) * (c :: cs).length = (r + 1) * cs.length + (r + 1) := by rw [List.length_cons, Nat.mul_add, Nat.mul_one]
    rw [e]
    exact ((h1.mono (by omega : _ <= r + (b + (r + 1) * cs.length))).add h2).mono (by omega)
theorem FQ {m : Int} {r b : Nat} (hm : Bd r m) : ∀ {c : List Int}, (∀ x ∈ c, Bd b x) -> Bd (b + (r + 1) * c.length) (eKI m c)
  | [], _ => Bd.zero _
  | c :: cs, h => by
    show Bd _ (eLI m cs + m * eKI m cs)
    have h1 := FN (c := cs) hm fun x hx => h x (List.mem_cons_of_mem _ hx)
    have h2 := hm.mul (FQ (c := cs) hm fun x hx => h x (List.mem_cons_of_mem _ hx))
    have e : (r + 1) * (c :: cs).length = (r + 1) * cs.length + (r + 1) := by rw [List.length_cons, Nat.mul_add, Nat.mul_one]
    rw [e]
    exact ((h1.mono (by omega : _ <= r + (b + (r + 1) * cs.length))).add h2).mono (by omega)
theorem Cz {b : Nat} {c : List Int} (hl : c.length <= 32) (h : ∀ x ∈ c, Bd b x) : ∀ x ∈ aM c, Bd (b + 5) x := fun x hx => by
  obtain ⟨i, hi, rfl⟩ := List.getElem_of_mem hx
  have e : (aM c)[i] = (aM c).getD i 0 := by rw [List.getD_eq_getElem?_getD, List.getElem?_eq_getElem hi]; rfl
  rw [e, j6]
  rw [bW] at hi
  have h1 : Bd 5 ((i : Int) + 1) := Bd.of_le 31 (by omega) (by decide)
  exact (h1.mul (pH h (i + 1))).mono (by omega)
theorem CK (c : List Int) : 2 <= aX c := by
  unfold aX
  have := Int.ediv_nonneg (Aa c.dropLast) (show (0 : Int) <= ((c.getD (c.length - 1) 0).natAbs : Int) by omega)
  omega
noncomputable def qt (n ps r : Nat) : Nat := sg (2 * n - 2) (ps + 5) + ps + (r + 1) * (2 * n + 1) + 3
theorem pI (n : Nat) : ((2 ^ n : Nat) : Int) = (2 : Int) ^ n := by simp
theorem Ig {c s : List Int} {l : List (List Int)} (hc : c ≠ []) (hg : bI c) (h1 : Simple c s) (h2 : Steps s (aF (aM s)) l) {ps r b : Nat} (hn2 : ∀ m, m + 1 = s.length -> qt m ps r <= b) (n30 : s.length <= 30) (bs : ∀ x ∈ s, Bd ps x) (hr : Bd r (aX c)) :
    ∀ x y : Rat, x <= y -> 2 <= Vc x (s :: l) - Vc y (s :: l) -> 1 < (y - x) * (((2 : Int) ^ b : Int) : Rat) := by
  intro x y hxy two
  have cp := rM hc hg h1 h2
  obtain ⟨s0, sg0, sct, _⟩ := id h1
  have lp := List.length_pos_iff.mpr s0
  by_cases l1 : s.length <= 1
  · have := oU l1 h2
    subst this
    unfold Vc sgs at two
    rw [List.map_singleton, List.map_singleton, lB, lB] at two
    omega
  obtain ⟨m, hm⟩ : ∃ m, m + 1 = s.length := ⟨s.length - 1, by omega⟩
  have m1 : 1 <= m := by omega
  obtain ⟨k, u, v, hk, lv, bv, ek⟩ := vZ (s := s) (t := aF (aM s)) (b := ps + 5) m1 hm.symm sg0 (by rw [bG, bW]; omega) cp (fun x hx => (bs x hx).mono (by omega)) (gW (Cz (by omega) bs))
  have e2 : ∀ z, (k : Rat) = ev z u * ev z s + ev z v * ev z (aF (aM s)) := fun z => by
    have e3 := ((Ev.co z u).mul (Ev.co z s)).add ((Ev.co z v).mul (Ev.co z (aF (aM s))))
    rw [<- ek] at e3
    exact (Ev.C z k).uniq e3
  have mono : ∀ x y, x <= y -> Vc y (s :: l) <= Vc x (s :: l) := fun x y h => V_mono sg0 s0 h2 cp h
  have r2 : (2 : Int) <= aX c := CK c
  have r0 : (0 : Rat) <= ((aX c : Int) : Rat) := by
    have := Rat.intCast_le_intCast.mpr (show (0 : Int) <= aX c by omega)
    simpa using this
  generalize hR : ((aX c : Int) : Rat) = R at *
  have vr : ∀ {x y : Rat}, R <= x -> x <= y -> Vc x (s :: l) = Vc y (s :: l) := fun a b => Jv hc hg h1 h2 cp (by rw [hR]; exact a) b
  have vl : ∀ {x y : Rat}, y <= -R -> x <= y -> Vc x (s :: l) = Vc y (s :: l) := fun a b => Mv hc hg h1 h2 cp (by rw [hR]; exact a) b
  have xR : x < R := by
    apply Classical.byContradiction
    intro q
    have := vr (x := x) (y := y) (by grind) hxy
    omega
  have yR : -R < y := by
    apply Classical.byContradiction
    intro q
    have := vl (x := x) (y := y) (by grind) hxy
    omega
  obtain ⟨x', hx1, hx2, hx3⟩ : ∃ x', x <= x' /\ (-R <= x' /\ (x' = x \/ x' = -R)) /\ Vc x' (s :: l) = Vc x (s :: l) := by
    by_cases q : -R <= x
    · exact ⟨x, by grind, ⟨q, .inl rfl⟩, rfl⟩
    · exact ⟨-R, by grind, ⟨by grind, .inr rfl⟩, (vl (by grind) (by grind)).symm⟩
  obtain ⟨y', hy1, hy2, hy3⟩ : ∃ y', y' <= y /\ (y' <= R /\ (y' = y \/ y' = R)) /\ Vc y' (s :: l) = Vc y (s :: l) := by
    by_cases q : y <= R
    · exact ⟨y, by grind, ⟨q, .inl rfl⟩, rfl⟩
    · exact ⟨R, by grind, ⟨by grind, .inr rfl⟩, vr (by grind) (by grind)⟩
  have hx' : In R x' := ⟨hx2.1, by rcases hx2.2 with q | q <;> grind⟩
  have hy' : In R y' := ⟨by rcases hy2.2 with q | q <;> grind, hy2.1⟩
  have le' : x' <= y' := by
    apply Classical.byContradiction
    intro q
    have := mono y' x' (by grind)
    omega
  have core := Gu sg0 s0 h2 cp hk e2 r0 hx' hy' le' (by omega)
  have w : ((2 * (eBI (aX c) v * eKI (aX c) s) : Int) : Rat) = 2 * (eB R v * eK R s) := by
    rw [Rat.intCast_mul, Rat.intCast_mul, zm, FP, hR]
    rfl
  have wb : Bd b (2 * (eBI (aX c) v * eKI (aX c) s) + 1) := by
    have b1 := (zp (c := v) hr bv).mul (FQ (c := s) hr bs)
    have b2 := ((show Bd 2 (2 : Int) by show (2 : Nat) < 2 ^ 2; decide).mul b1).add (Bd.mono (show Bd 1 (1 : Int) by show (1 : Nat) < 2 ^ 1; decide) (by omega))
    have := hn2 m hm
    refine b2.mono ?_
    unfold qt at this
    rw [lv, <- hm]
    have e5 : (r + 1) * (2 * m + 1) = (r + 1) * m + (r + 1) * (m + 1) := by rw [<- Nat.mul_add]; congr 1; omega
    omega
  have hS : ((2 * (eBI (aX c) v * eKI (aX c) s) + 1 : Int) : Rat) <= (((2 : Int) ^ b : Int) : Rat) := by
    refine Rat.intCast_le_intCast.mpr ?_
    unfold Bd at wb
    rw [<- pI]
    omega
  have pos : 0 < y - x := by
    have : x ≠ y := fun z => by subst z; omega
    grind
  rw [Rat.intCast_add, w] at hS
  have s1 : (y' - x') * (2 * (eB R v * eK R s)) <= (y - x) * (2 * (eB R v * eK R s)) := by
    refine Rat.mul_le_mul_of_nonneg_right (by grind) ?_
    exact Rat.mul_nonneg (by decide) (Rat.mul_nonneg (gQ r0 v) (wK r0 s))
  have s2 : (y - x) * (2 * (eB R v * eK R s) + ((1 : Int) : Rat)) <= (y - x) * (((2 : Int) ^ b : Int) : Rat) := Rat.mul_le_mul_of_nonneg_left hS (by grind)
  have s3 : ((1 : Int) : Rat) = 1 := rfl
  rw [s3] at s2
  grind
end Zf
namespace Zf
open PS
theorem L_ {n : Nat} {g : PS} (h : Dg n g) (hg : g ≠ 0) : ∃ j, g j ≠ 0 /\ ∀ i, i < j -> g i = 0 := by
  have ex : ∃ j, g j ≠ 0 := by
    apply Classical.byContradiction
    intro q
    exact hg (by ext t; rw [dh]; exact Classical.byContradiction fun z => q ⟨t, z⟩)
  obtain ⟨j, hj⟩ := ex
  induction j using Nat.strongRecOn with
  | ind j ih =>
    by_cases c : ∃ i, i < j /\ g i ≠ 0
    · obtain ⟨i, hi, gi⟩ := c
      exact ih i hi gi
    · exact ⟨j, hj, fun i hi => Classical.byContradiction fun z => c ⟨i, hi, z⟩⟩
theorem A_ {f g : PS} {j : Nat} (h : ∀ i, i < j -> g i = 0) : (f * g) j = f 0 * g j := by
  rw [cZ, jc, dB]
  · rw [Nat.sub_zero, Int.add_zero]
  · intro k hk
    rw [h (j - (k + 1)) (by omega), Int.mul_zero]
theorem rW {a b : Int} (hb : b ≠ 0) : a.natAbs <= (a * b).natAbs := by
  rw [Int.natAbs_mul]
  exact Nat.le_mul_of_pos_right _ (Int.natAbs_pos.mpr hb)
theorem lO {n : Nat} {a b : Int} (hb : b ≠ 0) (h : Bd n (a * b)) : Bd n a := Nat.lt_of_le_of_lt (rW hb) h
theorem vL {p : Nat} {f g : List Int} {S : PS} (e : co f = S * co g) (g0 : co g ≠ 0) (h : ∀ x ∈ f, Bd p x) : Bd p (S 0) := by
  obtain ⟨j, hj, hz⟩ := L_ (Dg.co g) g0
  have := A_ (f := S) hz
  rw [<- e] at this
  refine lO hj ?_
  rw [<- this]
  exact pH h j
theorem vK {p m : Nat} {f g : List Int} {S : PS} (e : co f = S * co g) (g1 : bI g) (g0 : g ≠ []) (hS : Dg (m + 1) S) (h : ∀ x ∈ f, Bd p x) : Bd p (S m) := by
  have lg := List.length_pos_iff.mpr g0
  obtain ⟨n, hn⟩ : ∃ n, g.length = n + 1 := ⟨g.length - 1, by omega⟩
  have hG : Dg (n + 1) (co g) := by have := Dg.co g; rwa [hn] at this
  have t := gP hS hG
  rw [<- e] at t
  have gt : co g n ≠ 0 := by
    have := g1 g0
    rwa [hn, Nat.add_sub_cancel] at this
  refine lO gt ?_
  rw [<- t]
  exact pH h _
theorem rR {a b F x y : Nat} (hx : 0 < x) (hy : y <= x) (h : a * x <= F + b * y) : a <= F + b := by
  have h1 : b * y <= b * x := Nat.mul_le_mul_left _ hy
  have h2 : F * 1 <= F * x := Nat.mul_le_mul_left _ hx
  have h3 : a * x <= (F + b) * x := by rw [Nat.add_mul]; omega
  exact Nat.le_of_mul_le_mul_right h3 hx
theorem Mf (S : PS) (g0 g1 : Int) (t : Nat) : (S * co [g0, g1]) (t + 1) = S (t + 1) * g0 + S t * g1 := by
  rw [PS.mul_comm, show co [g0, g1] = C g0 + X1 * (C g1 + X1 * 0) by rw [eN, eN, gj]]
  have : (C g0 + X1 * (C g1 + X1 * 0)) * S = C g0 * S + X1 * (C g1 * S) := by grind
  rw [this, fC, dW]
  show _ + (xp 1 * (C g1 * S)) (t + 1) = _
  rw [uJ, if_pos (by omega), dW, Nat.add_sub_cancel]
  grind
theorem Jg {p L : Nat} {f : List Int} {S : PS} {g0 g1 : Int} (hg : g1 ≠ 0) (e : co f = S * co [g0, g1]) (hS : Dg L S) (h : ∀ x ∈ f, Bd p x) : ∀ t, (S t).natAbs <= L * (2 ^ p - 1) := by
  have F : ∀ t, (co f t).natAbs <= 2 ^ p - 1 := fun t => by
    have := pH h t
    unfold Bd at this
    omega
  have st : ∀ t, co f (t + 1) = S (t + 1) * g0 + S t * g1 := fun t => by rw [e, Mf]
  by_cases c : g0.natAbs <= g1.natAbs
  · have key : ∀ k t, L <= t + k -> (S t).natAbs <= k * (2 ^ p - 1) := by
      intro k
      induction k with
      | zero => intro t ht; rw [hS t (by omega)]; simp
      | succ k ih =>
        intro t ht
        have h1 := ih (t + 1) (by omega)
        have h2 : (S t * g1).natAbs <= (co f (t + 1)).natAbs + (S (t + 1) * g0).natAbs := by
          have : S t * g1 = co f (t + 1) - S (t + 1) * g0 := by rw [st]; omega
          rw [this]
          exact Int.natAbs_sub_le _ _
        rw [Int.natAbs_mul, Int.natAbs_mul] at h2
        have h3 := rR (Int.natAbs_pos.mpr hg) c (Nat.le_trans h2 (Nat.add_le_add_right (F (t + 1)) _))
        rw [Nat.add_mul]
        omega
    exact fun t => key L t (by omega)
  · have hg0 : g0 ≠ 0 := fun z => by rw [z] at c; simp at c
    have z0 : co f 0 = S 0 * g0 := by rw [e]; exact A_ (fun i hi => by omega)
    have key : ∀ t, (S t).natAbs <= (t + 1) * (2 ^ p - 1) := by
      intro t
      induction t with
      | zero =>
        have := rW (a := S 0) hg0
        rw [<- z0] at this
        have := F 0
        omega
      | succ t ih =>
        have h2 : (S (t + 1) * g0).natAbs <= (co f (t + 1)).natAbs + (S t * g1).natAbs := by
          have : S (t + 1) * g0 = co f (t + 1) - S t * g1 := by rw [st]; omega
          rw [this]
          exact Int.natAbs_sub_le _ _
        rw [Int.natAbs_mul, Int.natAbs_mul] at h2
        have h3 := rR (Int.natAbs_pos.mpr hg0) (by omega) (Nat.le_trans h2 (Nat.add_le_add_right (F (t + 1)) _))
        rw [Nat.add_mul (t + 1) 1]
        omega
    intro t
    by_cases ht : t < L
    · exact Nat.le_trans (key t) (Nat.mul_le_mul_right _ ht)
    · rw [hS t (by omega)]; simp
theorem len2 {g : List Int} (h : g.length = 2) : ∃ a b, g = [a, b] := by
  match g, h with
  | [a, b], _ => exact ⟨a, b, rfl⟩
theorem len3 {g : List Int} (h : g.length = 3) : ∃ a b d, g = [a, b, d] := by
  match g, h with
  | [a, b, d], _ => exact ⟨a, b, d, rfl⟩
theorem Gv {p : Nat} {f : List Int} {a b d x y z : Int} (e : co f = co [a, b, d] * co [x, y, z]) (hz : z ≠ 0) (h : ∀ x ∈ f, Bd p x) (ha : Bd p a) (hd : Bd p d) (hx : Bd p x) (hz2 : Bd p z) : Bd (p + p + 2) b := by
  have m : co f = co (mulR [a, b, d] [x, y, z]) := by rw [vN, e]
  have e2 : co f 2 = a * z + b * y + d * x := by
    rw [m]
    show a * z + (b * y + (d * x + 0)) = _
    omega
  have e3 : co f 3 = b * z + d * y := by
    rw [m]
    rfl
  by_cases hy : y = 0
  · refine lO hz ?_
    have : b * z = co f 3 := by rw [e3, hy]; omega
    rw [this]
    exact (pH h 3).mono (by omega)
  · refine lO hy ?_
    have : b * y = co f 2 - a * z - d * x := by omega
    rw [this]
    exact ((((pH h 2).mono (by omega : p <= p + p)).sub (ha.mul hz2)).sub ((hd.mul hx).mono (by omega))).mono (by omega)
theorem vR {p : Nat} {c s : List Int} (hc : c ≠ []) (hg : bI c) (hl : c.length <= 5) (h : ∀ x ∈ c, Bd p x) (hs : Simple c s) :
    (s.length <= c.length /\ ∀ x ∈ s, Bd p x) \/ (s.length + 1 <= c.length /\ ∀ x ∈ s, Bd (p + 2) x) \/ (s.length + 2 <= c.length /\ ∀ x ∈ s, Bd (p + p + 2) x) := by
  obtain ⟨g, sh, ln, e, g0⟩ := ji hc hg hs
  obtain ⟨s0, s1, s2, _⟩ := hs
  have hf : ∀ x ∈ aF c, Bd p x := gW h
  rcases sh with ⟨z, _⟩ | ⟨_, g1, g2, g3, _⟩
  · exact absurd z hc
  have ls := List.length_pos_iff.mpr s0
  have lg := List.length_pos_iff.mpr g0
  have all : ∀ {n : Nat}, (∀ t, t < s.length -> Bd n (co s t)) -> ∀ x ∈ s, Bd n x := fun {n} q x hx => by
    obtain ⟨i, hi, rfl⟩ := List.getElem_of_mem hx
    have := q i hi
    rwa [mW, List.getD_eq_getElem?_getD, List.getElem?_eq_getElem hi] at this
  have dS : Dg (s.length - 1 + 1) (co s) := (Dg.co s).mono (by omega)
  have lo : Bd p (co s 0) := vL e (lX g1 g0) hf
  have hi : Bd p (co s (s.length - 1)) := vK e g1 g0 dS hf
  by_cases c1 : g.length = 1
  · left
    obtain ⟨a, rfl⟩ := List.length_eq_one_iff.mp c1
    have a0 : 0 < a := g3
    have a1 : a = 1 := by
      have h1 : ct [a] ∣ a := iT [a] a (List.mem_singleton.mpr rfl)
      have h2 : a ∣ ct [a] := u9 _ fun x hx => by rw [List.mem_singleton.mp hx]; exact Int.dvd_refl a
      rw [g2] at h2
      have := Int.le_of_dvd (by decide) h2
      omega
    subst a1
    refine ⟨by simp at ln; omega, ?_⟩
    have : co (aF c) = co s := by
      rw [e, eN, gj, show C 1 = (1 : PS) from rfl]
      grind
    exact all fun t _ => by rw [<- this]; exact pH hf t
  · right
    by_cases c2 : g.length = 2
    · left
      refine ⟨by omega, ?_⟩
      obtain ⟨a, b, rfl⟩ := len2 c2
      have b0 : b ≠ 0 := g1 g0
      have := Jg b0 e (Dg.co s) hf
      refine all fun t _ => ?_
      have h1 := this t
      have h2 : s.length * (2 ^ p - 1) <= 4 * (2 ^ p - 1) := Nat.mul_le_mul_right _ (by omega)
      have h3 : 1 <= 2 ^ p := Nat.one_le_two_pow
      unfold Bd
      rw [Nat.pow_add]
      omega
    · right
      refine ⟨by omega, ?_⟩
      by_cases c3 : s.length = 3
      · have c4 : g.length = 3 := by omega
        obtain ⟨a, b, d, rfl⟩ := len3 c3
        obtain ⟨x, y, z, rfl⟩ := len3 c4
        have z0 : z ≠ 0 := g1 g0
        have d0 : d ≠ 0 := s1 s0
        have e' : co (aF c) = co [x, y, z] * co [a, b, d] := by rw [e, PS.mul_comm]
        have dG : Dg (2 + 1) (co [x, y, z]) := Dg.co [x, y, z]
        have gx : Bd p x := vL e' (lX s1 s0) hf
        have gz : Bd p z := vK e' s1 s0 dG hf
        have mid := Gv e z0 hf lo hi gx gz
        refine all fun t ht => ?_
        have ht : t < 3 := ht
        match t, ht with
        | 0, _ => exact lo.mono (by omega)
        | 1, _ => exact mid
        | 2, _ => exact hi.mono (by omega)
      · have c4 : s.length <= 2 := by omega
        refine all fun t ht => ?_
        by_cases t0 : t = 0
        · subst t0; exact lo.mono (by omega)
        · have : t = s.length - 1 := by omega
          rw [this]
          exact hi.mono (by omega)
end Zf
namespace Zf
open PS
end Zf
namespace Zf
open PS
end Zf
namespace Zf
open PS
section
variable {c s g R : List Int} {κ : Int}
end
end Zf
namespace Zf
open PS
theorem xQ (a t : Int) (ss : List Int) : chg a (t :: ss) = (if a * t = -1 then 1 else 0) + chg (if t ≠ 0 then t else a) ss := rfl
section
variable {c s g R : List Int} {κ : Int}
end
end Zf
namespace Zf
open PySem L2 PS
theorem Gh : ∀ (ss : List Int) (a : Int), 0 <= chg a ss /\ chg a ss <= (ss.length : Int)
  | [], _ => ⟨Int.le_refl 0, Int.le_refl 0⟩
  | t :: ss, a => by
    rw [xQ]
    obtain ⟨h1, h2⟩ := Gh ss (if t ≠ 0 then t else a)
    rw [List.length_cons]
    split <;> constructor <;> omega
theorem JB (x : Rat) (s : List Int) (l : List (List Int)) : 0 <= Vc x (s :: l) /\ Vc x (s :: l) <= (l.length : Int) := by
  unfold Vc
  show 0 <= chg 0 (rs (ev x s) :: sgs x l) /\ chg 0 (rs (ev x s) :: sgs x l) <= _
  rw [xQ, if_neg (by omega), Int.zero_add]
  have := Gh (sgs x l) (if rs (ev x s) ≠ 0 then rs (ev x s) else 0)
  have e : (sgs x l).length = l.length := List.length_map _
  rw [e] at this
  exact this
theorem Cv {a b : List Int} {ls : List (List Int)} (h : Steps a b ls) : ls.length <= b.length := by
  induction h with
  | stop => exact Nat.le_refl _
  | step a b r ls hb hl _ ih =>
    have := hl.2.1
    rw [mK, bG] at ih
    rw [List.length_cons]
    omega
structure C5 (c : List Int) : Prop where
  good : bI c
  ne : c ≠ []
  len : c.length <= 5
  bd : ∀ x ∈ c, Bd 200 x
theorem JM : 200 + (jL 200 5 + 1) * 5 + jL 200 5 <= 134217728 := by decide +kernel
theorem cbA : cb (5 - 1) 5 200 (200 + 5) <= 100000 := by decide +kernel
theorem cbB : cb (4 - 1) 4 202 (202 + 5) <= 100000 := by decide +kernel
theorem cbC : cb (3 - 1) 3 402 (402 + 5) <= 100000 := by decide +kernel
theorem sepA : qt 1 402 202 <= 20000 /\ qt 2 402 202 <= 20000 /\ qt 3 202 202 <= 20000 /\ qt 4 200 202 <= 20000 /\ qt 0 402 202 <= 20000 := by decide +kernel
theorem Ak : ∀ (m : Nat) {b d : Nat}, b <= d -> sg m b <= sg m d
  | 0, _, _, _ => Nat.le_refl _
  | m + 1, b, d, h => by
    have := Ak m (b := 2 * b + 1) (d := 2 * d + 1) (by omega)
    unfold sg
    omega
theorem d8 {n b d r : Nat} (h : b <= d) : qt n b r <= qt n d r := by
  have := Ak (2 * n - 2) (b := b + 5) (d := d + 5) (by omega)
  unfold qt
  omega
noncomputable def SEP : Int := 2 ^ 20000
theorem Gn : SEP = 2 ^ 20000 := rfl
theorem zu : Bd 20003 (2 * SEP + 2) /\ 0 < SEP := by
  rw [Gn, <- pI]
  have h := Nat.two_pow_pos 20000
  have e : (2 : Nat) ^ 20003 = 2 ^ 20000 * 8 := by rw [show (20003 : Nat) = 20000 + 3 from rfl, Nat.pow_add]
  unfold Bd
  rw [e]
  generalize 2 ^ 20000 = N at *
  omega
theorem C5.szs {c : List Int} (h : C5 c) : ∃ ps Ls, Szs c 200 5 ps Ls 100000 /\ ∀ s l, Chain c (s :: l) -> Stm s l /\ (∀ x y : Rat, x <= y -> 2 <= Vc x (s :: l) - Vc y (s :: l) -> 1 < (y - x) * (SEP : Rat)) /\ Vc (-((aX c : Int) : Rat)) (s :: l) - Vc ((aX c : Int) : Rat) (s :: l) <= 100 := by
  obtain ⟨rb, _⟩ := nF h.good h.ne h.bd
  have l5 := h.len
  have main : ∀ {ps Ls : Nat}, (∀ s, Simple c s -> s.length <= Ls /\ ∀ x ∈ s, Bd ps x) -> Ls <= 5 -> cb (Ls - 1) Ls ps (ps + 5) <= 100000 -> (∀ m, m + 1 <= Ls -> qt m ps 202 <= 20000) -> Szs c 200 5 ps Ls 100000 /\ ∀ s l, Chain c (s :: l) -> Stm s l /\ (∀ x y : Rat, x <= y -> 2 <= Vc x (s :: l) - Vc y (s :: l) -> 1 < (y - x) * (SEP : Rat)) /\ Vc (-((aX c : Int) : Rat)) (s :: l) - Vc ((aX c : Int) : Rat) (s :: l) <= 100 := by
    intro ps Ls hs hL hcb hsep
    refine ⟨⟨h.good, h.ne, h.len, by decide, h.bd, JM, fun s q _ => hs s q, by omega, hcb, by decide⟩, fun s l hch => ?_⟩
    obtain ⟨s', l', h1, e, h2⟩ := hch
    injection e with e1 e2
    subst e1 e2
    obtain ⟨k1, k2⟩ := hs s h1
    refine ⟨⟨h1.2.1, h1.1, h2, rM h.ne h.good h1 h2⟩, ?_, ?_⟩
    · rw [Gn]
      exact Ig h.ne h.good h1 h2 (fun m hm => hsep m (by omega)) (by omega) k2 rb
    · have a1 := JB (-((aX c : Int) : Rat)) s l
      have a2 := JB ((aX c : Int) : Rat) s l
      have a3 := Cv h2
      rw [bG, bW] at a3
      omega
  obtain ⟨sA, sB, sC, sD, sE⟩ := sepA
  by_cases ex : ∃ s, Simple c s
  · obtain ⟨s0, hs0⟩ := ex
    have uq : ∀ s, Simple c s -> s = s0 := fun s q => yp h.ne q hs0
    rcases vR h.ne h.good h.len h.bd hs0 with ⟨q1, q2⟩ | ⟨q1, q2⟩ | ⟨q1, q2⟩
    · refine ⟨200, 5, main (fun s q => by rw [uq s q]; exact ⟨by omega, q2⟩) (by decide) cbA fun m hm => ?_⟩
      rcases (by omega : m = 0 \/ m = 1 \/ m = 2 \/ m = 3 \/ m = 4) with e | e | e | e | e <;> subst e
      · exact Nat.le_trans (d8 (by decide)) sE
      · exact Nat.le_trans (d8 (by decide)) sA
      · exact Nat.le_trans (d8 (by decide)) sB
      · exact Nat.le_trans (d8 (by decide)) sC
      · exact sD
    · refine ⟨202, 4, main (fun s q => by rw [uq s q]; exact ⟨by omega, q2⟩) (by decide) cbB fun m hm => ?_⟩
      rcases (by omega : m = 0 \/ m = 1 \/ m = 2 \/ m = 3) with e | e | e | e <;> subst e
      · exact Nat.le_trans (d8 (by decide)) sE
      · exact Nat.le_trans (d8 (by decide)) sA
      · exact Nat.le_trans (d8 (by decide)) sB
      · exact sC
    · refine ⟨402, 3, main (fun s q => by rw [uq s q]; exact ⟨by omega, q2⟩) (by decide) cbC fun m hm => ?_⟩
      rcases (by omega : m = 0 \/ m = 1 \/ m = 2) with e | e | e <;> subst e
      · exact sE
      · exact sA
      · exact sB
  · refine ⟨200, 5, main (fun s q => absurd ⟨s, q⟩ ex) (by decide) cbA fun m hm => ?_⟩
    rcases (by omega : m = 0 \/ m = 1 \/ m = 2 \/ m = 3 \/ m = 4) with e | e | e | e | e <;> subst e
    · exact Nat.le_trans (d8 (by decide)) sE
    · exact Nat.le_trans (d8 (by decide)) sA
    · exact Nat.le_trans (d8 (by decide)) sB
    · exact Nat.le_trans (d8 (by decide)) sC
    · exact sD
theorem vD (x : Int) : plc x 1 = (x : Rat) := by
  have := gO (t := x) (q := 1) (by decide)
  have e : ((1 : Int) : Rat) = 1 := rfl
  rw [e] at this
  grind
@[elab_as_elim] theorem by5 {motive : List Value -> Prop} {us : List Value} (hl : us.length = 5) (h : ∀ a b c d e, motive [a, b, c, d, e]) : motive us := by
  match us, hl with
  | [a, b, c, d, e], _ => exact h a b c d e
end Zf
namespace L2
open PySem PySem.Spec PyProof.Rows
section
variable {X : Cx}
inductive XSum (K : PySem.W.Frag) (xs : List V) (H : Hp) (Q : VK) : Prop
  | mk (p : Addr) (ns : List Int) (e : xs = [.ref p]) (s : SqL K H p (ns.map V.int)) (q : Q (.int ns.sum) H) : XSum K xs H Q
theorem tZ : ∀ {ns : List Int} {its : List Value}, Vals (ns.map V.int) its -> IntsAre its ns
  | [], [], _ => .nil
  | n :: ns, u :: us, h => by
    cases h with
    | cons r rr =>
      obtain ⟨t, rfl⟩ := r
      exact .cons n t (tZ rr)
theorem Hz (hc : X.calm = true) : jK X (.builtin "sum") (fun xs H Q => XSum X.K xs H Q) := by
  intro pins s σ H xs us Q I r h
  obtain ⟨p, ns, rfl, hq, q⟩ := h
  cases r with
  | cons r rr =>
  cases rr
  cases r
  obtain ⟨its, r', pl, hz⟩ := I.list hq
  have hi := tZ r'
  obtain ⟨xs, hx⟩ := hi.allInts.items
  have hl : s.heap.IsList p (intItems xs) := hx ▸ pl.isList
  refine sum_intListG (I.ok.hd hc) hl fun h' tk t' hk => ⟨.int ns.sum, H, I.kept hk, ?_, q⟩
  have e1 : ns = xs.toList.map (·.1) := by
    rw [<- nums_intItems, <- hx]
    exact hi.numsOf.symm
  rw [preSum_eq, List.take_of_length_le (by simp), <- e1]
  exact ⟨_, rfl⟩
end
theorem Mt : bootBuiltins "sum" = some (.builtin "sum") := by decide +kernel
end L2
namespace Zf
open PySem L2 PS
noncomputable def cY (H : Hp) (vs : List V) (lss : List (List (List Int))) : Prop := vs.length = lss.length /\ ∀ (i : Nat) (v : V) (ls : List (List Int)), vs[i]? = some v -> lss[i]? = some ls -> ∃ g ws, v = .ref g /\ H g = some (.lst ws) /\ cu H ws ls
theorem cY.mono {H H' : Hp} {vs : List V} {lss : List (List (List Int))} (h : cY H vs lss) (s : Same H H') : cY H' vs lss := ⟨h.1, fun i v l a b => let ⟨g, ws, e, k, z⟩ := h.2 i v l a b; ⟨g, ws, e, s _ _ k, z.mono s⟩⟩
theorem cY.nil (H : Hp) : cY H [] [] := ⟨rfl, fun i _ _ a => by cases i <;> cases a⟩
theorem cY.snoc {H : Hp} {vs : List V} {lss : List (List (List Int))} {g : Addr} {ws : List V} {ls : List (List Int)} (h : cY H vs lss) (k : H g = some (.lst ws)) (z : cu H ws ls) : cY H (vs ++ [.ref g]) (lss ++ [ls]) := by
  refine ⟨by simp [h.1], fun i w q a b => ?_⟩
  by_cases hi : i < vs.length
  · rw [List.getElem?_append_left hi] at a
    rw [List.getElem?_append_left (by rw [<- h.1]; exact hi)] at b
    exact h.2 i w q a b
  · have hi1 : i < (vs ++ [V.ref g]).length := (List.getElem?_eq_some_iff.mp a).1
    rw [List.length_append, List.length_singleton] at hi1
    have e : i = vs.length := by omega
    subst e
    rw [List.getElem?_append_right (Nat.le_refl _), Nat.sub_self] at a
    rw [h.1, List.getElem?_append_right (Nat.le_refl _), Nat.sub_self] at b
    cases a
    cases b
    exact ⟨g, ws, rfl, k, z⟩
theorem cY.get {H : Hp} {vs : List V} {lss : List (List (List Int))} (h : cY H vs lss) {i : Nat} {v : V} (a : vs[i]? = some v) : ∃ ls g ws, lss[i]? = some ls /\ v = .ref g /\ H g = some (.lst ws) /\ cu H ws ls := by
  have hi : i < vs.length := (List.getElem?_eq_some_iff.mp a).1
  have hp : lss[i]? = some (lss[i]'(by rw [<- h.1]; exact hi)) := List.getElem?_eq_getElem _
  obtain ⟨g, ws, e, k, z⟩ := h.2 i v _ a hp
  exact ⟨_, g, ws, hp, e, k, z⟩
theorem cu.off {H G : Hp} {r : Addr} {ws vs : List V} {ls : List (List Int)} (h : cu H vs ls) (hne : ∀ l ∈ ls, l ≠ []) (hr : H r = some (.lst ws)) (href : ∀ v ∈ ws, ∃ g, v = .ref g) (k : ∀ b o, b ≠ r -> H b = some o -> G b = some o) : cu G vs ls := by
  refine ⟨h.1, fun i v l a b => ?_⟩
  obtain ⟨g, e, q⟩ := h.2 i v l a b
  refine ⟨g, e, k _ _ (fun z => ?_) q⟩
  rw [z, hr] at q
  have q1 : HO.lst ws = HO.lst (l.map V.int) := Option.some.inj q
  injection q1 with q2
  have hl := hne l (List.mem_of_getElem? b)
  cases l with
  | nil => exact hl rfl
  | cons x l =>
    obtain ⟨g', e'⟩ := href (V.int x) (by rw [q2]; simp)
    cases e'
theorem cY.refs {H : Hp} {vs : List V} {lss : List (List (List Int))} (h : cY H vs lss) : ∀ v ∈ vs, ∃ g, v = .ref g := fun v hv => by
  obtain ⟨i, hi, rfl⟩ := List.getElem_of_mem hv
  obtain ⟨_, g, _, _, e, _⟩ := h.get (List.getElem?_eq_getElem hi)
  exact ⟨g, e⟩
noncomputable def Fit (B : Nat) (lss : List (List (List Int))) : Prop := ∀ ls ∈ lss, ls.length <= 1000 /\ ∀ l ∈ ls, bI l /\ l.length <= 64 /\ ∀ x ∈ l, Bd B x
inductive xW (K : PySem.W.Frag) (vs : List V) (H : Hp) (Q : VK) : Prop
  | mk (a d e : Addr) (ws : List V) (lss : List (List (List Int))) (p q r t : Int) (h0 : vs = [.ref a, .ref d, .ref e]) (h1 : H a = some (.lst ws)) (h2 : cY H ws lss) (h3 : Fit 891184 lss) (h4 : lss.length <= 6) (h5 : SqT K H d [.int p, .int q]) (h6 : SqT K H e [.int r, .int t]) (h7 : Bd 891184 p) (h8 : Bd 891184 q) (h9 : Bd 891184 r) (h10 : Bd 891184 t) (h11 : 0 < q) (h12 : 0 < t)
      (h13 : ∀ H' : Hp, Same H H' -> Q (.int (lss.map fun ls => Vc (plc p q) ls - Vc (plc r t) ls).sum) H') : xW K vs H Q
noncomputable def nA (K : PySem.W.Frag) : Sp := fun vs H Q _ => xW K vs H Q
end Zf
namespace Zf
open PS
theorem sI {c g : List Int} (hc : c ≠ []) (hg : bI c) (h : Shared c (aM c) g) (hl : 1 < c.length) : g.length < c.length := by
  rcases h with ⟨z, _⟩ | ⟨g0, g1, g2, g3, g4⟩
  · exact absurd z hc
  have sl := bW c
  have sne : aM c ≠ [] := fun z => by rw [z] at sl; simp at sl; omega
  have sg := eU hg
  obtain ⟨a, q, ha, hq, e⟩ := g4.2.1
  have cp := cL sg sne
  have e2 : C (a * ct (aM c)) * co (aF (aM c)) = q * co g := by
    rw [<- CC, PS.mul_assoc, d9, e]
  obtain ⟨S, hS, e3⟩ := t_ (Int.mul_ne_zero ha (by omega)) g2 hq e2
  have hd := Aq hS g1 g0 e3
  rw [bG, sl] at hd
  rcases Nat.lt_or_ge g.length c.length with y | y
  · exact y
  exfalso
  have z : S = 0 := by
    ext t
    rw [hd t (by omega), dh]
  rw [z] at e3
  have : co (aF (aM c)) = 0 := by rw [e3]; grind
  exact lX (eV sg) (fun z => sne (by have := bG (aM c); rw [z] at this; exact List.eq_nil_of_length_eq_zero this.symm)) this
theorem vU {p : Nat} {c g : List Int} (hc : c ≠ []) (hg : bI c) (h : Shared c (aM c) g) (hl : g.length <= 2) (hb : ∀ x ∈ c, Bd p x) : ∀ x ∈ g, Bd p x := by
  obtain ⟨g0, g1, l1, S, hS, e, hs⟩ := mJ hc hg h
  have e4 := mX hS
  have s0 := hs.1
  have s1 := hs.2.1
  have hf : ∀ x ∈ aF c, Bd p x := gW hb
  have e' : co (aF c) = co g * co (upto S (c.length + 1 - g.length)) := by rw [e4, e, PS.mul_comm]
  have lg := List.length_pos_iff.mpr g0
  have dG : Dg (g.length - 1 + 1) (co g) := (Dg.co g).mono (by omega)
  have lo : Bd p (co g 0) := vL e' (lX s1 s0) hf
  have hi : Bd p (co g (g.length - 1)) := vK e' s1 s0 dG hf
  intro x hx
  obtain ⟨i, hi', rfl⟩ := List.getElem_of_mem hx
  have : Bd p (co g i) := by
    by_cases z : i = 0
    · rw [z]; exact lo
    · rw [show i = g.length - 1 by omega]; exact hi
  rwa [mW, List.getD_eq_getElem?_getD, List.getElem?_eq_getElem hi'] at this
end Zf
namespace Zf
noncomputable def pR (n : Nat) : List Nat := (Nat.toDigits 10 n).map Char.toNat
theorem nP : ∀ (k n : Nat), 1 <= k -> n < 10 ^ k -> (pR n).length <= k
  | 0, _, h, _ => absurd h (by decide)
  | 1, n, _, h => by
    rw [pR, Nat.toDigits_of_lt_base (by omega)]; simp
  | k + 2, n, _, h => by
    by_cases hn : n < 10
    · rw [pR, Nat.toDigits_of_lt_base hn]; simp
    · have t : Nat.toDigits 10 (n / 10) ++ Nat.toDigits 10 (n % 10) = Nat.toDigits 10 (10 * (n / 10) + n % 10) := Nat.toDigits_append_toDigits (by decide) (by omega) (Nat.mod_lt n (by decide))
      rw [Nat.div_add_mod] at t
      have ih := nP (k + 1) (n / 10) (by omega) (by rw [Nat.pow_succ] at h; omega)
      rw [pR, List.length_map] at ih ⊢
      rw [<- t, List.length_append, Nat.toDigits_of_lt_base (Nat.mod_lt n (by decide))]
      simp only [List.length_cons, List.length_nil]; omega
theorem Jl (n : Nat) : pR n ≠ [] := by
  unfold pR
  by_cases hn : n < 10
  · rw [Nat.toDigits_of_lt_base hn]; simp
  · have t : Nat.toDigits 10 (n / 10) ++ Nat.toDigits 10 (n % 10) = Nat.toDigits 10 (10 * (n / 10) + n % 10) := Nat.toDigits_append_toDigits (by decide) (by omega) (Nat.mod_lt n (by decide))
    rw [Nat.div_add_mod] at t
    rw [<- t, Nat.toDigits_of_lt_base (Nat.mod_lt n (by decide))]; simp
noncomputable def qu (k : Nat) (n : Int) : List Nat := if 0 < k /\ n.natAbs = 1 then [] else pR n.natAbs
noncomputable def pP (k : Nat) : List Nat := if k = 0 then [] else if k = 1 then [120] else 120 :: pR k
noncomputable def sgL (n : Int) : Nat := if n < 0 then 45 else 43
noncomputable def tmL (k : Nat) (n : Int) : List Nat := if n = 0 then [] else sgL n :: (qu k n ++ pP k)
noncomputable def iR (c : List Int) : Nat -> List Nat
  | 0 => []
  | m + 1 => tmL m (c.getD m 0) ++ iR c m
noncomputable def dnL (c : List Int) (n : Nat) : Nat -> List Nat
  | 0 => []
  | i + 1 => dnL c n i ++ tmL (n - 1 - i) (c.getD (n - 1 - i) 0)
theorem Bh (c : List Int) (n : Nat) : ∀ i, i <= n -> iR c n = dnL c n i ++ iR c (n - i)
  | 0, _ => rfl
  | i + 1, h => by
    rw [Bh c n i (by omega), dnL, List.append_assoc, show n - i = (n - 1 - i) + 1 by omega, iR, show n - (i + 1) = n - 1 - i by omega]
theorem Jk (c : List Int) (n : Nat) : dnL c n n = iR c n := by
  rw [Bh c n n (Nat.le_refl _), Nat.sub_self]; simp [iR]
noncomputable def dM : List Nat -> List Nat
  | [] => []
  | x :: r => if x = 43 then r else x :: r
theorem zP (k : Nat) (n : Int) : qu k n ++ pP k ≠ [] := by
  unfold qu pP
  by_cases hk : k = 0
  · subst hk; simp [Jl]
  · rw [if_neg hk]; split <;> split <;> simp
theorem Em {k : Nat} {n : Int} (h : n ≠ 0) : tmL k n = sgL n :: (qu k n ++ pP k) := if_neg h
noncomputable def Tms (l : List Nat) : Prop := l = [] \/ ∃ x y r, l = x :: y :: r
theorem KY (k : Nat) (n : Int) : Tms (tmL k n) := by
  by_cases h : n = 0
  · exact .inl (if_pos h)
  · rw [Em h]
    cases e : qu k n ++ pP k with
    | nil => exact absurd e (zP k n)
    | cons y r => exact .inr ⟨_, y, r, rfl⟩
theorem Tms.app {a b : List Nat} (ha : Tms a) (hb : Tms b) : Tms (a ++ b) := by
  rcases ha with rfl | ⟨x, y, r, rfl⟩
  · exact hb
  · exact .inr ⟨x, y, r ++ b, rfl⟩
theorem Ga (c : List Int) (n : Nat) : ∀ i, Tms (dnL c n i)
  | 0 => .inl rfl
  | i + 1 => (Ga c n i).app (KY _ _)
theorem strip_nil {l : List Nat} (h : Tms l) : dM l = [] ↔ l = [] := by
  rcases h with rfl | ⟨x, y, r, rfl⟩
  · simp [dM]
  · simp only [dM]; split <;> simp
theorem Cu {a : List Nat} (b : List Nat) (h : a ≠ []) : dM (a ++ b) = dM a ++ b := by
  cases a with
  | nil => exact absurd rfl h
  | cons x r => simp only [List.cons_append, dM]; split <;> rfl
theorem zy {l : List Nat} {k : Nat} {n : Int} (h : Tms l) (hn : n ≠ 0) :
    dM (l ++ tmL k n) = dM l ++ ((if n < 0 then [45] else if dM l = [] then [] else [43]) ++ qu k n ++ pP k) := by
  rw [Em hn]
  by_cases hl : l = []
  · subst hl
    show dM (sgL n :: _) = [] ++ _
    have e : sgL n = if n < 0 then 45 else 43 := rfl
    by_cases h0 : n < 0
    · rw [e, if_pos h0, if_pos h0]; simp [dM]
    · rw [e, if_neg h0, if_neg h0]; simp [dM]
  · rw [Cu _ hl]
    congr 1
    have : dM l ≠ [] := fun z => hl ((strip_nil h).mp z)
    rw [if_neg this]
    unfold sgL
    split <;> simp
noncomputable def J3 (c : List Int) : List Nat := if iR c c.length = [] then [48] else dM (iR c c.length)
theorem Hs {c : List Int} (h : bI c) : iR c c.length = [] ↔ c = [] := by
  constructor
  · intro e
    by_cases hc : c = []
    · exact hc
    · have hl := List.length_pos_iff.mpr hc
      obtain ⟨m, hm⟩ : ∃ m, c.length = m + 1 := ⟨c.length - 1, by omega⟩
      rw [hm, iR] at e
      have := (List.append_eq_nil_iff.mp e).1
      have h0 := h hc
      rw [hm] at h0
      rw [Em (show c.getD m 0 ≠ 0 from h0)] at this
      exact absurd this (by simp)
  · rintro rfl; rfl
end Zf
namespace Zf
open PySem
noncomputable def ofL (l : List Nat) : Str := ⟨l.toArray⟩
theorem xq (l : List Nat) : (ofL l).cps.toList = l := by simp [ofL]
theorem Dr (x : Str) : ofL x.cps.toList = x := by cases x; simp [ofL]
theorem jH (a b : List Nat) : ofL a ++ ofL b = ofL (a ++ b) := Str.ext' (by rw [Str.cps_append]; simp [ofL])
theorem eX (l : List Nat) : (ofL l).length = l.length := by simp [ofL, Str.length]
theorem I9 {a b : List Nat} (h : ofL a = ofL b) : a = b := by rw [<- xq a, h, xq]
end Zf
namespace Zf
open PySem L2 PS
inductive xZ (vs : List V) (H : Hp) (Q : VK) : Prop
  | mk (n : Int) (l : List Nat) (h0 : vs = [.int n, .str (ofL l)]) (h1 : Q (.str (ofL (if n < 0 then [45] else if l = [] then [] else [43]))) H) : xZ vs H Q
noncomputable def qN : Sp := fun vs H Q _ => xZ vs H Q
inductive BL (vs : List V) (H : Hp) (Q : VK) : Prop
  | mk (n : Int) (k : Nat) (h0 : vs = [.int n, .int (k : Int)]) (h1 : Bd 200 n) (h2 : Q (.str (ofL (qu k n))) H) : BL vs H Q
noncomputable def vo : Sp := fun vs H Q _ => BL vs H Q
inductive BK (vs : List V) (H : Hp) (Q : VK) : Prop
  | mk (k : Nat) (h0 : vs = [.int (k : Int)]) (h1 : k <= 1000) (h2 : Q (.str (ofL (pP k))) H) : BK vs H Q
noncomputable def vh : Sp := fun vs H Q _ => BK vs H Q
inductive BJ (K : PySem.W.Frag) (vs : List V) (H : Hp) (Q : VK) : Prop
  | mk (a : Addr) (c : List Int) (h0 : vs = [.ref a]) (h1 : SqL K H a (c.map V.int)) (h2 : bI c) (h3 : c.length <= 64) (h4 : ∀ x ∈ c, Bd 200 x) (h5 : Q (.str (ofL (J3 c))) H) : BJ K vs H Q
noncomputable def p7 (K : PySem.W.Frag) : Sp := fun vs H Q _ => BJ K vs H Q
theorem Gi : bootBuiltins "str" = some (.type "str") := by decide +kernel
theorem Fw {m k : Nat} (hk : 0 < k) (h : m < 2 ^ k) : m.log2 < k := by
  by_cases h0 : m = 0
  · subst h0; exact hk
  · exact (Nat.log2_lt h0).mpr h
theorem Jm {n : Int} (h : Bd 200 n) : (pR n.natAbs).length <= 61 := nP 61 _ (by decide) (Nat.lt_of_lt_of_le h (by decide +kernel))
theorem Bj {k : Nat} {n : Int} (h : Bd 200 n) : (qu k n).length <= 61 := by
  unfold qu
  split
  · simp
  · exact Jm h
theorem Aw {k : Nat} (h : k <= 1000) : (pP k).length <= 5 := by
  unfold pP
  split
  · simp
  · split
    · simp
    · have := nP 4 k (by decide) (by omega)
      simp only [List.length_cons]; omega
theorem KZ {k : Nat} {n : Int} (h : Bd 200 n) (hk : k <= 1000) : (tmL k n).length <= 67 := by
  unfold tmL
  split
  · simp
  · have := Bj (k := k) h
    have := Aw hk
    simp only [List.length_cons, List.length_append]; omega
theorem Br {c : List Int} (h : ∀ x ∈ c, Bd 200 x) (i : Nat) : Bd 200 (c.getD i 0) := by
  by_cases hi : i < c.length
  · exact h _ (pQ hi)
  · rw [q9 (by omega)]; exact Bd.zero _
theorem Gb {c : List Int} (h : ∀ x ∈ c, Bd 200 x) {n : Nat} (hn : n <= 1000) : ∀ i : Nat, (dnL c n i).length <= 67 * i
  | 0 => by simp [dnL]
  | i + 1 => by
    have ih := Gb h hn i
    have := KZ (Br h (n - 1 - i)) (k := n - 1 - i) (by omega)
    rw [dnL, List.length_append]; omega
theorem Cr (l : List Nat) : (dM l).length <= l.length := by
  cases l with
  | nil => simp [dM]
  | cons x r => rw [dM]; split <;> simp
theorem vJ (m : Nat) : (Str.ofString (toString ((m : Nat) : Int))) = ofL (pR m) := by
  rw [<- Dr (Str.ofString _), PySem.W.KIN.signs_num]; rfl
theorem Ci : (Str.ofString "" : Str) = ofL [] := by decide +kernel
theorem lit43 : (Str.ofString "+" : Str) = ofL [43] := by decide +kernel
theorem lit45 : (Str.ofString "-" : Str) = ofL [45] := by decide +kernel
theorem lit48 : (Str.ofString "0" : Str) = ofL [48] := by decide +kernel
theorem zj : (Str.ofString "x" : Str) = ofL [120] := by decide +kernel
structure R10 (c : List Int) : Prop where
  c5 : C5 c
  l3 : c.length <= 3
theorem R10.next {c s : List Int} (h : R10 c) (hl : 1 < c.length) (hs : Shared c (aM c) s) : R10 s /\ s.length < c.length := by
  have a := sI h.c5.ne h.c5.good hs hl
  have l3 := h.l3
  obtain ⟨g0, g1, _⟩ := mJ h.c5.ne h.c5.good hs
  exact ⟨⟨⟨g1, g0, by omega, vU h.c5.ne h.c5.good hs (by omega) h.c5.bd⟩, by omega⟩, a⟩
inductive Gm (K : PySem.W.Frag) (vs : List V) (H : Hp) (Q : VK) : Prop
  | mk (a : Addr) (c : List Int) (h0 : vs = [.ref a]) (h1 : SqL K H a (c.map V.int)) (h2 : R10 c) (h3 : ∀ (r : Addr) (H' : Hp) (ws : List V) (lss : List (List (List Int))), H r = none -> Same H H' -> H' r = some (.lst ws) -> cY H' ws lss -> Fit 891184 lss -> lss.length <= 6 -> Q (.ref r) H') : Gm K vs H Q
noncomputable def uL (K : PySem.W.Frag) : Sp := fun vs H Q _ => Gm K vs H Q
inductive Gk (K : PySem.W.Frag) (vs : List V) (H : Hp) (Q : VK) : Prop
  | mk (a d e : Addr) (c : List Int) (p q r t : Int) (h0 : vs = [.ref a, .ref d, .ref e]) (h1 : SqL K H a (c.map V.int)) (h2 : R10 c) (h5 : SqT K H d [.int p, .int q]) (h6 : SqT K H e [.int r, .int t]) (h7 : Bd 100000 p) (h8 : Bd 100000 q) (h9 : Bd 100000 r) (h10 : Bd 100000 t) (h11 : 0 < q) (h12 : 0 < t) (h13 : p * t <= r * q)
      (h14 : ∀ (n : Int) (H' : Hp), Same H H' -> Q (.int n) H') : Gk K vs H Q
noncomputable def uK (K : PySem.W.Frag) : Sp := fun vs H Q _ => Gk K vs H Q
inductive yg (K : PySem.W.Frag) (vs : List V) (H : Hp) (Q : VK) : Prop
  | mk (a : Addr) (c : List Int) (h0 : vs = [.ref a]) (h1 : SqL K H a (c.map V.int)) (h2 : R10 c) (h3 : ∀ (r : Addr) (H' : Hp), H r = none -> Same H H' -> Q (.ref r) H') : yg K vs H Q
noncomputable def nC (K : PySem.W.Frag) : Sp := fun vs H Q _ => yg K vs H Q
noncomputable def dU (c : List Int) : Prop := c ≠ [] /\ c.getD (c.length - 1) 0 = 0
noncomputable instance (c : List Int) : Decidable (dU c) := by unfold dU; infer_instance
theorem cW {c : List Int} (h : ¬ dU c) : bI c := fun hne z => h ⟨hne, z⟩
structure Ea where
  NC : Addr
  NN : Addr
  NP : Addr
  NS : Addr
  NF : Addr
noncomputable def b_ (a b : Sp) : Sp := fun vs H Q E => a vs H Q E \/ b vs H Q E
noncomputable def bCC (K : PySem.W.Frag) (x : Ea) : Sp := fun vs H _ E => ∃ (a : Addr) (c : List Int), vs = [.ref a] /\ SqL K H a (c.map V.int) /\ dU c /\ E (.ref x.NC) none H
noncomputable def bNN (K : PySem.W.Frag) (x : Ea) : Sp := fun vs H _ E => ∃ (a : Addr), vs = [.ref a] /\ SqL K H a (([] : List Int).map V.int) /\ E (.ref x.NN) none H
noncomputable def bCP (K : PySem.W.Frag) (x : Ea) : Sp := fun vs H _ E => ∃ (d : Addr) (p q : Int), vs = [.ref d] /\ SqT K H d [.int p, .int q] /\ q < 1 /\ E (.ref x.NP) none H
noncomputable def bCF (x : Ea) : Sp := fun vs H _ E => ∃ k : Int, vs = [.int k] /\ k < 1 /\ E (.ref x.NF) none H
noncomputable def BadS (x : Ea) (p q r t : Int) (E : XK) (H : Hp) : Prop := (q < 1 /\ E (.ref x.NP) none H) \/ (0 < q /\ t < 1 /\ E (.ref x.NP) none H) \/ (0 < q /\ 0 < t /\ Bd 300 p /\ Bd 300 q /\ Bd 300 r /\ Bd 300 t /\ r * q < p * t /\ E (.ref x.NS) none H)
noncomputable def bCS (K : PySem.W.Frag) (x : Ea) : Sp := fun vs H _ E => ∃ (d e : Addr) (p q r t : Int), vs = [.ref d, .ref e] /\ SqT K H d [.int p, .int q] /\ SqT K H e [.int r, .int t] /\ BadS x p q r t E H
noncomputable def b1N (K : PySem.W.Frag) (x : Ea) : Sp := fun vs H _ E => ∃ (a : Addr) (c : List Int), vs = [.ref a] /\ SqL K H a (c.map V.int) /\ ((dU c /\ E (.ref x.NC) none H) \/ (c = [] /\ E (.ref x.NN) none H))
noncomputable def b2C (K : PySem.W.Frag) (x : Ea) : Sp := fun vs H _ E => ∃ (a b : Addr) (c o : List Int), vs = [.ref a, .ref b] /\ SqL K H a (c.map V.int) /\ SqL K H b (o.map V.int) /\ ((dU c /\ E (.ref x.NC) none H) \/ (bI c /\ dU o /\ E (.ref x.NC) none H))
noncomputable def b2L (K : PySem.W.Frag) (x : Ea) : Sp := fun vs H _ E => ∃ (a b : Addr) (c o : List Int), vs = [.ref a, .ref b] /\ SqL K H a (c.map V.int) /\ SqL K H b (o.map V.int) /\ ((dU c /\ E (.ref x.NC) none H) \/ (bI c /\ dU o /\ E (.ref x.NC) none H) \/ (bI c /\ o = [] /\ E (.ref x.NN) none H))
noncomputable def bSA (K : PySem.W.Frag) (x : Ea) : Sp := fun vs H _ E => ∃ (a d : Addr) (c : List Int) (p q : Int), vs = [.ref a, .ref d] /\ SqL K H a (c.map V.int) /\ SqT K H d [.int p, .int q] /\ ((dU c /\ E (.ref x.NC) none H) \/ (bI c /\ q < 1 /\ E (.ref x.NP) none H))
noncomputable def bCh (K : PySem.W.Frag) (x : Ea) : Sp := fun vs H _ E => ∃ (a d : Addr) (c : List Int) (p q : Int), vs = [.ref a, .ref d] /\ SqL K H a (c.map V.int) /\ SqT K H d [.int p, .int q] /\ ((dU c /\ E (.ref x.NC) none H) \/ (c = [] /\ E (.ref x.NN) none H) \/ (bI c /\ c ≠ [] /\ q < 1 /\ E (.ref x.NP) none H))
noncomputable def bBt (K : PySem.W.Frag) (x : Ea) : Sp := fun vs H _ E => ∃ (a d e : Addr) (c : List Int) (p q r t : Int), vs = [.ref a, .ref d, .ref e] /\ SqL K H a (c.map V.int) /\ SqT K H d [.int p, .int q] /\ SqT K H e [.int r, .int t] /\ ((dU c /\ E (.ref x.NC) none H) \/ (c = [] /\ E (.ref x.NN) none H) \/ (bI c /\ c ≠ [] /\ BadS x p q r t E H))
noncomputable def bSt (K : PySem.W.Frag) (x : Ea) : Sp := fun vs H _ E => ∃ (a : Addr) (k : Int) (c : List Int), vs = [.ref a, .int k] /\ SqL K H a (c.map V.int) /\ ((dU c /\ E (.ref x.NC) none H) \/ (c = [] /\ E (.ref x.NN) none H) \/ (bI c /\ c ≠ [] /\ k < 1 /\ E (.ref x.NF) none H))
abbrev bmV : List Value := [.type "ValueError", .type "Exception", .type "BaseException", .type "object"]
structure Rf (K : PySem.W.Frag) (mg : Str -> Option Value) (n : Str) (C : Addr) : Prop where
  at_ : mg n = some (.ref C)
  ex : PySem.W.excIn K C bmV "ValueError.__new__" = true
  k : H9 K C
inductive Wd where
  | done | curve | nought | place | stretch | fine
  deriving DecidableEq
noncomputable def Wd.txt : Wd -> Str
  | .done => "done" | .curve => "curve" | .nought => "nought" | .place => "place" | .stretch => "stretch" | .fine => "fine"
noncomputable def Wd.adr (x : Ea) : Wd -> Addr
  | .done => 0 | .curve => x.NC | .nought => x.NN | .place => x.NP | .stretch => x.NS | .fine => x.NF
noncomputable def cj (w : Int) (c : List Int) (p q r t f : Int) : Wd :=
  if dU c then .curve else if w = 19 \/ (c = [] /\ 5 < w /\ w < 16) then .nought else if q < 1 /\ (w = 5 \/ w = 12 \/ w = 13 \/ w = 14) then .place else if t < 1 /\ (w = 13 \/ w = 14) then .place
  else if (w = 13 \/ w = 14) /\ r * q < p * t then .stretch else if w = 15 /\ f < 1 then .fine else .done
noncomputable def Out (x : Ea) (k : Wd) (Q : VK) (E : XK) (H : Hp) : Prop := (k = .done -> ∀ H', Same H H' -> Q .non H') /\ (k ≠ .done -> ∀ H', Same H H' -> E (.ref (k.adr x)) none H')
theorem Out.ok {x : Ea} {k : Wd} {Q : VK} {E : XK} {H H' : Hp} (h : Out x k Q E H) (e : k = .done) (s : Same H H') : Q .non H' := h.1 e H' s
theorem Out.no {x : Ea} {k : Wd} {Q : VK} {E : XK} {H H' : Hp} (h : Out x k Q E H) (j : Wd) (e : k = j) (n : j ≠ .done) (s : Same H H') : E (.ref (j.adr x)) none H' := by
  subst e
  exact h.2 n H' s
theorem cN {w p q r t f : Int} {c : List Int} (h : dU c) : cj w c p q r t f = .curve := if_pos h
structure C10 (c : List Int) : Prop where
  len : c.length <= 100
  ok : ¬ dU c -> c.length <= 3 /\ ∀ x ∈ c, Bd 200 x
theorem C10.r {c : List Int} (h : C10 c) (hb : ¬ dU c) (hne : c ≠ []) : R10 c := by
  obtain ⟨l, b⟩ := h.ok hb
  exact ⟨⟨cW hb, hne, by omega, b⟩, l⟩
theorem fK : ¬ dU [] := fun h => h.1 rfl
noncomputable def oX (K : PySem.W.Frag) (x : Ea) : Sp := fun vs H Q E => ∃ (a d : Addr) (c : List Int) (w p q r t f : Int), vs = [.int w, .ref a, .ref d] /\ 0 <= w /\ w < 8 /\ SqL K H a (c.map V.int) /\ C10 c /\ SqT K H d [.int p, .int q] /\ Bd 300 p /\ Bd 300 q /\ Out x (cj w c p q r t f) Q E H
noncomputable def qP (K : PySem.W.Frag) (x : Ea) : Sp := fun vs H Q E => ∃ (a d e : Addr) (c : List Int) (w p q r t f : Int), vs = [.int w, .ref a, .ref d, .ref e, .int f] /\ 8 <= w /\ w < 16 /\ SqL K H a (c.map V.int) /\ C10 c /\ SqT K H d [.int p, .int q] /\ SqT K H e [.int r, .int t] /\ (Bd 300 p /\ Bd 300 q /\ Bd 300 r /\ Bd 300 t) /\ f <= 2 /\ Out x (cj w c p q r t f) Q E H
noncomputable def qR (K : PySem.W.Frag) (x : Ea) : Sp := fun vs H Q E => ∃ (a : Addr) (c : List Int) (w p q r t f : Int), vs = [.int w, .ref a] /\ 16 <= w /\ w < 20 /\ SqL K H a (c.map V.int) /\ C10 c /\ Out x (cj w c p q r t f) Q E H
noncomputable def qO (K : PySem.W.Frag) : Sp := fun vs H Q _ => ∃ (a d e : Addr) (c : List Int) (w p q r t f : Int), vs = [.int w, .ref a, .ref d, .ref e, .int f] /\ 0 <= w /\ w < 20 /\ SqL K H a (c.map V.int) /\ C10 c /\ SqT K H d [.int p, .int q] /\ SqT K H e [.int r, .int t] /\ (Bd 300 p /\ Bd 300 q /\ Bd 300 r /\ Bd 300 t) /\ f <= 2 /\ ∀ H', Same H H' -> Q (.str (cj w c p q r t f).txt) H'
noncomputable def vp (K : PySem.W.Frag) : Sp := fun vs H Q _ => ∃ (a d e : Addr) (c : List Int) (w p q r t f : Int), vs = [.int w, .ref a, .ref d, .ref e, .int f] /\ 0 <= w /\ w < 20 /\ SqL K H a (c.map V.int) /\ c.length <= 100 /\ SqT K H d [.int p, .int q] /\ SqT K H e [.int r, .int t] /\ (Bd 300 p /\ Bd 300 q /\ Bd 300 r /\ Bd 300 t) /\ ∀ H', Same H H' -> Q (.str (cj w c p q r t f).txt) H'
noncomputable def oV (K : PySem.W.Frag) : Sp := fun vs H Q _ => ∃ (a : Addr) (c : List Int) (f : Int), vs = [.ref a, .int f] /\ SqL K H a (c.map V.int) /\ C10 c /\ f <= 2 /\ ∀ H', Same H H' -> Q (.bl (decide (cj 15 c 1 1 1 1 f ≠ .done))) H'
structure Ks (K : PySem.W.Frag) (x : Ea) (c0 nl : Addr) : Prop where
  ek : ∀ k : Wd, k ≠ .done -> H9 K (k.adr x)
  own : ∀ k j : Wd, k ≠ .done -> j ≠ .done -> PySem.W.kitOne K (.ref (k.adr x)) (.ref (j.adr x)) = some (decide (k = j))
  nol : ∀ k : Wd, k ≠ .done -> PySem.W.kitOne K (.ref (k.adr x)) (.ref nl) = some false
  ve : ∀ k : Wd, k ≠ .done -> PySem.W.kitOne K (.ref (k.adr x)) (.type "ValueError") = some true
  cat : ∀ k : Wd, k ≠ .done -> PySem.W.exmOne K (.ref (k.adr x)) (.ref c0) = some true
theorem qH {K : PySem.W.Frag} {D c0 : Addr} {cd : ClassData} (h1 : PySem.W.subIn K (.ref c0) (.type "BaseException") = some true) (h2 : PySem.W.clsIn K c0 = some cd) (h3 : PySem.W.typeIn K (.ref c0) = some (.type "type")) (h4 : PySem.W.subIn K (.ref D) (.ref c0) = some true) : PySem.W.exmOne K (.ref D) (.ref c0) = some true := by
  unfold PySem.W.exmOne PySem.W.kitCls
  rw [h1, if_pos (by decide)]
  show (if ((PySem.W.clsIn K c0).isSome && PySem.W.typeIn K (.ref c0) == some (.type "type")) = true then PySem.W.subIn K (.ref D) (.ref c0) else none) = some true
  rw [h2, h3, h4]
  rfl
end Zf
namespace K10
open PySem L2 Zf
noncomputable def top (i : Nat) : Stmt := PySem.Challenge.pw_zerofence_k10_refused.main.body.getD i (.Pass ⟨0, 0, 0, 0⟩)
noncomputable abbrev eZ : Stmt := top 9
noncomputable abbrev iW : Stmt := top 10
noncomputable abbrev eY : Stmt := top 11
noncomputable abbrev d7 : Stmt := top 12
noncomputable abbrev fO : Stmt := top 13
noncomputable abbrev jB : Stmt := top 15
noncomputable abbrev kY : Stmt := top 16
noncomputable abbrev mj : Stmt := top 17
noncomputable abbrev jR : Stmt := top 18
noncomputable abbrev Cd : Stmt := top 19
noncomputable abbrev lZ : Stmt := top 20
noncomputable abbrev qC : Stmt := top 22
noncomputable abbrev jm : Stmt := top 23
noncomputable abbrev oG : Stmt := top 24
noncomputable abbrev jo : Stmt := top 25
noncomputable abbrev jC : Stmt := top 26
noncomputable abbrev oN : Stmt := top 27
noncomputable abbrev jA : Stmt := top 28
noncomputable abbrev iV : Stmt := top 29
noncomputable abbrev mC : Stmt := top 31
noncomputable abbrev iY : Stmt := top 32
noncomputable abbrev oM : Stmt := top 33
noncomputable abbrev iZ : Stmt := top 35
noncomputable abbrev k_ : Stmt := top 36
noncomputable abbrev fL : Stmt := top 37
noncomputable abbrev kW : Stmt := top 38
noncomputable abbrev iG : Stmt := top 39
noncomputable abbrev mz : Stmt := top 40
noncomputable abbrev jQ : Stmt := top 41
noncomputable abbrev fM : Stmt := top 43
noncomputable abbrev jq : Stmt := top 44
noncomputable abbrev lq : Stmt := top 45
noncomputable abbrev iU : Stmt := top 46
noncomputable abbrev iD : Stmt := top 47
noncomputable abbrev lA : Stmt := top 48
noncomputable abbrev qz : Stmt := top 49
noncomputable abbrev mq : Stmt := top 51
noncomputable abbrev kZ : Stmt := top 52
noncomputable abbrev oJ : Stmt := top 53
noncomputable abbrev oH : Stmt := top 54
noncomputable abbrev oF : Stmt := top 56
noncomputable abbrev sAt : Stmt := top 57
noncomputable abbrev Ce : Stmt := top 58
noncomputable abbrev oK : Stmt := top 59
noncomputable abbrev dw : Stmt := top 60
noncomputable abbrev dO : Stmt := top 61
noncomputable abbrev gM : Stmt := top 62
noncomputable abbrev d_ : Stmt := top 63
noncomputable abbrev dz : Stmt := top 64
noncomputable abbrev Cg : Stmt := top 65
noncomputable abbrev dR : Stmt := top 66
noncomputable abbrev uG : Stmt := top 67
end K10
namespace K10
open PySem L2 Zf
section
variable {P : Program} {w : World} {K : PySem.W.Frag} {mg : Str -> Option Value} {base : Heap} {f : Addr} {fd : FuncData}
theorem Ii : aZ ["_law_found"] ["_law_found"] (aB oF) := ⟨rfl, rfl, rfl, by decide +kernel, rfl, by decide +kernel, by decide +kernel⟩
theorem GD (B : Bl mg) (F : Fun K "_law_whole" "_law_whole" oF f fd) : bw P w K mg base CX0 1 f fd ["_law_found"] vg := by
  refine F.ok Ii (fun vs H Q E h => ?_) (fun cdv A outer s H vs Q E hr h => ?_)
  · obtain ⟨n, rfl, _⟩ := h
    rfl
  obtain ⟨n, rfl, q⟩ := h
  refine ⟨_, aA (bA (Fl (aO rG rfl B.bN bD (aj (pv 0) (aj (m9 (v := .ty "int") rfl B.int_ gG rfl) aq)))
    (Fg (Lb (aO rG rfl B.bN bD (aj (pv 0) (aj (m9 (v := .ty "bool") rfl B.bool_ Jt rfl) aq))))))), ?_⟩
  exact ⟨_, rfl, .inl ⟨n, rfl, true, rfl, lU ⟨_, rfl, .inr (.inl ⟨n, rfl, false, rfl, q⟩)⟩⟩⟩
theorem scAt : aZ ["_law_script", "_law_k"] ["_law_script", "_law_k"] (aB sAt) := ⟨rfl, rfl, rfl, by decide +kernel, rfl, by decide +kernel, by decide +kernel⟩
theorem ok_at (B : Bl mg) (F : Fun K "_law_at" "_law_at" sAt f fd) : bw P w K mg base CX0 1 f fd ["_law_script", "_law_k"] (Kr K) := by
  refine F.ok scAt (fun vs H Q E h => ?_) (fun cdv A outer s H vs Q E hr h => ?_)
  · obtain ⟨a, ns, k, rfl, _⟩ := h
    rfl
  obtain ⟨a, ns, k, rfl, hS, h0, q⟩ := h
  refine ⟨_, (ak (bL (aJ gB (pv 1) (aO aV rfl B.fX cI (aj (pv 0) aq)) (aP _))
    (aA (bA (bT bY (pv 0) (pv 1) (fun _ _ => rfl))))
    bB)
  (aA (bA au))), ?_⟩
  have hl : (ns.map V.int).length = ns.length := List.length_map _
  refine ⟨_, rfl, _, rfl, a, _, rfl, .inl hS, _, _, rfl, rfl, _, rfl, ?_⟩
  refine bQ (fun c => ?_) (fun c => ?_)
  · have c' : k < (((ns.map V.int).length : Nat) : Int) := of_decide_eq_true c
    rw [hl] at c'
    exact ⟨_, rfl, _, rfl, a, _, _, _, rfl, rfl, hS, fH h0 c', q⟩
  · have c' : ¬ k < (((ns.map V.int).length : Nat) : Int) := of_decide_eq_false (Bool.eq_false_iff.mpr c)
    rw [hl] at c'
    rw [q9 (by omega)] at q
    exact q
theorem JK : aZ ["_law_found", "_law_due", "_law_k"] ["_law_found", "_law_due"] (aB Ce) := ⟨rfl, rfl, rfl, by decide +kernel, rfl, by decide +kernel, by decide +kernel⟩
theorem Lw (B : Bl mg) (yG : FnAt P w K mg base 1 "_law_whole" ["_law_found"] vg) (F : Fun K "_law_numbers_are" "_law_numbers_are" Ce f fd) : bw P w K mg base CX0 2 f fd ["_law_found", "_law_due"] (Eo K) := by
  refine F.ok JK (fun vs H Q E h => ?_) (fun cdv A outer s H vs Q E hr h => ?_)
  · obtain ⟨a, d, xs, rfl, _⟩ := h
    rfl
  obtain ⟨a, d, xs, rfl, hA, hD, hz, q⟩ := h
  refine ⟨_, (ak (bL (PW.pt (tK (uQ (jh (aO rG rfl B.bN bD (aj (pv 0) (aj (m9 (v := .ty "list") rfl B.Ab ql rfl) aq))))) (oO (aJ pD (aO aV rfl B.fX cI (aj (pv 0) aq)) (aO aV rfl B.fX cI (aj (pv 1) aq)) (aP _)))))
    (aA (bA pC))
    bB)
  (ak (gD PassesOwn.never rfl (o7 rfl B.mD (aj (aO aV rfl B.fX cI (aj (pv 1) aq)) aq)) (cP (i := 2) JK.nd rfl (Or.inl rfl))
    (aA (bL (PW.pt (tK (uQ (jh (aC yG hr rfl (aj (bT bY (pv 0) (pv 2) (fun _ _ => rfl)) aq)))) (oO (aJ pD (bT bY (pv 0) (pv 2) (fun _ _ => rfl)) (bT bY (pv 1) (pv 2) (fun _ _ => rfl)) (aP _)))))
      (aA (bA pC))
      bB)))
  (aA (bA pC)))), ?_⟩
  have hl : (xs.map V.int).length = xs.length := List.length_map _
  refine ⟨_, rfl, .inr (.inr (.inl ⟨a, _, rfl, hA, true, rfl, dJ ?_⟩))⟩
  refine ⟨_, rfl, a, _, rfl, .inl hA, _, rfl, d, _, rfl, .inl hD, rfl, _, rfl, Ac rfl ?_⟩
  refine ⟨_, rfl, d, _, rfl, .inl hD, _, rfl, by omega, by omega, o_ (lo := 0) (n := (((xs.map V.int).length : Nat) : Int).toNat)
    (fun i σ H2 => ∃ (v2 : Option V), σ = [some (.ref a), some (.ref d), v2] /\ H2 = H) ⟨none, rfl, rfl⟩ ?_ ?_⟩
  · rintro i σ H2 hi ⟨v2, rfl, rfl⟩
    rw [hl] at hi
    have hix : atI (xs.map V.int) (0 + (i : Int)) = some (.int (xs.getD (0 + (i : Int)).toNat 0)) := fH (by omega) (by omega)
    refine ⟨_, rfl, _, rfl, a, _, _, _, rfl, rfl, hA, hix, _, rfl, true, rfl, dJ ?_⟩
    refine ⟨_, rfl, _, rfl, a, _, _, _, rfl, rfl, hA, hix, _, rfl, _, rfl, d, _, _, _, rfl, rfl, hD, hix, rfl, _, rfl, Ac rfl ?_⟩
    exact ⟨_, rfl, rfl⟩
  · rintro σ H2 ⟨v2, rfl, rfl⟩
    exact q
theorem JL : aZ ["_law_cell", "_law_size"] ["_law_cell"] (aB Cg) := ⟨rfl, rfl, rfl, by decide +kernel, rfl, by decide +kernel, by decide +kernel⟩
theorem Lx (F : Fun K "_law_any" "_law_any" Cg f fd) : bw P w K mg base CX0 1 f fd ["_law_cell"] zY := by
  refine F.ok JL (fun vs H Q E h => ?_) (fun cdv A outer s H vs Q E hr h => ?_)
  · obtain ⟨c, rfl, _⟩ := h
    rfl
  obtain ⟨c, rfl, q⟩ := h
  refine ⟨_, (ak (aK (i := 1) JL.nd rfl (Or.inl rfl) (bh gF (bh nJ (pv 0) au) (bh Le au au)))
  (aA (bA (bh cX (pv 1) (bT bY (cT (aj au (aj (dI cF au) aq))) (bh gF (pv 0) au) (fun _ _ => rfl)))))), ?_⟩
  have h10 : (0 : Int) < 10 ^ (59 : Int).toNat := by decide
  refine ⟨_, rfl, _, _, rfl, rfl, u_ (by decide) (by decide), _, _, rfl, rfl, ⟨by decide, by decide, by decide⟩, _, _, rfl, rfl, h10, ?_⟩
  refine ⟨_, rfl, _, rfl, (by show 2 <= sizeLine; decide), fun p hp => ?_⟩
  obtain ⟨e, he, hb⟩ : ∃ e : Int, atI ([.int 1, .int (-1)] : List V) (c % 2) = some (.int e) /\ Bd 1 e := by
    rcases (by omega : c % 2 = 0 \/ c % 2 = 1) with h | h
    · rw [h]; exact ⟨1, rfl, by unfold Bd; decide⟩
    · rw [h]; exact ⟨-1, rfl, by unfold Bd; decide⟩
  have b1 : Bd 197 (c / 2 % 10 ^ (59 : Int).toNat) := by
    have h1 := Int.emod_nonneg (c / 2) (Int.ne_of_gt h10)
    have h2 := Int.emod_lt_of_pos (c / 2) h10
    have h3 : (10 : Int) ^ (59 : Int).toNat = 100000000000000000000000000000000000000000000000000000000000 := by decide
    rw [h3] at h1 h2 ⊢
    unfold Bd
    omega
  refine ⟨_, rfl, _, _, rfl, rfl, (by show (0 : Int) < 2; decide), p, _, _, _, rfl, rfl, SqL.of aH, he, _, _, rfl, rfl, b1.J2 hb, ?_⟩
  exact q _ _ (aQ hp _) ((b1.mul hb).mono (by decide))
theorem m7 : aZ ["_law_cells", "_law_made", "_law_k", "_law_number"] ["_law_cells"] (aB oK) := ⟨rfl, rfl, rfl, by decide +kernel, rfl, by decide +kernel, by decide +kernel⟩
theorem GP (B : Bl mg) (pA : FnAt P w K mg base 1 "_law_any" ["_law_cell"] zY) (F : Fun K "_law_drawn_curve" "_law_drawn_curve" oK f fd) : bw P w K mg base CX0 2 f fd ["_law_cells"] (vq K) := by
  refine F.ok m7 (fun vs H Q E h => ?_) (fun cdv A outer s H vs Q E hr h => ?_)
  · obtain ⟨a, ns, rfl, _⟩ := h
    rfl
  obtain ⟨a, ns, rfl, hS, h63, q⟩ := h
  have hu := hr.yQ
  refine ⟨_, (ak (aK (i := 1) m7.nd rfl (Or.inl rfl) (cT aq))
  (ak (gD PassesOwn.never rfl (o7 rfl B.mD (aj (aO aV rfl B.fX cI (aj (pv 0) aq)) aq)) (cP (i := 2) m7.nd rfl (Or.inl rfl))
    (ak (aK (i := 3) m7.nd rfl (Or.inl rfl) (bh fB (bh gF (bh cU (bT bY (pv 0) (pv 2) (fun _ _ => rfl)) (pv 2)) au) au))
    (ak (bL (aJ cg (bh gF (bT bY (pv 0) (pv 2) (fun _ _ => rfl)) au) au (aP _))
      (aA (aK (i := 3) m7.nd rfl (Or.inl rfl) (aC pA hr rfl (aj (bh nJ (bT bY (pv 0) (pv 2) (fun _ _ => rfl)) au) aq))))
      bB)
    (aA (aD (tL PySem.F.plainAttrs_list PySem.F.slot_list_append PySem.F.type_list_append fQ (pv 1) (aj (pv 3) aq)))))))
  (ak (bL (PW.pt (gC (aJ (Fp hu) (pv 1) (cT aq) (aP _)) (fj (aJ cg (bT bY (pv 1) (dI cF au) (fun _ _ => rfl)) au (aP _)))))
    (aA (uR au (uU (pv 1) (dI cF au) set_list)))
    bB)
  (aA (bA (pv 1)))))), ?_⟩
  have hl : (ns.map V.int).length = ns.length := List.length_map _
  refine ⟨(by show 0 <= sizeLine; decide), fun r hr0 => ?_⟩
  have g0 : Same H (upd H r (.lst [])) := aQ hr0 _
  refine ⟨_, rfl, a, _, rfl, .inl (g0.seq hS), _, rfl, by omega, by omega, o_ (lo := 0) (n := (((ns.map V.int).length : Nat) : Int).toNat)
    (fun i σ H2 => ∃ (out : List Int) (v2 v3 : Option V), σ = [some (.ref a), some (.ref r), v2, v3] /\ Same H H2 /\ H2 r = some (IL out) /\ out.length = i /\ ∀ x ∈ out, Bd 200 x)
    ⟨[], none, none, rfl, g0, aH, rfl, by simp⟩ ?_ ?_⟩
  · rintro i σ H2 hi ⟨out, v2, v3, rfl, s2, hr2, ho, hb⟩
    rw [hl] at hi
    have hi' : i < ns.length := by omega
    have hix : atI (ns.map V.int) (0 + (i : Int)) = some (.int (ns.getD (0 + (i : Int)).toNat 0)) := fH (by omega) (by omega)
    refine ⟨_, rfl, _, rfl, a, _, _, _, rfl, rfl, s2.seq hS, hix, _, rfl, _, _, rfl, rfl, _, _, rfl, rfl, (by show (0 : Int) < 11; decide), _, _, rfl, rfl, ?_⟩
    refine ⟨_, rfl, _, rfl, a, _, _, _, rfl, rfl, s2.seq hS, hix, _, _, rfl, rfl, (by show (0 : Int) < 31; decide), rfl, _, rfl, ?_⟩
    have step : ∀ (H3 : Hp) (v : Int), Same H2 H3 -> Bd 200 v -> Same H (upd H3 r (.lst (out.map V.int ++ [V.int v]))) /\ upd H3 r (.lst (out.map V.int ++ [V.int v])) r = some (IL (out ++ [v])) /\ (out ++ [v]).length = i + 1 /\ ∀ x ∈ out ++ [v], Bd 200 x := by
      intro H3 v s3 hv
      refine ⟨fun b o e => ?_, by rw [aH, q8], by rw [List.length_append, ho]; rfl, fun x hx => ?_⟩
      · rw [bK (bU e hr0)]
        exact s3 _ _ (s2 _ _ e)
      · rcases List.mem_append.mp hx with hx | hx
        · exact hb x hx
        · rw [List.mem_singleton.mp hx]; exact hv
    have hz : (out.map V.int).length < sizeLine := by rw [List.length_map, ho]; exact eF (by omega)
    refine bQ (fun _ => ?_) (fun _ => ?_)
    · refine ⟨_, rfl, _, rfl, a, _, _, _, rfl, rfl, s2.seq hS, hix, _, _, rfl, rfl, u_ (by decide) (by decide), _, rfl, fun H3 v s3 hv => ?_⟩
      obtain ⟨t1, t2, t3, t4⟩ := step H3 v s3 (hv.mono (by decide))
      exact ⟨_, rfl, .inl ⟨rfl, _, SqL.of (s3 _ _ hr2)⟩, _, rfl, r, _, _, rfl, rfl, s3 _ _ hr2, hz, out ++ [v], _, _, rfl, t1, t2, t3, t4⟩
    · have hv : Bd 200 ((ns.getD (0 + (i : Int)).toNat 0 + (0 + (i : Int))) % 11 - 5) := by
        refine Bd.of_le 11 (by omega) (by decide)
      obtain ⟨t1, t2, t3, t4⟩ := step H2 _ (Same.refl _) hv
      exact ⟨_, rfl, .inl ⟨rfl, _, SqL.of hr2⟩, _, rfl, r, _, _, rfl, rfl, hr2, hz, out ++ [_], _, _, rfl, t1, t2, t3, t4⟩
  · rintro σ H2 ⟨out, v2, v3, rfl, s2, hr2, ho, hb⟩
    rw [hl] at ho
    have ho' : out.length = ns.length := by omega
    refine ⟨_, rfl, (by show 0 <= sizeLine; decide), fun p hp => ?_⟩
    have s3 : Same H2 (upd H2 p (.lst [])) := aQ hp _
    have hr3 := s3 _ _ hr2
    refine ⟨r, p, out, [], rfl, rfl, SqL.of hr3, SqL.of aH, _, rfl, ?_⟩
    by_cases he : out = []
    · rw [decide_eq_true he]
      refine dJ (dJ ⟨_, rfl, ?_⟩)
      exact q r _ out (s2.trans s3) hr0 hr3 ho' hb (fun h => absurd he h)
    · rw [decide_eq_false he]
      refine lU ⟨_, rfl, _, rfl, r, _, _, _, rfl, rfl, SqL.of hr3, cQ he, rfl, _, rfl, ?_⟩
      have hn : out.length ≠ 0 := fun h => he (List.eq_nil_of_length_eq_zero h)
      refine bQ (fun c => ?_) (fun c => ?_)
      · refine ⟨_, rfl, _, rfl, r, _, _, _, rfl, rfl, hr3, Ho (by rw [List.length_map]; exact hn), ?_⟩
        refine ⟨_, rfl, q r _ (out.set (out.length - 1) 7) (fun b o e => ?_) hr0 ?_ (by rw [List.length_set]; exact ho') (fun x hx => ?_) (fun _ => ?_)⟩
        · rw [bK (bU e hr0)]
          exact s3 _ _ (s2 _ _ e)
        · rw [aH, map_set, List.length_map]
        · rcases List.mem_or_eq_of_mem_set hx with hx | hx
          · exact hb x hx
          · rw [hx]; exact Bd.of_le 7 (by decide) (by decide)
        · rw [List.length_set, List.getD_eq_getElem?_getD, List.getElem?_set_self (by omega)]
          decide
      · refine ⟨_, rfl, q r _ out (s2.trans s3) hr0 hr3 ho' hb (fun _ z => ?_)⟩
        exact c (decide_eq_true (by rw [z]))
theorem scCC : aZ ["curve"] ["curve"] (aB eZ) := ⟨rfl, rfl, rfl, by decide +kernel, rfl, by decide +kernel, by decide +kernel⟩
theorem JZ (B : Bl mg) (F : Fun K "check_curve" "check_curve" eZ f fd) : bw P w K mg base CX0 1 f fd ["curve"] (aR K) := by
  refine F.ok scCC (fun vs H Q E h => ?_) (fun cdv A outer s H vs Q E hr h => ?_)
  · obtain ⟨a, c, rfl, _⟩ := h
    rfl
  obtain ⟨a, c, rfl, hA, hg, q⟩ := h
  refine ⟨_, (aA (bL (PW.pt (gC (aJ iK (aO aV rfl B.fX cI (aj (pv 0) aq)) au (aP _)) (fj (aJ cg (bT bY (pv 0) (dI cF au) (fun _ _ => rfl)) au (aP _)))))
    (aA (j7))
    bB)), ?_⟩
  have hl : (c.map V.int).length = c.length := List.length_map _
  refine ⟨_, rfl, a, _, rfl, .inl hA, _, _, rfl, rfl, _, rfl, ?_⟩
  refine bQ (fun e => ?_) (fun e => ?_)
  · have e' : (0 : Int) < (((c.map V.int).length : Nat) : Int) := of_decide_eq_true e
    rw [hl] at e'
    have hne : c ≠ [] := fun z => by rw [z] at e'; exact absurd e' (by decide)
    refine ⟨_, rfl, _, rfl, a, _, _, _, rfl, rfl, hA, cQ hne, rfl, _, rfl, ?_⟩
    refine bQ (fun z => ?_) (fun z => q)
    have z' := of_decide_eq_true z
    injection z' with z'
    exact absurd z' (hg hne)
  · exact dJ q
theorem scNN : aZ ["curve"] ["curve"] (aB iW) := ⟨rfl, rfl, rfl, by decide +kernel, rfl, by decide +kernel, by decide +kernel⟩
theorem JQ (B : Bl mg) (F : Fun K "check_not_nought" "check_not_nought" iW f fd) : bw P w K mg base CX0 1 f fd ["curve"] (bV K) := by
  refine F.ok scNN (fun vs H Q E h => ?_) (fun cdv A outer s H vs Q E hr h => ?_)
  · obtain ⟨a, c, rfl, _⟩ := h
    rfl
  obtain ⟨a, c, rfl, hA, hne, q⟩ := h
  refine ⟨_, (aA (bL (aJ cg (aO aV rfl B.fX cI (aj (pv 0) aq)) au (aP _))
    (aA (j7))
    bB)), ?_⟩
  refine ⟨_, rfl, a, _, rfl, .inl hA, rfl, _, rfl, bQ (fun z => ?_) (fun z => q)⟩
  have z' := of_decide_eq_true z
  injection z' with z'
  rw [List.length_map] at z'
  exact absurd (List.eq_nil_of_length_eq_zero (by omega)) hne
theorem scCP : aZ ["place"] ["place"] (aB eY) := ⟨rfl, rfl, rfl, by decide +kernel, rfl, by decide +kernel, by decide +kernel⟩
theorem JT (F : Fun K "check_place" "check_place" eY f fd) : bw P w K mg base CX0 1 f fd ["place"] (dj K) := by
  refine F.ok scCP (fun vs H Q E h => ?_) (fun cdv A outer s H vs Q E hr h => ?_)
  · obtain ⟨d, p, q, rfl, _⟩ := h
    rfl
  obtain ⟨d, p, q, rfl, hD, hq, k⟩ := h
  refine ⟨_, (aA (bL (aJ gB (bT cG (pv 0) au (fun _ _ => rfl)) au (aP _))
    (aA (j7))
    bB)), ?_⟩
  refine ⟨_, rfl, d, _, _, _, rfl, rfl, hD, rfl, _, _, rfl, rfl, _, rfl, ?_⟩
  refine bQ (fun z => ?_) (fun z => k)
  exact absurd (of_decide_eq_true z) (by omega)
theorem scCS : aZ ["low", "high"] ["low", "high"] (aB d7) := ⟨rfl, rfl, rfl, by decide +kernel, rfl, by decide +kernel, by decide +kernel⟩
theorem JR (eG : FnAt P w K mg base 1 "check_place" ["place"] (dj K)) (F : Fun K "check_stretch" "check_stretch" d7 f fd) : bw P w K mg base CX0 2 f fd ["low", "high"] (dF K) := by
  refine F.ok scCS (fun vs H Q E h => ?_) (fun cdv A outer s H vs Q E hr h => ?_)
  · obtain ⟨d, e, p, q, r, t, B, rfl, _⟩ := h
    rfl
  obtain ⟨d, e, p, q, r, t, B, rfl, hD, hE, hq, ht, bp, bq, br, bt, hB, hle, k⟩ := h
  refine ⟨_, (ak (aD (aC eG hr rfl (aj (pv 0) aq)))
  (ak (aD (aC eG hr rfl (aj (pv 1) aq)))
  (aA (bL (aJ gB (bh cX (bT cG (pv 1) au (fun _ _ => rfl)) (bT cG (pv 0) au (fun _ _ => rfl))) (bh cX (bT cG (pv 0) au (fun _ _ => rfl)) (bT cG (pv 1) au (fun _ _ => rfl))) (aP _))
    (aA (j7))
    bB)))), ?_⟩
  refine ⟨_, rfl, d, p, q, rfl, hD, hq, ?_⟩
  refine ⟨_, rfl, e, r, t, rfl, hE, ht, ?_⟩
  refine ⟨_, rfl, e, _, _, _, rfl, rfl, hE, rfl, _, rfl, d, _, _, _, rfl, rfl, hD, rfl, _, _, rfl, rfl, br.fZ bq, _, rfl, d, _, _, _, rfl, rfl, hD, rfl, _, rfl, e, _, _, _, rfl, rfl, hE, rfl, _, _, rfl, rfl, bp.fZ bt, _, _, rfl, rfl, _, rfl, bQ (fun z => ?_) (fun z => ?_)⟩
  · have z' : r * q < p * t := of_decide_eq_true z
    omega
  · exact k
theorem scCF : aZ ["fine"] ["fine"] (aB fO) := ⟨rfl, rfl, rfl, by decide +kernel, rfl, by decide +kernel, by decide +kernel⟩
theorem JV (F : Fun K "check_fine" "check_fine" fO f fd) : bw P w K mg base CX0 1 f fd ["fine"] g_ := by
  refine F.ok scCF (fun vs H Q E h => ?_) (fun cdv A outer s H vs Q E hr h => ?_)
  · obtain ⟨k, rfl, _⟩ := h
    rfl
  obtain ⟨k, rfl, hk, q⟩ := h
  refine ⟨_, (aA (bL (aJ gB (pv 0) au (aP _))
    (aA (j7))
    bB)), ?_⟩
  refine ⟨_, rfl, _, _, rfl, rfl, _, rfl, ?_⟩
  refine bQ (fun z => ?_) (fun z => q)
  exact absurd (of_decide_eq_true z) (by omega)
theorem scSO : aZ ["number"] ["number"] (aB kY) := ⟨rfl, rfl, rfl, by decide +kernel, rfl, by decide +kernel, by decide +kernel⟩
theorem ok_so (F : Fun K "sign_of" "sign_of" kY f fd) : bw P w K mg base CX0 1 f fd ["number"] qM := by
  refine F.ok scSO (fun vs H Q E h => ?_) (fun cdv A outer s H vs Q E hr h => ?_)
  · obtain ⟨n, rfl, _⟩ := h
    rfl
  obtain ⟨n, rfl, q⟩ := h
  refine ⟨_, (ak (bL (aJ iK (pv 0) au (aP _))
    (aA (bA au))
    bB)
  (ak (bL (aJ gB (pv 0) au (aP _))
    (aA (bA (dI cF au)))
    bB)
  (aA (bA au)))), ?_⟩
  unfold sgn at q
  refine ⟨_, rfl, _, _, rfl, rfl, _, rfl, bQ (fun z => ?_) (fun z => ?_)⟩
  · have z' : 0 < n := of_decide_eq_true z
    rw [if_pos z'] at q
    exact q
  · have z' : ¬ 0 < n := of_decide_eq_false (Bool.eq_false_iff.mpr z)
    rw [if_neg z'] at q
    refine ⟨_, rfl, _, _, rfl, rfl, _, rfl, bQ (fun y => ?_) (fun y => ?_)⟩
    · have y' : n < 0 := of_decide_eq_true y
      rw [if_pos y'] at q
      exact ⟨_, rfl, q⟩
    · have y' : ¬ n < 0 := of_decide_eq_false (Bool.eq_false_iff.mpr y)
      rw [if_neg y'] at q
      exact q
theorem yJ : aZ ["curve", "place", "value", "scale", "at"] ["curve", "place"] (aB jB) := ⟨rfl, rfl, rfl, by decide +kernel, rfl, by decide +kernel, by decide +kernel⟩
theorem Fq (B : Bl mg) (aN : FnAt P w K mg base 1 "check_curve" ["curve"] (aR K)) (eG : FnAt P w K mg base 1 "check_place" ["place"] (dj K)) (Ef : FnAt P w K mg base 1 "sign_of" ["number"] qM)
    (F : Fun K "sign_at" "sign_at" jB f fd) : bw P w K mg base CX0 2 f fd ["curve", "place"] (gJ K) := by
  refine F.ok yJ (fun vs H Q E h => ?_) (fun cdv A outer s H vs Q E hr h => ?_)
  · obtain ⟨a, d, c, p, q, B0, rfl, _⟩ := h
    rfl
  obtain ⟨a, d, c, p, q, B0, rfl, hA, hD, hz, hb, hp, hq, hB0, hg, h0, k⟩ := h
  refine ⟨_, (ak (aD (aC aN hr rfl (aj (pv 0) aq)))
  (ak (aD (aC eG hr rfl (aj (pv 1) aq)))
  (ak (aK (i := 2) yJ.nd rfl (Or.inl rfl) au)
  (ak (aK (i := 3) yJ.nd rfl (Or.inl rfl) au)
  (ak (gD PassesOwn.never rfl (oZ rfl B.mD (aj (bh fB (aO aV rfl B.fX cI (aj (pv 0) aq)) au) (aj (dI cF au) (aj (dI cF au) aq)))) (cP (i := 4) yJ.nd rfl (Or.inl rfl))
    (ak (aK (i := 2) yJ.nd rfl (Or.inl rfl) (bh cU (bh cX (pv 2) (bT cG (pv 1) au (fun _ _ => rfl))) (bh cX (bT bY (pv 0) (pv 4) (fun _ _ => rfl)) (pv 3))))
    (aA (aK (i := 3) yJ.nd rfl (Or.inl rfl) (bh cX (pv 3) (bT cG (pv 1) au (fun _ _ => rfl)))))))
  (aA (bA (aC Ef hr rfl (aj (pv 2) aq))))))))), ?_⟩
  have hl : (c.map V.int).length = c.length := List.length_map _
  have hp' := hp
  have hq' := hq
  refine ⟨_, rfl, a, c, rfl, hA, hg, ?_⟩
  refine ⟨_, rfl, d, p, q, rfl, hD, h0, ?_⟩
  refine ⟨_, rfl, a, _, rfl, .inl hA, _, _, rfl, rfl, _, rfl, _, rfl, _, _, rfl, ⟨by omega, by omega, by omega, by omega⟩, rz (hi := (((c.map V.int).length : Nat) : Int) - 1) (n := ((((c.map V.int).length : Nat) : Int) - 1 - -1).toNat)
    (fun i σ H2 => ∃ (v4 : Option V), σ = [some (.ref a), some (.ref d), some (.int (hv p q (c.drop (c.length - i)))), some (.int (q ^ i)), v4] /\ H2 = H) ⟨none, ?_, rfl⟩ ?_ ?_⟩
  · rw [Nat.sub_zero, List.drop_length, Int.pow_zero]
    rfl
  · rintro i σ H2 hi ⟨v4, rfl, rfl⟩
    rw [hl] at hi
    have hi' : i < c.length := by omega
    have hix : atI (c.map V.int) ((((c.map V.int).length : Nat) : Int) - 1 - (i : Int)) = some (.int (c.getD (c.length - 1 - i) 0)) := by
      rw [hl]
      have := fH (ns := c) (k := ((c.length : Nat) : Int) - 1 - (i : Int)) (by omega) (by omega)
      rw [show (((c.length : Nat) : Int) - 1 - (i : Int)).toNat = c.length - 1 - i by omega] at this
      exact this
    have hx : Bd B0 (c.getD (c.length - 1 - i) 0) := hb _ (pQ (by omega))
    have hv1 : Bd ((B0 + 3) * (c.drop (c.length - i)).length + 1) (hv p q (c.drop (c.length - i))) := J7 hp' hq' fun x hx => hb x (List.mem_of_mem_drop hx)
    have hld : (c.drop (c.length - i)).length = i := by rw [List.length_drop]; omega
    rw [hld] at hv1
    have hq2 := hq.pow i
    have hm1 : (B0 + 3) * i <= 1000003 * 64 := Nat.mul_le_mul (by omega) (by omega)
    have hm2 : B0 * i <= 1000000 * 64 := Nat.mul_le_mul (by omega) (by omega)
    have e1 : c.length - (i + 1) = c.length - 1 - i := by omega
    have e2 : c.length - 1 - i + 1 = c.length - i := by omega
    have e3 : c.length - 1 - (c.length - 1 - i) = i := by omega
    have step := Jb p q c (i := c.length - 1 - i) (by omega)
    rw [e2, e3] at step
    refine ⟨_, rfl, _, rfl, d, _, _, _, rfl, rfl, hD, rfl, _, _, rfl, rfl, hv1.fZ hp', _, rfl, _, rfl, a, _, _, _, rfl, rfl, hA, hix, _, rfl, _, _, rfl, rfl, hx.fZ hq2, _, _, rfl, rfl, ?_⟩
    refine ⟨_, rfl, _, rfl, d, _, _, _, rfl, rfl, hD, rfl, _, _, rfl, rfl, hq2.fZ hq, ?_⟩
    refine ⟨some (.int ((((c.map V.int).length : Nat) : Int) - 1 - (i : Int))), ?_, rfl⟩
    rw [e1, step, Int.pow_succ]
    rfl
  · rintro σ H2 ⟨v4, rfl, rfl⟩
    refine ⟨_, rfl, _, rfl, ?_⟩
    have e : c.length - ((((c.map V.int).length : Nat) : Int) - 1 - -1).toNat = 0 := by rw [hl]; omega
    rw [e, List.drop_zero]
    exact k
theorem Am : aZ ["curve"] ["curve"] (aB mj) := ⟨rfl, rfl, rfl, by decide +kernel, rfl, by decide +kernel, by decide +kernel⟩
theorem wV (B : Bl mg) (aN : FnAt P w K mg base 1 "check_curve" ["curve"] (aR K)) (F : Fun K "slope" "slope" mj f fd) : bw P w K mg base CX0 2 f fd ["curve"] (jw K) := by
  refine F.ok Am (fun vs H Q E h => ?_) (fun cdv A outer s H vs Q E hr h => ?_)
  · obtain ⟨a, c, rfl, _⟩ := h
    rfl
  obtain ⟨a, c, rfl, hS, hg, hz, q⟩ := h
  refine ⟨_, (ak (aD (aC aN hr rfl (aj (pv 0) aq)))
  (aA (bA (z_ (N := ["curve"]) (fr := [0]) (oR (by with_unfolding_all rfl) (by decide +kernel) rfl (by decide +kernel) rfl (by decide +kernel) (yP rfl wF) rfl ⟨⟨rfl, rfl, rfl⟩, trivial⟩ rfl rfl)
    (CQ rfl B.mD (aj au (aj (aO aV rfl B.fX cI (aj (pv 0) aq)) aq)))
    (fun _ _ _ _ _ => bh cX (pv 0) (bT (r := Kw K) bY (pv 1) (pv 0) (fun _ _ => rfl))))))), ?_⟩
  have hl : (c.map V.int).length = c.length := List.length_map _
  refine ⟨_, rfl, a, c, rfl, hS, hg, ?_⟩
  refine ⟨_, rfl, a, _, rfl, .inl hS, _, _, rfl, ⟨by omega, by omega, by omega, by omega⟩, Hi (fun i => .int ((1 + (i : Int)) * c.getD (i + 1) 0)) (by rw [hl]; omega) ?_ ?_⟩
  · intro i v0 H2 Q2 hi s2 q2
    rw [hl] at hi
    have hix : atI (c.map V.int) (1 + (i : Int)) = some (.int (c.getD (i + 1) 0)) := by
      have := fH (ns := c) (k := 1 + (i : Int)) (by omega) (by omega)
      rw [show (1 + (i : Int)).toNat = i + 1 by omega] at this
      exact this
    refine ⟨_, rfl, _, rfl, _, rfl, a, _, _, _, rfl, rfl, s2.seq hS, hix, _, _, rfl, rfl, IntMulOk.of_left (intBits_le_64 (by omega) (by omega)), q2⟩
  · intro D H' hD s2 hd
    refine q D H' hD s2 ?_
    rw [hd]
    congr 2
    rw [hl]
    unfold aM
    rw [List.map_map, show (((c.length : Nat) : Int) - 1).toNat = c.length - 1 by omega]
    rfl
theorem tH : aZ ["first", "second", "high", "low", "rest"] ["first", "second"] (aB Cd) := ⟨rfl, rfl, rfl, by decide +kernel, rfl, by decide +kernel, by decide +kernel⟩
theorem Lr (B : Bl mg) (F : Fun K "greatest_in_both" "greatest_in_both" Cd f fd) : bw P w K mg base CX0 1 f fd ["first", "second"] En := by
  refine F.ok tH (fun vs H Q E h => ?_) (fun cdv A outer s H vs Q E hr h => ?_)
  · obtain ⟨a, b, rfl, _⟩ := h
    rfl
  obtain ⟨a, b, rfl, q⟩ := h
  refine ⟨_, (ak (aK (i := 2) tH.nd rfl (Or.inl rfl) (aO gZ rfl B.wG jV (aj (pv 0) aq)))
  (ak (aK (i := 3) tH.nd rfl (Or.inl rfl) (aO gZ rfl B.wG jV (aj (pv 1) aq)))
  (ak (gU PassesOwn.never (aJ iK (pv 3) au (aP _))
    (ak (aK (i := 4) tH.nd rfl (Or.inl rfl) (bh gF (pv 2) (pv 3)))
    (ak (aK (i := 2) tH.nd rfl (Or.inl rfl) (pv 3))
    (aA (aK (i := 3) tH.nd rfl (Or.inl rfl) (pv 4))))))
  (aA (bA (pv 2)))))), ?_⟩
  refine ⟨_, rfl, _, rfl, ?_⟩
  refine ⟨_, rfl, _, rfl, ?_⟩
  refine Gq (fun σ H2 => ∃ (x y : Int) (v4 : Option V), σ = [some (.int a), some (.int b), some (.int x), some (.int y), v4] /\ 0 <= x /\ 0 <= y /\ Int.gcd x y = Int.gcd a b /\ H2 = H)
    (fun (σ : St) (_ : Hp) => match (σ[3]? : Option (Option V)) with | some (some (V.int y)) => y.toNat | _ => 0) ⟨_, _, none, rfl, Gj a, Gj b, Je a b, rfl⟩ ?_ (fun σ H Q Q' hq ⟨v, e, i, j, e1, e2, k, e3, q⟩ => ⟨v, e, i, j, e1, e2, k, e3, hq _ _ q⟩)
  rintro σ H2 ⟨x, y, v4, rfl, hx, hy, hg, rfl⟩
  refine ⟨_, rfl, _, _, rfl, rfl, _, rfl, bQ (fun c => ?_) (fun c => ?_)⟩
  · have c' : 0 < y := of_decide_eq_true c
    refine ⟨_, rfl, _, rfl, _, _, rfl, rfl, c', ?_⟩
    refine ⟨_, rfl, _, rfl, ⟨y, x % y, _, rfl, hy, Int.emod_nonneg x (by omega), by rw [Hr hx c', hg], rfl⟩, ?_⟩
    have h2 := Int.emod_lt_of_pos x c'
    have h3 := Int.emod_nonneg x (show y ≠ 0 by omega)
    show (x % y).toNat < y.toNat
    omega
  · have c' : ¬ 0 < y := of_decide_eq_false (Bool.eq_false_iff.mpr c)
    have y0 : y = 0 := by omega
    subst y0
    refine ⟨_, rfl, ?_⟩
    rw [Int.gcd_zero_right] at hg
    rw [<- hg] at q
    have e : ((x.natAbs : Nat) : Int) = x := Int.natAbs_of_nonneg hx
    rw [e] at q
    exact q
theorem m6 : aZ ["curve", "divisor", "number"] ["curve"] (aB jR) := ⟨rfl, rfl, rfl, by decide +kernel, rfl, by decide +kernel, by decide +kernel⟩
theorem tW (hN : base.NoSeer) (hT : P.given.tree = none) (aN : FnAt P w K mg base 1 "check_curve" ["curve"] (aR K)) (mR : FnAt P w K mg base 1 "greatest_in_both" ["first", "second"] En) (F : Fun K "plain" "plain" jR f fd) :
    bw P w K mg base CX0 40 f fd ["curve"] (gR K) := by
  refine F.ok m6 (fun vs H Q E h => ?_) (fun cdv A outer s H vs Q E hr h => ?_)
  · obtain ⟨a, c, rfl, _⟩ := h
    rfl
  obtain ⟨a, c, rfl, hS, hg, hz, q⟩ := h
  have hdp : (A.deeper (PyProof.Rows.envOfC "plain" (aB jR) s.heap.objs.size f cdv)).depth + 100 < recursionLimit := by have := hr.dp; omega
  refine ⟨_, (ak (aD (aC aN hr rfl (aj (pv 0) aq)))
  (ak (aK (i := 1) m6.nd rfl (Or.inr rfl) au)
  (ak (gD PassesOwn.never rfl (gq (pv 0)) (cP (i := 2) m6.nd rfl (Or.inl rfl))
    (aA (aK (i := 1) m6.nd rfl (Or.inr rfl) (aC mR hr rfl (aj (pv 2) (aj (pv 1) aq))))))
  (aA (bA (z_ (N := ["divisor"]) (fr := [1]) (oR (by with_unfolding_all rfl) (by decide +kernel) rfl (by decide +kernel) rfl (by decide +kernel) (yP rfl wF) rfl ⟨⟨rfl, rfl, rfl⟩, trivial⟩ rfl rfl)
    (gq (pv 0)) (fun _ _ _ _ _ => bh (nH hN hT rfl rfl rfl rfl rfl hdp) (pv 0) (pv 1)))))))), ?_⟩
  have hl : (c.map V.int).length = c.length := List.length_map _
  refine ⟨_, rfl, a, c, rfl, hS, hg, ?_⟩
  refine ⟨_, rfl, a, rfl, ⟨_, hS⟩, nM (K := K) (a := a) (xs := c.map V.int) (fun i σ H2 => ∃ v2 : Option V, σ = [some (.ref a), some (.int (ct (c.take i))), v2] /\ H2 = H) ⟨none, rfl, rfl⟩ (fun i σ H2 _ ⟨_, _, e⟩ => by rw [e]; exact hS) ?_ ?_⟩
  · rintro i y σ H2 hi ⟨v2, rfl, rfl⟩
    have hil : i < (c.map V.int).length := (List.getElem?_eq_some_iff.mp hi).1
    rw [hl] at hil
    have hy : y = .int (c.getD i 0) := by
      rw [List.getElem?_map, List.getElem?_eq_getElem hil] at hi
      rw [List.getD_eq_getElem?_getD, List.getElem?_eq_getElem hil]
      exact (Option.some.inj hi).symm
    subst hy
    refine ⟨_, rfl, _, rfl, _, _, rfl, ?_⟩
    refine ⟨some (.int (c.getD i 0)), ?_, rfl⟩
    rw [Jo c hil, Int.gcd_comm]
    rfl
  · rintro σ H2 ⟨v2, rfl, rfl⟩
    rw [hl, List.take_length]
    refine ⟨_, rfl, a, rfl, ⟨_, hS⟩, ni (tM (· / ct c)) hS (by rw [hl]; exact hz) ?_ ?_⟩
    · intro y v0 H3 Q2 hy s2 q2
      obtain ⟨n, hn, rfl⟩ := List.mem_map.mp hy
      have hne : c ≠ [] := fun z => by rw [z] at hn; cases hn
      have hc := Jd hg hne
      exact ⟨_, rfl, _, rfl, _, _, rfl, rfl, hc, q2⟩
    · intro D H' hD s2 hd
      refine q D H' hD s2 ?_
      rw [hd, ju]
      rfl
theorem jz : aZ ["curve", "other", "product", "power", "number", "shift", "factor"] ["curve", "other"] (aB lZ) := ⟨rfl, rfl, rfl, by decide +kernel, rfl, by decide +kernel, by decide +kernel⟩
theorem wU (B : Bl mg) (aN : FnAt P w K mg base 1 "check_curve" ["curve"] (aR K)) (F : Fun K "times_curve" "times_curve" lZ f fd) : bw P w K mg base CX0 2 f fd ["curve", "other"] (mY K) := by
  refine F.ok jz (fun vs H Q E h => ?_) (fun cdv A outer s H vs Q E hr h => ?_)
  · obtain ⟨a, b, c, o, rfl, _⟩ := h
    rfl
  obtain ⟨a, b, c, o, rfl, hA, hO, hg, hg2, hz, hb, hb2, q⟩ := h
  refine ⟨_, (ak (aD (aC aN hr rfl (aj (pv 0) aq)))
  (ak (aD (aC aN hr rfl (aj (pv 1) aq)))
  (ak (bL (PW.pt (tK (aJ cg (aO aV rfl B.fX cI (aj (pv 0) aq)) au (aP _)) (oO (aJ cg (aO aV rfl B.fX cI (aj (pv 1) aq)) au (aP _)))))
    (aA (bA (cT aq)))
    bB)
  (ak (aK (i := 2) jz.nd rfl (Or.inl rfl) (bh Fo (cT (aj au aq)) (bh fB (bh cU (aO aV rfl B.fX cI (aj (pv 0) aq)) (aO aV rfl B.fX cI (aj (pv 1) aq))) au)))
  (ak (gD PassesOwn.never rfl (vG rfl B.mL (aj (pv 0) aq)) (qF rfl (fG (cP (i := 3) jz.nd rfl (Or.inl rfl)) (fG (cP (i := 4) jz.nd rfl (Or.inl rfl)) m8)))
    (aA (gD PassesOwn.never rfl (vG rfl B.mL (aj (pv 1) aq)) (qF rfl (fG (cP (i := 5) jz.nd rfl (Or.inl rfl)) (fG (cP (i := 6) jz.nd rfl (Or.inl rfl)) m8)))
      (aA (uR (bh cU (bT bY (pv 2) (bh cU (pv 3) (pv 5)) (fun _ _ => rfl)) (bh cX (pv 4) (pv 6))) (uU (pv 2) (bh cU (pv 3) (pv 5)) set_list))))))
  (aA (bA (pv 2)))))))), ?_⟩
  have hl : (c.map V.int).length = c.length := List.length_map _
  have hl2 : (o.map V.int).length = o.length := List.length_map _
  refine ⟨_, rfl, a, c, rfl, hA, hg, ?_⟩
  refine ⟨_, rfl, b, o, rfl, hO, hg2, ?_⟩
  have nil : (c = [] \/ o = []) -> 0 <= sizeLine /\ ∀ p, H p = none -> Q (.ref p) (upd H p (.lst [])) := fun hn => ⟨Nat.zero_le _, fun p hp => q p _ hp (aQ hp _) (by rw [aH]; unfold Ep; rw [if_pos hn]; rfl)⟩
  refine ⟨_, rfl, a, _, rfl, .inl hA, rfl, _, rfl, bQ (fun e => ?_) (fun e => ?_)⟩
  · have e' := of_decide_eq_true e
    injection e' with e'
    refine lU (nil (.inl ?_))
    rw [hl] at e'
    exact List.eq_nil_of_length_eq_zero (by omega)
  have e0 : c ≠ [] := fun z => e (decide_eq_true (by rw [z]; rfl))
  refine ⟨_, rfl, b, _, rfl, .inl hO, rfl, _, rfl, bQ (fun e2 => ?_) (fun e2 => ?_)⟩
  · have e' := of_decide_eq_true e2
    injection e' with e'
    refine nil (.inr ?_)
    rw [hl2] at e'
    exact List.eq_nil_of_length_eq_zero (by omega)
  have e1 : o ≠ [] := fun z => e2 (decide_eq_true (by rw [z]; rfl))
  have c1 := List.length_pos_iff.mpr e0
  have o1 := List.length_pos_iff.mpr e1
  refine ⟨by show 1 <= sizeLine; decide, fun p hp => ?_⟩
  have s1 : Same H (upd H p (.lst [.int 0])) := aQ hp _
  refine ⟨_, rfl, a, _, rfl, .inl (s1.seq hA), _, rfl, b, _, rfl, .inl (s1.seq hO), _, _, rfl, rfl, _, _, rfl, rfl, p, _, _, rfl, rfl, aH, by omega, by omega, ?_, fun r hr1 => ?_⟩
  · rw [hl, hl2]
    show 1 * _ <= sizeLine
    rw [Nat.one_mul]
    exact small (by omega)
  have hnr : H r = none := s1.free hr1
  have hn : (((((c.map V.int).length : Nat) : Int) + (((o.map V.int).length : Nat) : Int)) - 1).toNat = c.length + o.length - 1 := by rw [hl, hl2]; omega
  have g0 : Same H (upd (upd H p (.lst [.int 0])) r (.lst (List.replicate ((((((c.map V.int).length : Nat) : Int) + (((o.map V.int).length : Nat) : Int)) - 1).toNat) [V.int 0]).flatten)) := s1.trans (aQ hr1 _)
  have start : (List.replicate ((((((c.map V.int).length : Nat) : Int) + (((o.map V.int).length : Nat) : Int)) - 1).toNat) [V.int 0]).flatten = ((List.range (c.length + o.length - 1)).map (part c o 0 0)).map V.int := by
    rw [hn]
    refine List.ext_getElem (by simp) fun i h1 h2 => ?_
    simp [o8, Zf.sumTo]
  refine ⟨_, rfl, a, rfl, ⟨_, g0.seq hA⟩, q_ (K := K) (a := a) (xs := c.map V.int)
    (fun i σ H2 => ∃ v3 v4 v5 v6 : Option V, σ = [some (.ref a), some (.ref b), some (.ref r), v3, v4, v5, v6] /\ Same H H2 /\ H2 r = some (IL ((List.range (c.length + o.length - 1)).map (part c o i 0))))
    ⟨none, none, none, none, rfl, g0, by rw [aH, start]⟩ (fun i σ H2 _ ⟨_, _, _, _, _, s2, _⟩ => s2.seq hA) ?_ ?_⟩
  · rintro i x σ H2 t hi ⟨v3, v4, v5, v6, rfl, s2, hr2⟩ ht
    have hil : i < (c.map V.int).length := (List.getElem?_eq_some_iff.mp hi).1
    rw [hl] at hil
    have hx : x = .int (c.getD i 0) := by
      rw [List.getElem?_map, List.getElem?_eq_getElem hil] at hi
      rw [List.getD_eq_getElem?_getD, List.getElem?_eq_getElem hil]
      exact (Option.some.inj hi).symm
    subst hx
    have s3 : Same H2 (upd H2 t (.tup [.int i, .int (c.getD i 0)])) := aQ ht _
    refine ⟨t, _, rfl, SqT.of aH, rfl, _, _, rfl, _, _, rfl, rfl, ?_⟩
    refine ⟨_, rfl, b, rfl, ⟨_, (s2.trans s3).seq hO⟩, q_ (K := K) (a := b) (xs := o.map V.int)
      (fun j σ H3 => ∃ v5 v6 : Option V, σ = [some (.ref a), some (.ref b), some (.ref r), some (.int i), some (.int (c.getD i 0)), v5, v6] /\ Same H H3 /\ H3 r = some (IL ((List.range (c.length + o.length - 1)).map (part c o i j))))
      ⟨v5, v6, rfl, s2.trans s3, s3 _ _ hr2⟩ (fun j σ H3 _ ⟨_, _, _, s4, _⟩ => s4.seq hO) ?_ ?_⟩
    · rintro j y σ H3 u hj ⟨w5, w6, rfl, s4, hr3⟩ hu
      have hjl : j < (o.map V.int).length := (List.getElem?_eq_some_iff.mp hj).1
      rw [hl2] at hjl
      have hy : y = .int (o.getD j 0) := by
        rw [List.getElem?_map, List.getElem?_eq_getElem hjl] at hj
        rw [List.getD_eq_getElem?_getD, List.getElem?_eq_getElem hjl]
        exact (Option.some.inj hj).symm
      subst hy
      have s5 : Same H3 (upd H3 u (.tup [.int j, .int (o.getD j 0)])) := aQ hu _
      have hr4 := s5 _ _ hr3
      have hlen : ((List.range (c.length + o.length - 1)).map (part c o i j)).length = c.length + o.length - 1 := by simp
      have hix : atI (((List.range (c.length + o.length - 1)).map (part c o i j)).map V.int) ((i : Int) + (j : Int)) = some (.int (part c o i j (i + j))) := by
        have := fH (ns := (List.range (c.length + o.length - 1)).map (part c o i j)) (k := (i : Int) + (j : Int)) (by omega) (by rw [hlen]; omega)
        rw [this, show ((i : Int) + (j : Int)).toNat = i + j by omega]
        simp [List.getD_eq_getElem?_getD, show i + j < c.length + o.length - 1 by omega]
      have hset : ixN (((List.range (c.length + o.length - 1)).map (part c o i j)).map V.int).length ((i : Int) + (j : Int)) = some (i + j) := by
        unfold ixN
        rw [if_pos (by omega), if_pos (by rw [List.length_map, hlen]; omega)]
        congr 1
        all_goals omega
      have bc : Bd 8000 (c.getD i 0) := hb _ (pQ hil)
      have bo : Bd 8000 (o.getD j 0) := hb2 _ (pQ hjl)
      refine ⟨u, _, rfl, SqT.of aH, rfl, _, _, rfl, _, _, rfl, rfl, ?_⟩
      refine ⟨_, rfl, _, rfl, _, rfl, _, _, rfl, rfl, r, _, _, _, rfl, rfl, SqL.of hr4, hix, _, rfl, _, rfl, _, _, rfl, rfl, bc.J2 bo, _, _, rfl, rfl, ?_⟩
      refine ⟨_, rfl, _, rfl, _, rfl, _, _, rfl, rfl, r, _, _, _, rfl, rfl, hr4, hset, ?_⟩
      refine ⟨_, _, rfl, fun z ob e => ?_, ?_⟩
      · rw [bK (bU e hnr)]
        exact s5 _ _ (s4 _ _ e)
      · rw [aH, map_set, CT c o i j _ (by omega)]
    · rintro σ H3 ⟨w5, w6, rfl, s4, hr3⟩
      refine ⟨_, _, _, _, rfl, s4, ?_⟩
      have e : part c o i (o.map V.int).length = part c o (i + 1) 0 := by
        funext t'
        rw [hl2, CV, o8]
      rw [hr3, e]
  · rintro σ H2 ⟨v3, v4, v5, v6, rfl, s2, hr2⟩
    refine ⟨_, rfl, q r H2 hnr s2 ?_⟩
    have e : part c o (c.map V.int).length 0 = fun t => Zf.sumTo (tmc c o t) c.length := by
      funext t'
      rw [hl, o8]
    rw [hr2, e]
    unfold Ep
    rw [if_neg (fun z => z.elim e0 e1)]
    rfl
theorem qd : aZ ["numbers", "other", "factor", "shift", "rest", "power", "number"] ["numbers", "other", "factor", "shift"] (aB oG) := ⟨rfl, rfl, rfl, by decide +kernel, rfl, by decide +kernel, by decide +kernel⟩
theorem Dj (B : Bl mg) (F : Fun K "taken_off" "taken_off" oG f fd) : bw P w K mg base CX0 1 f fd ["numbers", "other", "factor", "shift"] (jZ K) := by
  refine F.ok qd (fun vs H Q E h => ?_) (fun cdv A outer s H vs Q E hr h => ?_)
  · obtain ⟨a, b, num, o, k, s, m, n, rfl, _⟩ := h
    rfl
  obtain ⟨a, b, num, o, k, sh, m, n, rfl, hA, hO, h0, hs, hz, bk, bo, hmn, q⟩ := h
  refine ⟨_, (ak (aK (i := 4) qd.nd rfl (Or.inl rfl) (cB jJ rfl B.Ab ql (aj (pv 0) aq)))
  (ak (gD PassesOwn.never rfl (vG rfl B.mL (aj (pv 1) aq)) (qF rfl (fG (cP (i := 5) qd.nd rfl (Or.inl rfl)) (fG (cP (i := 6) qd.nd rfl (Or.inl rfl)) m8)))
    (aA (uR (bh fB (bT bY (pv 4) (bh cU (pv 3) (pv 5)) (fun _ _ => rfl)) (bh cX (pv 2) (pv 6))) (uU (pv 4) (bh cU (pv 3) (pv 5)) set_list))))
  (aA (bA (pv 4))))), ?_⟩
  obtain ⟨s, rfl⟩ : ∃ s : Nat, sh = s := ⟨sh.toNat, by omega⟩
  have es : ((s : Nat) : Int).toNat = s := by omega
  rw [es] at hs q
  have hl2 : (o.map V.int).length = o.length := List.length_map _
  refine ⟨_, rfl, a, _, rfl, .inl hA, fun r hr1 => ?_⟩
  have s1 : Same H (upd H r (.lst (num.map V.int))) := aQ hr1 _
  have e1 : upd H r (.lst (num.map V.int)) r = some (IL (fW num o k s 0)) := by rw [aH, GX]
  generalize upd H r (.lst (num.map V.int)) = G1 at s1 e1 ⊢
  refine ⟨_, rfl, b, rfl, ⟨_, s1.seq hO⟩, q_ (K := K) (a := b) (xs := o.map V.int)
    (fun j σ H3 => ∃ v5 v6 : Option V, σ = [some (.ref a), some (.ref b), some (.int k), some (.int s), some (.ref r), v5, v6] /\ Same H H3 /\ H3 r = some (IL (fW num o k s j)))
    ⟨none, none, rfl, s1, e1⟩ (fun j σ H3 _ ⟨_, _, _, s4, _⟩ => s4.seq hO) ?_ ?_⟩
  · rintro j y σ H3 u hj ⟨w5, w6, rfl, s4, hr3⟩ hu
    have hjl : j < (o.map V.int).length := (List.getElem?_eq_some_iff.mp hj).1
    rw [hl2] at hjl
    have hy : y = .int (o.getD j 0) := by
      rw [List.getElem?_map, List.getElem?_eq_getElem hjl] at hj
      rw [List.getD_eq_getElem?_getD, List.getElem?_eq_getElem hjl]
      exact (Option.some.inj hj).symm
    subst hy
    have s5 : Same H3 (upd H3 u (.tup [.int j, .int (o.getD j 0)])) := aQ hu _
    have hr4 := s5 _ _ hr3
    have hlen : (fW num o k s j).length = num.length := jd ..
    have hix : atI ((fW num o k s j).map V.int) ((s : Int) + (j : Int)) = some (.int ((fW num o k s j).getD (s + j) 0)) := by
      have := fH (ns := fW num o k s j) (k := (s : Int) + (j : Int)) (by omega) (by rw [hlen]; omega)
      rw [this, show ((s : Int) + (j : Int)).toNat = s + j by omega]
    have hset : ixN ((fW num o k s j).map V.int).length ((s : Int) + (j : Int)) = some (s + j) := by
      unfold ixN
      rw [if_pos (by omega), if_pos (by rw [List.length_map, hlen]; omega)]
      congr 1
      all_goals omega
    refine ⟨u, _, rfl, SqT.of aH, rfl, _, _, rfl, _, _, rfl, rfl, ?_⟩
    refine ⟨_, rfl, _, rfl, _, rfl, _, _, rfl, rfl, r, _, _, _, rfl, rfl, SqL.of hr4, hix, _, rfl, _, rfl, _, _, rfl, rfl, bk.fZ (bo _ (pQ hjl)) hmn, _, _, rfl, rfl, ?_⟩
    refine ⟨_, rfl, _, rfl, _, rfl, _, _, rfl, rfl, r, _, _, _, rfl, rfl, hr4, hset, ?_⟩
    refine ⟨_, _, rfl, fun z ob e => ?_, ?_⟩
    · rw [bK (bU e hr1)]
      exact s5 _ _ (s4 _ _ e)
    · rw [aH, map_set, GZ num o k s j (by omega)]
  · rintro σ H3 ⟨w5, w6, rfl, s4, hr3⟩
    rw [hl2] at hr3
    exact ⟨_, rfl, q r H3 hr1 s4 hr3⟩
theorem yW : aZ ["numbers", "end"] ["numbers"] (aB jo) := ⟨rfl, rfl, rfl, by decide +kernel, rfl, by decide +kernel, by decide +kernel⟩
theorem zG (B : Bl mg) (F : Fun K "trimmed" "trimmed" jo f fd) : bw P w K mg base CX0 1 f fd ["numbers"] (lH K) := by
  refine F.ok yW (fun vs H Q E h => ?_) (fun cdv A outer s H vs Q E hr h => ?_)
  · obtain ⟨a, xs, rfl, _⟩ := h
    rfl
  obtain ⟨a, xs, rfl, hA, hz, q⟩ := h
  refine ⟨_, (ak (aK (i := 1) yW.nd rfl (Or.inl rfl) (aO aV rfl B.fX cI (aj (pv 0) aq)))
  (ak (gU PassesOwn.never (PW.pt (gC (aJ iK (pv 1) au (aP _)) (fj (aJ cg (bT bY (pv 0) (bh fB (pv 1) au) (fun _ _ => rfl)) au (aP _)))))
    (aA (aK (i := 1) yW.nd rfl (Or.inl rfl) (bh fB (pv 1) au))))
  (aA (bA (qU vB (pv 0) Ax (qg (pv 1))))))), ?_⟩
  have hl : (xs.map V.int).length = xs.length := List.length_map _
  refine ⟨_, rfl, a, _, rfl, .inl hA, ?_⟩
  refine ⟨fun m σ2 H2 => σ2 = [some (.ref a), some (.int (m : Nat))] /\ H2 = H /\ m <= xs.length /\ ∀ t, m <= t -> xs.getD t 0 = 0, ⟨xs.length, by rw [<- hl]; rfl, rfl, Nat.le_refl _, fun t ht => q9 ht⟩, ?_⟩
  rintro m σ2 H2 ⟨rfl, rfl, hm, h0⟩
  refine ⟨_, rfl, _, _, rfl, rfl, _, rfl, ?_⟩
  have fin : ∀ e : Nat, e = m -> Trim xs e -> ou 0 [some (V.ref a), some (V.int (m : Nat))] H2 fun v H2 => Ai [some (V.ref a), some (V.int (m : Nat))] H2 fun l H3 => JF (ou 1) [some (V.ref a), some (V.int (m : Nat))] H3 fun u H4 => rSlL K v l u H4 Q := fun e he ht => by
    subst he
    refine ⟨_, rfl, _, rfl, _, rfl, a, _, rfl, hA, fun p hp => ?_⟩
    exact q p _ e hp (aQ hp _) ht (by rw [aH, Hu ht.1])
  refine bQ (fun c => ?_) (fun c => ?_)
  · have c' : (0 : Int) < (m : Nat) := of_decide_eq_true c
    have hix : atI (xs.map V.int) (((m : Nat) : Int) - 1) = some (.int (xs.getD (m - 1) 0)) := by
      have := fH (ns := xs) (k := ((m : Nat) : Int) - 1) (by omega) (by omega)
      rw [this, show (((m : Nat) : Int) - 1).toNat = m - 1 by omega]
    refine ⟨_, rfl, _, rfl, _, _, rfl, rfl, a, _, _, _, rfl, rfl, hA, hix, rfl, _, rfl, bQ (fun d => ?_) (fun d => ?_)⟩
    · have d' := of_decide_eq_true d
      injection d' with d'
      refine ⟨fun σ' H' => σ' = [some (.ref a), some (.int (((m : Nat) : Int) - 1))] /\ H' = H2, fun σ' H' ⟨a1, a2⟩ => ⟨m - 1, by omega, ?_, a2, by omega, fun t ht => ?_⟩, ?_⟩
      · rw [a1, show (((m : Nat) : Int) - 1) = ((m - 1 : Nat) : Int) by omega]
      · by_cases ht' : t = m - 1
        · rw [ht']; exact d'
        · exact h0 t (by omega)
      · exact ⟨_, rfl, _, _, rfl, rfl, rfl, rfl⟩
    · exact fin m rfl ⟨hm, h0, fun _ z => d (decide_eq_true (by rw [z]))⟩
  · have c' : ¬ (0 : Int) < (m : Nat) := of_decide_eq_false (Bool.eq_false_iff.mpr c)
    exact dJ (fin m rfl ⟨hm, h0, fun z => absurd (show m = 0 by omega) z⟩)
theorem HN : aZ ["curve", "other", "scale", "factor", "scaled"] ["curve", "other"] (aB jm) := ⟨rfl, rfl, rfl, by decide +kernel, rfl, by decide +kernel, by decide +kernel⟩
theorem yw (B : Bl mg) (Ec : FnAt P w K mg base 1 "trimmed" ["numbers"] (lH K)) (kj : FnAt P w K mg base 1 "taken_off" ["numbers", "other", "factor", "shift"] (jZ K)) (F : Fun K "without_last" "without_last" jm f fd) :
    bw P w K mg base CX0 2 f fd ["curve", "other"] (mG K) := by
  refine F.ok HN (fun vs H Q E h => ?_) (fun cdv A outer s H vs Q E hr h => ?_)
  · obtain ⟨a, b, c, o, mc, no, rfl, _⟩ := h
    rfl
  obtain ⟨a, b, c, o, mc, no, rfl, hA, hO, hne, hoc, hz, hg, bc, bo, hmn, q⟩ := h
  refine ⟨_, (ak (aK (i := 2) HN.nd rfl (Or.inr rfl) (aO gZ rfl B.wG jV (aj (bT bY (pv 1) (dI cF au) (fun _ _ => rfl)) aq)))
  (ak (aK (i := 3) HN.nd rfl (Or.inl rfl) (qW (aJ iK (bT bY (pv 1) (dI cF au) (fun _ _ => rfl)) au (aP _)) (bT bY (pv 0) (dI cF au) (fun _ _ => rfl)) (dI cF (bT bY (pv 0) (dI cF au) (fun _ _ => rfl)))))
  (ak (JN (N := ["scale"]) (fr := [2]) (i := 4) (oR (by with_unfolding_all rfl) (by decide +kernel) rfl (by decide +kernel) rfl (by decide +kernel) (yP rfl wF) rfl ⟨⟨rfl, rfl, rfl⟩, trivial⟩ rfl rfl) HN.nd rfl (Or.inl rfl)
    (gq (pv 0)) (fun _ _ _ _ _ => bh cX (pv 1) (pv 0)))
  (aA (bA (aC Ec hr rfl (aj (aC kj hr rfl (aj (pv 4) (aj (pv 1) (aj (pv 3) (aj (bh fB (aO aV rfl B.fX cI (aj (pv 0) aq)) (aO aV rfl B.fX cI (aj (pv 1) aq))) aq))))) aq))))))), ?_⟩
  have hl : (c.map V.int).length = c.length := List.length_map _
  have hl2 : (o.map V.int).length = o.length := List.length_map _
  have o1 := List.length_pos_iff.mpr hne
  have hcn : c ≠ [] := fun z => by rw [z] at hoc; exact absurd (Nat.lt_of_lt_of_le o1 hoc) (by decide)
  have c1 := List.length_pos_iff.mpr hcn
  have lo := hg hne
  generalize hL : o.getD (o.length - 1) 0 = L at lo
  generalize hT : c.getD (c.length - 1) 0 = T
  have ao : atI (o.map V.int) (-1) = some (.int L) := by rw [<- hL]; exact cQ hne
  have ac : atI (c.map V.int) (-1) = some (.int T) := by rw [<- hT]; exact cQ hcn
  refine ⟨_, rfl, _, rfl, b, _, _, _, rfl, rfl, hO, ao, _, rfl, ?_⟩
  have fin : ∀ k : Int, (k = T /\ 0 < L \/ k = -T /\ L < 0) -> tSeq (HJ (tLC (J5 K (ou 0)) [2] (tOp (rI IntMulOk fun i j => .int (i * j)) (ou 1) (ou 0))) (pF 4))
      (tRet (wH (lH K) [] E0 (jN (wH (jZ K) [] E0 (jN (ou 4) (jN (ou 1) (jN (ou 3) (jN (tOp (rI0 fun i j => .int (i - j)) (tCB (fun xs H Q => HY K xs H Q) (jN (ou 0) wk)) (tCB (fun xs H Q => HY K xs H Q) (jN (ou 1) wk))) wk))))) wk)))
      { nx := fun _ H' => Q .non H', rt := Q } [some (.ref a), some (.ref b), some (.int (if L < 0 then -L else L)), some (.int k), none] H := by
    intro k hk
    have hl0 : 0 < (if L < 0 then -L else L) := by split <;> omega
    have hlk : (if L < 0 then -L else L) * T = k * L := by
      rcases hk with ⟨rfl, h⟩ | ⟨rfl, h⟩
      · rw [if_neg (by omega), Int.mul_comm]
      · rw [if_pos h, Int.neg_mul, Int.neg_mul, Int.mul_comm]
    have bl : ∀ n, (∀ x ∈ o, Bd n x) -> Bd n (if L < 0 then -L else L) := fun n h => Mu (by rw [<- hL]; exact h _ (pQ (by omega)))
    have bk : ∀ n, (∀ x ∈ c, Bd n x) -> Bd n k := fun n h => by
      have : Bd n T := by rw [<- hT]; exact h _ (pQ (by omega))
      rcases hk with ⟨rfl, _⟩ | ⟨rfl, _⟩
      · exact this
      · exact this.neg
    generalize (if L < 0 then -L else L) = l at hl0 hlk bl
    refine ⟨_, rfl, a, rfl, ⟨_, hA⟩, ni (tM (l * ·)) hA (by rw [hl]; exact hz) ?_ ?_⟩
    · intro y v0 H5 Q2 hy s7 q2
      obtain ⟨n, hn, rfl⟩ := List.mem_map.mp hy
      exact ⟨_, rfl, _, rfl, _, _, rfl, rfl, (bl _ bo).fZ (bc n hn) (by omega), q2⟩
    · intro D G1 hD s1 hd
      rw [ju] at hd
      refine ⟨_, rfl, _, rfl, _, rfl, _, rfl, a, _, rfl, .inl (s1.seq hA), _, rfl, b, _, rfl, .inl (s1.seq hO), _, _, rfl, rfl, ?_⟩
      have hsh : ((((c.map V.int).length : Nat) : Int) - (((o.map V.int).length : Nat) : Int)).toNat = c.length - o.length := by rw [hl, hl2]; omega
      refine ⟨D, b, c.map (l * ·), o, k, _, mc, no, rfl, SqL.of hd, s1.seq hO, by rw [hl, hl2]; omega, by rw [hsh, List.length_map]; omega, by rw [List.length_map]; exact hz, bk _ bc, bo, hmn, fun r2 G2 n2 s2 e2 => ?_⟩
      rw [hsh] at e2
      refine ⟨r2, _, rfl, SqL.of e2, by rw [jd, List.length_map]; exact hz, fun r3 G3 e n3 s3 ht e3 => ?_⟩
      exact q r3 G3 l k e ((s1.trans s2).free n3) ((s1.trans s2).trans s3) hl0 bl bk (Hj hne hoc (by rw [hT, hL]; exact hlk) ht) ht e3
  refine ⟨_, rfl, _, rfl, b, _, _, _, rfl, rfl, hO, ao, _, _, rfl, rfl, _, rfl, bQ (fun z => ?_) (fun z => ?_)⟩
  · have z' : 0 < L := of_decide_eq_true z
    exact ⟨_, rfl, _, rfl, a, _, _, _, rfl, rfl, hA, ac, fin T (.inl ⟨rfl, z'⟩)⟩
  · have z' : ¬ 0 < L := of_decide_eq_false (Bool.eq_false_iff.mpr z)
    exact ⟨_, rfl, _, rfl, a, _, _, _, rfl, rfl, hA, ac, _, rfl, fin (-T) (.inr ⟨rfl, by omega⟩)⟩
theorem uN : aZ ["curve", "other", "rest"] ["curve", "other"] (aB qC) := ⟨rfl, rfl, rfl, by decide +kernel, rfl, by decide +kernel, by decide +kernel⟩
theorem wY (B : Bl mg) (aN : FnAt P w K mg base 1 "check_curve" ["curve"] (aR K)) (aU : FnAt P w K mg base 1 "check_not_nought" ["curve"] (bV K)) (sO : FnAt P w K mg base 2 "without_last" ["curve", "other"] (mG K))
    (iC : FnAt P w K mg base 40 "plain" ["curve"] (gR K)) (F : Fun K "left" "left" qC f fd) : bw P w K mg base CX0 41 f fd ["curve", "other"] (jy K) := by
  refine F.ok uN (fun vs H Q E h => ?_) (fun cdv A outer s H vs Q E hr h => ?_)
  · obtain ⟨a, b, c, o, m, n, rfl, _⟩ := h
    rfl
  obtain ⟨a, b, c, o, m, n, rfl, hA, hO, hg, hgo, hne, hz, hz2, bc, bo, hm, q⟩ := h
  refine ⟨_, (ak (aD (aC aN hr rfl (aj (pv 0) aq)))
  (ak (aD (aC aN hr rfl (aj (pv 1) aq)))
  (ak (aD (aC aU hr rfl (aj (pv 1) aq)))
  (ak (aK (i := 2) uN.nd rfl (Or.inl rfl) (cB jJ rfl B.Ab ql (aj (pv 0) aq)))
  (ak (gU PassesOwn.never (aJ op_ge (aO aV rfl B.fX cI (aj (pv 2) aq)) (aO aV rfl B.fX cI (aj (pv 1) aq)) (aP _))
    (aA (aK (i := 2) uN.nd rfl (Or.inl rfl) (aC sO hr rfl (aj (pv 2) (aj (pv 1) aq))))))
  (aA (bA (aC iC hr rfl (aj (pv 2) aq))))))))), ?_⟩
  refine ⟨_, rfl, a, c, rfl, hA, hg, ?_⟩
  refine ⟨_, rfl, b, o, rfl, hO, hgo, ?_⟩
  refine ⟨_, rfl, b, o, rfl, hO, hne, ?_⟩
  refine ⟨_, rfl, a, _, rfl, .inl hA, fun r hr1 => ?_⟩
  have s1 : Same H (upd H r (.lst (c.map V.int))) := aQ hr1 _
  have e1 : upd H r (.lst (c.map V.int)) r = some (IL c) := aH
  generalize upd H r (.lst (c.map V.int)) = G1 at s1 e1 ⊢
  refine ⟨fun N σ H2 => ∃ (r : Addr) (R : List Int) (x : Int) (d : Nat) (p : PS), σ = [some (.ref a), some (.ref b), some (.ref r)] /\ N = R.length /\ Same H H2 /\ H r = none /\ H2 r = some (IL R) /\ Good R /\ R.length <= c.length /\ (∀ y ∈ R, Bd (m + (n + 1) * (c.length - R.length)) y) /\
    0 < x /\ Dg d p /\ PS.C x * co c = p * co o + co R, ⟨c.length, r, c, 1, 0, 0, rfl, rfl, s1, hr1, e1, hg, Nat.le_refl _, by rw [Nat.sub_self]; exact bc, by decide, fun t _ => PS.dh t, by rw [C_one]; grind⟩, ?_⟩
  rintro N σ H2 ⟨r, R, x, d, p, rfl, rfl, s2, hn2, hr2, hgR, hlR, bR, hx, hd, heq⟩
  have hl : (R.map V.int).length = R.length := List.length_map _
  have hl2 : (o.map V.int).length = o.length := List.length_map _
  have hmul : (n + 1) * (c.length - R.length) <= (n + 1) * c.length := Nat.mul_le_mul_left _ (by omega)
  refine ⟨_, rfl, r, _, rfl, .inl (SqL.of hr2), _, rfl, b, _, rfl, .inl (s2.seq hO), _, _, rfl, rfl, _, rfl, bQ (fun z => ?_) (fun z => ?_)⟩
  · have z' : (((o.map V.int).length : Nat) : Int) <= (((R.map V.int).length : Nat) : Int) := of_decide_eq_true z
    rw [hl, hl2] at z'
    refine ⟨fun σ' H' => ∃ (r3 : Addr) (l k : Int) (e : Nat), σ' = [some (.ref a), some (.ref b), some (.ref r3)] /\ Same H H' /\ H r3 = none /\ 0 < l /\ Bd n l /\ Bd (m + (n + 1) * (c.length - R.length)) k /\ e < R.length /\ Trim (fW (R.map (l * ·)) o k (R.length - o.length) o.length) e /\
      H' r3 = some (IL ((fW (R.map (l * ·)) o k (R.length - o.length) o.length).take e)), ?_, ?_⟩
    · rintro σ' H' ⟨r3, l, k, e, rfl, s3, hn3, hl3, bl, bk, he, ht, hr3⟩
      obtain ⟨x', d', p', hx', hd', heq'⟩ := Dw hx hl3 hd heq (by omega) ht
      have hlt := ht.length
      refine ⟨e, he, r3, _, x', d', p', rfl, hlt.symm, s3, hn3, hr3, ht.good, by rw [hlt]; omega, fun y hy => ?_, hx', hd', heq'⟩
      have b1 := Fv (p := n + (m + (n + 1) * (c.length - R.length))) (I_ bl bR) bo bk (by omega) (R.length - o.length) o.length y (List.mem_of_mem_take hy)
      refine b1.mono ?_
      rw [hlt]
      have h5 : (n + 1) * (c.length - R.length) + (n + 1) <= (n + 1) * (c.length - e) := by
        rw [<- Nat.mul_succ]
        exact Nat.mul_le_mul_left _ (by omega)
      omega
    · refine ⟨_, rfl, _, rfl, r, b, R, o, _, n, rfl, SqL.of hr2, s2.seq hO, hne, by omega, by omega, hgo, bR, bo, by omega, fun r3 H3 l k e n3 s3 hl3 bl bk he ht hr3 => ?_⟩
      exact ⟨r3, l, k, e, rfl, s2.trans s3, s2.free n3, hl3, bl n bo, bk _ bR, he, ht, hr3⟩
  · have z' : ¬ (((o.map V.int).length : Nat) : Int) <= (((R.map V.int).length : Nat) : Int) := of_decide_eq_false (Bool.eq_false_iff.mpr z)
    rw [hl, hl2] at z'
    refine ⟨_, rfl, r, R, rfl, SqL.of hr2, hgR, by omega, fun r3 H3 n3 s3 hr3 => ?_⟩
    exact q r3 H3 R (s2.free n3) (s2.trans s3) ⟨hgR, by omega, x, d, p, hx, hd, heq⟩ hlR (fun y hy => (bR y hy).mono (by omega)) hr3
theorem scAb : aZ ["curve"] ["curve"] (aB oN) := ⟨rfl, rfl, rfl, by decide +kernel, rfl, by decide +kernel, by decide +kernel⟩
theorem GR (B : Bl mg) (F : Fun K "with_last_above" "with_last_above" oN f fd) : bw P w K mg base CX0 1 f fd ["curve"] (vA K) := by
  refine F.ok scAb (fun vs H Q E h => ?_) (fun cdv A outer s H vs Q E hr h => ?_)
  · obtain ⟨a, c, rfl, _⟩ := h
    rfl
  obtain ⟨a, c, rfl, hA, hz, q⟩ := h
  refine ⟨_, (ak (bL (PW.pt (gC (aJ iK (aO aV rfl B.fX cI (aj (pv 0) aq)) au (aP _)) (fj (aJ gB (bT bY (pv 0) (dI cF au) (fun _ _ => rfl)) au (aP _)))))
    (aA (bA (z_ (N := []) (fr := []) (oR (by with_unfolding_all rfl) (by decide +kernel) rfl (by decide +kernel) rfl (by decide +kernel) wF rfl trivial rfl rfl) (gq (pv 0)) (fun _ _ _ _ _ => dI cF (pv 0)))))
    bB)
  (aA (bA (pv 0)))), ?_⟩
  have hl : (c.map V.int).length = c.length := List.length_map _
  refine ⟨_, rfl, a, _, rfl, .inl (SqL.of hA), _, _, rfl, rfl, _, rfl, bQ (fun e => ?_) (fun e => ?_)⟩
  · have e' : (0 : Int) < (((c.map V.int).length : Nat) : Int) := of_decide_eq_true e
    rw [hl] at e'
    have hne : c ≠ [] := fun z => by rw [z] at e'; exact absurd e' (by decide)
    refine ⟨_, rfl, _, rfl, a, _, _, _, rfl, rfl, SqL.of hA, cQ hne, _, _, rfl, rfl, _, rfl, bQ (fun z => ?_) (fun z => ?_)⟩
    · have z' : c.getD (c.length - 1) 0 < 0 := of_decide_eq_true z
      refine ⟨_, rfl, a, rfl, ⟨_, SqL.of hA⟩, ni (tM (- ·)) (SqL.of hA) (by rw [hl]; exact hz) ?_ ?_⟩
      · intro y v0 H5 Q2 hy s7 q2
        obtain ⟨i, hi, rfl⟩ := List.mem_map.mp hy
        exact ⟨_, rfl, _, rfl, q2⟩
      · intro D G hD sG hd
        refine q D G (.inr hD) sG ?_
        rw [hd, ju]
        unfold ig
        rw [if_pos ⟨hne, z'⟩]
    · have z' : ¬ c.getD (c.length - 1) 0 < 0 := of_decide_eq_false (Bool.eq_false_iff.mpr z)
      refine ⟨_, rfl, q a H (.inl rfl) (Same.refl _) ?_⟩
      rw [hA]
      unfold ig
      rw [if_neg (fun y => z' y.2)]
  · have e' : ¬ (0 : Int) < (((c.map V.int).length : Nat) : Int) := of_decide_eq_false (Bool.eq_false_iff.mpr e)
    rw [hl] at e'
    refine dJ ⟨_, rfl, q a H (.inl rfl) (Same.refl _) ?_⟩
    have hne : c = [] := List.eq_nil_of_length_eq_zero (by omega)
    rw [hA]
    unfold ig
    rw [if_neg (fun y => y.1 hne)]
theorem yI : aZ ["curve", "other", "ahead", "behind", "rest"] ["curve", "other"] (aB jC) := ⟨rfl, rfl, rfl, by decide +kernel, rfl, by decide +kernel, by decide +kernel⟩
theorem rO (B : Bl mg) (aN : FnAt P w K mg base 1 "check_curve" ["curve"] (aR K)) (jX : FnAt P w K mg base 41 "left" ["curve", "other"] (jy K)) (iC : FnAt P w K mg base 40 "plain" ["curve"] (gR K))
    (nY : FnAt P w K mg base 1 "with_last_above" ["curve"] (vA K)) (F : Fun K "shared" "shared" jC f fd) : bw P w K mg base CX0 42 f fd ["curve", "other"] (gK K) := by
  refine F.ok yI (fun vs H Q E h => ?_) (fun cdv A outer s H vs Q E hr h => ?_)
  · obtain ⟨a, b, c, o, La, l, p, q, rfl, _⟩ := h
    rfl
  obtain ⟨a, b, c, o, La, l, p, q, rfl, hA, hO, hg, hgo, hla, hlo, hz, hz2, bc, bo, hgb, fin⟩ := h
  refine ⟨_, (ak (aD (aC aN hr rfl (aj (pv 0) aq)))
  (ak (aD (aC aN hr rfl (aj (pv 1) aq)))
  (ak (aK (i := 2) yI.nd rfl (Or.inl rfl) (pv 0))
  (ak (aK (i := 3) yI.nd rfl (Or.inl rfl) (pv 1))
  (ak (gU PassesOwn.never (aJ iK (aO aV rfl B.fX cI (aj (pv 3) aq)) au (aP _))
    (ak (aK (i := 4) yI.nd rfl (Or.inl rfl) (aC jX hr rfl (aj (pv 2) (aj (pv 3) aq))))
    (ak (aK (i := 2) yI.nd rfl (Or.inl rfl) (pv 3))
    (aA (aK (i := 3) yI.nd rfl (Or.inl rfl) (pv 4))))))
  (aA (bA (aC nY hr rfl (aj (aC iC hr rfl (aj (pv 2) aq)) aq))))))))), ?_⟩
  generalize hG0 : gb l La l p q = G0 at hgb fin
  refine ⟨_, rfl, a, c, rfl, hA, hg, ?_⟩
  refine ⟨_, rfl, b, o, rfl, hO, hgo, ?_⟩
  refine ⟨_, rfl, _, rfl, ?_⟩
  refine ⟨fun N σ H2 => ∃ (r1 r2 : Addr) (x y : List Int) (La l p q : Nat) (v4 : Option V), σ = [some (.ref a), some (.ref b), some (.ref r1), some (.ref r2), v4] /\ Same H H2 /\ SqL K H2 r1 (x.map V.int) /\ SqL K H2 r2 (y.map V.int) /\ Good x /\ Good y /\ x.length <= La /\ y.length <= l /\ l <= N /\ La <= 1000 /\ l <= 1000 /\
    (∀ z ∈ x, Bd p z) /\ (∀ z ∈ y, Bd q z) /\ gb N La l p q <= G0 /\ (∀ g, IsG g (co x) (co y) -> IsG g (co c) (co o)) /\ (x = [] -> y ≠ [] \/ (c = [] /\ o = [])),
    ⟨l, a, b, c, o, La, l, p, q, none, rfl, Same.refl _, hA, hO, hg, hgo, hla, hlo, Nat.le_refl _, hz, hz2, bc, bo, Nat.le_of_eq hG0, fun _ h => h, fun h => by
      by_cases z : o = []
      · exact .inr ⟨h, z⟩
      · exact .inl z⟩, ?_⟩
  rintro N σ H2 ⟨r1, r2, x, y, La, l, p, q, v4, rfl, s2, h1, h2, gx, gy, lx, ly, hN, hz, hz2, bx, by', hgb', hI, hnn⟩
  have hl : (y.map V.int).length = y.length := List.length_map _
  refine ⟨_, rfl, r2, _, rfl, .inl h2, _, _, rfl, rfl, _, rfl, bQ (fun z => ?_) (fun z => ?_)⟩
  · have z' : (0 : Int) < (((y.map V.int).length : Nat) : Int) := of_decide_eq_true z
    rw [hl] at z'
    have yne : y ≠ [] := fun e => by rw [e] at z'; exact absurd z' (by decide)
    obtain ⟨N', rfl⟩ : ∃ N', N = N' + 1 := ⟨N - 1, by omega⟩
    have l0 : l ≠ 0 := by omega
    rw [Jf l0] at hgb'
    have hge := Ad N' l (min La (l - 1)) q (p + (q + 1) * La)
    have hmul : (q + 1) * x.length <= (q + 1) * La := Nat.mul_le_mul_left _ lx
    refine ⟨fun σ' H' => ∃ (r3 : Addr) (R : List Int) (v4 : Option V), σ' = [some (.ref a), some (.ref b), some (.ref r2), some (.ref r3), v4] /\ Same H H' /\ SqL K H' r2 (y.map V.int) /\ Left x y R /\ R.length <= x.length /\ (∀ z ∈ R, Bd (p + (q + 1) * La) z) /\ H' r3 = some (IL (aF R)), ?_, ?_⟩
    · rintro σ' H' ⟨r3, R, w4, rfl, s3, h3, hL, hRx, bR, e3⟩
      refine ⟨N', by omega, r2, r3, y, aF R, l, min La (l - 1), q, p + (q + 1) * La, _, rfl, s3, h3, SqL.of e3, gy, eV hL.1, ly, by rw [bG]; have := hL.2.1; omega, by omega, hz2, by omega, by', gW bR, hgb', fun g hgG => hI g (Hh hL hgG), fun e => absurd e yne⟩
    · refine ⟨_, rfl, _, rfl, r1, r2, x, y, p, q, rfl, h1, h2, gx, gy, yne, by omega, by omega, bx, by', by omega, fun r3 H3 R n3 s3 hL hRx bR e3 => ?_⟩
      exact ⟨_, rfl, _, rfl, r3, R, _, rfl, s2.trans s3, s3.seq h2, hL, hRx, fun u hu => (bR u hu).mono (by omega), e3⟩
  · have z' : ¬ (0 : Int) < (((y.map V.int).length : Nat) : Int) := of_decide_eq_false (Bool.eq_false_iff.mpr z)
    rw [hl] at z'
    have y0 : y = [] := List.eq_nil_of_length_eq_zero (by omega)
    refine ⟨_, rfl, r1, x, rfl, h1, gx, by omega, fun r3 H3 n3 s3 e3 => ?_⟩
    refine ⟨r3, aF x, rfl, e3, by rw [bG]; omega, fun r4 H4 n4 s4 e4 => ?_⟩
    have hge' := Ad N La l p q
    refine fin r4 H4 (ig (aF x)) ?_ ((s2.trans s3).trans s4) ?_ (HF (gW fun z hz => (bx z hz).mono (by omega))) e4
    · rcases n4 with n4 | n4
      · rw [n4]; exact s2.free n3
      · exact (s2.trans s3).free n4
    · by_cases x0 : x = []
      · rcases hnn x0 with e | ⟨e, e'⟩
        · exact absurd y0 e
        · left
          refine ⟨e, e', ?_⟩
          rw [x0]
          rfl
      · refine zB x0 gx (hI _ ?_)
        rw [y0, gj]
        exact IsG.self _
theorem qy : aZ ["curve", "other", "rest", "highest", "quotient", "shift", "factor"] ["curve", "other"] (aB iV) := ⟨rfl, rfl, rfl, by decide +kernel, rfl, by decide +kernel, by decide +kernel⟩
noncomputable def qL (S : PS) (n i : Nat) : List Int := (List.range n).map fun t => if n <= t + i then S t else 0
theorem Im (S : PS) (n : Nat) : qL S n 0 = List.replicate n 0 := by
  refine List.ext_getElem (by simp [qL]) fun i h1 h2 => ?_
  simp only [qL, List.getElem_map, List.getElem_range, List.getElem_replicate]
  rw [if_neg]
  simp [qL] at h1
  omega
theorem Ip (S : PS) (n : Nat) : qL S n n = upto S n := by
  unfold qL upto
  refine List.map_congr_left fun t _ => ?_
  rw [if_pos (by omega)]
theorem CN (S : PS) (n i : Nat) : (qL S n i).length = n := by simp [qL]
theorem Io (S : PS) {n i : Nat} (h : i < n) : (qL S n i).set (n - 1 - i) (S (n - 1 - i)) = qL S n (i + 1) := by
  refine List.ext_getElem (by simp [qL]) fun t h1 h2 => ?_
  simp only [qL, List.length_map, List.length_range] at h2
  rw [List.getElem_set]
  simp only [qL, List.getElem_map, List.getElem_range]
  split
  · rename_i e
    rw [if_pos (by omega), e]
  · split
    · rw [if_pos (by omega)]
    · rw [if_neg (by omega)]
noncomputable def low (S : PS) (k : Nat) : PS := fun t => if t < k then S t else 0
theorem Ma (S : PS) (k : Nat) : Dg k (low S k) := fun t ht => by show (if t < k then S t else 0) = 0; rw [if_neg (by omega)]
theorem Ja {S : PS} {n : Nat} (h : Dg n S) : low S n = S := by
  ext t
  show (if t < n then S t else 0) = S t
  by_cases ht : t < n
  · rw [if_pos ht]
  · rw [if_neg ht, h t (by omega)]
theorem Hg (S : PS) (k : Nat) : low S (k + 1) = low S k + PS.C (S k) * xp k := by
  ext t
  rw [PS.fC, PS.dW]
  show (if t < k + 1 then S t else 0) = (if t < k then S t else 0) + S k * (if t = k then 1 else 0)
  rcases Nat.lt_trichotomy t k with h | h | h
  · rw [if_pos (by omega), if_pos h, if_neg (by omega)]; omega
  · subst h; rw [if_pos (by omega), if_neg (by omega), if_pos rfl]; omega
  · rw [if_neg (by omega), if_neg (by omega), if_neg (by omega)]; omega
theorem zM (hN : base.NoSeer) (hT : P.given.tree = none) (B : Bl mg) (kj : FnAt P w K mg base 1 "taken_off" ["numbers", "other", "factor", "shift"] (jZ K)) (F : Fun K "divided_out" "divided_out" iV f fd) :
    bw P w K mg base CX0 40 f fd ["curve", "other"] (oY K) := by
  refine F.ok qy (fun vs H Q E h => ?_) (fun cdv A outer s H vs Q E hr h => ?_)
  · obtain ⟨a, b, c, o, S, p, G, rfl, _⟩ := h
    rfl
  obtain ⟨a, b, c, o, S, p, G, rfl, hA, hO, hgo, hne, hpos, hlo, hz, hS, hco, bc, bo, hm, q⟩ := h
  have hdp : (A.deeper (PyProof.Rows.envOfC "divided_out" (aB iV) s.heap.objs.size f cdv)).depth + 100 < recursionLimit := by have := hr.dp; omega
  refine ⟨_, (ak (aK (i := 2) qy.nd rfl (Or.inl rfl) (pv 0))
  (ak (aK (i := 3) qy.nd rfl (Or.inl rfl) (bh fB (aO aV rfl B.fX cI (aj (pv 0) aq)) (aO aV rfl B.fX cI (aj (pv 1) aq))))
  (ak (aK (i := 4) qy.nd rfl (Or.inl rfl) (bh Fo (cT (aj au aq)) (bh cU (pv 3) au)))
  (ak (gD PassesOwn.never rfl (oZ rfl B.mD (aj (pv 3) (aj (dI cF au) (aj (dI cF au) aq)))) (cP (i := 5) qy.nd rfl (Or.inl rfl))
    (ak (aK (i := 6) qy.nd rfl (Or.inl rfl) (bh (nH hN hT rfl rfl rfl rfl rfl hdp) (bT bY (pv 2) (bh fB (bh cU (pv 5) (aO aV rfl B.fX cI (aj (pv 1) aq))) au) (fun _ _ => rfl)) (bT bY (pv 1) (dI cF au) (fun _ _ => rfl))))
    (ak (uR (pv 6) (uU (pv 4) (pv 5) set_list))
    (aA (aK (i := 2) qy.nd rfl (Or.inl rfl) (aC kj hr rfl (aj (pv 2) (aj (pv 1) (aj (pv 6) (aj (pv 5) aq))))))))))
  (aA (bA (pv 4))))))), ?_⟩
  have hl : (c.map V.int).length = c.length := List.length_map _
  have hl2 : (o.map V.int).length = o.length := List.length_map _
  have o1 := List.length_pos_iff.mpr hne
  generalize hL : o.getD (o.length - 1) 0 = L at hpos
  have ao : atI (o.map V.int) (-1) = some (.int L) := by rw [<- hL]; exact cQ hne
  have hn : ((((c.map V.int).length : Nat) : Int) - (((o.map V.int).length : Nat) : Int)) = ((c.length - o.length : Nat) : Int) := by rw [hl, hl2]; omega
  refine ⟨_, rfl, _, rfl, a, _, rfl, .inl hA, _, rfl, b, _, rfl, .inl hO, _, _, rfl, rfl, ?_⟩
  dsimp only
  rw [hn]
  generalize hNN : c.length - o.length = N at *
  have hN1 : c.length + 1 - o.length = N + 1 := by omega
  rw [hN1] at hS q
  refine ⟨by show 1 <= sizeLine; decide, fun pz hp => ?_⟩
  have s1 : Same H (upd H pz (.lst [.int 0])) := aQ hp _
  refine ⟨_, rfl, _, _, rfl, rfl, pz, _, _, rfl, rfl, aH, by omega, by omega, ?_, fun r hr1 => ?_⟩
  · show 1 * _ <= sizeLine
    rw [Nat.one_mul]
    exact small (by omega)
  have hnr : H r = none := s1.free hr1
  have start : (List.replicate (((N : Nat) : Int) + 1).toNat [V.int 0]).flatten = (qL S (N + 1) 0).map V.int := by
    rw [Im, show (((N : Nat) : Int) + 1).toNat = N + 1 by omega]
    refine List.ext_getElem (by simp) fun i h1 h2 => ?_
    simp
  dsimp only
  rw [start]
  have g0 : Same H (upd (upd H pz (.lst [.int 0])) r (.lst ((qL S (N + 1) 0).map V.int))) := s1.trans (aQ hr1 _)
  have e0 : upd (upd H pz (.lst [.int 0])) r (.lst ((qL S (N + 1) 0).map V.int)) r = some (IL (qL S (N + 1) 0)) := aH
  generalize upd (upd H pz (.lst [.int 0])) r (.lst ((qL S (N + 1) 0).map V.int)) = G0 at g0 e0 ⊢
  refine ⟨_, rfl, _, rfl, _, rfl, _, _, rfl, ⟨by omega, by omega, by omega, by omega⟩, rz (hi := ((N : Nat) : Int)) (n := (((N : Nat) : Int) - -1).toNat)
    (fun i σ H2 => ∃ (rr : Addr) (R : List Int) (v5 v6 : Option V), σ = [some (.ref a), some (.ref b), some (.ref rr), some (.int ((N : Nat) : Int)), some (.ref r), v5, v6] /\ Same H H2 /\ SqL K H2 rr (R.map V.int) /\ (∀ H3 : Hp, (∀ y ob, y ≠ r -> H2 y = some ob -> H3 y = some ob) -> Same H H3 -> SqL K H3 rr (R.map V.int)) /\ R.length = c.length /\
      co R = low S (N + 1 - i) * co o /\ (∀ x ∈ R, Bd (p + (G + 1) * i) x) /\ H2 r = some (IL (qL S (N + 1) i)) /\ (∀ t, N + 1 <= t + i -> Bd (p + (G + 1) * i) (S t)))
    ⟨a, c, none, none, rfl, g0, g0.seq hA, fun H3 _ s3 => s3.seq hA, rfl, by rw [Nat.sub_zero, Ja hS]; exact hco, by rw [Nat.mul_zero, Nat.add_zero]; exact bc, e0, fun t ht => by rw [hS t (by omega)]; exact Bd.zero _⟩ ?_ ?_⟩
  · rintro i σ H2 hi ⟨rr, R, v5, v6, rfl, s2, hR, hR', hlR, heq, bR, hr2, bS⟩
    have hi' : i < N + 1 := by omega
    obtain ⟨k, hk⟩ : ∃ k, N + 1 - i = k + 1 := ⟨N - i, by omega⟩
    have hk2 : ((N : Nat) : Int) - (i : Int) = (k : Int) := by omega
    dsimp only
    rw [hk2]
    have hmi : (G + 1) * i + (G + 1) <= (G + 1) * c.length := by
      rw [<- Nat.mul_succ]
      exact Nat.mul_le_mul_left _ (by omega)
    have lR : (R.map V.int).length = R.length := List.length_map _
    have top : R.getD (k + (o.length - 1)) 0 = S k * L := by
      have h1 : co R (k + (o.length - 1)) = low S (k + 1) k * co o (o.length - 1) := by
        rw [heq, hk]
        exact gP (Ma S (k + 1)) (by rw [show o.length - 1 + 1 = o.length by omega]; exact Dg.co o)
      rw [show low S (k + 1) k = S k from if_pos (by omega), show co o (o.length - 1) = L from hL] at h1
      exact h1
    have hix : atI (R.map V.int) ((k : Int) + (((o.map V.int).length : Nat) : Int) - 1) = some (.int (S k * L)) := by
      rw [hl2]
      have := fH (ns := R) (k := (k : Int) + ((o.length : Nat) : Int) - 1) (by omega) (by omega)
      rw [show ((k : Int) + ((o.length : Nat) : Int) - 1).toNat = k + (o.length - 1) by omega, top] at this
      exact this
    have ed : S k * L / L = S k := Int.mul_ediv_cancel _ (by omega)
    have bk : Bd (p + (G + 1) * i) (S k) := by
      have b1 : Bd (p + (G + 1) * i) (S k * L) := by rw [<- top]; exact bR _ (pQ (by omega))
      unfold Bd at *
      rw [Int.natAbs_mul] at b1
      have : (S k).natAbs * 1 <= (S k).natAbs * L.natAbs := Nat.mul_le_mul_left _ (by omega)
      omega
    have hset : ixN ((qL S (N + 1) i).map V.int).length (k : Int) = some k := by
      unfold ixN
      rw [if_pos (by omega), if_pos (by rw [List.length_map, CN]; omega)]
      congr 1
    refine ⟨_, rfl, _, rfl, _, rfl, b, _, rfl, .inl (s2.seq hO), _, _, rfl, rfl, _, _, rfl, rfl, rr, _, _, _, rfl, rfl, hR, hix, _, rfl, _, rfl, b, _, _, _, rfl, rfl, s2.seq hO, ao, _, _, rfl, rfl, hpos, ?_⟩
    dsimp only
    rw [ed]
    refine ⟨_, rfl, _, rfl, _, rfl, r, _, _, _, rfl, rfl, hr2, hset, ?_⟩
    have es : ((qL S (N + 1) i).map V.int).set k (.int (S k)) = (qL S (N + 1) (i + 1)).map V.int := by
      rw [map_set, show k = N + 1 - 1 - i by omega, Io S hi']
    dsimp only
    rw [es]
    have s3 : Same H (upd H2 r (.lst ((qL S (N + 1) (i + 1)).map V.int))) := fun z ob e => by
      rw [bK (bU e hnr)]
      exact s2 _ _ e
    have k3 : ∀ y ob, y ≠ r -> H2 y = some ob -> upd H2 r (.lst ((qL S (N + 1) (i + 1)).map V.int)) y = some ob := fun y ob ny e => by rw [bK ny]; exact e
    have e3 : upd H2 r (.lst ((qL S (N + 1) (i + 1)).map V.int)) r = some (IL (qL S (N + 1) (i + 1))) := aH
    generalize upd H2 r (.lst ((qL S (N + 1) (i + 1)).map V.int)) = G3 at s3 k3 e3 ⊢
    refine ⟨_, rfl, _, rfl, _, rfl, _, rfl, rr, b, R, o, S k, (k : Int), p + (G + 1) * i, G, rfl, hR' G3 k3 s3, s3.seq hO, by omega, by omega, by omega, bk, bo, by omega, fun r4 H4 n4 s4 e4 => ?_⟩
    rw [show (k : Int).toNat = k by omega] at e4
    refine ⟨r4, _, _, _, rfl, s3.trans s4, SqL.of e4, fun H5 k5 _ => SqL.of (k5 _ _ (fun z => by rw [z] at n4; rw [n4] at e3; cases e3) e4), by rw [jd]; exact hlR, ?_, ?_, s4 _ _ e3, ?_⟩
    · rw [Ft R o (S k) k (by omega), heq, hk, show N + 1 - (i + 1) = k by omega, Hg]
      grind
    · have := Fv (m := p + (G + 1) * i) (n := G) (p := p + (G + 1) * i + G) (fun x hx => (bR x hx).mono (by omega)) bo bk (Nat.le_refl _) k o.length
      exact fun x hx => (this x hx).mono (by rw [Nat.mul_succ]; omega)
    · intro t ht
      by_cases c1 : N + 1 <= t + i
      · exact (bS t c1).mono (by rw [Nat.mul_succ]; omega)
      · rw [show t = k by omega]
        exact bk.mono (by rw [Nat.mul_succ]; omega)
  · rintro σ H2 ⟨rr, R, v5, v6, rfl, s2, hR, hR', hlR, heq, bR, hr2, bS⟩
    rw [show (((N : Nat) : Int) - -1).toNat = N + 1 by omega, Ip] at hr2
    rw [show (((N : Nat) : Int) - -1).toNat = N + 1 by omega] at bS
    refine ⟨_, rfl, q r H2 hnr s2 hr2 fun x hx => ?_⟩
    obtain ⟨t, ht, rfl⟩ := List.mem_map.mp hx
    refine (bS t (by omega)).mono ?_
    have : (G + 1) * (N + 1) <= (G + 1) * c.length := Nat.mul_le_mul_left _ (by omega)
    omega
theorem JG : aZ ["curve"] ["curve"] (aB jA) := ⟨rfl, rfl, rfl, by decide +kernel, rfl, by decide +kernel, by decide +kernel⟩
theorem tV (aN : FnAt P w K mg base 1 "check_curve" ["curve"] (aR K)) (aU : FnAt P w K mg base 1 "check_not_nought" ["curve"] (bV K)) (iC : FnAt P w K mg base 40 "plain" ["curve"] (gR K)) (jD : FnAt P w K mg base 2 "slope" ["curve"] (jw K))
    (i_ : FnAt P w K mg base 42 "shared" ["curve", "other"] (gK K)) (tG : FnAt P w K mg base 40 "divided_out" ["curve", "other"] (oY K)) (F : Fun K "simple" "simple" jA f fd) : bw P w K mg base CX0 43 f fd ["curve"] (j4 K) := by
  refine F.ok JG (fun vs H Q E h => ?_) (fun cdv A outer s H vs Q E hr h => ?_)
  · obtain ⟨a, c, p, L, rfl, _⟩ := h
    rfl
  obtain ⟨a, c, p, L, rfl, hA, hg, hne, hL, hL30, bc, hm, q⟩ := h
  refine ⟨_, (ak (aD (aC aN hr rfl (aj (pv 0) aq)))
  (ak (aD (aC aU hr rfl (aj (pv 0) aq)))
  (aA (bA (aC tG hr rfl (aj (aC iC hr rfl (aj (pv 0) aq)) (aj (aC i_ hr rfl (aj (pv 0) (aj (aC jD hr rfl (aj (pv 0) aq)) aq))) aq))))))), ?_⟩
  refine ⟨_, rfl, a, c, rfl, hA, hg, ?_⟩
  refine ⟨_, rfl, a, c, rfl, hA, hne, ?_⟩
  have c1 := List.length_pos_iff.mpr hne
  refine ⟨_, rfl, a, c, rfl, hA, hg, by omega, fun r1 H1 n1 s1 e1 => ?_⟩
  refine ⟨_, rfl, _, rfl, a, c, rfl, s1.seq hA, hg, by omega, fun r2 H2 n2 s2 e2 => ?_⟩
  have bs : ∀ x ∈ aM c, Bd (p + 5) x := fun x hx => by
    obtain ⟨i, hi, rfl⟩ := List.mem_map.mp hx
    have hi' : i < c.length - 1 := List.mem_range.mp hi
    have b1 : Bd 5 (1 + (i : Int)) := Bd.of_le 30 (by omega) (by decide)
    exact (b1.mul (bc _ (pQ (by omega)))).mono (by omega)
  have s12 := s1.trans s2
  have hge := Ad (L - 1) L (L - 1) p (p + 5)
  refine ⟨a, r2, c, aM c, L, L - 1, p, p + 5, rfl, s12.seq hA, SqL.of e2, hg, eU hg, hL, by rw [bW]; omega, by omega, by omega, bc, bs, by unfold jL at hm; omega, fun r3 H3 g n3 s3 hsh bg e3 => ?_⟩
  obtain ⟨g0, g1, gl, S, hd, heq, sim⟩ := mJ hne hg hsh
  have gpos : 0 < g.getD (g.length - 1) 0 := by
    rcases hsh with ⟨z, _⟩ | ⟨_, _, _, z, _⟩
    · exact absurd z hne
    · exact z
  have s23 := s2.trans s3
  have hml : (jL p L + 1) * c.length <= (jL p L + 1) * L := Nat.mul_le_mul_left _ hL
  have pl := bG c
  refine ⟨r1, r3, aF c, g, S, p, jL p L, rfl, SqL.of (s23 _ _ e1), SqL.of e3, g1, g0, gpos, by rw [pl]; exact gl, by rw [pl]; omega, by rw [pl]; exact hd, heq, gW bc, bg, by rw [pl]; omega, fun r4 H4 n4 s4 e4 b4 => ?_⟩
  rw [pl] at e4 b4
  exact q r4 H4 _ ((s1.trans s23).free n4) ((s1.trans s23).trans s4) sim e4 fun x hx => (b4 x hx).mono (by omega)
theorem yK : aZ ["links", "place", "count", "ahead", "link", "sign"] ["links", "place"] (aB oM) := ⟨rfl, rfl, rfl, by decide +kernel, rfl, by decide +kernel, by decide +kernel⟩
noncomputable def ahd : Int -> List Int -> Int
  | a, [] => a
  | a, s :: ss => ahd (if s ≠ 0 then s else a) ss
theorem Jr (ss : List Int) : ∀ (a s : Int), chg a (ss ++ [s]) = chg a ss + (if ahd a ss * s = -1 then 1 else 0) /\ ahd a (ss ++ [s]) = if s ≠ 0 then s else ahd a ss := by
  induction ss with
  | nil => intro a s; exact ⟨by show _ + chg _ [] = 0 + _; show _ + 0 = 0 + _; simp only [ahd]; omega, rfl⟩
  | cons x xs ih =>
    intro a s
    obtain ⟨h1, h2⟩ := ih (if x ≠ 0 then x else a) s
    refine ⟨?_, h2⟩
    show _ + chg _ (xs ++ [s]) = _ + chg _ xs + _
    rw [h1]
    simp only [ahd]
    omega
theorem GQ (B : Bl mg) (iH : FnAt P w K mg base 2 "sign_at" ["curve", "place"] (gJ K)) (F : Fun K "changes_along" "changes_along" oM f fd) : bw P w K mg base CX0 3 f fd ["links", "place"] (mZ K) := by
  refine F.ok yK (fun vs H Q E h => ?_) (fun cdv A outer s H vs Q E hr h => ?_)
  · obtain ⟨a, d, ws, ls, p, q, B0, rfl, _⟩ := h
    rfl
  obtain ⟨a, d, ws, ls, p, q, B0, rfl, hA, hL, hls, hz, hD, bp, bq, hB0, h0, fin⟩ := h
  refine ⟨_, (ak (aK (i := 2) yK.nd rfl (Or.inl rfl) au)
  (ak (aK (i := 3) yK.nd rfl (Or.inl rfl) au)
  (ak (gD PassesOwn.never rfl (gq (pv 0)) (cP (i := 4) yK.nd rfl (Or.inl rfl))
    (ak (aK (i := 5) yK.nd rfl (Or.inl rfl) (aC iH hr rfl (aj (pv 4) (aj (pv 1) aq))))
    (ak (bL (aJ cg (bh cX (pv 3) (pv 5)) (dI cF au) (aP _))
      (aA (aK (i := 2) yK.nd rfl (Or.inl rfl) (bh cU (pv 2) au)))
      bB)
    (aA (bL (aJ pD (pv 5) au (aP _))
      (aA (aK (i := 3) yK.nd rfl (Or.inl rfl) (pv 5)))
      bB)))))
  (aA (bA (pv 2)))))), ?_⟩
  refine ⟨_, rfl, a, rfl, ⟨_, hA⟩, nM (K := K) (a := a) (xs := ws) (fun i σ H2 => ∃ v4 v5 : Option V, σ = [some (.ref a), some (.ref d), some (.int (chg 0 ((ls.take i).map fun l => sgn (hv p q l)))), some (.int (ahd 0 ((ls.take i).map fun l => sgn (hv p q l)))), v4, v5] /\ H2 = H /\ Sg (ahd 0 ((ls.take i).map fun l => sgn (hv p q l))))
    ⟨none, none, rfl, rfl, .inr (.inl rfl)⟩ (fun i σ H2 _ ⟨_, _, _, e, _⟩ => by rw [e]; exact hA) ?_ ?_⟩
  · rintro i y σ H2 hi ⟨v4, v5, rfl, rfl, hsg⟩
    obtain ⟨l, g, h1, rfl, h3⟩ := hL.get hi
    obtain ⟨k1, k2, k3⟩ := hls l (List.mem_of_getElem? h1)
    have tk : ls.take (i + 1) = ls.take i ++ [l] := take_snoc h1
    have tm : (ls.take (i + 1)).map (fun l => sgn (hv p q l)) = (ls.take i).map (fun l => sgn (hv p q l)) ++ [sgn (hv p q l)] := by rw [tk, List.map_append]; rfl
    obtain ⟨c1, c2⟩ := Jr ((ls.take i).map fun l => sgn (hv p q l)) 0 (sgn (hv p q l))
    have hs2 := K6 (hv p q l)
    obtain ⟨sg, esg⟩ : ∃ sg, sgn (hv p q l) = sg := ⟨_, rfl⟩
    rw [esg] at c1 c2 hs2 tm
    rw [tm, c1, c2]
    generalize ahd 0 ((ls.take i).map fun l => sgn (hv p q l)) = ah at *
    generalize chg 0 ((ls.take i).map fun l => sgn (hv p q l)) = cn at *
    have hmo : IntMulOk ah sg := IntMulOk.of_left (intBits_le_64 (by rcases hsg with h | h | h <;> omega) (by rcases hsg with h | h | h <;> omega))
    refine ⟨_, rfl, _, rfl, g, d, l, p, q, B0, rfl, SqL.of h3, hD, k2, k3, bp, bq, hB0, k1, h0, ?_⟩
    rw [esg]
    have inj : ∀ {u v : Int}, V.int u = V.int v -> u = v := fun e => by injection e
    refine ⟨_, rfl, _, rfl, _, _, rfl, rfl, hmo, _, rfl, rfl, _, rfl, bQ (fun z => ?_) (fun z => ?_)⟩
    · have z' := inj (of_decide_eq_true z)
      rw [if_pos z']
      refine ⟨_, rfl, _, _, rfl, rfl, ?_⟩
      refine ⟨_, rfl, rfl, _, rfl, bQ (fun y => ?_) (fun y => ?_)⟩
      · have y' : sg ≠ 0 := fun e => by rw [e] at y; exact absurd y (by decide)
        rw [if_pos y']
        exact ⟨_, rfl, _, _, rfl, rfl, hs2⟩
      · have y' : ¬ sg ≠ 0 := fun e => y (by rw [decide_eq_false (fun h => e (inj h))]; rfl)
        rw [if_neg y']
        exact ⟨_, _, rfl, rfl, hsg⟩
    · have z' : ¬ ah * sg = -1 := fun e => z (decide_eq_true (by show V.int (ah * sg) = V.int (-1); rw [e]))
      rw [if_neg z', Int.add_zero]
      refine ⟨_, rfl, rfl, _, rfl, bQ (fun y => ?_) (fun y => ?_)⟩
      · have y' : sg ≠ 0 := fun e => by rw [e] at y; exact absurd y (by decide)
        rw [if_pos y']
        exact ⟨_, rfl, _, _, rfl, rfl, hs2⟩
      · have y' : ¬ sg ≠ 0 := fun e => y (by rw [decide_eq_false (fun h => e (inj h))]; rfl)
        rw [if_neg y']
        exact ⟨_, _, rfl, rfl, hsg⟩
  · rintro σ H2 ⟨v4, v5, rfl, rfl, _⟩
    rw [hL.1, List.take_length]
    exact ⟨_, rfl, fin⟩
theorem wB : aZ ["curve", "ahead", "behind", "links", "rest"] ["curve"] (aB mC) := ⟨rfl, rfl, rfl, by decide +kernel, rfl, by decide +kernel, by decide +kernel⟩
theorem xg (B : Bl mg) (aN : FnAt P w K mg base 1 "check_curve" ["curve"] (aR K)) (aU : FnAt P w K mg base 1 "check_not_nought" ["curve"] (bV K)) (iC : FnAt P w K mg base 40 "plain" ["curve"] (gR K)) (jD : FnAt P w K mg base 2 "slope" ["curve"] (jw K))
    (rH : FnAt P w K mg base 43 "simple" ["curve"] (j4 K)) (jX : FnAt P w K mg base 41 "left" ["curve", "other"] (jy K)) (F : Fun K "chain" "chain" mC f fd) : bw P w K mg base CX0 44 f fd ["curve"] (iz K) := by
  refine F.ok wB (fun vs H Q E h => ?_) (fun cdv A outer s H vs Q E hr h => ?_)
  · obtain ⟨a, c, p, L, ps, Ls, rfl, _⟩ := h
    rfl
  obtain ⟨a, c, p, L, ps, Ls, rfl, hA, hg, hne, hL, hL30, bc, hm, hsim, hLs, hcb, q⟩ := h
  refine ⟨_, (ak (aD (aC aN hr rfl (aj (pv 0) aq)))
  (ak (aD (aC aU hr rfl (aj (pv 0) aq)))
  (ak (aK (i := 1) wB.nd rfl (Or.inl rfl) (aC rH hr rfl (aj (pv 0) aq)))
  (ak (aK (i := 2) wB.nd rfl (Or.inl rfl) (aC iC hr rfl (aj (aC jD hr rfl (aj (pv 1) aq)) aq)))
  (ak (aK (i := 3) wB.nd rfl (Or.inl rfl) (cT (aj (pv 1) aq)))
  (ak (gU PassesOwn.never (aJ iK (aO aV rfl B.fX cI (aj (pv 2) aq)) au (aP _))
    (ak (aD (tL PySem.F.plainAttrs_list PySem.F.slot_list_append PySem.F.type_list_append fQ (pv 3) (aj (pv 2) aq)))
    (ak (aK (i := 4) wB.nd rfl (Or.inl rfl) (aC jX hr rfl (aj (pv 1) (aj (pv 2) aq))))
    (ak (aK (i := 1) wB.nd rfl (Or.inl rfl) (pv 2))
    (aA (JN (N := []) (fr := []) (i := 2) (oR (by with_unfolding_all rfl) (by decide +kernel) rfl (by decide +kernel) rfl (by decide +kernel) wF rfl trivial rfl rfl) wB.nd rfl (Or.inl rfl) (gq (pv 4)) (fun _ _ _ _ _ => dI cF (pv 0))))))))
  (aA (bA (pv 3))))))))), ?_⟩
  refine ⟨_, rfl, a, c, rfl, hA, hg, ?_⟩
  refine ⟨_, rfl, a, c, rfl, hA, hne, ?_⟩
  refine ⟨_, rfl, a, c, p, L, rfl, hA, hg, hne, hL, hL30, bc, hm, fun r1 H1 sm n1 s1 sim e1 bsm => ?_⟩
  obtain ⟨lsm, bsm⟩ := hsim sm sim bsm
  have sm0 := sim.1
  have smg := sim.2.1
  have sm1 := List.length_pos_iff.mpr sm0
  refine ⟨_, rfl, r1, sm, rfl, SqL.of e1, smg, by omega, fun r2 H2 n2 s2 e2 => ?_⟩
  refine ⟨r2, aM sm, rfl, SqL.of e2, eU smg, by rw [bW]; omega, fun r3 H3 n3 s3 e3 => ?_⟩
  have s23 := s2.trans s3
  refine ⟨_, rfl, by show 1 <= sizeLine; decide, fun r4 n4 => ?_⟩
  have s4 : Same H3 (upd H3 r4 (.lst [.ref r1])) := aQ n4 _
  have e4 : upd H3 r4 (.lst [.ref r1]) r4 = some (.lst [.ref r1]) := aH
  generalize upd H3 r4 (.lst [.ref r1]) = G4 at s4 e4 ⊢
  have bs : ∀ x ∈ aM sm, Bd (ps + 5) x := fun x hx => by
    obtain ⟨i, hi, rfl⟩ := List.mem_map.mp hx
    have hi' : i < sm.length - 1 := List.mem_range.mp hi
    have b1 : Bd 5 (1 + (i : Int)) := Bd.of_le 30 (by omega) (by decide)
    exact (b1.mul (bsm _ (pQ (by omega)))).mono (by omega)
  have b0 := gW bs
  have e14 := s4 _ _ (s23 _ _ e1)
  have e34 := s4 _ _ e3
  have hnr4 : H r4 = none := ((s1.trans s23)).free n4
  have sA : Same H G4 := (s1.trans s23).trans s4
  generalize hCB : cb (Ls - 1) Ls ps (ps + 5) = CB at hcb q
  have hge0 := Eu (Ls - 1) Ls ps (ps + 5)
  refine ⟨fun N σ H2 => ∃ (q1 q2 : Addr) (x y : List Int) (ws : List V) (ls : List (List Int)) (La l pa pb : Nat) (v4 : Option V), σ = [some (.ref a), some (.ref q1), some (.ref q2), some (.ref r4), v4] /\ Same H H2 /\ H2 q1 = some (IL x) /\ H2 q2 = some (IL y) /\ q1 ≠ r4 /\ q2 ≠ r4 /\ H2 r4 = some (.lst ws) /\ bI x /\ bI y /\ x ≠ [] /\ x.length <= La /\ y.length <= l /\ N = l /\ La <= Ls /\ l + ws.length <= Ls /\
      (∀ z ∈ x, Bd pa z) /\ (∀ z ∈ y, Bd pb z) /\ cb l La pa pb <= CB /\ (∀ (G : Hp), (∀ b o, b ≠ r4 -> H2 b = some o -> G b = some o) -> cu G ws ls) /\ (∀ u ∈ ls, bI u /\ u ≠ [] /\ u.length <= Ls /\ ∀ z ∈ u, Bd CB z) /\ (∀ m, Steps x y m -> ∃ t, ls ++ m = sm :: t /\ Steps sm (aF (aM sm)) t),
    ⟨Ls - 1, r1, r3, sm, aF (aM sm), [.ref r1], [sm], Ls, Ls - 1, ps, ps + 5, none, rfl, sA, e14, e34, fun z => ?_, fun z => ?_, e4, smg, eV (eU smg), sm0, lsm, by rw [bG, bW]; omega, rfl, Nat.le_refl _, by show Ls - 1 + 1 <= Ls; omega, bsm, b0, ?_, fun G k => ?_, fun u hu => ?_, fun m hm => ⟨m, rfl, hm⟩⟩, ?_⟩
  · have := s23 _ _ e1
    rw [z, n4] at this
    cases this
  · have := e3
    rw [z, n4] at this
    cases this
  · exact Nat.le_of_eq hCB
  · exact cu.snoc (cu.nil G) (k _ _ (fun z => by have := s23 _ _ e1; rw [z, n4] at this; cases this) e14)
  · rw [List.mem_singleton.mp hu]
    exact ⟨smg, sm0, lsm, fun z hz => (bsm z hz).mono (by rcases hge0 with h | h <;> omega)⟩
  rintro N σ H2 ⟨q1, q2, x, y, ws, ls, La, l, pa, pb, v4, rfl, sH, f1, f2, d1, d2, f4, gx, gy, x0, lx, ly, rfl, hLa, hws, bx, by', hcb', hLs', hlg, hst⟩
  have hl : (y.map V.int).length = y.length := List.length_map _
  refine ⟨_, rfl, q2, _, rfl, .inl (SqL.of f2), _, _, rfl, rfl, _, rfl, bQ (fun z => ?_) (fun z => ?_)⟩
  · have z' : (0 : Int) < (((y.map V.int).length : Nat) : Int) := of_decide_eq_true z
    rw [hl] at z'
    have yne : y ≠ [] := fun e => by rw [e] at z'; exact absurd z' (by decide)
    obtain ⟨l', rfl⟩ : ∃ l', N = l' + 1 := ⟨N - 1, by omega⟩
    have hcb2 : cb l' (l' + 1) pb (pa + (pb + 1) * La) <= CB := hcb'
    have hx1 := List.length_pos_iff.mpr x0
    have hgeY : pb + (pa + (pb + 1) * La) <= CB := by
      rcases Eu l' (l' + 1) pb (pa + (pb + 1) * La) with h | h <;> omega
    have hmul : (pb + 1) * x.length <= (pb + 1) * La := Nat.mul_le_mul_left _ lx
    refine ⟨fun σ' H' => ∃ (q3 : Addr) (R : List Int) (v4 : Option V), σ' = [some (.ref a), some (.ref q2), some (.ref q3), some (.ref r4), v4] /\ Same H H' /\ H' q2 = some (IL y) /\ q3 ≠ r4 /\ H' q3 = some (IL (negL (aF R))) /\ H' r4 = some (.lst (ws ++ [.ref q2])) /\ Left x y R /\ (∀ z ∈ R, Bd (pa + (pb + 1) * La) z) /\ (∀ b o, b ≠ r4 -> H2 b = some o -> H' b = some o), ?_, ?_⟩
    · rintro σ' H' ⟨q3, R, w4, rfl, s3, g2, d3, g3, g4, hL, bR, keep⟩
      have hlR := hL.2.1
      refine ⟨l', by omega, q2, q3, y, negL (aF R), ws ++ [.ref q2], ls ++ [y], l' + 1, l', pb, pa + (pb + 1) * La, _, rfl, s3, g2, g3, d2, d3, g4, gy, G_ (eV hL.1), yne, ly, by rw [mK, bG]; omega, rfl, by omega, by rw [List.length_append, List.length_singleton]; omega, by', ?_, hcb2, fun G k => ?_, fun u hu => ?_, fun m hm => ?_⟩
      · intro z hz
        obtain ⟨z', hz', rfl⟩ := List.mem_map.mp hz
        exact (gW bR z' hz').neg
      · exact (hLs' G fun b o nb e => k b o nb (keep b o nb e)).snoc (k _ _ d2 g2)
      · rcases List.mem_append.mp hu with hu | hu
        · exact hlg u hu
        · rw [List.mem_singleton.mp hu]
          exact ⟨gy, yne, by omega, fun z hz => (by' z hz).mono (by omega)⟩
      · obtain ⟨t, e, h⟩ := hst (y :: m) (Steps.step x y R m yne hL hm)
        exact ⟨t, by rw [List.append_assoc]; exact e, h⟩
    · refine ⟨_, rfl, .inl ⟨rfl, _, SqL.of f4⟩, _, rfl, r4, _, _, rfl, rfl, f4, eF (by omega), ?_⟩
      have s5 : Same H (upd H2 r4 (.lst (ws ++ [.ref q2]))) := fun z ob e => by
        rw [bK (bU e hnr4)]
        exact sH _ _ e
      have k5 : ∀ b o, b ≠ r4 -> H2 b = some o -> upd H2 r4 (.lst (ws ++ [.ref q2])) b = some o := fun b o nb e => by rw [bK nb]; exact e
      have e5 : upd H2 r4 (.lst (ws ++ [.ref q2])) r4 = some (.lst (ws ++ [.ref q2])) := aH
      generalize upd H2 r4 (.lst (ws ++ [.ref q2])) = G5 at s5 k5 e5 ⊢
      refine ⟨_, rfl, _, rfl, q1, q2, x, y, pa, pb, rfl, SqL.of (k5 _ _ d1 f1), SqL.of (k5 _ _ d2 f2), gx, gy, yne, by omega, by omega, bx, by', by omega, fun q6 G6 R n6 s6 hL hRx bR e6 => ?_⟩
      refine ⟨_, rfl, _, rfl, q6, rfl, ⟨_, SqL.of e6⟩, ni (tM (- ·)) (SqL.of e6) (by rw [List.length_map, bG]; omega) ?_ ?_⟩
      · intro y v0 H5 Q2 hy s7 q2
        obtain ⟨i, hi, rfl⟩ := List.mem_map.mp hy
        exact ⟨_, rfl, _, rfl, q2⟩
      · intro D7 G7 n7 s7 e7
        rw [ju] at e7
        have s67 := s6.trans s7
        exact ⟨D7, R, _, rfl, s5.trans s67, s67 _ _ (k5 _ _ d2 f2), (fun z => by rw [z] at n7; rw [s6 _ _ e5] at n7; cases n7), e7, s67 _ _ e5, hL, fun u hu => (bR u hu).mono (by omega), fun b o nb e => s67 _ _ (k5 b o nb e)⟩
  · have z' : ¬ (0 : Int) < (((y.map V.int).length : Nat) : Int) := of_decide_eq_false (Bool.eq_false_iff.mpr z)
    rw [hl] at z'
    have y0 : y = [] := List.eq_nil_of_length_eq_zero (by omega)
    subst y0
    obtain ⟨t, e, h⟩ := hst [] (Steps.stop x)
    rw [List.append_nil] at e
    exact ⟨_, rfl, q r4 H2 ws ls hnr4 sH ⟨sm, t, sim, e, h⟩ f4 (hLs' H2 fun b o _ e => e) hlg (by omega)⟩
theorem JH : aZ ["curve", "place"] ["curve", "place"] (aB iY) := ⟨rfl, rfl, rfl, by decide +kernel, rfl, by decide +kernel, by decide +kernel⟩
theorem rP (aN : FnAt P w K mg base 1 "check_curve" ["curve"] (aR K)) (aU : FnAt P w K mg base 1 "check_not_nought" ["curve"] (bV K)) (eG : FnAt P w K mg base 1 "check_place" ["place"] (dj K)) (gw : FnAt P w K mg base 44 "chain" ["curve"] (iz K))
    (cM : FnAt P w K mg base 3 "changes_along" ["links", "place"] (mZ K)) (F : Fun K "changes" "changes" iY f fd) : bw P w K mg base CX0 45 f fd ["curve", "place"] (lK K) := by
  refine F.ok JH (fun vs H Q E h => ?_) (fun cdv A outer s H vs Q E hr h => ?_)
  · obtain ⟨a, d, c, p, L, ps, Ls, B, t, u, rfl, _⟩ := h
    rfl
  obtain ⟨a, d, c, p, L, ps, Ls, B0, t, u, rfl, hA, hD, hg, hne, hL, hL30, bc, hm, hsim, hLs, hcb, hB0, bt, bu, hu, q⟩ := h
  refine ⟨_, (ak (aD (aC aN hr rfl (aj (pv 0) aq)))
  (ak (aD (aC aU hr rfl (aj (pv 0) aq)))
  (ak (aD (aC eG hr rfl (aj (pv 1) aq)))
  (aA (bA (aC cM hr rfl (aj (aC gw hr rfl (aj (pv 0) aq)) (aj (pv 1) aq)))))))), ?_⟩
  refine ⟨_, rfl, a, c, rfl, hA, hg, ?_⟩
  refine ⟨_, rfl, a, c, rfl, hA, hne, ?_⟩
  refine ⟨_, rfl, d, t, u, rfl, hD, hu, ?_⟩
  refine ⟨_, rfl, a, c, p, L, ps, Ls, rfl, hA, hg, hne, hL, hL30, bc, hm, hsim, hLs, by omega, fun r H1 ws ls n1 s1 hch e1 hls hlg hw => ?_⟩
  refine ⟨_, rfl, r, d, ws, ls, t, u, B0, rfl, SqL.of e1, hls, fun l hl => ?_, by omega, s1.tup hD, bt, bu, hB0, hu, q H1 ls s1 hch⟩
  obtain ⟨g1, g2, g3, g4⟩ := hlg l hl
  exact ⟨g1, by omega, fun x hx => (g4 x hx).mono hcb⟩
theorem scRA : aZ ["links", "low", "high"] ["links", "low", "high"] (aB k_) := ⟨rfl, rfl, rfl, by decide +kernel, rfl, by decide +kernel, by decide +kernel⟩
theorem ok_ra (cM : FnAt P w K mg base 3 "changes_along" ["links", "place"] (mZ K)) (F : Fun K "roots_along" "roots_along" k_ f fd) : bw P w K mg base CX0 4 f fd ["links", "low", "high"] (j5 K) := by
  refine F.ok scRA (fun vs H Q E h => ?_) (fun cdv A outer s H vs Q E hr h => ?_)
  · obtain ⟨a, d, e, ws, ls, p, q, r, t, B, rfl, _⟩ := h
    rfl
  obtain ⟨a, d, e, ws, ls, p, q, r, t, B, rfl, hA, hL, hls, hz, hD, hE, bp, bq, br, bt, hB, hq, ht, k⟩ := h
  refine ⟨_, (aA (bA (bh fB (aC cM hr rfl (aj (pv 0) (aj (pv 1) aq))) (aC cM hr rfl (aj (pv 0) (aj (pv 2) aq)))))), ?_⟩
  refine ⟨_, rfl, _, rfl, a, d, ws, ls, p, q, B, rfl, hA, hL, hls, hz, hD, bp, bq, hB, hq, ?_⟩
  refine ⟨_, rfl, _, rfl, a, e, ws, ls, r, t, B, rfl, hA, hL, hls, hz, hE, br, bt, hB, ht, _, _, rfl, rfl, ?_⟩
  rw [<- zq hq, <- zq ht] at k
  exact k
theorem scBt : aZ ["curve", "low", "high"] ["curve", "low", "high"] (aB iZ) := ⟨rfl, rfl, rfl, by decide +kernel, rfl, by decide +kernel, by decide +kernel⟩
theorem rQ (aN : FnAt P w K mg base 1 "check_curve" ["curve"] (aR K)) (aU : FnAt P w K mg base 1 "check_not_nought" ["curve"] (bV K)) (iu : FnAt P w K mg base 2 "check_stretch" ["low", "high"] (dF K)) (gw : FnAt P w K mg base 44 "chain" ["curve"] (iz K))
    (fJ : FnAt P w K mg base 4 "roots_along" ["links", "low", "high"] (j5 K)) (F : Fun K "roots_between" "roots_between" iZ f fd) : bw P w K mg base CX0 45 f fd ["curve", "low", "high"] (lM K) := by
  refine F.ok scBt (fun vs H Q E h => ?_) (fun cdv A outer s H vs Q E hr h => ?_)
  · obtain ⟨a, d, e, c, p, L, ps, Ls, B, x, q, r, t, rfl, _⟩ := h
    rfl
  obtain ⟨a, d, e, c, p, L, ps, Ls, B, x, q, r, t, rfl, hA, hD, hE, z, bx, bq, br, bt, hq, ht, hle, k⟩ := h
  refine ⟨_, (ak (aD (aC aN hr rfl (aj (pv 0) aq)))
  (ak (aD (aC aU hr rfl (aj (pv 0) aq)))
  (ak (aD (aC iu hr rfl (aj (pv 1) (aj (pv 2) aq))))
  (aA (bA (aC fJ hr rfl (aj (aC gw hr rfl (aj (pv 0) aq)) (aj (pv 1) (aj (pv 2) aq))))))))), ?_⟩
  have hg := z.grow
  have hm := z.most
  have h30 := z.wC
  refine ⟨_, rfl, a, c, rfl, hA, z.good, ?_⟩
  refine ⟨_, rfl, a, c, rfl, hA, z.ne, ?_⟩
  refine ⟨_, rfl, _, rfl, d, e, x, q, r, t, B, rfl, hD, hE, hq, ht, bx, bq, br, bt, hm, hle, ?_⟩
  refine ⟨_, rfl, a, c, p, L, ps, Ls, rfl, hA, z.good, z.ne, z.len, z.l30, z.bd, z.room, z.sim, h30, by omega, fun r1 H1 ws ls n1 s1 hch e1 hls hlg hw => ?_⟩
  refine ⟨_, rfl, _, rfl, r1, d, e, ws, ls, x, q, r, t, B, rfl, SqL.of e1, hls, fun l hl => ?_, by omega, s1.tup hD, s1.tup hE, bx, bq, br, bt, hm, hq, ht, k H1 ls s1 hch⟩
  obtain ⟨g1, g2, g3, g4⟩ := hlg l hl
  exact ⟨g1, by omega, fun x hx => (g4 x hx).mono hg⟩
theorem HS : aZ ["curve", "chains", "rest"] ["curve"] (aB iG) := ⟨rfl, rfl, rfl, by decide +kernel, rfl, by decide +kernel, by decide +kernel⟩
theorem sZ (B : Bl mg) (gw : FnAt P w K mg base 44 "chain" ["curve"] (iz K)) (i_ : FnAt P w K mg base 42 "shared" ["curve", "other"] (gK K)) (jD : FnAt P w K mg base 2 "slope" ["curve"] (jw K)) (F : Fun K "chains_for_times" "chains_for_times" iG f fd) :
    bw P w K mg base CX0 45 f fd ["curve"] (uL K) := by
  refine F.ok HS (fun vs H Q E h => ?_) (fun cdv A outer s H vs Q E hr h => ?_)
  · obtain ⟨a, c, rfl, _⟩ := h
    rfl
  obtain ⟨a, c, rfl, hA, g, q⟩ := h
  refine ⟨_, (ak (aK (i := 1) HS.nd rfl (Or.inl rfl) (cT aq))
  (ak (aK (i := 2) HS.nd rfl (Or.inl rfl) (pv 0))
  (ak (gU PassesOwn.never (aJ iK (aO aV rfl B.fX cI (aj (pv 2) aq)) au (aP _))
    (ak (aD (tL PySem.F.plainAttrs_list PySem.F.slot_list_append PySem.F.type_list_append fQ (pv 1) (aj (aC gw hr rfl (aj (pv 2) aq)) aq)))
    (aA (aK (i := 2) HS.nd rfl (Or.inl rfl) (aC i_ hr rfl (aj (pv 2) (aj (aC jD hr rfl (aj (pv 2) aq)) aq)))))))
  (aA (bA (pv 1)))))), ?_⟩
  refine ⟨(by show 0 <= sizeLine; decide), fun r hr0 => ?_⟩
  have g0 : Same H (upd H r (.lst [])) := aQ hr0 _
  have e0 : upd H r (.lst []) r = some (.lst []) := aH
  generalize upd H r (.lst []) = G0 at g0 e0 ⊢
  have t1 := g.l3
  refine ⟨_, rfl, ?_⟩
  refine ⟨fun m σ H2 => ∃ (rr : Addr) (ck : List Int) (ws : List V) (lss : List (List (List Int))), m = ck.length /\ σ = [some (.ref a), some (.ref r), some (.ref rr)] /\ Same H H2 /\
      (∀ H3 : Hp, (∀ b o, b ≠ r -> H2 b = some o -> H3 b = some o) -> Same H H3 -> SqL K H3 rr (ck.map V.int)) /\ R10 ck /\ H2 r = some (.lst ws) /\ (∀ H3 : Hp, (∀ b o, b ≠ r -> H2 b = some o -> H3 b = some o) -> cY H3 ws lss) /\ Fit 891184 lss /\ lss.length + ck.length <= 6,
    ⟨c.length, a, c, [], [], rfl, rfl, g0, fun H3 _ s3 => s3.seq hA, g, e0, fun H3 _ => cY.nil H3, fun ls h => (nomatch h), by show 0 + c.length <= 6; omega⟩, ?_⟩
  rintro m σ H2 ⟨rr, ck, ws, lss, rfl, rfl, s2, hR, gk, er, hC, hF, h6⟩
  obtain ⟨ps, Ls, z, _⟩ := gk.c5.szs
  have hR2 := hR H2 (fun b o _ e => e) s2
  have hC2 := hC H2 (fun b o _ e => e)
  have hl : (ck.map V.int).length = ck.length := List.length_map _
  have c1 := List.length_pos_iff.mpr z.ne
  refine ⟨_, rfl, rr, _, rfl, .inl hR2, _, _, rfl, rfl, _, rfl, bQ (fun y => ?_) (fun y => ?_)⟩
  · have y' : (1 : Int) < (((ck.map V.int).length : Nat) : Int) := of_decide_eq_true y
    rw [hl] at y'
    have lw := hC2.1
    have gr := z.grow
    have wC := z.wC
    have mo := z.most
    have lk := z.len
    refine ⟨fun σ' H' => ∃ (rg rc : Addr) (cm : List Int) (ws' : List V) (ls : List (List Int)), Shared ck (aM ck) cm /\ σ' = [some (.ref a), some (.ref r), some (.ref rg)] /\ Same H H' /\ H' rg = some (IL cm) /\ rg ≠ r /\ H' r = some (.lst (ws ++ [.ref rc])) /\ (∀ b o, b ≠ r -> H2 b = some o -> H' b = some o) /\ rc ≠ r /\ H' rc = some (.lst ws') /\ (∀ G : Hp, (∀ b o, b ≠ r -> H' b = some o -> G b = some o) -> cu G ws' ls) /\ Chain ck ls /\ ls.length <= 1000 /\ ∀ l ∈ ls, bI l /\ l.length <= 64 /\ ∀ x ∈ l, Bd 891184 x, ?_, ?_⟩
    · rintro σ' H' ⟨rg, rc, cm, ws', ls, hsh, rfl, s3, eg, ng, er', keep, nc, ec, hL, hch, l1, l2⟩
      obtain ⟨gn, hlt⟩ := gk.next (by omega) hsh
      refine ⟨cm.length, hlt, rg, cm, ws ++ [.ref rc], lss ++ [ls], rfl, rfl, s3, fun H3 k _ => SqL.of (k _ _ ng eg), gn, er', fun H3 k => ?_, fun u hu => ?_, by rw [List.length_append, List.length_singleton]; omega⟩
      · exact (hC H3 fun b o hb e => k b o hb (keep b o hb e)).snoc (k _ _ nc ec) (hL H3 k)
      · rcases List.mem_append.mp hu with hu | hu
        · exact hF u hu
        · rw [List.mem_singleton.mp hu]; exact ⟨l1, l2⟩
    · refine ⟨_, rfl, .inl ⟨rfl, _, SqL.of er⟩, _, rfl, rr, ck, 200, 5, ps, Ls, rfl, hR2, z.good, z.ne, z.len, z.l30, z.bd, z.room, z.sim, z.wC, by omega, fun rc H3 ws' ls n3 s3 hch e3 hL hl3 hw3 => ?_⟩
      have er3 := s3 _ _ er
      have ncr : rc ≠ r := fun e => by rw [e, er] at n3; cases n3
      refine ⟨r, _, _, rfl, rfl, er3, by rw [lw]; exact eF (by omega), ?_⟩
      have k3 : ∀ b o, b ≠ r -> H2 b = some o -> upd H3 r (.lst (ws ++ [.ref rc])) b = some o := fun b o hb e => by rw [bK hb]; exact s3 _ _ e
      have k3' : ∀ b o, b ≠ r -> H3 b = some o -> upd H3 r (.lst (ws ++ [.ref rc])) b = some o := fun b o hb e => by rw [bK hb]; exact e
      have sH3 : Same H (upd H3 r (.lst (ws ++ [.ref rc]))) := fun b o e => by rw [bK (bU e hr0)]; exact s3 _ _ (s2 _ _ e)
      have eu : upd H3 r (.lst (ws ++ [.ref rc])) r = some (.lst (ws ++ [.ref rc])) := aH
      have hLoff : ∀ G : Hp, (∀ b o, b ≠ r -> upd H3 r (.lst (ws ++ [.ref rc])) b = some o -> G b = some o) -> cu G ws' ls := fun G k => hL.off (fun l hl' => (hl3 l hl').2.1) er3 hC2.refs fun b o hb e => k b o hb (k3' b o hb e)
      have ec3 := k3' _ _ ncr e3
      generalize upd H3 r (.lst (ws ++ [.ref rc])) = G3 at k3 sH3 eu hLoff ec3 ⊢
      have hR3 := hR G3 k3 sH3
      have lls := hL.1
      refine ⟨_, rfl, _, rfl, rr, ck, rfl, hR3, z.good, by omega, fun rs H4 n4 s4 e4 => ?_⟩
      have bs : ∀ x ∈ aM ck, Bd (200 + 5) x := fun x hx => by
        obtain ⟨i, hi, rfl⟩ := List.mem_map.mp hx
        have hi' : i < ck.length - 1 := List.mem_range.mp hi
        have b1 : Bd 5 (1 + (i : Int)) := Bd.of_le 30 (by omega) (by decide)
        exact (b1.mul (z.bd _ (pQ (by omega)))).mono (by omega)
      have hroom := z.room
      refine ⟨rr, rs, ck, aM ck, 5, 4, 200, 205, rfl, s4.seq hR3, SqL.of e4, z.good, eU z.good, z.len, by rw [bW]; omega, by omega, by omega, z.bd, bs, by decide +kernel, fun rg H5 sg n5 s5 hsh bg e5 => ?_⟩
      have s45 := s4.trans s5
      have er5 := s45 _ _ eu
      refine ⟨rg, rc, sg, ws', ls, hsh, rfl, sH3.trans s45, e5, fun e => ?_, er5, fun b o hb e => s45 _ _ (k3 b o hb e), ncr, s45 _ _ ec3, fun G k => hLoff G fun b o hb e => k b o hb (s45 _ _ e), hch, by omega, fun l hl' => ?_⟩
      · rw [e, s4 _ _ eu] at n5; cases n5
      · obtain ⟨a1, _, a3, a4⟩ := hl3 l hl'
        exact ⟨a1, by omega, fun x hx => (a4 x hx).mono (by omega)⟩
  · have y' : ¬ (1 : Int) < (((ck.map V.int).length : Nat) : Int) := of_decide_eq_false (Bool.eq_false_iff.mpr y)
    rw [hl] at y'
    exact ⟨_, rfl, q r H2 ws lss hr0 s2 er hC2 hF (by omega)⟩
theorem scTA : aZ ["chains", "low", "high"] ["chains", "low", "high"] (aB kW) := ⟨rfl, rfl, rfl, by decide +kernel, rfl, by decide +kernel, by decide +kernel⟩
theorem Di (hsum : mg "sum" = none) (fJ : FnAt P w K mg base 4 "roots_along" ["links", "low", "high"] (j5 K)) (F : Fun K "times_along" "times_along" kW f fd) : bw P w K mg base CX0 5 f fd ["chains", "low", "high"] (nA K) := by
  refine F.ok scTA (fun vs H Q E h => ?_) (fun cdv A outer s H vs Q E hr h => ?_)
  · obtain ⟨a, d, e, ws, lss, p, q, r, t, rfl, _⟩ := h
    rfl
  obtain ⟨a, d, e, ws, lss, p, q, r, t, rfl, hA, hC, hF, h6, hD, hE, bp, bq, br, bt, hq, ht, k⟩ := h
  refine ⟨_, (aA (bA (aO (Hz rfl) rfl hsum Mt (aj (Fj (xs := ["links"]) (N := ["low", "high"]) (fr := [1, 2]) (Bq (by with_unfolding_all rfl) (by decide +kernel) rfl (by decide +kernel) (by decide +kernel) (yP rfl (yP rfl wF)) rfl ⟨⟨rfl, rfl, rfl⟩, ⟨rfl, rfl, rfl⟩, trivial⟩ rfl rfl) (gq (pv 0))
    (fun _ _ _ _ _ => cP (i := 0) (show List.Nodup (["links", "low", "high"] : List Str) from by decide +kernel) rfl (Or.inl rfl)) (fun _ _ _ _ _ => pts0) (fun _ _ _ _ _ => aC fJ hr rfl (aj (pv 0) (aj (pv 1) (aj (pv 2) aq))))) aq)))), ?_⟩
  have lw := hC.1
  refine ⟨_, rfl, a, rfl, ⟨_, SqL.of hA⟩, Bb (K := K) (xs := ["links"]) (ws := ws) (fun _ => true) (fun _ i v _ => v = .int ((lss.map fun ls => Vc (plc p q) ls - Vc (plc r t) ls).getD i 0)) (fun i => [ws[i]?]) (SqL.of hA) (by omega) (fun _ _ _ _ _ _ h => h) (fun _ => rfl) ?_ ?_ ?_ ?_⟩
  · intro i y σ0 H6 Q2 hy s6 l0 q2
    obtain ⟨u, rfl⟩ := List.length_eq_one_iff.mp l0
    rw [hy] at q2
    exact q2
  · intro i y H6 Q2 hy s6 q2
    exact q2 H6 (Same.refl _)
  · intro D acc i y H6 Q2 hD6 hd hy _ s6 q2
    obtain ⟨ls, g, ws', hp, rfl, k1, k2⟩ := hC.get hy
    obtain ⟨f1, f2⟩ := hF ls (List.mem_of_getElem? hp)
    have l2 := k2.1
    rw [hy]
    refine ⟨_, rfl, _, rfl, _, rfl, g, d, e, ws', ls, p, q, r, t, 891184, rfl, SqL.of (s6 _ _ k1), k2.mono s6, f2, by omega, s6.tup hD, s6.tup hE, bp, bq, br, bt, by decide, hq, ht, ?_⟩
    refine q2 _ H6 (Same.refl _) ?_
    rw [List.getD_eq_getElem?_getD, List.getElem?_map, hp]
    rfl
  · intro D H6 vs n6 s6 e6 hl6 hr6
    have ev : vs = ((lss.map fun ls => Vc (plc p q) ls - Vc (plc r t) ls)).map V.int := by
      have hf : ((List.range ws.length).filter fun _ => true) = List.range ws.length := List.filter_eq_self.mpr fun _ _ => rfl
      rw [hf] at hl6 hr6
      refine List.ext_getElem (by rw [hl6]; simp [lw]) fun i h1 h2 => ?_
      have := hr6 i vs[i] i (List.getElem?_eq_getElem h1) (List.getElem?_range (by rw [hl6, List.length_range] at h1; exact h1))
      rw [this]
      have h3 : i < (lss.map fun ls => Vc (plc p q) ls - Vc (plc r t) ls).length := by simpa using h2
      rw [List.getElem_map, List.getD_eq_getElem?_getD, List.getElem?_eq_getElem h3]
      rfl
    rw [ev] at e6
    exact ⟨D, _, rfl, SqL.of e6, k H6 s6⟩
theorem scWT : aZ ["curve", "low", "high"] ["curve", "low", "high"] (aB fL) := ⟨rfl, rfl, rfl, by decide +kernel, rfl, by decide +kernel, by decide +kernel⟩
theorem kI (aN : FnAt P w K mg base 1 "check_curve" ["curve"] (aR K)) (aU : FnAt P w K mg base 1 "check_not_nought" ["curve"] (bV K)) (iu : FnAt P w K mg base 2 "check_stretch" ["low", "high"] (dF K)) (jj : FnAt P w K mg base 5 "times_along" ["chains", "low", "high"] (nA K)) (fP : FnAt P w K mg base 45 "chains_for_times" ["curve"] (uL K))
    (F : Fun K "roots_with_times" "roots_with_times" fL f fd) : bw P w K mg base CX0 46 f fd ["curve", "low", "high"] (uK K) := by
  refine F.ok scWT (fun vs H Q E h => ?_) (fun cdv A outer s H vs Q E hr h => ?_)
  · obtain ⟨a, d, e, c, p, q, r, t, rfl, _⟩ := h
    rfl
  obtain ⟨a, d, e, c, p, q, r, t, rfl, hA, g, hD, hE, bp, bq, br, bt, hq, ht, hle, k⟩ := h
  refine ⟨_, (ak (aD (aC aN hr rfl (aj (pv 0) aq)))
  (ak (aD (aC aU hr rfl (aj (pv 0) aq)))
  (ak (aD (aC iu hr rfl (aj (pv 1) (aj (pv 2) aq))))
  (aA (bA (aC jj hr rfl (aj (aC fP hr rfl (aj (pv 0) aq)) (aj (pv 1) (aj (pv 2) aq))))))))), ?_⟩
  refine ⟨_, rfl, a, c, rfl, hA, g.c5.good, ?_⟩
  refine ⟨_, rfl, a, c, rfl, hA, g.c5.ne, ?_⟩
  refine ⟨_, rfl, _, rfl, d, e, p, q, r, t, 100000, rfl, hD, hE, hq, ht, bp, bq, br, bt, by decide, hle, ?_⟩
  refine ⟨_, rfl, a, c, rfl, hA, g, fun r1 H1 ws lss n1 s1 e1 hC hF h6 => ?_⟩
  refine ⟨_, rfl, _, rfl, r1, d, e, ws, lss, p, q, r, t, rfl, e1, hC, hF, h6, s1.tup hD, s1.tup hE, bp.mono (by decide), bq.mono (by decide), br.mono (by decide), bt.mono (by decide), hq, ht, fun H2 s2 => k _ H2 (s1.trans s2)⟩
theorem Ku : aZ ["curve", "greatest"] ["curve"] (aB jQ) := ⟨rfl, rfl, rfl, by decide +kernel, rfl, by decide +kernel, by decide +kernel⟩
theorem wX (hN : base.NoSeer) (hT : P.given.tree = none) (B : Bl mg) (hmax : mg "max" = none) (aN : FnAt P w K mg base 1 "check_curve" ["curve"] (aR K)) (aU : FnAt P w K mg base 1 "check_not_nought" ["curve"] (bV K)) (F : Fun K "reach" "reach" jQ f fd) : bw P w K mg base CX0 40 f fd ["curve"] (jx K) := by
  refine F.ok Ku (fun vs H Q E h => ?_) (fun cdv A outer s H vs Q E hr h => ?_)
  · obtain ⟨a, c, rfl, _⟩ := h
    rfl
  obtain ⟨a, c, rfl, hA, hg, hne, hz, k⟩ := h
  have hdp : (A.deeper (PyProof.Rows.envOfC "reach" (aB jQ) s.heap.objs.size f cdv)).depth + 100 < recursionLimit := by have := hr.dp; omega
  refine ⟨_, (ak (aD (aC aN hr rfl (aj (pv 0) aq)))
  (ak (aD (aC aU hr rfl (aj (pv 0) aq)))
  (ak (aK (i := 1) Ku.nd rfl (Or.inl rfl) (IK rfl rfl hmax (aj (z_ (N := []) (fr := []) (oR (by with_unfolding_all rfl) (by decide +kernel) rfl (by decide +kernel) rfl (by decide +kernel) wF rfl trivial rfl rfl) (gq (qU vB (pv 0) Ax (qg (dI cF au)))) (fun _ _ _ _ _ => aO gZ rfl B.wG jV (aj (pv 0) aq))) aq) (Iz au K9)))
  (aA (bA (bh cU au (bh (nH hN hT rfl rfl rfl rfl rfl hdp) (pv 1) (aO gZ rfl B.wG jV (aj (bT bY (pv 0) (dI cF au) (fun _ _ => rfl)) aq))))))))), ?_⟩
  refine ⟨_, rfl, a, c, rfl, hA, hg, ?_⟩
  refine ⟨_, rfl, a, c, rfl, hA, hne, ?_⟩
  have ld : c.dropLast.length <= 1000 := by rw [List.length_dropLast]; omega
  refine ⟨_, rfl, _, rfl, _, rfl, a, _, rfl, hA, fun p1 n1 => ?_⟩
  have s1 : Same H (upd H p1 (.lst (jM (c.map V.int) none (some (-1))))) := aQ n1 _
  have e1 : upd H p1 (.lst (jM (c.map V.int) none (some (-1)))) p1 = some (IL c.dropLast) := by rw [aH, Hv hne]
  generalize upd H p1 (.lst (jM (c.map V.int) none (some (-1)))) = G1 at s1 e1 ⊢
  refine ⟨p1, rfl, ⟨_, SqL.of e1⟩, ni (tM fun i => (i.natAbs : Int)) (SqL.of e1) (by rw [List.length_map]; exact ld) ?_ ?_⟩
  · intro y v0 H5 Q2 hy s7 q2
    obtain ⟨i, hi, rfl⟩ := List.mem_map.mp hy
    refine ⟨_, rfl, _, rfl, ?_⟩
    have e : (if i < 0 then -i else i) = (i.natAbs : Int) := by split <;> omega
    rw [e]
    exact q2
  · intro D G2 hD s2 hd
    rw [ju] at hd
    refine ⟨D, _, 0, rfl, rfl, SqL.of hd, fun m h0 h1 => ?_⟩
    have em := mx_is h0 h1
    subst em
    have l0 := hg hne
    generalize hL : c.getD (c.length - 1) 0 = L at l0
    have aL : atI (c.map V.int) (-1) = some (.int L) := by rw [<- hL]; exact cQ hne
    have e : (if L < 0 then -L else L) = (L.natAbs : Int) := by split <;> omega
    refine ⟨_, rfl, _, rfl, _, rfl, a, _, _, _, rfl, rfl, (s1.trans s2).seq hA, aL, _, rfl, ?_⟩
    rw [e]
    refine ⟨_, _, rfl, rfl, by omega, _, _, rfl, rfl, ?_⟩
    have := k G2 (s1.trans s2)
    unfold aX at this
    rw [hL] at this
    exact this
theorem Kv : aZ ["curve", "edge"] ["curve"] (aB mz) := ⟨rfl, rfl, rfl, by decide +kernel, rfl, by decide +kernel, by decide +kernel⟩
theorem vD (z : Int) : plc z 1 = (z : Rat) := by
  unfold plc
  rw [show ((1 : Int) : Rat) = 1 from rfl, Rat.div_def]
  have : (1 : Rat)⁻¹ = 1 := by grind
  rw [this, Rat.mul_one]
theorem wZ (aN : FnAt P w K mg base 1 "check_curve" ["curve"] (aR K)) (aU : FnAt P w K mg base 1 "check_not_nought" ["curve"] (bV K)) (jE : FnAt P w K mg base 40 "reach" ["curve"] (jx K)) (gw : FnAt P w K mg base 44 "chain" ["curve"] (iz K))
    (fJ : FnAt P w K mg base 4 "roots_along" ["links", "low", "high"] (j5 K)) (F : Fun K "roots_in_all" "roots_in_all" mz f fd) : bw P w K mg base CX0 45 f fd ["curve"] (p8 K) := by
  refine F.ok Kv (fun vs H Q E h => ?_) (fun cdv A outer s H vs Q E hr h => ?_)
  · obtain ⟨a, c, p, L, ps, Ls, B, rfl, _⟩ := h
    rfl
  obtain ⟨a, c, p, L, ps, Ls, B, rfl, hA, z, hpB, k⟩ := h
  refine ⟨_, (ak (aD (aC aN hr rfl (aj (pv 0) aq)))
  (ak (aD (aC aU hr rfl (aj (pv 0) aq)))
  (ak (aK (i := 1) Kv.nd rfl (Or.inl rfl) (aC jE hr rfl (aj (pv 0) aq)))
  (aA (bA (aC fJ hr rfl (aj (aC gw hr rfl (aj (pv 0) aq)) (aj (eO (aj (dI cF (pv 1)) (aj au aq))) (aj (eO (aj (pv 1) (aj au aq))) aq))))))))), ?_⟩
  have hg := z.grow
  have hm := z.most
  have h30 := z.wC
  have hl := z.len
  have hl3 := z.l30
  refine ⟨_, rfl, a, c, rfl, hA, z.good, ?_⟩
  refine ⟨_, rfl, a, c, rfl, hA, z.ne, ?_⟩
  refine ⟨_, rfl, a, c, rfl, hA, z.good, z.ne, by omega, fun H0 s0 => ?_⟩
  obtain ⟨br, r2⟩ := nF z.good z.ne z.bd
  refine ⟨_, rfl, a, c, p, L, ps, Ls, rfl, s0.seq hA, z.good, z.ne, z.len, z.l30, z.bd, z.room, z.sim, h30, by omega, fun r1 H1 ws ls n1 s1 hch e1 hls hlg hw => ?_⟩
  refine ⟨_, rfl, _, rfl, (by show 2 <= sizeLine; decide), fun t1 m1 => ?_⟩
  have s2 : Same H1 (upd H1 t1 (.tup [.int (-aX c), .int 1])) := aQ m1 _
  have e2 : upd H1 t1 (.tup [.int (-aX c), .int 1]) t1 = some (.tup [.int (-aX c), .int 1]) := aH
  generalize upd H1 t1 (.tup [.int (-aX c), .int 1]) = G2 at s2 e2 ⊢
  refine ⟨_, rfl, (by show 2 <= sizeLine; decide), fun t2 m2 => ?_⟩
  have s3 : Same G2 (upd G2 t2 (.tup [.int (aX c), .int 1])) := aQ m2 _
  have e3 : upd G2 t2 (.tup [.int (aX c), .int 1]) t2 = some (.tup [.int (aX c), .int 1]) := aH
  generalize upd G2 t2 (.tup [.int (aX c), .int 1]) = G3 at s3 e3 ⊢
  have s13 := s2.trans s3
  have b1 : Bd B (1 : Int) := Bd.of_le 1 (by decide) (by have : 2 ^ 1 <= 2 ^ B := Nat.pow_le_pow_right (by decide) (by omega); omega)
  refine ⟨r1, t1, t2, ws, ls, -aX c, 1, aX c, 1, B, rfl, SqL.of (s13 _ _ e1), hls.mono s13, fun l hl => ?_, by omega, SqT.of (s3 _ _ e2), SqT.of e3, br.neg.mono hpB, b1, br.mono hpB, b1, hm, by decide, by decide, ?_⟩
  · obtain ⟨g1, g2, g3, g4⟩ := hlg l hl
    exact ⟨g1, by omega, fun x hx => (g4 x hx).mono hg⟩
  · rw [vD, vD, Rat.intCast_neg]
    exact k G3 ls (s0.trans (s1.trans s13)) hch
theorem scIP : aZ ["place", "parts"] ["place", "parts"] (aB iU) := ⟨rfl, rfl, rfl, by decide +kernel, rfl, by decide +kernel, by decide +kernel⟩
theorem zK (hN : base.NoSeer) (hT : P.given.tree = none) (F : Fun K "in_parts" "in_parts" iU f fd) : bw P w K mg base CX0 40 f fd ["place", "parts"] (lJ K) := by
  refine F.ok scIP (fun vs H Q E h => ?_) (fun cdv A outer s H vs Q E hr h => ?_)
  · obtain ⟨d, t, q, P, B, rfl, _⟩ := h
    rfl
  obtain ⟨d, t, q, P, B, rfl, hD, hq, hP, bt, bP, hB, k⟩ := h
  have hdp : (A.deeper (PyProof.Rows.envOfC "in_parts" (aB iU) s.heap.objs.size f cdv)).depth + 100 < recursionLimit := by have := hr.dp; omega
  refine ⟨_, (aA (bA (bh cX (bT cG (pv 0) au (fun _ _ => rfl)) (bh (nH hN hT rfl rfl rfl rfl rfl hdp) (pv 1) (bT cG (pv 0) au (fun _ _ => rfl)))))), ?_⟩
  have b2 : Bd B (P / q) := by
    have h0 := Int.ediv_nonneg hP (by omega : 0 <= q)
    have h1 := Int.ediv_le_self q hP
    unfold Bd at *
    omega
  exact ⟨_, rfl, d, _, _, _, rfl, rfl, hD, rfl, _, rfl, _, rfl, d, _, _, _, rfl, rfl, hD, rfl, _, _, rfl, rfl, hq, _, _, rfl, rfl, bt.fZ b2, k⟩
theorem zZ : aZ ["low", "high", "parts", "first", "last"] ["low", "high"] (aB lq) := ⟨rfl, rfl, rfl, by decide +kernel, rfl, by decide +kernel, by decide +kernel⟩
theorem J1 (a b : Int) : (if b > a then b else a) = max a b := by
  split <;> omega
theorem Dn (hmax : mg "max" = none) (jf : FnAt P w K mg base 40 "in_parts" ["place", "parts"] (lJ K)) (F : Fun K "middle" "middle" lq f fd) : bw P w K mg base CX0 41 f fd ["low", "high"] (nD K) := by
  refine F.ok zZ (fun vs H Q E h => ?_) (fun cdv A outer s H vs Q E hr h => ?_)
  · obtain ⟨d, e, lo, hi, B, rfl, _⟩ := h
    rfl
  obtain ⟨d, e, lo, hi, B, rfl, hD, hE, l0, h0, b1, b2, b3, b4, hB, k⟩ := h
  refine ⟨_, (ak (aK (i := 2) zZ.nd rfl (Or.inl rfl) (aO (ud rfl) rfl hmax PyProof.Rows.boot_max (aj (bT cG (pv 0) au (fun _ _ => rfl)) (aj (bT cG (pv 1) au (fun _ _ => rfl)) aq))))
  (ak (aK (i := 3) zZ.nd rfl (Or.inl rfl) (aC jf hr rfl (aj (pv 0) (aj (pv 2) aq))))
  (ak (aK (i := 4) zZ.nd rfl (Or.inl rfl) (aC jf hr rfl (aj (pv 1) (aj (pv 2) aq))))
  (ak (bL (aJ iK (bh fB (pv 4) (pv 3)) au (aP _))
    (aA (bA (eO (aj (bh nJ (bh cU (pv 3) (pv 4)) au) (aj (pv 2) aq)))))
    bB)
  (aA (bA (eO (aj (bh cU (pv 3) (pv 4)) (aj (bh cX au (pv 2)) aq))))))))), ?_⟩
  have bP : Bd B (max lo.2 hi.2) := by
    rcases (by omega : max lo.2 hi.2 = lo.2 \/ max lo.2 hi.2 = hi.2) with q | q <;> rw [q] <;> assumption
  refine ⟨_, rfl, d, _, _, _, rfl, rfl, hD, rfl, _, rfl, e, _, _, _, rfl, rfl, hE, rfl, _, _, rfl, ?_⟩
  rw [J1]
  refine ⟨_, rfl, _, rfl, d, lo.1, lo.2, max lo.2 hi.2, B, rfl, hD, l0, by omega, b1, bP, hB, ?_⟩
  refine ⟨_, rfl, _, rfl, e, hi.1, hi.2, max lo.2 hi.2, B, rfl, hE, h0, by omega, b3, bP, hB, ?_⟩
  refine ⟨_, rfl, _, rfl, _, _, rfl, rfl, _, _, rfl, rfl, _, rfl, bQ (fun z => ?_) (fun z => ?_)⟩
  · have z' : 1 < inP hi.1 hi.2 (max lo.2 hi.2) - inP lo.1 lo.2 (max lo.2 hi.2) := of_decide_eq_true z
    refine ⟨_, rfl, _, rfl, _, _, rfl, rfl, _, _, rfl, rfl, u_ (by decide) (by decide), _, rfl, (by show 2 <= sizeLine; decide), fun r n => ?_⟩
    refine k r _ n (aQ n _) ?_
    rw [aH]
    unfold eE
    rw [if_pos z']
    rfl
  · have z' : ¬ 1 < inP hi.1 hi.2 (max lo.2 hi.2) - inP lo.1 lo.2 (max lo.2 hi.2) := of_decide_eq_false (Bool.eq_false_iff.mpr z)
    refine ⟨_, rfl, _, rfl, _, _, rfl, rfl, _, rfl, _, _, rfl, rfl, IntMulOk.of_left (intBits_le_64 (by decide) (by decide)), (by show 2 <= sizeLine; decide), fun r n => ?_⟩
    refine k r _ n (aQ n _) ?_
    rw [aH]
    unfold eE
    rw [if_neg z']
    rfl
theorem scLg : aZ ["low", "high", "fine", "parts"] ["low", "high", "fine"] (aB lA) := ⟨rfl, rfl, rfl, by decide +kernel, rfl, by decide +kernel, by decide +kernel⟩
theorem Fx {t q P : Int} {B : Nat} (hq : 0 < q) (hP : 0 <= P) (bt : Bd B t) (bP : Bd B P) : Bd (B + B) (inP t q P) := by
  have h0 := Int.ediv_nonneg hP (by omega : 0 <= q)
  have h1 := Int.ediv_le_self q hP
  have b2 : Bd B (P / q) := by unfold Bd at *; omega
  exact bt.mul b2
theorem Dp (hmax : mg "max" = none) (jf : FnAt P w K mg base 40 "in_parts" ["place", "parts"] (lJ K)) (F : Fun K "is_longer" "is_longer" lA f fd) : bw P w K mg base CX0 41 f fd ["low", "high", "fine"] (qQ K) := by
  refine F.ok scLg (fun vs H Q E h => ?_) (fun cdv A outer s H vs Q E hr h => ?_)
  · obtain ⟨d, e, lo, hi, fine, B, rfl, _⟩ := h
    rfl
  obtain ⟨d, e, lo, hi, fine, B, rfl, hD, hE, l0, h0, b1, b2, b3, b4, bf, hB, k⟩ := h
  refine ⟨_, (ak (aK (i := 3) scLg.nd rfl (Or.inl rfl) (aO (ud rfl) rfl hmax PyProof.Rows.boot_max (aj (bT cG (pv 0) au (fun _ _ => rfl)) (aj (bT cG (pv 1) au (fun _ _ => rfl)) aq))))
  (aA (bA (vH iK (bh cX (bh fB (aC jf hr rfl (aj (pv 1) (aj (pv 3) aq))) (aC jf hr rfl (aj (pv 0) (aj (pv 3) aq)))) (pv 2)) (pv 3) (aP _))))), ?_⟩
  have bP : Bd B (max lo.2 hi.2) := by
    rcases (by omega : max lo.2 hi.2 = lo.2 \/ max lo.2 hi.2 = hi.2) with q | q <;> rw [q] <;> assumption
  have c1 := Fx h0 (by omega : 0 <= max lo.2 hi.2) b3 bP
  have c2 := Fx l0 (by omega : 0 <= max lo.2 hi.2) b1 bP
  refine ⟨_, rfl, d, _, _, _, rfl, rfl, hD, rfl, _, rfl, e, _, _, _, rfl, rfl, hE, rfl, _, _, rfl, ?_⟩
  rw [J1]
  refine ⟨_, rfl, _, rfl, e, hi.1, hi.2, max lo.2 hi.2, B, rfl, hE, h0, by omega, b3, bP, hB, ?_⟩
  exact ⟨_, rfl, _, rfl, d, lo.1, lo.2, max lo.2 hi.2, B, rfl, hD, l0, by omega, b1, bP, hB, _, _, rfl, rfl, _, rfl, _, _, rfl, rfl, (c1.sub c2).fZ bf, _, rfl, _, _, rfl, rfl, k⟩
theorem wA : aZ ["curve", "low", "high", "fine", "bottom", "top", "sign_beyond", "place", "sign"] ["curve", "low", "high", "fine"] (aB iD) := ⟨rfl, rfl, rfl, by decide +kernel, rfl, by decide +kernel, by decide +kernel⟩
theorem yx (iH : FnAt P w K mg base 2 "sign_at" ["curve", "place"] (gJ K)) (rJ : FnAt P w K mg base 41 "middle" ["low", "high"] (nD K)) (yH : FnAt P w K mg base 41 "is_longer" ["low", "high", "fine"] (qQ K)) (F : Fun K "narrowed" "narrowed" iD f fd) : bw P w K mg base CX0 42 f fd ["curve", "low", "high", "fine"] (mH K) := by
  refine F.ok wA (fun vs H Q E h => ?_) (fun cdv A outer s H vs Q E hr h => ?_)
  · obtain ⟨a, d, e, s, l, F, Pm, E, lo, hi, bE, bP, B, rfl, _⟩ := h
    rfl
  obtain ⟨a, d, e, sc, l, Fi, Pm, Ed, lo, hi, bE, bP, B, rfl, hA, hD, hE, S, ok1, ok2, hlt, one, hz, bs, hbE, hbP, hBB, hB, k⟩ := h
  refine ⟨_, (ak (aK (i := 4) wA.nd rfl (Or.inl rfl) (pv 1))
  (ak (aK (i := 5) wA.nd rfl (Or.inl rfl) (pv 2))
  (ak (aK (i := 6) wA.nd rfl (Or.inl rfl) (aC iH hr rfl (aj (pv 0) (aj (pv 5) aq))))
  (ak (gU PassesOwn.never (jh (aC yH hr rfl (aj (pv 4) (aj (pv 5) (aj (pv 3) aq)))))
    (ak (aK (i := 7) wA.nd rfl (Or.inl rfl) (aC rJ hr rfl (aj (pv 4) (aj (pv 5) aq))))
    (ak (aK (i := 8) wA.nd rfl (Or.inl rfl) (aC iH hr rfl (aj (pv 0) (aj (pv 7) aq))))
    (aA (bL (PW.pt (tK (aJ cg (pv 8) au (aP _)) (oO (aJ cg (pv 8) (pv 6) (aP _)))))
      (aA (aK (i := 5) wA.nd rfl (Or.inl rfl) (pv 7)))
      (aA (aK (i := 4) wA.nd rfl (Or.inl rfl) (pv 7))))))))
  (aA (bA (eO (aj (pv 4) (aj (pv 5) aq))))))))), ?_⟩
  have bds : ∀ {p : Int × Int}, fY Fi Pm Ed p -> Bd B p.1 /\ Bd B p.2 /\ 0 < p.2 := fun h => by
    obtain ⟨x1, x2, x3⟩ := h.bd hbE hbP
    exact ⟨x1.mono hBB, x2.mono (by omega), x3⟩
  have bF : Bd B Fi := by
    have g := ok1.pr.ge
    have g0 := ok1.pr.1
    obtain ⟨_, x2, _⟩ := bds ok1
    unfold Bd at *
    omega
  obtain ⟨c1, c2, c3⟩ := bds ok2
  refine ⟨_, rfl, _, rfl, _, rfl, _, rfl, a, e, sc, hi.1, hi.2, B, rfl, hA, SqT.of hE, hz, bs, c1, c2, hB, S.good, c3, ?_⟩
  rw [yV c3]
  obtain ⟨k0, hk0⟩ := Ir ((pl hi - pl lo) * (Fi : Rat))
  refine ⟨fun N σ H2 => ∃ (rb rt : Addr) (b t : Int × Int) (v7 v8 : Option V), σ = [some (.ref a), some (.ref d), some (.ref e), some (.int Fi), some (.ref rb), some (.ref rt), some (.int (rs (ev (pl hi) sc))), v7, v8] /\ Same H H2 /\ H2 rb = some (TP2 b) /\ H2 rt = some (TP2 t) /\ Fen sc l Fi Pm Ed lo hi b t /\ (pl t - pl b) * (Fi : Rat) <= lQ N,
    ⟨k0, d, e, lo, hi, none, none, rfl, Same.refl _, hD, hE, ⟨ok1, ok2, by grind, hlt, by grind, rfl, rfl⟩, hk0⟩, ?_⟩
  rintro N σ H2 ⟨rb, rt, b, t, v7, v8, rfl, s2, eb, et, fe, hN⟩
  obtain ⟨x1, x2, x3⟩ := bds fe.ok1
  obtain ⟨y1, y2, y3⟩ := bds fe.ok2
  refine ⟨_, rfl, _, rfl, _, rfl, rb, rt, b, t, Fi, B, rfl, SqT.of eb, SqT.of et, x3, y3, x1, x2, y1, y2, bF, hB, _, rfl, bQ (fun z => ?_) (fun z => ?_)⟩
  · have lg := (tY fe.ok1.pr fe.ok2.pr Fi).mp (of_decide_eq_true z)
    obtain ⟨N', rfl⟩ : ∃ N', N = N' + 1 := by
      cases N with
      | zero =>
        exfalso
        have : lQ 0 = 1 := rfl
        rw [this] at hN
        grind
      | succ n => exact ⟨n, rfl⟩
    have hN2 : (pl t - pl b) * (Fi : Rat) <= lQ N' * 4 / 3 := hN
    obtain ⟨m1, m2, m3, m4, m5, _⟩ := qG fe.ok1.pr fe.ok2.pr fe.h2
    have mo := xu fe.ok1 fe.ok2 fe.h2 (zN fe.ok1 fe.ok2 fe.h2 lg)
    obtain ⟨w1, w2, w3⟩ := bds mo
    have F0 : (0 : Rat) < (Fi : Rat) := by have := bO fe.ok1.pr.1; grind
    have f1 := fe.h1
    have f3 := fe.h3
    have fv1 := fe.v1
    have fv2 := fe.v2
    have n4 := Rat.mul_le_mul_of_nonneg_right m4 (c := (Fi : Rat)) (by grind)
    have n5 := Rat.mul_le_mul_of_nonneg_right m5 (c := (Fi : Rat)) (by grind)
    have he : rs (ev (pl hi) sc) = rs (ev (pl t) sc) \/ ∃ t', pl t < t' /\ Vc (pl t) (sc :: l) = Vc t' (sc :: l) /\ rs (ev (pl hi) sc) = rs (ev t' sc) := by
      rcases (by grind : pl t = pl hi \/ pl t < pl hi) with q | q
      · left; rw [q]
      · exact .inr ⟨pl hi, q, fv2, rfl⟩
    have hs := DN S.good S.ne S.st S.cop m1 m2 (by omega) he
    refine ⟨fun σ' H' => ∃ (rb rt : Addr) (b t : Int × Int) (v7 v8 : Option V), σ' = [some (.ref a), some (.ref d), some (.ref e), some (.int Fi), some (.ref rb), some (.ref rt), some (.int (rs (ev (pl hi) sc))), v7, v8] /\ Same H H' /\ H' rb = some (TP2 b) /\ H' rt = some (TP2 t) /\ Fen sc l Fi Pm Ed lo hi b t /\ (pl t - pl b) * (Fi : Rat) <= lQ N', fun σ' H' h => ⟨N', by omega, h⟩, ?_⟩
    refine ⟨_, rfl, _, rfl, rb, rt, b, t, B, rfl, SqT.of eb, SqT.of et, x3, y3, x1, x2, y1, y2, hB, fun rm G1 nm s1 em => ?_⟩
    refine ⟨_, rfl, _, rfl, a, rm, sc, (eE b t).1, (eE b t).2, B, rfl, (s2.trans s1).seq hA, SqT.of em, hz, bs, w1, w2, hB, S.good, w3, ?_⟩
    rw [yV w3]
    have inj : ∀ {u v : Int}, V.int u = V.int v -> u = v := fun e => by injection e
    have up : (rs (ev (pl (eE b t)) sc) = 0 \/ rs (ev (pl (eE b t)) sc) = rs (ev (pl hi) sc)) -> Fen sc l Fi Pm Ed lo hi b (eE b t) := fun h => ⟨fe.ok1, mo, f1, m1, by grind, fv1, by have := hs.1 h; omega⟩
    have dn : ¬ (rs (ev (pl (eE b t)) sc) = 0 \/ rs (ev (pl (eE b t)) sc) = rs (ev (pl hi) sc)) -> Fen sc l Fi Pm Ed lo hi (eE b t) t := fun h => ⟨mo, fe.ok2, by grind, m2, f3, by have := hs.2 h; omega, fv2⟩
    refine ⟨_, rfl, rfl, _, rfl, bQ (fun y => ?_) (fun y => ?_)⟩
    · have y' := inj (of_decide_eq_true y)
      exact ⟨_, rfl, rb, rm, b, eE b t, _, _, rfl, s2.trans s1, s1 _ _ eb, em, up (.inl y'), by grind⟩
    · have y' : ¬ rs (ev (pl (eE b t)) sc) = 0 := fun e => y (decide_eq_true (by show V.int _ = V.int 0; rw [show rs (ev (plc (eE b t).1 (eE b t).2) sc) = 0 from e]))
      refine ⟨_, rfl, _, rfl, rfl, _, rfl, bQ (fun x => ?_) (fun x => ?_)⟩
      · have x' := inj (of_decide_eq_true x)
        exact ⟨_, rfl, rb, rm, b, eE b t, _, _, rfl, s2.trans s1, s1 _ _ eb, em, up (.inr x'), by grind⟩
      · have x' : ¬ rs (ev (pl (eE b t)) sc) = rs (ev (pl hi) sc) := fun e => x (decide_eq_true (by show V.int _ = V.int _; rw [show rs (ev (plc (eE b t).1 (eE b t).2) sc) = rs (ev (pl hi) sc) from e]))
        exact ⟨_, rfl, rm, rt, eE b t, t, _, _, rfl, s2.trans s1, em, s1 _ _ et, dn (fun h => h.elim y' x'), by grind⟩
  · have lg : ¬ 1 < (pl t - pl b) * (Fi : Rat) := fun h => z (decide_eq_true ((tY fe.ok1.pr fe.ok2.pr Fi).mpr h))
    refine ⟨_, rfl, _, rfl, (by show 2 <= sizeLine; decide), fun r n => ?_⟩
    have sr := aQ n (.tup [.ref rb, .ref rt])
    exact k r rb rt _ b t (s2.free n) (s2.trans sr) aH (sr _ _ eb) (sr _ _ et) fe (by grind)
theorem wz : aZ ["links", "low", "high", "found", "start", "ends", "end", "roots", "place"] ["links", "low", "high"] (aB jq) := ⟨rfl, rfl, rfl, by decide +kernel, rfl, by decide +kernel, by decide +kernel⟩
theorem zJ (B : Bl mg) (cM : FnAt P w K mg base 3 "changes_along" ["links", "place"] (mZ K)) (rJ : FnAt P w K mg base 41 "middle" ["low", "high"] (nD K)) (F : Fun K "one_root_each" "one_root_each" jq f fd) : bw P w K mg base CX0 42 f fd ["links", "low", "high"] (oW K) := by
  refine F.ok wz (fun vs H Q E h => ?_) (fun cdv A outer s H vs Q E hr h => ?_)
  · obtain ⟨a, d, e, ws, s, l, F, Pm, E, S, lo, hi, bE, bP, B, rfl, _⟩ := h
    rfl
  obtain ⟨a, d, e, ws, sc, l, Fi, Pm, Ed, Sg, lo, hi, bE, bP, BB, rfl, hA, hL, hls, hz, hD, hE, S, ok1, ok2, hlt, sep, S0, hS, few, hbE, hbP, hBB, hB, k⟩ := h
  refine ⟨_, (ak (aK (i := 3) wz.nd rfl (Or.inl rfl) (cT aq))
  (ak (aK (i := 4) wz.nd rfl (Or.inl rfl) (eO (aj (pv 1) (aj (aC cM hr rfl (aj (pv 0) (aj (pv 1) aq))) aq))))
  (ak (aK (i := 5) wz.nd rfl (Or.inl rfl) (cT (aj (eO (aj (pv 2) (aj (aC cM hr rfl (aj (pv 0) (aj (pv 2) aq))) aq))) aq)))
  (ak (gU PassesOwn.never (aJ iK (aO aV rfl B.fX cI (aj (pv 5) aq)) au (aP _))
    (ak (aK (i := 6) wz.nd rfl (Or.inl rfl) (bT bY (pv 5) (dI cF au) (fun _ _ => rfl)))
    (ak (aK (i := 7) wz.nd rfl (Or.inl rfl) (bh fB (bT cG (pv 4) au (fun _ _ => rfl)) (bT cG (pv 6) au (fun _ _ => rfl))))
    (aA (bL (aJ iK (pv 7) au (aP _))
      (ak (aK (i := 8) wz.nd rfl (Or.inl rfl) (aC rJ hr rfl (aj (bT cG (pv 4) au (fun _ _ => rfl)) (aj (bT cG (pv 6) au (fun _ _ => rfl)) aq))))
      (aA (aD (tL PySem.F.plainAttrs_list PySem.F.slot_list_append PySem.F.type_list_append fQ (pv 5) (aj (eO (aj (pv 8) (aj (aC cM hr rfl (aj (pv 0) (aj (pv 8) aq))) aq))) aq)))))
      (ak (yL (bL (aJ cg (pv 7) au (aP _))
        (aA (aD (tL PySem.F.plainAttrs_list PySem.F.slot_list_append PySem.F.type_list_append fQ (pv 3) (aj (eO (aj (bT cG (pv 4) au (fun _ _ => rfl)) (aj (bT cG (pv 6) au (fun _ _ => rfl)) aq))) aq))))
        bB))
      (aA (aK (i := 4) wz.nd rfl (Or.inl rfl) (Ld PySem.F.plainAttrs_list PySem.F.slot_list_pop PySem.F.type_list_pop LQ (pv 5))))))))))
  (aA (bA (pv 3))))))), ?_⟩
  have bds : ∀ {p : Int × Int}, fY Fi Pm Ed p -> Bd BB p.1 /\ Bd BB p.2 /\ 0 < p.2 := fun h => by
    obtain ⟨x1, x2, x3⟩ := h.bd hbE hbP
    exact ⟨x1.mono hBB, x2.mono (by omega), x3⟩
  have vlp : ∀ {p : Int × Int}, 0 < p.2 -> chg 0 ((sc :: l).map fun u => sgn (hv p.1 p.2 u)) = Vc (pl p) (sc :: l) := fun h => zq h _
  obtain ⟨l1, l2, l3⟩ := bds ok1
  obtain ⟨g1, g2, g3⟩ := bds ok2
  refine ⟨Nat.zero_le _, fun rf nf => ?_⟩
  have s1 : Same H (upd H rf (.lst [])) := aQ nf _
  have e1 : upd H rf (.lst []) rf = some (.lst []) := aH
  generalize upd H rf (.lst []) = G1 at s1 e1 ⊢
  refine ⟨_, rfl, _, rfl, _, rfl, a, d, ws, sc :: l, lo.1, lo.2, BB, rfl, SqL.of (s1 _ _ hA), hL.mono s1, hls, hz, SqT.of (s1 _ _ hD), l1, l2, hB, l3, ?_⟩
  rw [vlp l3]
  refine ⟨(by show 2 <= sizeLine; decide), fun ts nts => ?_⟩
  have s2 : Same G1 (upd G1 ts (.tup [.ref d, .int (Vc (pl lo) (sc :: l))])) := aQ nts _
  have e2 : upd G1 ts (.tup [.ref d, .int (Vc (pl lo) (sc :: l))]) ts = some (.tup [.ref d, .int (Vc (pl lo) (sc :: l))]) := aH
  generalize upd G1 ts (.tup [.ref d, .int (Vc (pl lo) (sc :: l))]) = G2 at s2 e2 ⊢
  have s12 := s1.trans s2
  refine ⟨_, rfl, _, rfl, _, rfl, a, e, ws, sc :: l, hi.1, hi.2, BB, rfl, SqL.of (s12 _ _ hA), hL.mono s12, hls, hz, SqT.of (s12 _ _ hE), g1, g2, hB, g3, ?_⟩
  rw [vlp g3]
  refine ⟨(by show 2 <= sizeLine; decide), fun te nte => ?_⟩
  have s3 : Same G2 (upd G2 te (.tup [.ref e, .int (Vc (pl hi) (sc :: l))])) := aQ nte _
  have e3 : upd G2 te (.tup [.ref e, .int (Vc (pl hi) (sc :: l))]) te = some (.tup [.ref e, .int (Vc (pl hi) (sc :: l))]) := aH
  generalize upd G2 te (.tup [.ref e, .int (Vc (pl hi) (sc :: l))]) = G3 at s3 e3 ⊢
  refine ⟨(by show 1 <= sizeLine; decide), fun re ne => ?_⟩
  have s4 : Same G3 (upd G3 re (.lst [.ref te])) := aQ ne _
  have e4 : upd G3 re (.lst [.ref te]) re = some (.lst [.ref te]) := aH
  generalize upd G3 re (.lst [.ref te]) = G4 at s4 e4 ⊢
  have s24 := s2.trans (s3.trans s4)
  have sA : Same H G4 := s1.trans s24
  have nre : H re = none := (s12.trans s3).free ne
  have rfe : rf ≠ re := fun z => by rw [<- z] at ne; rw [s3 _ _ (s2 _ _ e1)] at ne; cases ne
  have k0b := DQ ok1 ok2 hlt S0 hS hbE hbP
  refine ⟨fun N σ H2 => ∃ (ts p0 : Addr) (x : Int × Int) (ws' : List V) (es : List (Int × Int)) (ks : List Nat) (zs : List V) (ps : List ((Int × Int) × (Int × Int))) (v6 v7 v8 : Option V), σ = [some (.ref a), some (.ref d), some (.ref e), some (.ref rf), some (.ref ts), some (.ref re), v6, v7, v8] /\ Same H H2 /\ H2 ts = some (.tup [.ref p0, .int (Vc (pl x) (sc :: l))]) /\ H2 p0 = some (TP2 x) /\ fY Fi Pm Ed x /\
      H2 re = some (.lst ws') /\ gH H2 (fun p => Vc (pl p) (sc :: l)) ws' es /\ (∀ p ∈ es, fY Fi Pm Ed p) /\ Gp Sg (pl x) es ks /\ Dep (3 * (bE + bP)) ks /\ ks.length = es.length /\ (es = [] -> pl x = pl hi) /\ (∀ p, es.getLast? = some p -> pl p = pl hi) /\ H2 rf = some (.lst zs) /\ dH H2 zs ps /\ Row sc l Fi Pm Ed (Vc (pl lo) (sc :: l)) (pl lo) (pl x) ps /\ N = (ks.map turns).sum /\ pl lo <= pl x,
    ⟨_, ts, d, lo, [.ref te], [hi], [3 * (bE + bP)], [], [], none, none, none, rfl, sA, s4 _ _ (s3 _ _ e2), sA _ _ hD, ok1, e4, gH.snoc [] [] te e hi .nil (s4 _ _ e3) (sA _ _ hE), (fun p hp => by rw [List.mem_singleton.mp hp]; exact ok2), ⟨hlt, k0b, trivial⟩, ⟨by show 0 + 1 + _ <= _; omega, trivial⟩, rfl, (fun z => by cases z), (fun p hp => by cases hp; rfl), s24 _ _ e1, dH.nil _, ⟨(fun p hp => nomatch hp), (fun i p hp => by simp at hp), (fun i p q hp => by simp at hp), by simp⟩, rfl, by grind⟩, ?_⟩
  rintro N σ H2 ⟨ts, p0, x, ws', es, ks, zs, ps, v6, v7, v8, rfl, s5, e5, e6, okx, e7, hE', oks, hg, hdep, hkl, hend, hlast, e8, hP, hrow, rfl, hlox⟩
  have lw := hE'.length
  refine ⟨_, rfl, re, _, rfl, .inl (SqL.of e7), _, _, rfl, rfl, _, rfl, bQ (fun z => ?_) (fun z => ?_)⟩
  · have z' : (0 : Int) < ((ws'.length : Nat) : Int) := of_decide_eq_true z
    cases hE' with
    | nil => exact absurd z' (by decide)
    | snoc ws0 es0 t p en hE0 h1 h2 =>
      cases ks with
      | nil => exact absurd hg (by simp [Gp])
      | cons k1 ks =>
        obtain ⟨hg1, hg2, hg3⟩ := hg
        obtain ⟨hd1, hd2⟩ := hdep
        have okn := oks en List.mem_cons_self
        obtain ⟨x1, x2, x3⟩ := bds okx
        obtain ⟨y1, y2, y3⟩ := bds okn
        have vm := V_mono S.good S.ne S.st S.cop (x := pl x) (y := pl en) (by grind)
        have lks : ks.length = es0.length := by simpa using hkl
        have hrow' := hrow
        have hsum : (((k1 :: ks).map turns).sum) = turns k1 + (ks.map turns).sum := by simp
        rw [hsum]
        have tp := Ck k1
        refine ⟨fun σ' H' => ∃ N', N' < turns k1 + (ks.map turns).sum /\ ∃ (ts p0 : Addr) (x : Int × Int) (ws' : List V) (es : List (Int × Int)) (ks : List Nat) (zs : List V) (ps : List ((Int × Int) × (Int × Int))) (v6 v7 v8 : Option V), σ' = [some (.ref a), some (.ref d), some (.ref e), some (.ref rf), some (.ref ts), some (.ref re), v6, v7, v8] /\ Same H H' /\ H' ts = some (.tup [.ref p0, .int (Vc (pl x) (sc :: l))]) /\ H' p0 = some (TP2 x) /\ fY Fi Pm Ed x /\
          H' re = some (.lst ws') /\ gH H' (fun p => Vc (pl p) (sc :: l)) ws' es /\ (∀ p ∈ es, fY Fi Pm Ed p) /\ Gp Sg (pl x) es ks /\ Dep (3 * (bE + bP)) ks /\ ks.length = es.length /\ (es = [] -> pl x = pl hi) /\ (∀ p, es.getLast? = some p -> pl p = pl hi) /\ H' rf = some (.lst zs) /\ dH H' zs ps /\ Row sc l Fi Pm Ed (Vc (pl lo) (sc :: l)) (pl lo) (pl x) ps /\ N' = (ks.map turns).sum /\ pl lo <= pl x, fun σ' H' h => h, ?_⟩
        refine ⟨_, rfl, _, rfl, re, _, _, _, rfl, rfl, SqL.of e7, xU _ _, ?_⟩
        refine ⟨_, rfl, ts, _, _, _, rfl, rfl, SqT.of e5, rfl, _, rfl, t, _, _, _, rfl, rfl, SqT.of h1, rfl, _, _, rfl, rfl, ?_⟩
        refine ⟨_, rfl, _, _, rfl, rfl, _, rfl, bQ (fun y => ?_) (fun y => ?_)⟩
        ·
          have y' : 1 < Vc (pl x) (sc :: l) - Vc (pl en) (sc :: l) := of_decide_eq_true y
          have sp1 := sep (pl x) (pl en) (by grind) (by omega)
          obtain ⟨m1, m2, m3, m4, m5, _⟩ := qG okx.pr okn.pr hg1
          have mo := xu okx okn hg1 (Du okx okn hg1 (by grind) hS)
          obtain ⟨w1, w2, w3⟩ := bds mo
          obtain ⟨k2, rfl⟩ : ∃ k2, k1 = k2 + 1 := by
            cases k1 with
            | zero =>
              exfalso
              have : lQ 0 = 1 := rfl
              rw [this] at hg2
              grind
            | succ n => exact ⟨n, rfl⟩
          refine ⟨_, rfl, ts, _, _, _, rfl, rfl, SqT.of e5, rfl, _, rfl, t, _, _, _, rfl, rfl, SqT.of h1, rfl, p0, p, x, en, BB, rfl, SqT.of e6, SqT.of h2, x3, y3, x1, x2, y1, y2, hB, fun rm G6 nm s6 em => ?_⟩
          have sH := s5.trans s6
          refine ⟨_, rfl, .inl ⟨rfl, _, SqL.of (s6 _ _ e7)⟩, _, rfl, _, rfl, _, rfl, a, rm, ws, sc :: l, (eE x en).1, (eE x en).2, BB, rfl, SqL.of (sH _ _ hA), hL.mono sH, hls, hz, SqT.of em, w1, w2, hB, w3, ?_⟩
          rw [vlp w3]
          refine ⟨(by show 2 <= sizeLine; decide), fun tm ntm => ?_⟩
          have s7 : Same G6 (upd G6 tm (.tup [.ref rm, .int (Vc (pl (eE x en)) (sc :: l))])) := aQ ntm _
          have em7 : upd G6 tm (.tup [.ref rm, .int (Vc (pl (eE x en)) (sc :: l))]) tm = some (.tup [.ref rm, .int (Vc (pl (eE x en)) (sc :: l))]) := aH
          generalize upd G6 tm (.tup [.ref rm, .int (Vc (pl (eE x en)) (sc :: l))]) = G7 at s7 em7 ⊢
          have s67 := s6.trans s7
          have lw0 : (ws0 ++ [V.ref t]).length <= 3 * (bE + bP) + 1 := by rw [lw, List.length_cons, <- lks]; omega
          refine ⟨re, _, _, rfl, rfl, s67 _ _ e7, Nat.lt_of_le_of_lt (Nat.le_trans lw0 (by omega : 3 * (bE + bP) + 1 <= 3000001)) (by decide), ?_⟩
          have kp : ∀ b o, b ≠ re -> G7 b = some o -> upd G7 re (.lst (ws0 ++ [.ref t] ++ [.ref tm])) b = some o := fun b o nb q => by rw [bK nb]; exact q
          have hre : ∃ xs, G7 re = some (.lst xs) := ⟨_, s67 _ _ e7⟩
          have hre2 : ∃ xs, H2 re = some (.lst xs) := ⟨_, e7⟩
          have keep : ∀ b o, b ≠ re -> H2 b = some o -> upd G7 re (.lst (ws0 ++ [.ref t] ++ [.ref tm])) b = some o := fun b o nb q => kp b o nb (s67 _ _ q)
          have nl : ∀ {b : Addr} {o : HO}, G7 b = some o -> (∀ xs, o ≠ .lst xs) -> b ≠ re := fun h hn z => by
            rw [z] at h
            obtain ⟨xs, hx⟩ := hre
            rw [hx] at h
            exact hn xs (Option.some.inj h).symm
          have gs := Gp.split (S := Sg) (x := pl x) (e := en) (m := eE x en) (es := es0) (k := k2) (ks := ks) ⟨hg1, hg2, hg3⟩ S0 m1 m2 m4 m5
          refine ⟨_, ?_, ts, p0, x, _, eE x en :: en :: es0, k2 :: k2 :: ks, zs, ps, _, _, _, rfl, fun b o q => keep b o (bU q nre) (s5 _ _ q), keep _ _ (nl (s67 _ _ e5) (fun xs h => by cases h)) e5, keep _ _ (nl (s67 _ _ e6) (fun xs h => by cases h)) e6, okx, aH,
            gH.snoc _ _ tm rm _ ((gH.snoc ws0 es0 t p en hE0 h1 h2).mono keep hre2) (kp _ _ (nl em7 (fun xs h => by cases h)) em7) (kp _ _ (nl (s7 _ _ em) (fun xs h => by cases h)) (s7 _ _ em)), ?_, gs, ⟨by simp at hd1 ⊢; omega, by omega, hd2⟩, by simp [lks], (fun q => by cases q), ?_, keep _ _ rfe e8, hP.mono keep hre2, hrow, rfl, hlox⟩
          · simp only [List.map_cons, List.sum_cons, turns]
            omega
          · intro q hq
            rcases List.mem_cons.mp hq with r | r
            · rw [r]; exact mo
            · exact oks q r
          · intro q hq
            rw [List.getLast?_cons_cons] at hq
            exact hlast q hq
        ·
          have y' : ¬ 1 < Vc (pl x) (sc :: l) - Vc (pl en) (sc :: l) := of_decide_eq_false (Bool.eq_false_iff.mpr y)
          have rfl' := hrow
          refine ⟨fun σ' H' => ∃ (zs : List V) (ps : List ((Int × Int) × (Int × Int))) (v7 : Option V), σ' = [some (.ref a), some (.ref d), some (.ref e), some (.ref rf), some (.ref ts), some (.ref re), some (.ref t), v7, v8] /\ (∀ b o, b ≠ rf -> H2 b = some o -> H' b = some o) /\ H' rf = some (.lst zs) /\ dH H' zs ps /\ Row sc l Fi Pm Ed (Vc (pl lo) (sc :: l)) (pl lo) (pl en) ps, ?_, ?_⟩
          · refine ⟨_, rfl, rfl, _, rfl, bQ (fun u => ?_) (fun u => ?_)⟩
            · have u' : Vc (pl x) (sc :: l) - Vc (pl en) (sc :: l) = 1 := by
                have := of_decide_eq_true u
                injection this
              refine ⟨_, rfl, .inl ⟨rfl, _, SqL.of e8⟩, _, rfl, ts, _, _, _, rfl, rfl, SqT.of e5, rfl, _, rfl, t, _, _, _, rfl, rfl, SqT.of h1, rfl, (by show 2 <= sizeLine; decide), fun tp' ntp => ?_⟩
              have s7 : Same H2 (upd H2 tp' (.tup [.ref p0, .ref p])) := aQ ntp _
              have e77 : upd H2 tp' (.tup [.ref p0, .ref p]) tp' = some (.tup [.ref p0, .ref p]) := aH
              generalize upd H2 tp' (.tup [.ref p0, .ref p]) = G7 at s7 e77 ⊢
              have lzs := hP.1
              have num := hrow.num
              have vm2 := V_mono S.good S.ne S.st S.cop (x := pl en) (y := pl hi) (by
                have := okn.hi
                cases h9 : es0.getLast? with
                | none =>
                  have : es0 = [] := List.getLast?_eq_none_iff.mp h9
                  subst this
                  have := hlast en rfl
                  grind
                | some q =>
                  have h10 : (en :: es0).getLast? = some q := by
                    cases es0 with
                    | nil => cases h9
                    | cons b bs => rw [List.getLast?_cons_cons]; exact h9
                  have := hlast q h10
                  rw [<- this]
                  exact Gp.le_last hg3 h9)
              refine ⟨rf, _, _, rfl, rfl, s7 _ _ e8, eF (by omega), ?_⟩
              have kp : ∀ b o, b ≠ rf -> G7 b = some o -> upd G7 rf (.lst (zs ++ [.ref tp'])) b = some o := fun b o nb q => by rw [bK nb]; exact q
              have hrf : ∃ xs, H2 rf = some (.lst xs) := ⟨_, e8⟩
              have keep : ∀ b o, b ≠ rf -> H2 b = some o -> upd G7 rf (.lst (zs ++ [.ref tp'])) b = some o := fun b o nb q => kp b o nb (s7 _ _ q)
              have nl : ∀ {b : Addr} {o : HO}, G7 b = some o -> (∀ xs, o ≠ .lst xs) -> b ≠ rf := fun h hn z => by
                rw [z, s7 _ _ e8] at h
                exact hn zs (Option.some.inj h).symm
              refine ⟨_, ps ++ [(x, en)], _, rfl, keep, aH, (hP.mono keep hrf).snoc ⟨tp', p0, p, rfl, kp _ _ (nl e77 (fun xs h => by cases h)) e77, keep _ _ (nl (s7 _ _ e6) (fun xs h => by cases h)) e6, keep _ _ (nl (s7 _ _ h2) (fun xs h => by cases h)) h2⟩, ?_⟩
              exact Row.snoc hrow okx okn hlox hg1 u'
            · have u' : ¬ Vc (pl x) (sc :: l) - Vc (pl en) (sc :: l) = 1 := fun q => u (decide_eq_true (by show V.int _ = V.int 1; rw [q]))
              refine ⟨zs, ps, _, rfl, fun b o _ q => q, e8, hP, ?_⟩
              refine ⟨fun q hq => ?_, hrow.at_, hrow.up, ?_⟩
              · obtain ⟨a1, a2, a3, a4, a5⟩ := hrow.ok q hq
                exact ⟨a1, a2, a3, a4, by grind⟩
              · have := hrow.num
                omega
          · rintro σ' H' ⟨zs', ps', w7, rfl, keep, f8, hP', hrow2⟩
            have hrf : ∃ xs, H2 rf = some (.lst xs) := ⟨_, e8⟩
            have f7 := keep _ _ rfe.symm e7
            refine ⟨_, rfl, .inl ⟨rfl, _, SqL.of f7⟩, re, _, .ref t, rfl, rfl, f7, (by simp), ?_⟩
            have ed : (ws0 ++ [V.ref t]).dropLast = ws0 := by simp
            rw [ed]
            have kp : ∀ b o, b ≠ re -> H' b = some o -> upd H' re (.lst ws0) b = some o := fun b o nb q => by rw [bK nb]; exact q
            have hre : ∃ xs, H' re = some (.lst xs) := ⟨_, f7⟩
            have nl : ∀ {b : Addr} {o : HO}, H2 b = some o -> (∀ xs, o ≠ .lst xs) -> b ≠ re /\ b ≠ rf := fun h hn => ⟨fun z => by
              rw [z, e7] at h
              exact hn _ (Option.some.inj h).symm, fun z => by
              rw [z, e8] at h
              exact hn _ (Option.some.inj h).symm⟩
            have k2 : ∀ {b : Addr} {o : HO}, H2 b = some o -> (∀ xs, o ≠ .lst xs) -> upd H' re (.lst ws0) b = some o := fun h hn => kp _ _ (nl h hn).1 (keep _ _ (nl h hn).2 h)
            refine ⟨_, ?_, t, p, en, ws0, es0, ks, zs', ps', _, _, _, rfl, fun b o q => kp b o (bU q nre) (keep b o (bU q nf) (s5 _ _ q)), k2 h1 (fun xs h => by cases h), k2 h2 (fun xs h => by cases h), okn, aH, (hE0.mono keep hrf).mono kp hre, (fun q hq => oks q (List.mem_cons_of_mem _ hq)), hg3, hd2, lks, fun q => ?_, fun q hq => ?_, kp _ _ rfe f8, hP'.mono kp hre, hrow2, rfl, by grind⟩
            · omega
            · subst q
              exact hlast en rfl
            · refine hlast q ?_
              cases es0 with
              | nil => cases hq
              | cons b bs => rw [List.getLast?_cons_cons]; exact hq
  · have z' : ¬ (0 : Int) < ((ws'.length : Nat) : Int) := of_decide_eq_false (Bool.eq_false_iff.mpr z)
    have es0 : es = [] := List.eq_nil_of_length_eq_zero (by omega)
    have ex := hend es0
    rw [ex] at hrow
    exact ⟨_, rfl, k rf H2 zs ps nf s5 e8 hP hrow⟩
theorem Ej : aZ ["curve", "fine", "links", "edge", "apart"] ["curve", "fine"] (aB fM) := ⟨rfl, rfl, rfl, by decide +kernel, rfl, by decide +kernel, by decide +kernel⟩
noncomputable def qw (G : Hp) (v : Option V) : St := match v with
  | some (.ref t) => match G t with
    | some (.tup [u, w]) => [some u, some w]
    | _ => [none, none]
  | _ => [none, none]
theorem Cj (G : Hp) (v : Option V) : (qw G v).length = 2 := by
  unfold qw
  split
  · split <;> rfl
  · rfl
theorem nR (aN : FnAt P w K mg base 1 "check_curve" ["curve"] (aR K)) (aU : FnAt P w K mg base 1 "check_not_nought" ["curve"] (bV K)) (wj : FnAt P w K mg base 1 "check_fine" ["fine"] g_) (gw : FnAt P w K mg base 44 "chain" ["curve"] (iz K)) (jE : FnAt P w K mg base 40 "reach" ["curve"] (jx K))
    (pZ : FnAt P w K mg base 42 "one_root_each" ["links", "low", "high"] (oW K)) (zV : FnAt P w K mg base 42 "narrowed" ["curve", "low", "high", "fine"] (mH K)) (F : Fun K "stretches" "stretches" fM f fd) : bw P w K mg base CX0 45 f fd ["curve", "fine"] (fU K) := by
  refine F.ok Ej (fun vs H Q E h => ?_) (fun cdv A outer s H vs Q E hr h => ?_)
  · obtain ⟨a, c, p, L, ps, Ls, B, bP, F, Pm, S, rfl, _⟩ := h
    rfl
  obtain ⟨a, c, p, L, ps, Ls, BB, bP, Fi, Pm, Sg, rfl, hA, z, F0, hFP, S0, hSP, hbP, hBB, bF, hch, k⟩ := h
  refine ⟨_, (ak (aD (aC aN hr rfl (aj (pv 0) aq)))
  (ak (aD (aC aU hr rfl (aj (pv 0) aq)))
  (ak (aD (aC wj hr rfl (aj (pv 1) aq)))
  (ak (aK (i := 2) Ej.nd rfl (Or.inr rfl) (aC gw hr rfl (aj (pv 0) aq)))
  (ak (aK (i := 3) Ej.nd rfl (Or.inl rfl) (bh cX (aC jE hr rfl (aj (pv 0) aq)) (pv 1)))
  (ak (aK (i := 4) Ej.nd rfl (Or.inl rfl) (aC pZ hr rfl (aj (pv 2) (aj (eO (aj (dI cF (pv 3)) (aj (pv 1) aq))) (aj (eO (aj (pv 3) (aj (pv 1) aq))) aq)))))
  (aA (bA (IV (x := "low") (y := "high") (N := ["links", "fine"]) (fr := [2, 1]) (Bq (by with_unfolding_all rfl) (by decide +kernel) rfl (by decide +kernel) (by decide +kernel) (yP rfl (yP rfl wF)) rfl ⟨⟨rfl, rfl, rfl⟩, ⟨rfl, rfl, rfl⟩, trivial⟩ rfl rfl) rfl rfl (gq (pv 4)) (fun _ _ _ _ _ => pts0) (fun _ _ _ _ _ => aC zV hr rfl (aj (bT (r := Kw K) bY (pv 2) au (fun _ _ => rfl)) (aj (pv 0) (aj (pv 1) (aj (pv 3) aq)))))))))))))), ?_⟩
  have hg := z.grow
  have hm := z.most
  have h30 := z.wC
  have hl := z.len
  have hl3 := z.l30
  obtain ⟨br, r2⟩ := nF z.good z.ne z.bd
  refine ⟨_, rfl, a, c, rfl, hA, z.good, ?_⟩
  refine ⟨_, rfl, a, c, rfl, hA, z.ne, ?_⟩
  refine ⟨_, rfl, _, rfl, F0, ?_⟩
  refine ⟨_, rfl, a, c, p, L, ps, Ls, rfl, hA, z.good, z.ne, z.len, z.l30, z.bd, z.room, z.sim, h30, by omega, fun r1 H1 ws ls n1 s1 hchain e1 hls hlg hw => ?_⟩
  obtain ⟨sc, l, hsim, rfl, hst⟩ := id hchain
  obtain ⟨stm, sep, few⟩ := hch sc l hchain
  refine ⟨_, rfl, a, c, rfl, s1.seq hA, z.good, z.ne, by omega, fun H2 s2 => ?_⟩
  refine ⟨_, rfl, _, _, rfl, rfl, (br.mono (by omega : p + 2 <= BB)).fZ bF, ?_⟩
  have s12 := s1.trans s2
  obtain ⟨pe1, pe2⟩ := Iw (E := aX c) F0
  refine ⟨_, rfl, _, rfl, _, rfl, _, rfl, (by show 2 <= sizeLine; decide), fun t1 m1 => ?_⟩
  have s3 : Same H2 (upd H2 t1 (.tup [.int (-(aX c * Fi)), .int Fi])) := aQ m1 _
  have e3 : upd H2 t1 (.tup [.int (-(aX c * Fi)), .int Fi]) t1 = some (TP2 (-(aX c * Fi), Fi)) := aH
  generalize upd H2 t1 (.tup [.int (-(aX c * Fi)), .int Fi]) = G3 at s3 e3 ⊢
  refine ⟨_, rfl, _, rfl, (by show 2 <= sizeLine; decide), fun t2 m2 => ?_⟩
  have s4 : Same G3 (upd G3 t2 (.tup [.int (aX c * Fi), .int Fi])) := aQ m2 _
  have e4 : upd G3 t2 (.tup [.int (aX c * Fi), .int Fi]) t2 = some (TP2 (aX c * Fi, Fi)) := aH
  generalize upd G3 t2 (.tup [.int (aX c * Fi), .int Fi]) = G4 at s4 e4 ⊢
  have s24 := s2.trans (s3.trans s4)
  have E0 : (0 : Rat) < ((aX c : Int) : Rat) := by have := bO (k := aX c) (by omega); grind
  have o1 : fY Fi Pm (aX c) (-(aX c * Fi), Fi) := ⟨Pr.self F0, hFP, by rw [pe2]; grind, by rw [pe2]; grind⟩
  have o2 : fY Fi Pm (aX c) (aX c * Fi, Fi) := ⟨Pr.self F0, hFP, by rw [pe1]; grind, by rw [pe1]; grind⟩
  refine ⟨r1, t1, t2, ws, sc, l, Fi, Pm, aX c, Sg, _, _, p + 2, bP, BB, rfl, s24 _ _ e1, hls.mono s24, fun u hu => ?_, by omega, s4 _ _ e3, e4, stm, o1, o2, by rw [pe1, pe2]; grind, sep, S0, hSP, by rw [pe1, pe2]; exact few, br, hbP, hBB, hm, fun r5 G5 zs ps0 n5 s5 e5 hP0 hrow0 => ?_⟩
  · obtain ⟨u1, u2, u3, u4⟩ := hlg u hu
    exact ⟨u1, by omega, fun x hx => (u4 x hx).mono hg⟩
  rw [pe1, pe2] at hrow0
  have s25 := s24.trans s5
  have e15 := s25 _ _ e1
  have hls5 := hls.mono s25
  have sA : Same H G5 := s1.trans s25
  have lzs := hP0.1
  have num := hrow0.num
  have a0 : ∃ gs, atI ws 0 = some (.ref gs) /\ G5 gs = some (IL sc) := by
    have lw : ws.length = (sc :: l).length := hls.1
    have h0 : 0 < ws.length := by rw [lw]; simp
    obtain ⟨l0, gs, x1, x2, x3⟩ := hls5.get (List.getElem?_eq_getElem h0)
    cases x1
    exact ⟨gs, by rw [<- x2]; exact Bs (List.getElem?_eq_getElem h0), x3⟩
  obtain ⟨gs, ags, egs⟩ := a0
  have bsc := hlg sc List.mem_cons_self
  refine ⟨_, rfl, r5, rfl, ⟨_, SqL.of e5⟩, Bb (K := K) (xs := ["low", "high"]) (ws := zs) (fun _ => true) (fun D i v H => ∀ q, ps0[i]? = some q -> ∃ (t a b : Addr) (q' : (Int × Int) × (Int × Int)), t ≠ D /\ a ≠ D /\ b ≠ D /\ v = .ref t /\ H t = some (.tup [.ref a, .ref b]) /\ H a = some (TP2 q'.1) /\ H b = some (TP2 q'.2) /\ Fen sc l Fi Pm (aX c) q.1 q.2 q'.1 q'.2 /\ (pl q'.2 - pl q'.1) * (Fi : Rat) <= 1) (fun i => qw G5 zs[i]?) (SqL.of e5) (by omega) (fun D i v H1 H2 kp h q hq => ?_) (fun _ => Cj _ _) ?_ ?_ ?_ ?_⟩
  · obtain ⟨t, a, b, q', d1, d2, d3, ev, x1, x2, x3, x4, x5⟩ := h q hq
    exact ⟨t, a, b, q', d1, d2, d3, ev, kp _ _ d1 x1, kp _ _ d2 x2, kp _ _ d3 x3, x4, x5⟩
  · intro i y σ0 H6 Q2 hy s6 l0 q2
    obtain ⟨q, hq, t, a', b', rfl, x1, x2, x3⟩ := hP0.get hy
    have l0' : σ0.length = 2 := l0
    obtain ⟨u, v, rfl⟩ : ∃ u v, σ0 = [u, v] := by
      match σ0, l0' with
      | [u, v], _ => exact ⟨u, v, rfl⟩
    have e2 : qw G5 zs[i]? = [some (.ref a'), some (.ref b')] := by rw [hy]; unfold qw; dsimp only; rw [x1]
    rw [e2] at q2
    exact ⟨t, _, rfl, SqT.of (s6 _ _ x1), rfl, _, _, rfl, _, _, rfl, rfl, q2⟩
  · intro i y H6 Q2 hy s6 q2
    exact q2 H6 (Same.refl _)
  · intro D acc i y H6 Q2 hD hd hy _ s6 q2
    obtain ⟨q, hq, t, a', b', rfl, x1, x2, x3⟩ := hP0.get hy
    have e2 : qw G5 zs[i]? = [some (.ref a'), some (.ref b')] := by rw [hy]; unfold qw; dsimp only; rw [x1]
    rw [e2]
    obtain ⟨k1, k2, k3, k4, k5⟩ := hrow0.ok q (List.mem_of_getElem? hq)
    obtain ⟨v1, v2⟩ := hrow0.at_ i q hq
    refine ⟨_, rfl, r1, _, _, _, rfl, rfl, SqL.of (s6 _ _ e15), ags, _, rfl, _, rfl, _, rfl, gs, a', b', sc, l, Fi, Pm, aX c, q.1, q.2, p + 2, bP, BB, rfl, SqL.of (s6 _ _ egs), s6 _ _ x2, s6 _ _ x3, stm, k1, k2, k4, by omega, by have := bsc.2.2.1; omega, fun x hx => (bsc.2.2.2 x hx).mono hg, br, hbP, hBB, hm, fun rr rb rt H7 b t n7 s7 y1 y2 y3 fen yl => ?_⟩
    refine q2 _ H7 s7 fun q' hq' => ?_
    rw [hq] at hq'
    cases hq'
    have hD7 := s7 _ _ hd
    exact ⟨rr, rb, rt, (b, t), (fun e => by rw [e, hd] at n7; cases n7), (fun e => by rw [e, hD7] at y2; cases y2), (fun e => by rw [e, hD7] at y3; cases y3), rfl, y1, y2, y3, fen, yl⟩
  · intro r7 G7 vs n7 s7 e7 hl7 hr7
    have fl : (List.range zs.length).filter (fun _ => true) = List.range zs.length := List.filter_eq_self.mpr fun _ _ => rfl
    rw [fl] at hl7 hr7
    rw [List.length_range] at hl7
    have ex : ∀ i : Nat, ∃ q' : (Int × Int) × (Int × Int), ∀ (q : (Int × Int) × (Int × Int)) (v : V), ps0[i]? = some q -> vs[i]? = some v -> jW G7 v q' /\ Fen sc l Fi Pm (aX c) q.1 q.2 q'.1 q'.2 /\ (pl q'.2 - pl q'.1) * (Fi : Rat) <= 1 := fun i => by
      by_cases hi : i < ps0.length
      · have hv : i < vs.length := by omega
        obtain ⟨t, a, b, q', _, _, _, ev, x1, x2, x3, x4, x5⟩ := hr7 i vs[i] i (List.getElem?_eq_getElem hv) (by rw [List.getElem?_range (by omega)]) ps0[i] (List.getElem?_eq_getElem hi)
        refine ⟨q', fun q v hq hv' => ?_⟩
        rw [List.getElem?_eq_getElem hi] at hq
        cases hq
        rw [List.getElem?_eq_getElem hv] at hv'
        cases hv'
        exact ⟨⟨t, a, b, ev, x1, x2, x3⟩, x4, x5⟩
      · exact ⟨default, fun q v hq => absurd (List.getElem?_eq_some_iff.mp hq).1 hi⟩
    obtain ⟨qf, hqf⟩ := Classical.axiomOfChoice ex
    have get : ∀ {i : Nat} {q' : (Int × Int) × (Int × Int)}, ((List.range ps0.length).map qf)[i]? = some q' -> ∃ (hi : i < ps0.length) (hv : i < vs.length), q' = qf i /\ jW G7 (vs[i]'hv) q' /\ Fen sc l Fi Pm (aX c) (ps0[i]'hi).1 (ps0[i]'hi).2 q'.1 q'.2 /\ (pl q'.2 - pl q'.1) * (Fi : Rat) <= 1 := fun {i q'} hq => by
      have hi : i < ps0.length := by
        have := (List.getElem?_eq_some_iff.mp hq).1
        simpa using this
      have hv : i < vs.length := by omega
      rw [List.getElem?_map, List.getElem?_range hi] at hq
      have eq : q' = qf i := (Option.some.inj hq).symm
      obtain ⟨x1, x2, x3⟩ := hqf i ps0[i] vs[i] (List.getElem?_eq_getElem hi) (List.getElem?_eq_getElem hv)
      rw [<- eq] at x1 x2 x3
      exact ⟨hi, hv, eq, x1, x2, x3⟩
    refine k r7 G7 vs ((List.range ps0.length).map qf) sc l (sA.free n7) (sA.trans s7) e7 ⟨by simp; omega, fun i v q' hv hq => ?_⟩ hchain ⟨fun q' hq' => ?_, fun i q' hq' => ?_, fun i q1 q2 h1 h2 => ?_, ?_⟩ fun q' hq' => ?_
    · obtain ⟨hi, hv', eq, x1, _⟩ := get hq
      rw [List.getElem?_eq_getElem hv'] at hv
      cases hv
      exact x1
    · obtain ⟨i, hi, e⟩ := List.mem_iff_getElem.mp hq'
      obtain ⟨hi', hv', _, _, fe, _⟩ := get (List.getElem?_eq_some_iff.mpr ⟨hi, e⟩)
      obtain ⟨k1, k2, k3, k4, k5⟩ := hrow0.ok ps0[i] (List.getElem_mem hi')
      have := fe.h1
      have := fe.h3
      exact ⟨fe.ok1, fe.ok2, by grind, fe.h2, by grind⟩
    · obtain ⟨hi', hv', _, _, fe, _⟩ := get hq'
      obtain ⟨v1, v2⟩ := hrow0.at_ i ps0[i] (List.getElem?_eq_getElem hi')
      exact ⟨by rw [fe.v1]; exact v1, by rw [fe.v2]; exact v2⟩
    · obtain ⟨i1, _, _, _, fe1, _⟩ := get h1
      obtain ⟨i2, _, _, _, fe2, _⟩ := get h2
      have := hrow0.up i ps0[i] ps0[i + 1] (List.getElem?_eq_getElem i1) (List.getElem?_eq_getElem i2)
      have := fe1.h3
      have := fe2.h1
      grind
    · rw [List.length_map, List.length_range]
      exact num
    · obtain ⟨i, hi, e⟩ := List.mem_iff_getElem.mp hq'
      obtain ⟨_, _, _, _, _, yl⟩ := get (List.getElem?_eq_some_iff.mpr ⟨hi, e⟩)
      exact yl
theorem wu : aZ ["curve", "chains", "sign", "signs", "low", "high"] ["curve"] (aB qz) := ⟨rfl, rfl, rfl, by decide +kernel, rfl, by decide +kernel, by decide +kernel⟩
theorem tX (aN : FnAt P w K mg base 1 "check_curve" ["curve"] (aR K)) (aU : FnAt P w K mg base 1 "check_not_nought" ["curve"] (bV K)) (fP : FnAt P w K mg base 45 "chains_for_times" ["curve"] (uL K)) (iH : FnAt P w K mg base 2 "sign_at" ["curve", "place"] (gJ K)) (jE : FnAt P w K mg base 40 "reach" ["curve"] (jx K))
    (h_ : FnAt P w K mg base 45 "stretches" ["curve", "fine"] (fU K)) (jj : FnAt P w K mg base 5 "times_along" ["chains", "low", "high"] (nA K)) (F : Fun K "signs_over" "signs_over" qz f fd) : bw P w K mg base CX0 46 f fd ["curve"] (nC K) := by
  refine F.ok wu (fun vs H Q E h => ?_) (fun cdv A outer s H vs Q E hr h => ?_)
  · obtain ⟨a, c, rfl, _⟩ := h
    rfl
  obtain ⟨a, c, rfl, hA, g, q⟩ := h
  refine ⟨_, (ak (aD (aC aN hr rfl (aj (pv 0) aq)))
  (ak (aD (aC aU hr rfl (aj (pv 0) aq)))
  (ak (aK (i := 1) wu.nd rfl (Or.inl rfl) (aC fP hr rfl (aj (pv 0) aq)))
  (ak (aK (i := 2) wu.nd rfl (Or.inl rfl) (aC iH hr rfl (aj (pv 0) (aj (eO (aj (dI cF (aC jE hr rfl (aj (pv 0) aq))) (aj au aq))) aq))))
  (ak (aK (i := 3) wu.nd rfl (Or.inl rfl) (cT (aj (pv 2) aq)))
  (ak (gD PassesOwn.never rfl (gq (aC h_ hr rfl (aj (pv 0) (aj au aq)))) (qF rfl (fG (cP (i := 4) wu.nd rfl (Or.inl rfl)) (fG (cP (i := 5) wu.nd rfl (Or.inl rfl)) m8)))
    (ak (bL (aJ cg (bh gF (aC jj hr rfl (aj (pv 1) (aj (pv 4) (aj (pv 5) aq)))) au) au (aP _))
      (aA (aK (i := 2) wu.nd rfl (Or.inl rfl) (dI cF (pv 2))))
      bB)
    (aA (aD (tL PySem.F.plainAttrs_list PySem.F.slot_list_append PySem.F.type_list_append fQ (pv 3) (aj (pv 2) aq))))))
  (aA (bA (pv 3))))))))), ?_⟩
  obtain ⟨ps, Ls, z, zc⟩ := g.c5.szs
  have hl := z.len
  obtain ⟨br, r2⟩ := nF z.good z.ne z.bd
  obtain ⟨sb1, sb2⟩ := zu
  refine ⟨_, rfl, a, c, rfl, hA, z.good, ?_⟩
  refine ⟨_, rfl, a, c, rfl, hA, z.ne, ?_⟩
  refine ⟨_, rfl, a, c, rfl, hA, g, fun r1 H1 ws lss n1 s1 e1 hC hF h6 => ?_⟩
  refine ⟨_, rfl, _, rfl, a, c, rfl, s1.seq hA, z.good, z.ne, by omega, fun H2 s2 => ?_⟩
  refine ⟨_, rfl, (by show 2 <= sizeLine; decide), fun t1 m1 => ?_⟩
  have s3 : Same H2 (upd H2 t1 (.tup [.int (-aX c), .int 1])) := aQ m1 _
  have e3 : upd H2 t1 (.tup [.int (-aX c), .int 1]) t1 = some (.tup [.int (-aX c), .int 1]) := aH
  generalize upd H2 t1 (.tup [.int (-aX c), .int 1]) = G3 at s3 e3 ⊢
  have s13 := s1.trans (s2.trans s3)
  have s03 := s2.trans s3
  have b1 : Bd 100000 (1 : Int) := by unfold Bd; exact Nat.lt_of_lt_of_le (by decide : (1 : Int).natAbs < 2 ^ 1) (Nat.pow_le_pow_right (by decide) (by decide))
  refine ⟨a, t1, c, -aX c, 1, 100000, rfl, s13.seq hA, SqT.of e3, by omega, fun x hx => (z.bd x hx).mono (by decide), (br.neg).mono (by decide), b1, by decide, z.good, by decide, ?_⟩
  have cC := hC.mono s03
  have e13 := s03 _ _ e1
  generalize sgn (hv (-aX c) 1 c) = s0
  refine ⟨_, rfl, (by show 1 <= sizeLine; decide), fun r3 n3 => ?_⟩
  have s4 : Same G3 (upd G3 r3 (.lst [.int s0])) := aQ n3 _
  have e4 : upd G3 r3 (.lst [.int s0]) r3 = some (IL [s0]) := aH
  generalize upd G3 r3 (.lst [.int s0]) = G4 at s4 e4 ⊢
  have s14 := s13.trans s4
  refine ⟨_, rfl, a, c, 200, 5, ps, Ls, 100000, 20003, 1, 2 * SEP + 2, SEP, rfl, s14.seq hA, z, by decide, by omega, sb2, by omega, sb1, by decide, b1, zc, fun r6 G6 zs prs sc l n6 s6 e6 hP hch hrow hfine => ?_⟩
  have e46 := s6 _ _ e4
  have nr : r6 ≠ r3 := fun e => by rw [e, e4] at n6; cases n6
  have sG := s4.trans s6
  have num := hrow.num
  have few := (zc sc l hch).2.2
  have lz := hP.1
  have few2 : prs.length <= 100 := by omega
  refine ⟨r6, rfl, ⟨_, SqL.of e6⟩, nM (K := K) (xs := zs)
    (fun i σ H5 => ∃ (v4 v5 : Option V) (sg : Int) (out : List Int), σ = [some (.ref a), some (.ref r1), some (.int sg), some (.ref r3), v4, v5] /\ Same G3 H5 /\ H5 r3 = some (IL out) /\ out.length <= i + 1 /\ H5 r6 = some (.lst zs) /\ dH H5 zs prs)
    ⟨none, none, s0, [s0], rfl, sG, e46, Nat.le_refl _, e6, hP⟩ (fun i σ H5 _ ⟨_, _, _, _, _, _, _, _, e, _⟩ => SqL.of e) ?_ ?_⟩
  · rintro i x σ H5 hx ⟨v4, v5, sg, out, rfl, s5, e5, lo, e65, hP5⟩
    obtain ⟨q1, hq, t, a1, b2, rfl, x1, x2, x3⟩ := hP5.get hx
    have hi : i < prs.length := (List.getElem?_eq_some_iff.mp hq).1
    obtain ⟨o1, o2, k3, k4, k5⟩ := hrow.ok q1 (List.mem_of_getElem? hq)
    obtain ⟨c1, c2, c3⟩ := o1.bd br sb1
    obtain ⟨d1, d2, d3⟩ := o2.bd br sb1
    refine ⟨t, _, rfl, SqT.of x1, rfl, _, _, rfl, _, _, rfl, rfl, ?_⟩
    refine ⟨_, rfl, _, rfl, _, rfl, r1, a1, b2, ws, lss, q1.1.1, q1.1.2, q1.2.1, q1.2.2, rfl, s5 _ _ e13, cC.mono s5, hF, h6, SqT.of x2, SqT.of x3, c1.mono (by decide), c2.mono (by decide), d1.mono (by decide), d2.mono (by decide), c3, d3, fun H7 s7 => ?_⟩
    generalize (List.map (fun ls => Vc (plc q1.1.1 q1.1.2) ls - Vc (plc q1.2.1 q1.2.2) ls) lss).sum = T
    have sz : (out.map V.int).length < sizeLine := by rw [List.length_map]; exact eF (by omega)
    have fin : ∀ sg : Int, ∃ (v4 v5 : Option V) (sg' : Int) (out' : List Int), [some (V.ref a), some (.ref r1), some (.int sg), some (.ref r3), some (.ref a1), some (.ref b2)] = [some (V.ref a), some (.ref r1), some (.int sg'), some (.ref r3), v4, v5] /\ Same G3 (upd H7 r3 (.lst (out.map V.int ++ [V.int sg]))) /\ upd H7 r3 (.lst (out.map V.int ++ [V.int sg])) r3 = some (IL out') /\ out'.length <= i + 1 + 1 /\ upd H7 r3 (.lst (out.map V.int ++ [V.int sg])) r6 = some (.lst zs) /\ dH (upd H7 r3 (.lst (out.map V.int ++ [V.int sg]))) zs prs := by
      intro sg
      refine ⟨_, _, sg, out ++ [sg], rfl, fun b o e => ?_, ?_, ?_, ?_, ?_⟩
      · rw [bK (bU e n3)]
        exact s7 _ _ (s5 _ _ e)
      · rw [aH, q8]
      · rw [List.length_append, List.length_singleton]; omega
      · rw [bK nr]; exact s7 _ _ e65
      · refine ⟨hP5.1, fun j v p hv hp => ?_⟩
        obtain ⟨t', a', b', ev, y1, y2, y3⟩ := hP5.2 j v p hv hp
        have ne : ∀ b xs, H5 b = some (.tup xs) -> b ≠ r3 := fun b xs e z' => by rw [z', e5] at e; cases e
        exact ⟨t', a', b', ev, by rw [bK (ne _ _ y1)]; exact s7 _ _ y1, by rw [bK (ne _ _ y2)]; exact s7 _ _ y2, by rw [bK (ne _ _ y3)]; exact s7 _ _ y3⟩
    refine ⟨_, _, rfl, rfl, (by show (0 : Int) < 2; decide), rfl, _, rfl, bQ (fun y => ?_) (fun y => ?_)⟩
    · refine ⟨_, rfl, _, rfl, ?_⟩
      exact ⟨_, rfl, .inl ⟨rfl, _, SqL.of (s7 _ _ e5)⟩, _, rfl, r3, _, _, rfl, rfl, s7 _ _ e5, sz, fin _⟩
    · exact ⟨_, rfl, .inl ⟨rfl, _, SqL.of (s7 _ _ e5)⟩, _, rfl, r3, _, _, rfl, rfl, s7 _ _ e5, sz, fin _⟩
  · rintro σ H5 ⟨v4, v5, sg, out, rfl, s5, e5, lo, e65, hP5⟩
    exact ⟨_, rfl, q r3 H5 (s13.free n3) (s13.trans s5)⟩
theorem scShS : aZ ["number", "line"] ["number", "line"] (aB kZ) := ⟨rfl, rfl, rfl, by decide +kernel, rfl, by decide +kernel, by decide +kernel⟩
theorem Dk (F : Fun K "shown_sign" "shown_sign" kZ f fd) : bw P w K mg base CX0 1 f fd ["number", "line"] qN := by
  refine F.ok scShS (fun vs H Q E h => ?_) (fun cdv A outer s H vs Q E hr h => ?_)
  · obtain ⟨n, l, rfl, _⟩ := h
    rfl
  obtain ⟨n, l, rfl, q⟩ := h
  refine ⟨_, (ak (bL (aJ gB (pv 0) au (aP _))
    (aA (bA cA))
    bB)
  (aA (bA (qW (aJ cg (pv 1) cA (aP _)) cA cA)))), ?_⟩
  refine ⟨_, rfl, _, _, rfl, rfl, _, rfl, bQ (fun z => ?_) (fun z => ?_)⟩
  · have z' : n < 0 := of_decide_eq_true z
    rw [if_pos z'] at q
    exact lit45 ▸ q
  · have z' : ¬ n < 0 := of_decide_eq_false (Bool.eq_false_iff.mpr z)
    rw [if_neg z'] at q
    refine ⟨_, rfl, rfl, _, rfl, bQ (fun y => ?_) (fun y => ?_)⟩
    · have y' := of_decide_eq_true y
      injection y' with y'
      rw [if_pos (I9 (y'.trans Ci))] at q
      exact Ci ▸ q
    · rw [if_neg (fun e => y (decide_eq_true (by rw [e, Ci])))] at q
      exact lit43 ▸ q
theorem scShF : aZ ["number", "power"] ["number", "power"] (aB oJ) := ⟨rfl, rfl, rfl, by decide +kernel, rfl, by decide +kernel, by decide +kernel⟩
theorem GJ (B : Bl mg) (hstr : mg "str" = none) (F : Fun K "shown_figures" "shown_figures" oJ f fd) : bw P w K mg base CX0 1 f fd ["number", "power"] vo := by
  refine F.ok scShF (fun vs H Q E h => ?_) (fun cdv A outer s H vs Q E hr h => ?_)
  · obtain ⟨n, k, rfl, _⟩ := h
    rfl
  obtain ⟨n, k, rfl, hb, q⟩ := h
  have ea : (if n < 0 then -n else n) = ((n.natAbs : Nat) : Int) := by split <;> omega
  refine ⟨_, (ak (bL (PW.pt (gC (aJ iK (pv 1) au (aP _)) (fj (aJ cg (aO gZ rfl B.wG jV (aj (pv 0) aq)) au (aP _)))))
    (aA (bA cA))
    bB)
  (aA (bA (cB nT rfl hstr Gi (aj (aO gZ rfl B.wG jV (aj (pv 0) aq)) aq))))), ?_⟩
  have last : ¬ (0 < k /\ n.natAbs = 1) -> tCB (fun xs H Q => ∃ i, xs = [.int i] /\ i.natAbs.log2 < 1920 /\ Q (.str (toString i)) H) (jN (tCB (fun xs H Q => KH xs H Q) (jN (ou 0) wk)) wk) [some (.int n), some (.int (k : Int))] H Q := by
    intro hn
    rw [show qu k n = pR n.natAbs from if_neg hn, <- vJ] at q
    refine ⟨_, rfl, _, rfl, _, rfl, ?_, ?_⟩
    · rw [ea, Int.natAbs_natCast]
      exact Nat.lt_trans (Fw (by decide) hb) (by decide)
    · rw [ea]; exact q
  refine ⟨_, rfl, _, _, rfl, rfl, _, rfl, bQ (fun z => ?_) (fun z => ?_)⟩
  · have z' : (0 : Int) < (k : Int) := of_decide_eq_true z
    refine ⟨_, rfl, _, rfl, rfl, _, rfl, bQ (fun y => ?_) (fun y => ?_)⟩
    · have y' := of_decide_eq_true y
      injection y' with y'
      rw [show qu k n = [] from if_pos ⟨by omega, by rw [ea] at y'; omega⟩] at q
      exact Ci ▸ q
    · exact last fun e => y (decide_eq_true (by rw [ea, e.2]; rfl))
  · have z' : ¬ (0 : Int) < (k : Int) := of_decide_eq_false (Bool.eq_false_iff.mpr z)
    exact dJ (last fun e => z' (by omega))
theorem scShP : aZ ["power"] ["power"] (aB oH) := ⟨rfl, rfl, rfl, by decide +kernel, rfl, by decide +kernel, by decide +kernel⟩
theorem GF (hstr : mg "str" = none) (F : Fun K "shown_power" "shown_power" oH f fd) : bw P w K mg base CX0 1 f fd ["power"] vh := by
  refine F.ok scShP (fun vs H Q E h => ?_) (fun cdv A outer s H vs Q E hr h => ?_)
  · obtain ⟨k, rfl, _⟩ := h
    rfl
  obtain ⟨k, rfl, hb, q⟩ := h
  refine ⟨_, (ak (bL (aJ cg (pv 0) au (aP _))
    (aA (bA cA))
    bB)
  (aA (bA (qW (aJ cg (pv 0) au (aP _)) cA (bh jG cA (cB nT rfl hstr Gi (aj (pv 0) aq))))))), ?_⟩
  refine ⟨_, rfl, rfl, _, rfl, bQ (fun z => ?_) (fun z => ?_)⟩
  · have z' := of_decide_eq_true z
    injection z' with z'
    rw [show pP k = [] from if_pos (by omega)] at q
    exact Ci ▸ q
  · have k0 : k ≠ 0 := fun e => z (decide_eq_true (by rw [e]; rfl))
    refine ⟨_, rfl, rfl, _, rfl, bQ (fun y => ?_) (fun y => ?_)⟩
    · have y' := of_decide_eq_true y
      injection y' with y'
      rw [show pP k = [120] from (if_neg k0).trans (if_pos (by omega))] at q
      exact zj ▸ q
    · have k1 : k ≠ 1 := fun e => y (decide_eq_true (by rw [e]; rfl))
      have e : pP k = [120] ++ pR k := (if_neg k0).trans (if_neg k1)
      rw [e, <- jH, <- zj, <- vJ] at q
      refine ⟨_, rfl, _, rfl, ?_, _, _, rfl, rfl, ?_, q⟩
      · rw [Int.natAbs_natCast]
        exact Nat.lt_trans (Fw (by decide) (show k < 2 ^ 10 by omega)) (by decide)
      · rw [zj, vJ, eX, eX, sizeLine_eq]
        have := nP 4 k (by decide) (by omega)
        simp only [List.length_cons, List.length_nil]; omega
theorem wI : aZ ["curve", "line", "power"] ["curve"] (aB mq) := ⟨rfl, rfl, rfl, by decide +kernel, rfl, by decide +kernel, by decide +kernel⟩
theorem wW (B : Bl mg) (aN : FnAt P w K mg base 1 "check_curve" ["curve"] (aR K)) (wg : FnAt P w K mg base 1 "shown_sign" ["number", "line"] qN) (pY : FnAt P w K mg base 1 "shown_figures" ["number", "power"] vo) (tE : FnAt P w K mg base 1 "shown_power" ["power"] vh)
    (F : Fun K "shown" "shown" mq f fd) : bw P w K mg base CX0 2 f fd ["curve"] (p7 K) := by
  refine F.ok wI (fun vs H Q E h => ?_) (fun cdv A outer s H vs Q E hr h => ?_)
  · obtain ⟨a, c, rfl, _⟩ := h
    rfl
  obtain ⟨a, c, rfl, hA, hg, hz, hb, q⟩ := h
  refine ⟨_, (ak (aD (aC aN hr rfl (aj (pv 0) aq)))
  (ak (bL (aJ cg (aO aV rfl B.fX cI (aj (pv 0) aq)) au (aP _))
    (aA (bA cA))
    bB)
  (ak (aK (i := 1) wI.nd rfl (Or.inl rfl) cA)
  (ak (gD PassesOwn.never rfl (oZ rfl B.mD (aj (bh fB (aO aV rfl B.fX cI (aj (pv 0) aq)) au) (aj (dI cF au) (aj (dI cF au) aq)))) (cP (i := 2) wI.nd rfl (Or.inl rfl))
    (aA (bL (aJ pD (bT bY (pv 0) (pv 2) (fun _ _ => rfl)) au (aP _))
      (aA (aK (i := 1) wI.nd rfl (Or.inl rfl) (bh jG (bh jG (bh jG (pv 1) (aC wg hr rfl (aj (bT bY (pv 0) (pv 2) (fun _ _ => rfl)) (aj (pv 1) aq)))) (aC pY hr rfl (aj (bT bY (pv 0) (pv 2) (fun _ _ => rfl)) (aj (pv 2) aq)))) (aC tE hr rfl (aj (pv 2) aq)))))
      bB)))
  (aA (bA (pv 1))))))), ?_⟩
  have hl : (c.map V.int).length = c.length := List.length_map _
  refine ⟨_, rfl, a, c, rfl, hA, hg, ?_⟩
  refine ⟨_, rfl, a, _, rfl, .inl hA, rfl, _, rfl, bQ (fun z => ?_) (fun z => ?_)⟩
  · have z' := of_decide_eq_true z
    injection z' with z'
    have e : c = [] := List.eq_nil_of_length_eq_zero (by rw [hl] at z'; omega)
    subst e
    exact lit48 ▸ q
  have hne : c ≠ [] := fun e => z (decide_eq_true (by rw [e]; rfl))
  have c1 := List.length_pos_iff.mpr hne
  refine ⟨_, rfl, a, _, rfl, .inl hA, _, _, rfl, rfl, _, rfl, _, rfl, _, _, rfl, ⟨by omega, by omega, by omega, by omega⟩, rz (hi := (((c.map V.int).length : Nat) : Int) - 1) (n := ((((c.map V.int).length : Nat) : Int) - 1 - -1).toNat)
    (fun i σ H2 => ∃ (v2 : Option V), σ = [some (.ref a), some (.str (ofL (dM (dnL c c.length i)))), v2] /\ H2 = H) ⟨none, by show _ = [_, some (V.str (ofL [])), _]; rw [<- Ci]; rfl, rfl⟩ ?_ ?_⟩
  · rintro i σ H2 hi ⟨v2, rfl, rfl⟩
    rw [hl] at hi
    have hi' : i < c.length := by omega
    obtain ⟨p, hp⟩ : ∃ p : Nat, p = c.length - 1 - i := ⟨_, rfl⟩
    have hp2 : (((c.map V.int).length : Nat) : Int) - 1 - (i : Int) = (p : Int) := by rw [hl]; omega
    dsimp only
    rw [hp2]
    have hix : atI (c.map V.int) (p : Int) = some (.int (c.getD p 0)) := by
      have := fH (ns := c) (k := (p : Int)) (by omega) (by omega)
      rw [this, Int.toNat_natCast]
    have hbp := Br hb p
    have hd := Gb hb (show c.length <= 1000 by omega) i
    have hs := Cr (dnL c c.length i)
    refine ⟨_, rfl, _, rfl, a, _, _, _, rfl, rfl, hA, hix, rfl, _, rfl, bQ (fun z => ?_) (fun z => ?_)⟩
    · have n0 : c.getD p 0 ≠ 0 := fun e => by rw [e] at z; exact absurd z (by decide)
      have l1 := Bj (k := p) hbp
      have l2 := Aw (k := p) (by omega)
      refine ⟨_, rfl, _, rfl, _, rfl, a, _, _, _, rfl, rfl, hA, hix, _, rfl, _, dM (dnL c c.length i), rfl, ?_⟩
      have hsg : (if c.getD p 0 < 0 then [45] else if dM (dnL c c.length i) = [] then [] else [43] : List Nat).length <= 1 := by split; simp; split <;> simp
      have key := zy (k := p) (Ga c c.length i) n0
      have e : dnL c c.length (i + 1) = dnL c c.length i ++ tmL p (c.getD p 0) := by rw [dnL, <- hp]
      generalize (if c.getD p 0 < 0 then [45] else if dM (dnL c c.length i) = [] then [] else [43] : List Nat) = sg at hsg key
      refine ⟨_, _, rfl, rfl, by rw [eX, eX, sizeLine_eq]; omega, _, rfl, _, rfl, a, _, _, _, rfl, rfl, hA, hix, _, rfl, _, p, rfl, hbp, ?_⟩
      rw [jH]
      refine ⟨_, _, rfl, rfl, by rw [eX, eX, List.length_append, sizeLine_eq]; omega, _, rfl, p, rfl, by omega, ?_⟩
      rw [jH]
      refine ⟨_, _, rfl, rfl, by rw [eX, eX, List.length_append, List.length_append, sizeLine_eq]; omega, ?_⟩
      rw [jH]
      refine ⟨some (.int (p : Int)), ?_, rfl⟩
      rw [e, key]
      simp [List.append_assoc]
    · have n0 : c.getD p 0 = 0 := Classical.byContradiction fun e => z (by rw [decide_eq_false (fun h => e (by injection h))]; rfl)
      refine ⟨some (.int (p : Int)), ?_, rfl⟩
      rw [dnL, <- hp, n0, show tmL p 0 = [] from if_pos rfl, List.append_nil]
      rfl
  · rintro σ H2 ⟨v2, rfl, rfl⟩
    have e : ((((c.map V.int).length : Nat) : Int) - 1 - -1).toNat = c.length := by rw [hl]; omega
    rw [e, Jk]
    rw [show J3 c = dM (iR c c.length) from if_neg fun z => hne ((Hs hg).mp z)] at q
    exact ⟨_, rfl, q⟩
theorem Lp {x : Ea} (B : Bl mg) (R : Rf K mg "NoCurve" x.NC) (F : Fun K "check_curve" "check_curve" eZ f fd) : bw P w K mg base (CXE P w) 1 f fd ["curve"] (bCC K x) := by
  refine F.okE scCC (fun vs H Q E h => ?_) (fun cdv A outer s H vs Q E hr h => ?_)
  · obtain ⟨a, c, rfl, _⟩ := h
    rfl
  obtain ⟨a, c, rfl, hA, ⟨hne, hz⟩, q⟩ := h
  refine ⟨_, (aA (bL (PW.pt (gC (aJ iK (aO aV rfl B.fX cI (aj (pv 0) aq)) au (aP _)) (fj (aJ cg (bT bY (pv 0) (dI cF au) (fun _ _ => rfl)) au (aP _)))))
    (aA (jr PySem.F.excBase_ValueError rfl R.at_ R.ex (aj cA aq)))
    bB)), ?_⟩
  have hl : (c.map V.int).length = c.length := List.length_map _
  have c1 := List.length_pos_iff.mpr hne
  refine ⟨_, rfl, a, _, rfl, .inl hA, _, _, rfl, rfl, _, rfl, ?_⟩
  refine bQ (fun e => ?_) (fun e => ?_)
  · refine ⟨_, rfl, _, rfl, a, _, _, _, rfl, rfl, hA, cQ hne, rfl, _, rfl, ?_⟩
    refine bQ (fun z => ?_) (fun z => ?_)
    · exact ⟨by decide, q⟩
    · exact absurd (decide_eq_true (by rw [hz])) z
  · have e' : ¬ (0 : Int) < (((c.map V.int).length : Nat) : Int) := of_decide_eq_false (Bool.eq_false_iff.mpr e)
    rw [hl] at e'
    omega
theorem Li {x : Ea} (B : Bl mg) (R : Rf K mg "Nought" x.NN) (F : Fun K "check_not_nought" "check_not_nought" iW f fd) : bw P w K mg base (CXE P w) 1 f fd ["curve"] (bNN K x) := by
  refine F.okE scNN (fun vs H Q E h => ?_) (fun cdv A outer s H vs Q E hr h => ?_)
  · obtain ⟨a, rfl, _⟩ := h
    rfl
  obtain ⟨a, rfl, hA, q⟩ := h
  refine ⟨_, (aA (bL (aJ cg (aO aV rfl B.fX cI (aj (pv 0) aq)) au (aP _))
    (aA (jr PySem.F.excBase_ValueError rfl R.at_ R.ex (aj cA aq)))
    bB)), ?_⟩
  refine ⟨_, rfl, a, _, rfl, .inl hA, rfl, _, rfl, bQ (fun z => ⟨by decide, q⟩) (fun z => absurd rfl z)⟩
theorem Lk {x : Ea} (R : Rf K mg "NoPlace" x.NP) (F : Fun K "check_place" "check_place" eY f fd) : bw P w K mg base (CXE P w) 1 f fd ["place"] (bCP K x) := by
  refine F.okE scCP (fun vs H Q E h => ?_) (fun cdv A outer s H vs Q E hr h => ?_)
  · obtain ⟨d, p, q, rfl, _⟩ := h
    rfl
  obtain ⟨d, p, q, rfl, hD, l, k⟩ := h
  refine ⟨_, (aA (bL (aJ gB (bT cG (pv 0) au (fun _ _ => rfl)) au (aP _))
    (aA (jr PySem.F.excBase_ValueError rfl R.at_ R.ex (aj cA aq)))
    bB)), ?_⟩
  refine ⟨_, rfl, d, _, _, _, rfl, rfl, hD, rfl, _, _, rfl, rfl, _, rfl, bQ (fun z => ⟨by decide, k⟩) (fun z => absurd (decide_eq_true l) z)⟩
theorem Ln {x : Ea} (R : Rf K mg "NoFine" x.NF) (F : Fun K "check_fine" "check_fine" fO f fd) : bw P w K mg base (CXE P w) 1 f fd ["fine"] (bCF x) := by
  refine F.okE scCF (fun vs H Q E h => ?_) (fun cdv A outer s H vs Q E hr h => ?_)
  · obtain ⟨k, rfl, _⟩ := h
    rfl
  obtain ⟨k, rfl, l, q⟩ := h
  refine ⟨_, (aA (bL (aJ gB (pv 0) au (aP _))
    (aA (jr PySem.F.excBase_ValueError rfl R.at_ R.ex (aj cA aq)))
    bB)), ?_⟩
  refine ⟨_, rfl, _, _, rfl, rfl, _, rfl, bQ (fun z => ⟨by decide, q⟩) (fun z => absurd (decide_eq_true l) z)⟩
theorem Lj {x : Ea} (R : Rf K mg "NoStretch" x.NS) (uI : bJ P w K mg base 1 "check_place" ["place"] (b_ (dj K) (bCP K x))) (F : Fun K "check_stretch" "check_stretch" d7 f fd) : bw P w K mg base (CXE P w) 2 f fd ["low", "high"] (bCS K x) := by
  refine F.okE scCS (fun vs H Q E h => ?_) (fun cdv A outer s H vs Q E hr h => ?_)
  · obtain ⟨d, e, p, q, r, t, rfl, _⟩ := h
    rfl
  obtain ⟨d, e, p, q, r, t, rfl, hD, hE, k⟩ := h
  rcases k with ⟨l, k⟩ | ⟨hq, l, k⟩ | ⟨hq, ht, bp, bq, br, bt, l, k⟩
  · refine ⟨_, (ak (aD (aG uI hr rfl bH (aj (pv 0) aq))) bC), ?_⟩
    exact ⟨_, rfl, .inr ⟨d, p, q, rfl, hD, l, k⟩⟩
  · refine ⟨_, (ak (aD (aG uI hr rfl bH (aj (pv 0) aq))) (ak (aD (aG uI hr rfl bH (aj (pv 1) aq))) bC)), ?_⟩
    refine ⟨_, rfl, .inl ⟨d, p, q, rfl, hD, hq, ?_⟩⟩
    exact ⟨_, rfl, .inr ⟨e, r, t, rfl, hE, l, k⟩⟩
  · refine ⟨_, (ak (aD (aG uI hr rfl bH (aj (pv 0) aq)))
      (ak (aD (aG uI hr rfl bH (aj (pv 1) aq)))
      (aA (bL (aJ gB (bh cX (bT cG (pv 1) au (fun _ _ => rfl)) (bT cG (pv 0) au (fun _ _ => rfl))) (bh cX (bT cG (pv 0) au (fun _ _ => rfl)) (bT cG (pv 1) au (fun _ _ => rfl))) (aP _))
        (aA (jr PySem.F.excBase_ValueError rfl R.at_ R.ex (aj cA aq)))
        bB)))), ?_⟩
    refine ⟨_, rfl, .inl ⟨d, p, q, rfl, hD, hq, ?_⟩⟩
    refine ⟨_, rfl, .inl ⟨e, r, t, rfl, hE, ht, ?_⟩⟩
    refine ⟨_, rfl, e, _, _, _, rfl, rfl, hE, rfl, _, rfl, d, _, _, _, rfl, rfl, hD, rfl, _, _, rfl, rfl, br.fZ bq, _, rfl, d, _, _, _, rfl, rfl, hD, rfl, _, rfl, e, _, _, _, rfl, rfl, hE, rfl, _, _, rfl, rfl, bp.fZ bt, _, _, rfl, rfl, _, rfl, bQ (fun z => ⟨by decide, k⟩) (fun z => ?_)⟩
    exact absurd (decide_eq_true l) z
theorem Dd {x : Ea} (cR : bJ P w K mg base 1 "check_curve" ["curve"] (b_ (aR K) (bCC K x))) (F : Fun K "plain" "plain" jR f fd) : bw P w K mg base (CXE P w) 40 f fd ["curve"] (bCC K x) := by
  refine F.okE m6 (fun vs H Q E h => ?_) (fun cdv A outer s H vs Q E hr h => ?_)
  · obtain ⟨a, c, rfl, _⟩ := h
    rfl
  obtain ⟨a, c, rfl, hA, b, q⟩ := h
  refine ⟨_, (ak (aD (aG cR hr rfl bH (aj (pv 0) aq))) bC), ?_⟩
  exact ⟨_, rfl, .inr ⟨a, c, rfl, hA, b, q⟩⟩
theorem CZ {x : Ea} (cR : bJ P w K mg base 1 "check_curve" ["curve"] (b_ (aR K) (bCC K x))) (F : Fun K "slope" "slope" mj f fd) : bw P w K mg base (CXE P w) 2 f fd ["curve"] (bCC K x) := by
  refine F.okE Am (fun vs H Q E h => ?_) (fun cdv A outer s H vs Q E hr h => ?_)
  · obtain ⟨a, c, rfl, _⟩ := h
    rfl
  obtain ⟨a, c, rfl, hA, b, q⟩ := h
  refine ⟨_, (ak (aD (aG cR hr rfl bH (aj (pv 0) aq))) bC), ?_⟩
  exact ⟨_, rfl, .inr ⟨a, c, rfl, hA, b, q⟩⟩
theorem C_ {x : Ea} (cR : bJ P w K mg base 1 "check_curve" ["curve"] (b_ (aR K) (bCC K x))) (F : Fun K "shown" "shown" mq f fd) : bw P w K mg base (CXE P w) 2 f fd ["curve"] (bCC K x) := by
  refine F.okE wI (fun vs H Q E h => ?_) (fun cdv A outer s H vs Q E hr h => ?_)
  · obtain ⟨a, c, rfl, _⟩ := h
    rfl
  obtain ⟨a, c, rfl, hA, b, q⟩ := h
  refine ⟨_, (ak (aD (aG cR hr rfl bH (aj (pv 0) aq))) bC), ?_⟩
  exact ⟨_, rfl, .inr ⟨a, c, rfl, hA, b, q⟩⟩
theorem zE {x : Ea} (cR : bJ P w K mg base 1 "check_curve" ["curve"] (b_ (aR K) (bCC K x))) (iJ : bJ P w K mg base 1 "check_not_nought" ["curve"] (b_ (bV K) (bNN K x))) (F : Fun K "simple" "simple" jA f fd) : bw P w K mg base (CXE P w) 43 f fd ["curve"] (b1N K x) := by
  refine F.okE JG (fun vs H Q E h => ?_) (fun cdv A outer s H vs Q E hr h => ?_)
  · obtain ⟨a, c, rfl, _⟩ := h
    rfl
  obtain ⟨a, c, rfl, hA, hcase⟩ := h
  rcases hcase with ⟨b, q⟩ | ⟨rfl, q⟩
  · refine ⟨_, (ak (aD (aG cR hr rfl bH (aj (pv 0) aq))) bC), ?_⟩
    exact ⟨_, rfl, .inr ⟨a, c, rfl, hA, b, q⟩⟩
  · refine ⟨_, (ak (aD (aG cR hr rfl bH (aj (pv 0) aq))) (ak (aD (aG iJ hr rfl bH (aj (pv 0) aq))) bC)), ?_⟩
    refine ⟨_, rfl, .inl ⟨a, [], rfl, hA, fun z => absurd rfl z, ?_⟩⟩
    exact ⟨_, rfl, .inr ⟨a, rfl, hA, q⟩⟩
theorem Dh {x : Ea} (cR : bJ P w K mg base 1 "check_curve" ["curve"] (b_ (aR K) (bCC K x))) (iJ : bJ P w K mg base 1 "check_not_nought" ["curve"] (b_ (bV K) (bNN K x))) (F : Fun K "chain" "chain" mC f fd) : bw P w K mg base (CXE P w) 44 f fd ["curve"] (b1N K x) := by
  refine F.okE wB (fun vs H Q E h => ?_) (fun cdv A outer s H vs Q E hr h => ?_)
  · obtain ⟨a, c, rfl, _⟩ := h
    rfl
  obtain ⟨a, c, rfl, hA, hcase⟩ := h
  rcases hcase with ⟨b, q⟩ | ⟨rfl, q⟩
  · refine ⟨_, (ak (aD (aG cR hr rfl bH (aj (pv 0) aq))) bC), ?_⟩
    exact ⟨_, rfl, .inr ⟨a, c, rfl, hA, b, q⟩⟩
  · refine ⟨_, (ak (aD (aG cR hr rfl bH (aj (pv 0) aq))) (ak (aD (aG iJ hr rfl bH (aj (pv 0) aq))) bC)), ?_⟩
    refine ⟨_, rfl, .inl ⟨a, [], rfl, hA, fun z => absurd rfl z, ?_⟩⟩
    exact ⟨_, rfl, .inr ⟨a, rfl, hA, q⟩⟩
theorem Df {x : Ea} (cR : bJ P w K mg base 1 "check_curve" ["curve"] (b_ (aR K) (bCC K x))) (iJ : bJ P w K mg base 1 "check_not_nought" ["curve"] (b_ (bV K) (bNN K x))) (F : Fun K "roots_in_all" "roots_in_all" mz f fd) : bw P w K mg base (CXE P w) 45 f fd ["curve"] (b1N K x) := by
  refine F.okE Kv (fun vs H Q E h => ?_) (fun cdv A outer s H vs Q E hr h => ?_)
  · obtain ⟨a, c, rfl, _⟩ := h
    rfl
  obtain ⟨a, c, rfl, hA, hcase⟩ := h
  rcases hcase with ⟨b, q⟩ | ⟨rfl, q⟩
  · refine ⟨_, (ak (aD (aG cR hr rfl bH (aj (pv 0) aq))) bC), ?_⟩
    exact ⟨_, rfl, .inr ⟨a, c, rfl, hA, b, q⟩⟩
  · refine ⟨_, (ak (aD (aG cR hr rfl bH (aj (pv 0) aq))) (ak (aD (aG iJ hr rfl bH (aj (pv 0) aq))) bC)), ?_⟩
    refine ⟨_, rfl, .inl ⟨a, [], rfl, hA, fun z => absurd rfl z, ?_⟩⟩
    exact ⟨_, rfl, .inr ⟨a, rfl, hA, q⟩⟩
theorem Dc {x : Ea} (cR : bJ P w K mg base 1 "check_curve" ["curve"] (b_ (aR K) (bCC K x))) (iJ : bJ P w K mg base 1 "check_not_nought" ["curve"] (b_ (bV K) (bNN K x))) (F : Fun K "reach" "reach" jQ f fd) : bw P w K mg base (CXE P w) 40 f fd ["curve"] (b1N K x) := by
  refine F.okE Ku (fun vs H Q E h => ?_) (fun cdv A outer s H vs Q E hr h => ?_)
  · obtain ⟨a, c, rfl, _⟩ := h
    rfl
  obtain ⟨a, c, rfl, hA, hcase⟩ := h
  rcases hcase with ⟨b, q⟩ | ⟨rfl, q⟩
  · refine ⟨_, (ak (aD (aG cR hr rfl bH (aj (pv 0) aq))) bC), ?_⟩
    exact ⟨_, rfl, .inr ⟨a, c, rfl, hA, b, q⟩⟩
  · refine ⟨_, (ak (aD (aG cR hr rfl bH (aj (pv 0) aq))) (ak (aD (aG iJ hr rfl bH (aj (pv 0) aq))) bC)), ?_⟩
    refine ⟨_, rfl, .inl ⟨a, [], rfl, hA, fun z => absurd rfl z, ?_⟩⟩
    exact ⟨_, rfl, .inr ⟨a, rfl, hA, q⟩⟩
theorem Gz {x : Ea} (cR : bJ P w K mg base 1 "check_curve" ["curve"] (b_ (aR K) (bCC K x))) (iJ : bJ P w K mg base 1 "check_not_nought" ["curve"] (b_ (bV K) (bNN K x))) (F : Fun K "signs_over" "signs_over" qz f fd) : bw P w K mg base (CXE P w) 46 f fd ["curve"] (b1N K x) := by
  refine F.okE wu (fun vs H Q E h => ?_) (fun cdv A outer s H vs Q E hr h => ?_)
  · obtain ⟨a, c, rfl, _⟩ := h
    rfl
  obtain ⟨a, c, rfl, hA, hcase⟩ := h
  rcases hcase with ⟨b, q⟩ | ⟨rfl, q⟩
  · refine ⟨_, (ak (aD (aG cR hr rfl bH (aj (pv 0) aq))) bC), ?_⟩
    exact ⟨_, rfl, .inr ⟨a, c, rfl, hA, b, q⟩⟩
  · refine ⟨_, (ak (aD (aG cR hr rfl bH (aj (pv 0) aq))) (ak (aD (aG iJ hr rfl bH (aj (pv 0) aq))) bC)), ?_⟩
    refine ⟨_, rfl, .inl ⟨a, [], rfl, hA, fun z => absurd rfl z, ?_⟩⟩
    exact ⟨_, rfl, .inr ⟨a, rfl, hA, q⟩⟩
theorem CW {x : Ea} (cR : bJ P w K mg base 1 "check_curve" ["curve"] (b_ (aR K) (bCC K x))) (F : Fun K "times_curve" "times_curve" lZ f fd) : bw P w K mg base (CXE P w) 2 f fd ["curve", "other"] (b2C K x) := by
  refine F.okE jz (fun vs H Q E h => ?_) (fun cdv A outer s H vs Q E hr h => ?_)
  · obtain ⟨a, b', c, o, rfl, _⟩ := h
    rfl
  obtain ⟨a, b', c, o, rfl, hA, hB, hcase⟩ := h
  rcases hcase with ⟨b, q⟩ | ⟨g, b, q⟩
  · refine ⟨_, (ak (aD (aG cR hr rfl bH (aj (pv 0) aq))) bC), ?_⟩
    exact ⟨_, rfl, .inr ⟨a, c, rfl, hA, b, q⟩⟩
  · refine ⟨_, (ak (aD (aG cR hr rfl bH (aj (pv 0) aq))) (ak (aD (aG cR hr rfl bH (aj (pv 1) aq))) bC)), ?_⟩
    refine ⟨_, rfl, .inl ⟨a, c, rfl, hA, g, ?_⟩⟩
    exact ⟨_, rfl, .inr ⟨b', o, rfl, hB, b, q⟩⟩
theorem zF {x : Ea} (cR : bJ P w K mg base 1 "check_curve" ["curve"] (b_ (aR K) (bCC K x))) (F : Fun K "shared" "shared" jC f fd) : bw P w K mg base (CXE P w) 42 f fd ["curve", "other"] (b2C K x) := by
  refine F.okE yI (fun vs H Q E h => ?_) (fun cdv A outer s H vs Q E hr h => ?_)
  · obtain ⟨a, b', c, o, rfl, _⟩ := h
    rfl
  obtain ⟨a, b', c, o, rfl, hA, hB, hcase⟩ := h
  rcases hcase with ⟨b, q⟩ | ⟨g, b, q⟩
  · refine ⟨_, (ak (aD (aG cR hr rfl bH (aj (pv 0) aq))) bC), ?_⟩
    exact ⟨_, rfl, .inr ⟨a, c, rfl, hA, b, q⟩⟩
  · refine ⟨_, (ak (aD (aG cR hr rfl bH (aj (pv 0) aq))) (ak (aD (aG cR hr rfl bH (aj (pv 1) aq))) bC)), ?_⟩
    refine ⟨_, rfl, .inl ⟨a, c, rfl, hA, g, ?_⟩⟩
    exact ⟨_, rfl, .inr ⟨b', o, rfl, hB, b, q⟩⟩
theorem GC {x : Ea} (cR : bJ P w K mg base 1 "check_curve" ["curve"] (b_ (aR K) (bCC K x))) (iJ : bJ P w K mg base 1 "check_not_nought" ["curve"] (b_ (bV K) (bNN K x))) (F : Fun K "left" "left" qC f fd) : bw P w K mg base (CXE P w) 41 f fd ["curve", "other"] (b2L K x) := by
  refine F.okE uN (fun vs H Q E h => ?_) (fun cdv A outer s H vs Q E hr h => ?_)
  · obtain ⟨a, b', c, o, rfl, _⟩ := h
    rfl
  obtain ⟨a, b', c, o, rfl, hA, hB, hcase⟩ := h
  rcases hcase with ⟨b, q⟩ | ⟨g, b, q⟩ | ⟨g, rfl, q⟩
  · refine ⟨_, (ak (aD (aG cR hr rfl bH (aj (pv 0) aq))) bC), ?_⟩
    exact ⟨_, rfl, .inr ⟨a, c, rfl, hA, b, q⟩⟩
  · refine ⟨_, (ak (aD (aG cR hr rfl bH (aj (pv 0) aq))) (ak (aD (aG cR hr rfl bH (aj (pv 1) aq))) bC)), ?_⟩
    refine ⟨_, rfl, .inl ⟨a, c, rfl, hA, g, ?_⟩⟩
    exact ⟨_, rfl, .inr ⟨b', o, rfl, hB, b, q⟩⟩
  · refine ⟨_, (ak (aD (aG cR hr rfl bH (aj (pv 0) aq))) (ak (aD (aG cR hr rfl bH (aj (pv 1) aq))) (ak (aD (aG iJ hr rfl bH (aj (pv 1) aq))) bC))), ?_⟩
    refine ⟨_, rfl, .inl ⟨a, c, rfl, hA, g, ?_⟩⟩
    refine ⟨_, rfl, .inl ⟨b', [], rfl, hB, fun z => absurd rfl z, ?_⟩⟩
    exact ⟨_, rfl, .inr ⟨b', rfl, hB, q⟩⟩
theorem Lh {x : Ea} (cR : bJ P w K mg base 1 "check_curve" ["curve"] (b_ (aR K) (bCC K x))) (uI : bJ P w K mg base 1 "check_place" ["place"] (b_ (dj K) (bCP K x))) (F : Fun K "sign_at" "sign_at" jB f fd) : bw P w K mg base (CXE P w) 2 f fd ["curve", "place"] (bSA K x) := by
  refine F.okE yJ (fun vs H Q E h => ?_) (fun cdv A outer s H vs Q E hr h => ?_)
  · obtain ⟨a, d, c, p, q', rfl, _⟩ := h
    rfl
  obtain ⟨a, d, c, p, q', rfl, hA, hD, hcase⟩ := h
  rcases hcase with ⟨b, q⟩ | ⟨g, l, q⟩
  · refine ⟨_, (ak (aD (aG cR hr rfl bH (aj (pv 0) aq))) bC), ?_⟩
    exact ⟨_, rfl, .inr ⟨a, c, rfl, hA, b, q⟩⟩
  · refine ⟨_, (ak (aD (aG cR hr rfl bH (aj (pv 0) aq))) (ak (aD (aG uI hr rfl bH (aj (pv 1) aq))) bC)), ?_⟩
    refine ⟨_, rfl, .inl ⟨a, c, rfl, hA, g, ?_⟩⟩
    exact ⟨_, rfl, .inr ⟨d, p, q', rfl, hD, l, q⟩⟩
theorem yt {x : Ea} (cR : bJ P w K mg base 1 "check_curve" ["curve"] (b_ (aR K) (bCC K x))) (iJ : bJ P w K mg base 1 "check_not_nought" ["curve"] (b_ (bV K) (bNN K x))) (uI : bJ P w K mg base 1 "check_place" ["place"] (b_ (dj K) (bCP K x))) (F : Fun K "changes" "changes" iY f fd) : bw P w K mg base (CXE P w) 45 f fd ["curve", "place"] (bCh K x) := by
  refine F.okE JH (fun vs H Q E h => ?_) (fun cdv A outer s H vs Q E hr h => ?_)
  · obtain ⟨a, d, c, p, q', rfl, _⟩ := h
    rfl
  obtain ⟨a, d, c, p, q', rfl, hA, hD, hcase⟩ := h
  rcases hcase with ⟨b, q⟩ | ⟨rfl, q⟩ | ⟨g, ne, l, q⟩
  · refine ⟨_, (ak (aD (aG cR hr rfl bH (aj (pv 0) aq))) bC), ?_⟩
    exact ⟨_, rfl, .inr ⟨a, c, rfl, hA, b, q⟩⟩
  · refine ⟨_, (ak (aD (aG cR hr rfl bH (aj (pv 0) aq))) (ak (aD (aG iJ hr rfl bH (aj (pv 0) aq))) bC)), ?_⟩
    refine ⟨_, rfl, .inl ⟨a, [], rfl, hA, fun z => absurd rfl z, ?_⟩⟩
    exact ⟨_, rfl, .inr ⟨a, rfl, hA, q⟩⟩
  · refine ⟨_, (ak (aD (aG cR hr rfl bH (aj (pv 0) aq))) (ak (aD (aG iJ hr rfl bH (aj (pv 0) aq))) (ak (aD (aG uI hr rfl bH (aj (pv 1) aq))) bC))), ?_⟩
    refine ⟨_, rfl, .inl ⟨a, c, rfl, hA, g, ?_⟩⟩
    refine ⟨_, rfl, .inl ⟨a, c, rfl, hA, ne, ?_⟩⟩
    exact ⟨_, rfl, .inr ⟨d, p, q', rfl, hD, l, q⟩⟩
theorem yu {x : Ea} (cR : bJ P w K mg base 1 "check_curve" ["curve"] (b_ (aR K) (bCC K x))) (iJ : bJ P w K mg base 1 "check_not_nought" ["curve"] (b_ (bV K) (bNN K x))) (KR : bJ P w K mg base 2 "check_stretch" ["low", "high"] (b_ (dF K) (bCS K x))) (F : Fun K "roots_between" "roots_between" iZ f fd) : bw P w K mg base (CXE P w) 45 f fd ["curve", "low", "high"] (bBt K x) := by
  refine F.okE scBt (fun vs H Q E h => ?_) (fun cdv A outer s H vs Q E hr h => ?_)
  · obtain ⟨a, d, e, c, p, q', r, t, rfl, _⟩ := h
    rfl
  obtain ⟨a, d, e, c, p, q', r, t, rfl, hA, hD, hE, hcase⟩ := h
  rcases hcase with ⟨b, q⟩ | ⟨rfl, q⟩ | ⟨g, ne, q⟩
  · refine ⟨_, (ak (aD (aG cR hr rfl bH (aj (pv 0) aq))) bC), ?_⟩
    exact ⟨_, rfl, .inr ⟨a, c, rfl, hA, b, q⟩⟩
  · refine ⟨_, (ak (aD (aG cR hr rfl bH (aj (pv 0) aq))) (ak (aD (aG iJ hr rfl bH (aj (pv 0) aq))) bC)), ?_⟩
    refine ⟨_, rfl, .inl ⟨a, [], rfl, hA, fun z => absurd rfl z, ?_⟩⟩
    exact ⟨_, rfl, .inr ⟨a, rfl, hA, q⟩⟩
  · refine ⟨_, (ak (aD (aG cR hr rfl bH (aj (pv 0) aq))) (ak (aD (aG iJ hr rfl bH (aj (pv 0) aq))) (ak (aD (aG KR hr rfl bH (aj (pv 1) (aj (pv 2) aq)))) bC))), ?_⟩
    refine ⟨_, rfl, .inl ⟨a, c, rfl, hA, g, ?_⟩⟩
    refine ⟨_, rfl, .inl ⟨a, c, rfl, hA, ne, ?_⟩⟩
    exact ⟨_, rfl, _, rfl, .inr ⟨d, e, p, q', r, t, rfl, hD, hE, q⟩⟩
theorem sX {x : Ea} (cR : bJ P w K mg base 1 "check_curve" ["curve"] (b_ (aR K) (bCC K x))) (iJ : bJ P w K mg base 1 "check_not_nought" ["curve"] (b_ (bV K) (bNN K x))) (KR : bJ P w K mg base 2 "check_stretch" ["low", "high"] (b_ (dF K) (bCS K x))) (F : Fun K "roots_with_times" "roots_with_times" fL f fd) : bw P w K mg base (CXE P w) 46 f fd ["curve", "low", "high"] (bBt K x) := by
  refine F.okE scWT (fun vs H Q E h => ?_) (fun cdv A outer s H vs Q E hr h => ?_)
  · obtain ⟨a, d, e, c, p, q', r, t, rfl, _⟩ := h
    rfl
  obtain ⟨a, d, e, c, p, q', r, t, rfl, hA, hD, hE, hcase⟩ := h
  rcases hcase with ⟨b, q⟩ | ⟨rfl, q⟩ | ⟨g, ne, q⟩
  · refine ⟨_, (ak (aD (aG cR hr rfl bH (aj (pv 0) aq))) bC), ?_⟩
    exact ⟨_, rfl, .inr ⟨a, c, rfl, hA, b, q⟩⟩
  · refine ⟨_, (ak (aD (aG cR hr rfl bH (aj (pv 0) aq))) (ak (aD (aG iJ hr rfl bH (aj (pv 0) aq))) bC)), ?_⟩
    refine ⟨_, rfl, .inl ⟨a, [], rfl, hA, fun z => absurd rfl z, ?_⟩⟩
    exact ⟨_, rfl, .inr ⟨a, rfl, hA, q⟩⟩
  · refine ⟨_, (ak (aD (aG cR hr rfl bH (aj (pv 0) aq))) (ak (aD (aG iJ hr rfl bH (aj (pv 0) aq))) (ak (aD (aG KR hr rfl bH (aj (pv 1) (aj (pv 2) aq)))) bC))), ?_⟩
    refine ⟨_, rfl, .inl ⟨a, c, rfl, hA, g, ?_⟩⟩
    refine ⟨_, rfl, .inl ⟨a, c, rfl, hA, ne, ?_⟩⟩
    exact ⟨_, rfl, _, rfl, .inr ⟨d, e, p, q', r, t, rfl, hD, hE, q⟩⟩
theorem sY {x : Ea} (cR : bJ P w K mg base 1 "check_curve" ["curve"] (b_ (aR K) (bCC K x))) (iJ : bJ P w K mg base 1 "check_not_nought" ["curve"] (b_ (bV K) (bNN K x))) (F_cf : bJ P w K mg base 1 "check_fine" ["fine"] (b_ g_ (bCF x))) (F : Fun K "stretches" "stretches" fM f fd) : bw P w K mg base (CXE P w) 45 f fd ["curve", "fine"] (bSt K x) := by
  refine F.okE Ej (fun vs H Q E h => ?_) (fun cdv A outer s H vs Q E hr h => ?_)
  · obtain ⟨a, k, c, rfl, _⟩ := h
    rfl
  obtain ⟨a, k, c, rfl, hA, hcase⟩ := h
  rcases hcase with ⟨b, q⟩ | ⟨rfl, q⟩ | ⟨g, ne, l, q⟩
  · refine ⟨_, (ak (aD (aG cR hr rfl bH (aj (pv 0) aq))) bC), ?_⟩
    exact ⟨_, rfl, .inr ⟨a, c, rfl, hA, b, q⟩⟩
  · refine ⟨_, (ak (aD (aG cR hr rfl bH (aj (pv 0) aq))) (ak (aD (aG iJ hr rfl bH (aj (pv 0) aq))) bC)), ?_⟩
    refine ⟨_, rfl, .inl ⟨a, [], rfl, hA, fun z => absurd rfl z, ?_⟩⟩
    exact ⟨_, rfl, .inr ⟨a, rfl, hA, q⟩⟩
  · refine ⟨_, (ak (aD (aG cR hr rfl bH (aj (pv 0) aq))) (ak (aD (aG iJ hr rfl bH (aj (pv 0) aq))) (ak (aD (aG F_cf hr rfl bH (aj (pv 1) aq))) bC))), ?_⟩
    refine ⟨_, rfl, .inl ⟨a, c, rfl, hA, g, ?_⟩⟩
    refine ⟨_, rfl, .inl ⟨a, c, rfl, hA, ne, ?_⟩⟩
    exact ⟨_, rfl, .inr ⟨k, rfl, l, q⟩⟩
theorem scFO : aZ ["_law_which", "_law_curve", "_law_low"] ["_law_which", "_law_curve", "_law_low"] (aB dw) := ⟨rfl, rfl, rfl, by decide +kernel, rfl, by decide +kernel, by decide +kernel⟩
theorem zL {x : Ea} (iC : bJ P w K mg base 40 "plain" ["curve"] (b_ (gR K) (bCC K x))) (jD : bJ P w K mg base 2 "slope" ["curve"] (b_ (jw K) (bCC K x))) (vP : bJ P w K mg base 2 "times_curve" ["curve", "other"] (b_ (mY K) (b2C K x))) (i_ : bJ P w K mg base 42 "shared" ["curve", "other"] (b_ (gK K) (b2C K x))) (Jx : bJ P w K mg base 2 "shown" ["curve"] (b_ (p7 K) (bCC K x))) (F_sa : bJ P w K mg base 2 "sign_at" ["curve", "place"] (b_ (gJ K) (bSA K x))) (jX : bJ P w K mg base 41 "left" ["curve", "other"] (b_ (jy K) (b2L K x))) (rH : bJ P w K mg base 43 "simple" ["curve"] (b_ (j4 K) (b1N K x))) (F : Fun K "_law_first_ones" "_law_first_ones" dw f fd) : bw P w K mg base (CXE P w) 47 f fd ["_law_which", "_law_curve", "_law_low"] (oX K x) := by
  refine F.okE scFO (fun vs H Q E h => ?_) (fun cdv A outer s H vs Q E hr h => ?_)
  · obtain ⟨a, d, c, w, p, q, r, t, f0, rfl, _⟩ := h
    rfl
  obtain ⟨a, d, c, w, p, q, r, t, f0, rfl, h0, h8, hA, hc, hD, bp, bq, ho⟩ := h
  refine ⟨_, (aA (bL (aJ cg (pv 0) au (aP _))
    (aA (aD (aG iC hr rfl bH (aj (pv 1) aq))))
    (aA (bL (aJ cg (pv 0) au (aP _))
    (aA (aD (aG jD hr rfl bH (aj (pv 1) aq))))
    (aA (bL (aJ cg (pv 0) au (aP _))
    (aA (aD (aG vP hr rfl bH (aj (cT (aj au (aj au aq))) (aj (pv 1) aq)))))
    (aA (bL (aJ cg (pv 0) au (aP _))
    (aA (aD (aG i_ hr rfl bH (aj (cT (aj au (aj au aq))) (aj (pv 1) aq)))))
    (aA (bL (aJ cg (pv 0) au (aP _))
    (aA (aD (aG Jx hr rfl bH (aj (pv 1) aq))))
    (aA (bL (aJ cg (pv 0) au (aP _))
    (aA (aD (aG F_sa hr rfl bH (aj (pv 1) (aj (pv 2) aq)))))
    (aA (bL (aJ cg (pv 0) au (aP _))
    (aA (aD (aG jX hr rfl bH (aj (cT (aj au (aj au aq))) (aj (pv 1) aq)))))
    (aA (aD (aG rH hr rfl bH (aj (pv 1) aq)))))))))))))))))), ?_⟩
  refine ⟨_, rfl, rfl, _, rfl, bQ (fun z => ?_) (fun z => ?_)⟩
  · have z1 := of_decide_eq_true z
    injection z1 with z1
    subst z1
    clear z
    by_cases hb : dU c
    · exact ⟨_, rfl, .inr ⟨a, c, rfl, hA, hb, ho.no .curve (cN hb) (by decide) (Same.refl _)⟩⟩
    have gl := cW hb
    obtain ⟨l3, hbd⟩ := hc.ok hb
    exact ⟨_, rfl, .inl ⟨a, c, rfl, hA, gl, by omega, fun r1 H1 n1 s1 e1 => ho.ok (by simp [cj, hb]) s1⟩⟩
  have n0 : w ≠ 0 := fun e => z (decide_eq_true (congrArg V.int e))
  clear z
  refine ⟨_, rfl, rfl, _, rfl, bQ (fun z => ?_) (fun z => ?_)⟩
  · have z1 := of_decide_eq_true z
    injection z1 with z1
    subst z1
    clear z
    by_cases hb : dU c
    · exact ⟨_, rfl, .inr ⟨a, c, rfl, hA, hb, ho.no .curve (cN hb) (by decide) (Same.refl _)⟩⟩
    have gl := cW hb
    obtain ⟨l3, hbd⟩ := hc.ok hb
    exact ⟨_, rfl, .inl ⟨a, c, rfl, hA, gl, by omega, fun r1 H1 n1 s1 e1 => ho.ok (by simp [cj, hb]) s1⟩⟩
  have n1 : w ≠ 1 := fun e => z (decide_eq_true (congrArg V.int e))
  clear z
  refine ⟨_, rfl, rfl, _, rfl, bQ (fun z => ?_) (fun z => ?_)⟩
  · have z1 := of_decide_eq_true z
    injection z1 with z1
    subst z1
    clear z
    refine ⟨(by show 2 <= sizeLine; decide), fun r0 n0 => ?_⟩
    have s0 : Same H (upd H r0 (.lst [.int 1, .int 1])) := aQ n0 _
    have e0 : upd H r0 (.lst [.int 1, .int 1]) r0 = some (IL [1, 1]) := aH
    generalize upd H r0 (.lst [.int 1, .int 1]) = G0 at s0 e0 ⊢
    have g1 : bI [1, 1] := fun _ => by decide
    have b1 : ∀ x ∈ ([1, 1] : List Int), Bd 2 x := fun x hx => by simp at hx; subst hx; unfold Bd; decide
    refine ⟨_, rfl, ?_⟩
    by_cases hb : dU c
    · exact .inr ⟨r0, a, [1, 1], c, rfl, SqL.of e0, s0.seq hA, .inr ⟨g1, hb, ho.no .curve (cN hb) (by decide) s0⟩⟩
    have gl := cW hb
    obtain ⟨l3, hbd⟩ := hc.ok hb
    exact .inl ⟨r0, a, [1, 1], c, rfl, SqL.of e0, s0.seq hA, g1, gl, by simp only [List.length_cons, List.length_nil]; omega, fun x hx => (b1 x hx).mono (by decide), fun x hx => (hbd x hx).mono (by decide), fun r1 H1 n1 s1 e1 => ho.ok (by simp [cj, hb]) (s0.trans s1)⟩
  have n2 : w ≠ 2 := fun e => z (decide_eq_true (congrArg V.int e))
  clear z
  refine ⟨_, rfl, rfl, _, rfl, bQ (fun z => ?_) (fun z => ?_)⟩
  · have z1 := of_decide_eq_true z
    injection z1 with z1
    subst z1
    clear z
    refine ⟨(by show 2 <= sizeLine; decide), fun r0 n0 => ?_⟩
    have s0 : Same H (upd H r0 (.lst [.int 1, .int 1])) := aQ n0 _
    have e0 : upd H r0 (.lst [.int 1, .int 1]) r0 = some (IL [1, 1]) := aH
    generalize upd H r0 (.lst [.int 1, .int 1]) = G0 at s0 e0 ⊢
    have g1 : bI [1, 1] := fun _ => by decide
    have b1 : ∀ x ∈ ([1, 1] : List Int), Bd 2 x := fun x hx => by simp at hx; subst hx; unfold Bd; decide
    refine ⟨_, rfl, ?_⟩
    by_cases hb : dU c
    · exact .inr ⟨r0, a, [1, 1], c, rfl, SqL.of e0, s0.seq hA, .inr ⟨g1, hb, ho.no .curve (cN hb) (by decide) s0⟩⟩
    have gl := cW hb
    obtain ⟨l3, hbd⟩ := hc.ok hb
    exact .inl ⟨r0, a, [1, 1], c, 2, 3, 2, 200, rfl, SqL.of e0, s0.seq hA, g1, gl, by decide, l3, by decide, by decide, b1, hbd, by decide +kernel, fun r1 H1 sx n1 s1 _ _ e1 => ho.ok (by simp [cj, hb]) (s0.trans s1)⟩
  have n3 : w ≠ 3 := fun e => z (decide_eq_true (congrArg V.int e))
  clear z
  refine ⟨_, rfl, rfl, _, rfl, bQ (fun z => ?_) (fun z => ?_)⟩
  · have z1 := of_decide_eq_true z
    injection z1 with z1
    subst z1
    clear z
    by_cases hb : dU c
    · exact ⟨_, rfl, .inr ⟨a, c, rfl, hA, hb, ho.no .curve (cN hb) (by decide) (Same.refl _)⟩⟩
    have gl := cW hb
    obtain ⟨l3, hbd⟩ := hc.ok hb
    exact ⟨_, rfl, .inl ⟨a, c, rfl, hA, gl, by omega, hbd, ho.ok (by simp [cj, hb]) (Same.refl _)⟩⟩
  have n4 : w ≠ 4 := fun e => z (decide_eq_true (congrArg V.int e))
  clear z
  refine ⟨_, rfl, rfl, _, rfl, bQ (fun z => ?_) (fun z => ?_)⟩
  · have z1 := of_decide_eq_true z
    injection z1 with z1
    subst z1
    clear z
    by_cases hb : dU c
    · exact ⟨_, rfl, _, rfl, .inr ⟨a, d, c, p, q, rfl, hA, hD, .inl ⟨hb, ho.no .curve (cN hb) (by decide) (Same.refl _)⟩⟩⟩
    have gl := cW hb
    obtain ⟨l3, hbd⟩ := hc.ok hb
    by_cases hq : q < 1
    · exact ⟨_, rfl, _, rfl, .inr ⟨a, d, c, p, q, rfl, hA, hD, .inr ⟨gl, hq, ho.no .place (by simp [cj, hb, hq]) (by decide) (Same.refl _)⟩⟩⟩
    exact ⟨_, rfl, _, rfl, .inl ⟨a, d, c, p, q, 300, rfl, hA, hD, by omega, fun x hx => (hbd x hx).mono (by decide), bp, bq, by decide, gl, by omega, ho.ok (by simp [cj, hb, hq]) (Same.refl _)⟩⟩
  have n5 : w ≠ 5 := fun e => z (decide_eq_true (congrArg V.int e))
  clear z
  refine ⟨_, rfl, rfl, _, rfl, bQ (fun z => ?_) (fun z => ?_)⟩
  · have z1 := of_decide_eq_true z
    injection z1 with z1
    subst z1
    clear z
    refine ⟨(by show 2 <= sizeLine; decide), fun r0 n0 => ?_⟩
    have s0 : Same H (upd H r0 (.lst [.int 1, .int 1])) := aQ n0 _
    have e0 : upd H r0 (.lst [.int 1, .int 1]) r0 = some (IL [1, 1]) := aH
    generalize upd H r0 (.lst [.int 1, .int 1]) = G0 at s0 e0 ⊢
    have g1 : bI [1, 1] := fun _ => by decide
    have b1 : ∀ x ∈ ([1, 1] : List Int), Bd 2 x := fun x hx => by simp at hx; subst hx; unfold Bd; decide
    refine ⟨_, rfl, ?_⟩
    by_cases hb : dU c
    · exact .inr ⟨r0, a, [1, 1], c, rfl, SqL.of e0, s0.seq hA, .inr (.inl ⟨g1, hb, ho.no .curve (cN hb) (by decide) s0⟩)⟩
    by_cases hne : c = []
    · exact .inr ⟨r0, a, [1, 1], c, rfl, SqL.of e0, s0.seq hA, .inr (.inr ⟨g1, hne, ho.no .nought (by simp [cj, fK, hne]) (by decide) s0⟩)⟩
    have gl := cW hb
    obtain ⟨l3, hbd⟩ := hc.ok hb
    exact .inl ⟨r0, a, [1, 1], c, 2, 200, rfl, SqL.of e0, s0.seq hA, g1, gl, hne, by decide, by omega, b1, hbd, by simp only [List.length_cons, List.length_nil]; omega, fun r1 H1 sx n1 s1 _ _ _ e1 => ho.ok (by simp [cj, hb, hne]) (s0.trans s1)⟩
  have n6 : w ≠ 6 := fun e => z (decide_eq_true (congrArg V.int e))
  clear z
  obtain rfl : w = 7 := by omega
  by_cases hb : dU c
  · exact ⟨_, rfl, .inr ⟨a, c, rfl, hA, .inl ⟨hb, ho.no .curve (cN hb) (by decide) (Same.refl _)⟩⟩⟩
  by_cases hne : c = []
  · exact ⟨_, rfl, .inr ⟨a, c, rfl, hA, .inr ⟨hne, ho.no .nought (by simp [cj, fK, hne]) (by decide) (Same.refl _)⟩⟩⟩
  have g := hc.r hb hne
  exact ⟨_, rfl, .inl ⟨a, c, 200, 5, rfl, hA, g.c5.good, g.c5.ne, g.c5.len, by decide, g.c5.bd, JM, fun r1 H1 sx n1 s1 _ e1 _ => ho.ok (by simp [cj, hb, hne]) s1⟩⟩
theorem scNO : aZ ["_law_which", "_law_curve", "_law_low", "_law_high", "_law_fine"] ["_law_which", "_law_curve", "_law_low", "_law_high", "_law_fine"] (aB dO) := ⟨rfl, rfl, rfl, by decide +kernel, rfl, by decide +kernel, by decide +kernel⟩
theorem Dm {x : Ea} (gw : bJ P w K mg base 44 "chain" ["curve"] (b_ (iz K) (b1N K x))) (Jy : bJ P w K mg base 45 "roots_in_all" ["curve"] (b_ (p8 K) (b1N K x))) (jE : bJ P w K mg base 40 "reach" ["curve"] (b_ (jx K) (b1N K x))) (Mw : bJ P w K mg base 46 "signs_over" ["curve"] (b_ (nC K) (b1N K x))) (Eh : bJ P w K mg base 45 "changes" ["curve", "place"] (b_ (lK K) (bCh K x))) (Ei : bJ P w K mg base 45 "roots_between" ["curve", "low", "high"] (b_ (lM K) (bBt K x))) (F_wt : bJ P w K mg base 46 "roots_with_times" ["curve", "low", "high"] (b_ (uK K) (bBt K x))) (h_ : bJ P w K mg base 45 "stretches" ["curve", "fine"] (b_ (fU K) (bSt K x))) (F : Fun K "_law_next_ones" "_law_next_ones" dO f fd) : bw P w K mg base (CXE P w) 47 f fd ["_law_which", "_law_curve", "_law_low", "_law_high", "_law_fine"] (qP K x) := by
  refine F.okE scNO (fun vs H Q E h => ?_) (fun cdv A outer s H vs Q E hr h => ?_)
  · obtain ⟨a, d, e, c, w, p, q, r, t, f0, rfl, _⟩ := h
    rfl
  obtain ⟨a, d, e, c, w, p, q, r, t, f0, rfl, h0, h8, hA, hc, hD, hE, ⟨bp, bq, br, bt⟩, hf2, ho⟩ := h
  refine ⟨_, (aA (bL (aJ cg (pv 0) au (aP _))
    (aA (aD (aG gw hr rfl bH (aj (pv 1) aq))))
    (aA (bL (aJ cg (pv 0) au (aP _))
    (aA (aD (aG Jy hr rfl bH (aj (pv 1) aq))))
    (aA (bL (aJ cg (pv 0) au (aP _))
    (aA (aD (aG jE hr rfl bH (aj (pv 1) aq))))
    (aA (bL (aJ cg (pv 0) au (aP _))
    (aA (aD (aG Mw hr rfl bH (aj (pv 1) aq))))
    (aA (bL (aJ cg (pv 0) au (aP _))
    (aA (aD (aG Eh hr rfl bH (aj (pv 1) (aj (pv 2) aq)))))
    (aA (bL (aJ cg (pv 0) au (aP _))
    (aA (aD (aG Ei hr rfl bH (aj (pv 1) (aj (pv 2) (aj (pv 3) aq))))))
    (aA (bL (aJ cg (pv 0) au (aP _))
    (aA (aD (aG F_wt hr rfl bH (aj (pv 1) (aj (pv 2) (aj (pv 3) aq))))))
    (aA (aD (aG h_ hr rfl bH (aj (pv 1) (aj (pv 4) aq))))))))))))))))))), ?_⟩
  refine ⟨_, rfl, rfl, _, rfl, bQ (fun z => ?_) (fun z => ?_)⟩
  · have z1 := of_decide_eq_true z
    injection z1 with z1
    subst z1
    clear z
    by_cases hb : dU c
    · exact ⟨_, rfl, .inr ⟨a, c, rfl, hA, .inl ⟨hb, ho.no .curve (cN hb) (by decide) (Same.refl _)⟩⟩⟩
    by_cases hne : c = []
    · exact ⟨_, rfl, .inr ⟨a, c, rfl, hA, .inr ⟨hne, ho.no .nought (by simp [cj, fK, hne]) (by decide) (Same.refl _)⟩⟩⟩
    have g := hc.r hb hne
    obtain ⟨ps, Ls, z, zc⟩ := g.c5.szs
    have gr := z.grow
    have mo := z.most
    exact ⟨_, rfl, .inl ⟨a, c, 200, 5, ps, Ls, rfl, hA, z.good, z.ne, z.len, z.l30, z.bd, z.room, z.sim, z.wC, by omega, fun r1 H1 ws ls n1 s1 _ _ _ _ _ => ho.ok (by simp [cj, hb, hne]) s1⟩⟩
  have n8 : w ≠ 8 := fun e => z (decide_eq_true (congrArg V.int e))
  clear z
  refine ⟨_, rfl, rfl, _, rfl, bQ (fun z => ?_) (fun z => ?_)⟩
  · have z1 := of_decide_eq_true z
    injection z1 with z1
    subst z1
    clear z
    by_cases hb : dU c
    · exact ⟨_, rfl, .inr ⟨a, c, rfl, hA, .inl ⟨hb, ho.no .curve (cN hb) (by decide) (Same.refl _)⟩⟩⟩
    by_cases hne : c = []
    · exact ⟨_, rfl, .inr ⟨a, c, rfl, hA, .inr ⟨hne, ho.no .nought (by simp [cj, fK, hne]) (by decide) (Same.refl _)⟩⟩⟩
    have g := hc.r hb hne
    obtain ⟨ps, Ls, z, zc⟩ := g.c5.szs
    exact ⟨_, rfl, .inl ⟨a, c, 200, 5, ps, Ls, 100000, rfl, hA, z, by decide, fun H1 ls s1 _ => ho.ok (by simp [cj, hb, hne]) s1⟩⟩
  have n9 : w ≠ 9 := fun e => z (decide_eq_true (congrArg V.int e))
  clear z
  refine ⟨_, rfl, rfl, _, rfl, bQ (fun z => ?_) (fun z => ?_)⟩
  · have z1 := of_decide_eq_true z
    injection z1 with z1
    subst z1
    clear z
    by_cases hb : dU c
    · exact ⟨_, rfl, .inr ⟨a, c, rfl, hA, .inl ⟨hb, ho.no .curve (cN hb) (by decide) (Same.refl _)⟩⟩⟩
    by_cases hne : c = []
    · exact ⟨_, rfl, .inr ⟨a, c, rfl, hA, .inr ⟨hne, ho.no .nought (by simp [cj, fK, hne]) (by decide) (Same.refl _)⟩⟩⟩
    have g := hc.r hb hne
    have l5 := g.l3
    exact ⟨_, rfl, .inl ⟨a, c, rfl, hA, g.c5.good, g.c5.ne, by omega, fun H1 s1 => ho.ok (by simp [cj, hb, hne]) s1⟩⟩
  have n10 : w ≠ 10 := fun e => z (decide_eq_true (congrArg V.int e))
  clear z
  refine ⟨_, rfl, rfl, _, rfl, bQ (fun z => ?_) (fun z => ?_)⟩
  · have z1 := of_decide_eq_true z
    injection z1 with z1
    subst z1
    clear z
    by_cases hb : dU c
    · exact ⟨_, rfl, .inr ⟨a, c, rfl, hA, .inl ⟨hb, ho.no .curve (cN hb) (by decide) (Same.refl _)⟩⟩⟩
    by_cases hne : c = []
    · exact ⟨_, rfl, .inr ⟨a, c, rfl, hA, .inr ⟨hne, ho.no .nought (by simp [cj, fK, hne]) (by decide) (Same.refl _)⟩⟩⟩
    have g := hc.r hb hne
    exact ⟨_, rfl, .inl ⟨a, c, rfl, hA, g, fun r1 H1 n1 s1 => ho.ok (by simp [cj, hb, hne]) s1⟩⟩
  have n11 : w ≠ 11 := fun e => z (decide_eq_true (congrArg V.int e))
  clear z
  refine ⟨_, rfl, rfl, _, rfl, bQ (fun z => ?_) (fun z => ?_)⟩
  · have z1 := of_decide_eq_true z
    injection z1 with z1
    subst z1
    clear z
    by_cases hb : dU c
    · exact ⟨_, rfl, _, rfl, .inr ⟨a, d, c, p, q, rfl, hA, hD, .inl ⟨hb, ho.no .curve (cN hb) (by decide) (Same.refl _)⟩⟩⟩
    by_cases hne : c = []
    · exact ⟨_, rfl, _, rfl, .inr ⟨a, d, c, p, q, rfl, hA, hD, .inr (.inl ⟨hne, ho.no .nought (by simp [cj, fK, hne]) (by decide) (Same.refl _)⟩)⟩⟩
    by_cases hq : q < 1
    · exact ⟨_, rfl, _, rfl, .inr ⟨a, d, c, p, q, rfl, hA, hD, .inr (.inr ⟨cW hb, hne, hq, ho.no .place (by simp [cj, hb, hne, hq]) (by decide) (Same.refl _)⟩)⟩⟩
    have g := hc.r hb hne
    obtain ⟨ps, Ls, z, zc⟩ := g.c5.szs
    have gr := z.grow
    exact ⟨_, rfl, _, rfl, .inl ⟨a, d, c, 200, 5, ps, Ls, 100000, p, q, rfl, hA, hD, z.good, z.ne, z.len, z.l30, z.bd, z.room, z.sim, z.wC, gr, by decide, bp.mono (by decide), bq.mono (by decide), by omega, fun H1 ls s1 _ => ho.ok (by simp [cj, hb, hne, hq]) s1⟩⟩
  have n12 : w ≠ 12 := fun e => z (decide_eq_true (congrArg V.int e))
  clear z
  refine ⟨_, rfl, rfl, _, rfl, bQ (fun z => ?_) (fun z => ?_)⟩
  · have z1 := of_decide_eq_true z
    injection z1 with z1
    subst z1
    clear z
    by_cases hb : dU c
    · exact ⟨_, rfl, _, rfl, _, rfl, .inr ⟨a, d, e, c, p, q, r, t, rfl, hA, hD, hE, .inl ⟨hb, ho.no .curve (cN hb) (by decide) (Same.refl _)⟩⟩⟩
    by_cases hne : c = []
    · exact ⟨_, rfl, _, rfl, _, rfl, .inr ⟨a, d, e, c, p, q, r, t, rfl, hA, hD, hE, .inr (.inl ⟨hne, ho.no .nought (by simp [cj, fK, hne]) (by decide) (Same.refl _)⟩)⟩⟩
    have gl := cW hb
    by_cases hq : q < 1
    · exact ⟨_, rfl, _, rfl, _, rfl, .inr ⟨a, d, e, c, p, q, r, t, rfl, hA, hD, hE, .inr (.inr ⟨gl, hne, .inl ⟨hq, ho.no .place (by simp [cj, hb, hne, hq]) (by decide) (Same.refl _)⟩⟩)⟩⟩
    by_cases ht : t < 1
    · exact ⟨_, rfl, _, rfl, _, rfl, .inr ⟨a, d, e, c, p, q, r, t, rfl, hA, hD, hE, .inr (.inr ⟨gl, hne, .inr (.inl ⟨by omega, ht, ho.no .place (by simp [cj, hb, hne, hq, ht]) (by decide) (Same.refl _)⟩)⟩)⟩⟩
    by_cases hl : r * q < p * t
    · exact ⟨_, rfl, _, rfl, _, rfl, .inr ⟨a, d, e, c, p, q, r, t, rfl, hA, hD, hE, .inr (.inr ⟨gl, hne, .inr (.inr ⟨by omega, by omega, bp, bq, br, bt, hl, ho.no .stretch (by simp [cj, hb, hne, hq, ht, hl]) (by decide) (Same.refl _)⟩)⟩)⟩⟩
    have g := hc.r hb hne
    obtain ⟨ps, Ls, z, zc⟩ := g.c5.szs
    exact ⟨_, rfl, _, rfl, _, rfl, .inl ⟨a, d, e, c, 200, 5, ps, Ls, 100000, p, q, r, t, rfl, hA, hD, hE, z, bp.mono (by decide), bq.mono (by decide), br.mono (by decide), bt.mono (by decide), by omega, by omega, by omega, fun H1 ls s1 _ => ho.ok (by simp [cj, hb, hne, hq, ht, hl]) s1⟩⟩
  have n13 : w ≠ 13 := fun e => z (decide_eq_true (congrArg V.int e))
  clear z
  refine ⟨_, rfl, rfl, _, rfl, bQ (fun z => ?_) (fun z => ?_)⟩
  · have z1 := of_decide_eq_true z
    injection z1 with z1
    subst z1
    clear z
    by_cases hb : dU c
    · exact ⟨_, rfl, _, rfl, _, rfl, .inr ⟨a, d, e, c, p, q, r, t, rfl, hA, hD, hE, .inl ⟨hb, ho.no .curve (cN hb) (by decide) (Same.refl _)⟩⟩⟩
    by_cases hne : c = []
    · exact ⟨_, rfl, _, rfl, _, rfl, .inr ⟨a, d, e, c, p, q, r, t, rfl, hA, hD, hE, .inr (.inl ⟨hne, ho.no .nought (by simp [cj, fK, hne]) (by decide) (Same.refl _)⟩)⟩⟩
    have gl := cW hb
    by_cases hq : q < 1
    · exact ⟨_, rfl, _, rfl, _, rfl, .inr ⟨a, d, e, c, p, q, r, t, rfl, hA, hD, hE, .inr (.inr ⟨gl, hne, .inl ⟨hq, ho.no .place (by simp [cj, hb, hne, hq]) (by decide) (Same.refl _)⟩⟩)⟩⟩
    by_cases ht : t < 1
    · exact ⟨_, rfl, _, rfl, _, rfl, .inr ⟨a, d, e, c, p, q, r, t, rfl, hA, hD, hE, .inr (.inr ⟨gl, hne, .inr (.inl ⟨by omega, ht, ho.no .place (by simp [cj, hb, hne, hq, ht]) (by decide) (Same.refl _)⟩)⟩)⟩⟩
    by_cases hl : r * q < p * t
    · exact ⟨_, rfl, _, rfl, _, rfl, .inr ⟨a, d, e, c, p, q, r, t, rfl, hA, hD, hE, .inr (.inr ⟨gl, hne, .inr (.inr ⟨by omega, by omega, bp, bq, br, bt, hl, ho.no .stretch (by simp [cj, hb, hne, hq, ht, hl]) (by decide) (Same.refl _)⟩)⟩)⟩⟩
    have g := hc.r hb hne
    exact ⟨_, rfl, _, rfl, _, rfl, .inl ⟨a, d, e, c, p, q, r, t, rfl, hA, g, hD, hE, bp.mono (by decide), bq.mono (by decide), br.mono (by decide), bt.mono (by decide), by omega, by omega, by omega, fun n H1 s1 => ho.ok (by simp [cj, hb, hne, hq, ht, hl]) s1⟩⟩
  have n14 : w ≠ 14 := fun e => z (decide_eq_true (congrArg V.int e))
  clear z
  obtain rfl : w = 15 := by omega
  by_cases hb : dU c
  · exact ⟨_, rfl, _, rfl, .inr ⟨a, f0, c, rfl, hA, .inl ⟨hb, ho.no .curve (cN hb) (by decide) (Same.refl _)⟩⟩⟩
  by_cases hne : c = []
  · exact ⟨_, rfl, _, rfl, .inr ⟨a, f0, c, rfl, hA, .inr (.inl ⟨hne, ho.no .nought (by simp [cj, fK, hne]) (by decide) (Same.refl _)⟩)⟩⟩
  by_cases hf : f0 < 1
  · exact ⟨_, rfl, _, rfl, .inr ⟨a, f0, c, rfl, hA, .inr (.inr ⟨cW hb, hne, hf, ho.no .fine (by simp [cj, hb, hne, hf]) (by decide) (Same.refl _)⟩)⟩⟩
  have g := hc.r hb hne
  obtain ⟨ps, Ls, z, zc⟩ := g.c5.szs
  obtain ⟨sb1, sb2⟩ := zu
  have bf : Bd 100000 f0 := by
    have : Bd 2 f0 := by unfold Bd; omega
    exact this.mono (by decide)
  exact ⟨_, rfl, _, rfl, .inl ⟨a, c, 200, 5, ps, Ls, 100000, 20003, f0, 2 * SEP + 2, SEP, rfl, hA, z, by omega, by omega, sb2, by omega, sb1, by decide, bf, zc, fun r1 H1 zs prs sc l n1 s1 _ _ _ _ _ => ho.ok (by simp [cj, hb, hne, hf]) s1⟩⟩
theorem scLO : aZ ["_law_which", "_law_curve"] ["_law_which", "_law_curve"] (aB dR) := ⟨rfl, rfl, rfl, by decide +kernel, rfl, by decide +kernel, by decide +kernel⟩
theorem Dq {x : Ea} (vP : bJ P w K mg base 2 "times_curve" ["curve", "other"] (b_ (mY K) (b2C K x))) (i_ : bJ P w K mg base 42 "shared" ["curve", "other"] (b_ (gK K) (b2C K x))) (jX : bJ P w K mg base 41 "left" ["curve", "other"] (b_ (jy K) (b2L K x))) (F : Fun K "_law_last_ones" "_law_last_ones" dR f fd) : bw P w K mg base (CXE P w) 47 f fd ["_law_which", "_law_curve"] (qR K x) := by
  refine F.okE scLO (fun vs H Q E h => ?_) (fun cdv A outer s H vs Q E hr h => ?_)
  · obtain ⟨a, c, w, p, q, r, t, f0, rfl, _⟩ := h
    rfl
  obtain ⟨a, c, w, p, q, r, t, f0, rfl, h0, h8, hA, hc, ho⟩ := h
  refine ⟨_, (aA (bL (aJ cg (pv 0) au (aP _))
    (aA (aD (aG vP hr rfl bH (aj (pv 1) (aj (cT (aj au (aj au aq))) aq)))))
    (aA (bL (aJ cg (pv 0) au (aP _))
    (aA (aD (aG i_ hr rfl bH (aj (pv 1) (aj (cT (aj au (aj au aq))) aq)))))
    (aA (bL (aJ cg (pv 0) au (aP _))
    (aA (aD (aG jX hr rfl bH (aj (pv 1) (aj (cT (aj au (aj au aq))) aq)))))
    (aA (aD (aG jX hr rfl bH (aj (pv 1) (aj (cT aq) aq))))))))))), ?_⟩
  refine ⟨_, rfl, rfl, _, rfl, bQ (fun z => ?_) (fun z => ?_)⟩
  · have z1 := of_decide_eq_true z
    injection z1 with z1
    subst z1
    clear z
    refine ⟨_, rfl, (by show 2 <= sizeLine; decide), fun r0 n0 => ?_⟩
    have s0 : Same H (upd H r0 (.lst [.int 1, .int 1])) := aQ n0 _
    have e0 : upd H r0 (.lst [.int 1, .int 1]) r0 = some (IL [1, 1]) := aH
    generalize upd H r0 (.lst [.int 1, .int 1]) = G0 at s0 e0 ⊢
    have g1 : bI [1, 1] := fun _ => by decide
    have b1 : ∀ x ∈ ([1, 1] : List Int), Bd 2 x := fun x hx => by simp at hx; subst hx; unfold Bd; decide
    by_cases hb : dU c
    · exact .inr ⟨a, r0, c, [1, 1], rfl, s0.seq hA, SqL.of e0, .inl ⟨hb, ho.no .curve (cN hb) (by decide) s0⟩⟩
    have gl := cW hb
    obtain ⟨l3, hbd⟩ := hc.ok hb
    exact .inl ⟨a, r0, c, [1, 1], rfl, s0.seq hA, SqL.of e0, gl, g1, by simp only [List.length_cons, List.length_nil]; omega, fun x hx => (hbd x hx).mono (by decide), fun x hx => (b1 x hx).mono (by decide), fun r1 H1 n1 s1 e1 => ho.ok (by simp [cj, hb]) (s0.trans s1)⟩
  have n16 : w ≠ 16 := fun e => z (decide_eq_true (congrArg V.int e))
  clear z
  refine ⟨_, rfl, rfl, _, rfl, bQ (fun z => ?_) (fun z => ?_)⟩
  · have z1 := of_decide_eq_true z
    injection z1 with z1
    subst z1
    clear z
    refine ⟨_, rfl, (by show 2 <= sizeLine; decide), fun r0 n0 => ?_⟩
    have s0 : Same H (upd H r0 (.lst [.int 1, .int 1])) := aQ n0 _
    have e0 : upd H r0 (.lst [.int 1, .int 1]) r0 = some (IL [1, 1]) := aH
    generalize upd H r0 (.lst [.int 1, .int 1]) = G0 at s0 e0 ⊢
    have g1 : bI [1, 1] := fun _ => by decide
    have b1 : ∀ x ∈ ([1, 1] : List Int), Bd 2 x := fun x hx => by simp at hx; subst hx; unfold Bd; decide
    by_cases hb : dU c
    · exact .inr ⟨a, r0, c, [1, 1], rfl, s0.seq hA, SqL.of e0, .inl ⟨hb, ho.no .curve (cN hb) (by decide) s0⟩⟩
    have gl := cW hb
    obtain ⟨l3, hbd⟩ := hc.ok hb
    exact .inl ⟨a, r0, c, [1, 1], 3, 2, 200, 2, rfl, s0.seq hA, SqL.of e0, gl, g1, l3, by decide, by decide, by decide, hbd, b1, by decide +kernel, fun r1 H1 sx n1 s1 _ _ e1 => ho.ok (by simp [cj, hb]) (s0.trans s1)⟩
  have n17 : w ≠ 17 := fun e => z (decide_eq_true (congrArg V.int e))
  clear z
  refine ⟨_, rfl, rfl, _, rfl, bQ (fun z => ?_) (fun z => ?_)⟩
  · have z1 := of_decide_eq_true z
    injection z1 with z1
    subst z1
    clear z
    refine ⟨_, rfl, (by show 2 <= sizeLine; decide), fun r0 n0 => ?_⟩
    have s0 : Same H (upd H r0 (.lst [.int 1, .int 1])) := aQ n0 _
    have e0 : upd H r0 (.lst [.int 1, .int 1]) r0 = some (IL [1, 1]) := aH
    generalize upd H r0 (.lst [.int 1, .int 1]) = G0 at s0 e0 ⊢
    have g1 : bI [1, 1] := fun _ => by decide
    have b1 : ∀ x ∈ ([1, 1] : List Int), Bd 2 x := fun x hx => by simp at hx; subst hx; unfold Bd; decide
    by_cases hb : dU c
    · exact .inr ⟨a, r0, c, [1, 1], rfl, s0.seq hA, SqL.of e0, .inl ⟨hb, ho.no .curve (cN hb) (by decide) s0⟩⟩
    have gl := cW hb
    obtain ⟨l3, hbd⟩ := hc.ok hb
    exact .inl ⟨a, r0, c, [1, 1], 200, 2, rfl, s0.seq hA, SqL.of e0, gl, g1, by simp, by omega, by decide, hbd, b1, by omega, fun r1 H1 sx n1 s1 _ _ _ e1 => ho.ok (by simp [cj, hb]) (s0.trans s1)⟩
  have n18 : w ≠ 18 := fun e => z (decide_eq_true (congrArg V.int e))
  clear z
  obtain rfl : w = 19 := by omega
  refine ⟨_, rfl, (by show 0 <= sizeLine; decide), fun r0 n0 => ?_⟩
  have s0 : Same H (upd H r0 (.lst [])) := aQ n0 _
  have e0 : upd H r0 (.lst []) r0 = some (IL []) := aH
  generalize upd H r0 (.lst []) = G0 at s0 e0 ⊢
  by_cases hb : dU c
  · exact .inr ⟨a, r0, c, [], rfl, s0.seq hA, SqL.of e0, .inl ⟨hb, ho.no .curve (cN hb) (by decide) s0⟩⟩
  exact .inr ⟨a, r0, c, [], rfl, s0.seq hA, SqL.of e0, .inr (.inr ⟨cW hb, rfl, ho.no .nought (by simp [cj, hb]) (by decide) s0⟩)⟩
theorem Kc : bootBuiltins "ValueError" = some (.type "ValueError") := by decide +kernel
theorem oA : aZ ["_law_which", "_law_curve", "_law_low", "_law_high", "_law_fine", "_law_word", "e", "_law_many"] ["_law_which", "_law_curve", "_law_low", "_law_high", "_law_fine"] (aB gM) := ⟨rfl, rfl, rfl, by decide +kernel, rfl, by decide +kernel, by decide +kernel⟩
theorem Dl {x : Ea} {c0 nl : Addr} (B : Bl mg) (hve : mg "ValueError" = none) (hFE : mg "FenceError" = some (.ref c0)) (hNL : mg "NoLine" = some (.ref nl)) (R1 : Rf K mg "NoCurve" x.NC) (R2 : Rf K mg "Nought" x.NN) (R3 : Rf K mg "NoPlace" x.NP) (R4 : Rf K mg "NoStretch" x.NS) (R5 : Rf K mg "NoFine" x.NF) (Z : Ks K x c0 nl)
    (Jz : bJ P w K mg base 47 "_law_first_ones" ["_law_which", "_law_curve", "_law_low"] (oX K x)) (Mx : bJ P w K mg base 47 "_law_next_ones" ["_law_which", "_law_curve", "_law_low", "_law_high", "_law_fine"] (qP K x)) (Mz : bJ P w K mg base 47 "_law_last_ones" ["_law_which", "_law_curve"] (qR K x))
    (F : Fun K "_law_said" "_law_said" gM f fd) : bw P w K mg base CX0 48 f fd ["_law_which", "_law_curve", "_law_low", "_law_high", "_law_fine"] (qO K) := by
  refine F.ok oA (fun vs H Q E h => ?_) (fun cdv A outer s H vs Q E hr h => ?_)
  · obtain ⟨a, d, e, c, wi, p, q, r, t, f0, rfl, _⟩ := h
    rfl
  obtain ⟨a, d, e, c, wi, p, q, r, t, f0, rfl, h0, h20, hA, hc, hD, hE, ⟨bp, bq, br, bt⟩, hf2, k0⟩ := h
  generalize hdue : cj wi c p q r t f0 = due at k0
  refine ⟨_, (ak (aK (i := 5) oA.nd rfl (Or.inl rfl) cA)
    (ak (Fd (i := 6) (Ew := fun σ C _ H' => σ = [some (.int wi), some (.ref a), some (.ref d), some (.ref e), some (.int f0), some (.str ("done" : Str)), none, none] /\ due ≠ .done /\ C = .ref (due.adr x) /\ Same H H') rfl rfl oA.nd rfl rfl rfl hFE
      (fun pn => (aA (bL (aJ gB (pv 0) au (aP _))
        (aA (aD (nG Jz hr rfl (aj (pv 0) (aj (pv 1) (aj (pv 2) aq))))))
        (aA (bL (aJ gB (pv 0) au (aP _))
          (aA (aD (nG Mx hr rfl (aj (pv 0) (aj (pv 1) (aj (pv 2) (aj (pv 3) (aj (pv 4) aq))))))))
          (aA (aD (nG Mz hr rfl (aj (pv 0) (aj (pv 1) aq))))))))))
      (fun e1 => (ak (aK (i := 5) oA.nd rfl (Or.inl rfl) cA)
      (ak (bL (jh (aO (cJ (K := K) rfl) rfl B.bN bD (aj (pv 6) (aj (dX (v := .ref x.NC) rfl R1.at_ rfl) aq)))) (aA (aK (i := 5) oA.nd rfl (Or.inl rfl) cA)) bB)
      (ak (bL (jh (aO (cJ (K := K) rfl) rfl B.bN bD (aj (pv 6) (aj (dX (v := .ref x.NN) rfl R2.at_ rfl) aq)))) (aA (aK (i := 5) oA.nd rfl (Or.inl rfl) cA)) bB)
      (ak (bL (jh (aO (cJ (K := K) rfl) rfl B.bN bD (aj (pv 6) (aj (dX (v := .ref x.NP) rfl R3.at_ rfl) aq)))) (aA (aK (i := 5) oA.nd rfl (Or.inl rfl) cA)) bB)
      (ak (bL (jh (aO (cJ (K := K) rfl) rfl B.bN bD (aj (pv 6) (aj (dX (v := .ref x.NS) rfl R4.at_ rfl) aq)))) (aA (aK (i := 5) oA.nd rfl (Or.inl rfl) cA)) bB)
      (ak (bL (jh (aO (cJ (K := K) rfl) rfl B.bN bD (aj (pv 6) (aj (dX (v := .ref x.NF) rfl R5.at_ rfl) aq)))) (aA (aK (i := 5) oA.nd rfl (Or.inl rfl) cA)) bB)
      (ak (aK (i := 7) oA.nd rfl (Or.inl rfl) (bh cU (cB dN rfl B.int_ gG (aj (aO (cJ (K := K) rfl) rfl B.bN bD (aj (pv 6) (aj (dX (v := .ref x.NC) rfl R1.at_ rfl) aq))) aq)) (cB dN rfl B.int_ gG (aj (aO (cJ (K := K) rfl) rfl B.bN bD (aj (pv 6) (aj (dX (v := .ref x.NN) rfl R2.at_ rfl) aq))) aq))))
      (ak (aK (i := 7) oA.nd rfl (Or.inl rfl) (bh cU (bh cU (pv 7) (cB dN rfl B.int_ gG (aj (aO (cJ (K := K) rfl) rfl B.bN bD (aj (pv 6) (aj (dX (v := .ref x.NP) rfl R3.at_ rfl) aq))) aq))) (cB dN rfl B.int_ gG (aj (aO (cJ (K := K) rfl) rfl B.bN bD (aj (pv 6) (aj (dX (v := .ref x.NS) rfl R4.at_ rfl) aq))) aq))))
      (ak (aK (i := 7) oA.nd rfl (Or.inl rfl) (bh cU (bh cU (pv 7) (cB dN rfl B.int_ gG (aj (aO (cJ (K := K) rfl) rfl B.bN bD (aj (pv 6) (aj (dX (v := .ref x.NF) rfl R5.at_ rfl) aq))) aq))) (cB dN rfl B.int_ gG (aj (aO (cJ (K := K) rfl) rfl B.bN bD (aj (pv 6) (aj (dX (v := .ref nl) rfl hNL rfl) aq))) aq))))
      (aA (bL (PW.pt (tK (aJ pD (pv 7) au (aP _)) (oO (uQ (jh (aO (cJ (K := K) rfl) rfl B.bN bD (aj (pv 6) (aj (m9 (v := .ty "ValueError") rfl hve Kc rfl) aq)))))))) (aA (aK (i := 5) oA.nd rfl (Or.inl rfl) cA)) bB)))))))))))))
    (aA (bA (pv 5))))), ?_⟩
  have fin : ∀ {Q' : VK} {E' : XK}, (∀ H' : Hp, Same H H' -> due = .done -> Q' .non H') -> (∀ H' : Hp, Same H H' -> due ≠ .done -> E' (.ref (due.adr x)) none H') -> Out x due Q' E' H := fun a b => ⟨fun e H' s => a H' s e, fun e H' s => b H' s e⟩
  refine ⟨?_, ?_⟩
  · refine ⟨_, rfl, _, _, rfl, rfl, _, rfl, bQ (fun z => ?_) (fun z => ?_)⟩
    · have z' : wi < 8 := of_decide_eq_true z
      refine ⟨_, rfl, _, rfl, _, rfl, a, d, c, wi, p, q, r, t, f0, rfl, h0, z', hA, hc, hD, bp, bq, ?_⟩
      rw [hdue]
      exact fin (fun H' s e => ⟨_, rfl, by have := k0 H' s; rw [e] at this; exact this⟩) (fun H' s e => ⟨rfl, e, rfl, s⟩)
    have z' : ¬ wi < 8 := of_decide_eq_false (Bool.eq_false_iff.mpr z)
    refine ⟨_, rfl, _, _, rfl, rfl, _, rfl, bQ (fun y => ?_) (fun y => ?_)⟩
    · have y' : wi < 16 := of_decide_eq_true y
      refine ⟨_, rfl, _, rfl, _, rfl, _, rfl, _, rfl, a, d, e, c, wi, p, q, r, t, f0, rfl, by omega, y', hA, hc, hD, hE, ⟨bp, bq, br, bt⟩, hf2, ?_⟩
      rw [hdue]
      exact fin (fun H' s e => ⟨_, rfl, by have := k0 H' s; rw [e] at this; exact this⟩) (fun H' s e => ⟨rfl, e, rfl, s⟩)
    · have y' : ¬ wi < 16 := of_decide_eq_false (Bool.eq_false_iff.mpr y)
      refine ⟨_, rfl, _, rfl, a, c, wi, p, q, r, t, f0, rfl, by omega, h20, hA, hc, ?_⟩
      rw [hdue]
      exact fin (fun H' s e => ⟨_, rfl, by have := k0 H' s; rw [e] at this; exact this⟩) (fun H' s e => ⟨rfl, e, rfl, s⟩)
  · rintro σ' C H' ⟨rfl, dn, rfl, s1⟩
    refine ⟨due.adr x, rfl, Z.cat due dn, fun e1 he => ?_⟩
    have q1 := k0 _ (s1.trans (aQ he (mU e1 (due.adr x))))
    have eH : upd H' e1 (mU e1 (due.adr x)) e1 = some (mU e1 (due.adr x)) := aH
    generalize upd H' e1 (mU e1 (due.adr x)) = G at q1 eH ⊢
    clear hdue k0
    cases due with
    | done => exact absurd rfl dn
    | curve =>
      refine ⟨_, rfl, e1, x.NC, .ref x.NC, .ref x.NC, true, rfl, eH, Z.ek .curve (by decide), fun _ h => h, Z.own .curve .curve (by decide) (by decide), true, rfl, lU ?_⟩
      refine ⟨_, rfl, e1, x.NC, .ref x.NN, .ref x.NN, false, rfl, eH, Z.ek .curve (by decide), fun _ h => h, Z.own .curve .nought (by decide) (by decide), false, rfl, dJ ?_⟩
      refine ⟨_, rfl, e1, x.NC, .ref x.NP, .ref x.NP, false, rfl, eH, Z.ek .curve (by decide), fun _ h => h, Z.own .curve .place (by decide) (by decide), false, rfl, dJ ?_⟩
      refine ⟨_, rfl, e1, x.NC, .ref x.NS, .ref x.NS, false, rfl, eH, Z.ek .curve (by decide), fun _ h => h, Z.own .curve .stretch (by decide) (by decide), false, rfl, dJ ?_⟩
      refine ⟨_, rfl, e1, x.NC, .ref x.NF, .ref x.NF, false, rfl, eH, Z.ek .curve (by decide), fun _ h => h, Z.own .curve .fine (by decide) (by decide), false, rfl, dJ ?_⟩
      refine ⟨_, rfl, e1, x.NC, .ref x.NC, .ref x.NC, true, rfl, eH, Z.ek .curve (by decide), fun _ h => h, Z.own .curve .curve (by decide) (by decide), .inr ⟨true, rfl, _, rfl, e1, x.NC, .ref x.NN, .ref x.NN, false, rfl, eH, Z.ek .curve (by decide), fun _ h => h, Z.own .curve .nought (by decide) (by decide), .inr ⟨false, rfl, _, _, rfl, rfl, ?_⟩⟩⟩
      refine ⟨_, rfl, _, rfl, e1, x.NC, .ref x.NP, .ref x.NP, false, rfl, eH, Z.ek .curve (by decide), fun _ h => h, Z.own .curve .place (by decide) (by decide), .inr ⟨false, rfl, _, _, rfl, rfl, _, rfl, e1, x.NC, .ref x.NS, .ref x.NS, false, rfl, eH, Z.ek .curve (by decide), fun _ h => h, Z.own .curve .stretch (by decide) (by decide), .inr ⟨false, rfl, _, _, rfl, rfl, ?_⟩⟩⟩
      refine ⟨_, rfl, _, rfl, e1, x.NC, .ref x.NF, .ref x.NF, false, rfl, eH, Z.ek .curve (by decide), fun _ h => h, Z.own .curve .fine (by decide) (by decide), .inr ⟨false, rfl, _, _, rfl, rfl, _, rfl, e1, x.NC, .ref nl, .ref nl, false, rfl, eH, Z.ek .curve (by decide), fun _ h => h, Z.nol .curve (by decide), .inr ⟨false, rfl, _, _, rfl, rfl, ?_⟩⟩⟩
      refine ⟨_, rfl, rfl, _, rfl, bQ (fun z => absurd z (by decide)) (fun _ => ?_)⟩
      refine ⟨_, rfl, e1, x.NC, .ty "ValueError", .type "ValueError", true, rfl, eH, Z.ek .curve (by decide), fun _ h => h, Z.ve .curve (by decide), true, rfl, dJ ?_⟩
      exact ⟨_, rfl, q1⟩
    | nought =>
      refine ⟨_, rfl, e1, x.NN, .ref x.NC, .ref x.NC, false, rfl, eH, Z.ek .nought (by decide), fun _ h => h, Z.own .nought .curve (by decide) (by decide), false, rfl, dJ ?_⟩
      refine ⟨_, rfl, e1, x.NN, .ref x.NN, .ref x.NN, true, rfl, eH, Z.ek .nought (by decide), fun _ h => h, Z.own .nought .nought (by decide) (by decide), true, rfl, lU ?_⟩
      refine ⟨_, rfl, e1, x.NN, .ref x.NP, .ref x.NP, false, rfl, eH, Z.ek .nought (by decide), fun _ h => h, Z.own .nought .place (by decide) (by decide), false, rfl, dJ ?_⟩
      refine ⟨_, rfl, e1, x.NN, .ref x.NS, .ref x.NS, false, rfl, eH, Z.ek .nought (by decide), fun _ h => h, Z.own .nought .stretch (by decide) (by decide), false, rfl, dJ ?_⟩
      refine ⟨_, rfl, e1, x.NN, .ref x.NF, .ref x.NF, false, rfl, eH, Z.ek .nought (by decide), fun _ h => h, Z.own .nought .fine (by decide) (by decide), false, rfl, dJ ?_⟩
      refine ⟨_, rfl, e1, x.NN, .ref x.NC, .ref x.NC, false, rfl, eH, Z.ek .nought (by decide), fun _ h => h, Z.own .nought .curve (by decide) (by decide), .inr ⟨false, rfl, _, rfl, e1, x.NN, .ref x.NN, .ref x.NN, true, rfl, eH, Z.ek .nought (by decide), fun _ h => h, Z.own .nought .nought (by decide) (by decide), .inr ⟨true, rfl, _, _, rfl, rfl, ?_⟩⟩⟩
      refine ⟨_, rfl, _, rfl, e1, x.NN, .ref x.NP, .ref x.NP, false, rfl, eH, Z.ek .nought (by decide), fun _ h => h, Z.own .nought .place (by decide) (by decide), .inr ⟨false, rfl, _, _, rfl, rfl, _, rfl, e1, x.NN, .ref x.NS, .ref x.NS, false, rfl, eH, Z.ek .nought (by decide), fun _ h => h, Z.own .nought .stretch (by decide) (by decide), .inr ⟨false, rfl, _, _, rfl, rfl, ?_⟩⟩⟩
      refine ⟨_, rfl, _, rfl, e1, x.NN, .ref x.NF, .ref x.NF, false, rfl, eH, Z.ek .nought (by decide), fun _ h => h, Z.own .nought .fine (by decide) (by decide), .inr ⟨false, rfl, _, _, rfl, rfl, _, rfl, e1, x.NN, .ref nl, .ref nl, false, rfl, eH, Z.ek .nought (by decide), fun _ h => h, Z.nol .nought (by decide), .inr ⟨false, rfl, _, _, rfl, rfl, ?_⟩⟩⟩
      refine ⟨_, rfl, rfl, _, rfl, bQ (fun z => absurd z (by decide)) (fun _ => ?_)⟩
      refine ⟨_, rfl, e1, x.NN, .ty "ValueError", .type "ValueError", true, rfl, eH, Z.ek .nought (by decide), fun _ h => h, Z.ve .nought (by decide), true, rfl, dJ ?_⟩
      exact ⟨_, rfl, q1⟩
    | place =>
      refine ⟨_, rfl, e1, x.NP, .ref x.NC, .ref x.NC, false, rfl, eH, Z.ek .place (by decide), fun _ h => h, Z.own .place .curve (by decide) (by decide), false, rfl, dJ ?_⟩
      refine ⟨_, rfl, e1, x.NP, .ref x.NN, .ref x.NN, false, rfl, eH, Z.ek .place (by decide), fun _ h => h, Z.own .place .nought (by decide) (by decide), false, rfl, dJ ?_⟩
      refine ⟨_, rfl, e1, x.NP, .ref x.NP, .ref x.NP, true, rfl, eH, Z.ek .place (by decide), fun _ h => h, Z.own .place .place (by decide) (by decide), true, rfl, lU ?_⟩
      refine ⟨_, rfl, e1, x.NP, .ref x.NS, .ref x.NS, false, rfl, eH, Z.ek .place (by decide), fun _ h => h, Z.own .place .stretch (by decide) (by decide), false, rfl, dJ ?_⟩
      refine ⟨_, rfl, e1, x.NP, .ref x.NF, .ref x.NF, false, rfl, eH, Z.ek .place (by decide), fun _ h => h, Z.own .place .fine (by decide) (by decide), false, rfl, dJ ?_⟩
      refine ⟨_, rfl, e1, x.NP, .ref x.NC, .ref x.NC, false, rfl, eH, Z.ek .place (by decide), fun _ h => h, Z.own .place .curve (by decide) (by decide), .inr ⟨false, rfl, _, rfl, e1, x.NP, .ref x.NN, .ref x.NN, false, rfl, eH, Z.ek .place (by decide), fun _ h => h, Z.own .place .nought (by decide) (by decide), .inr ⟨false, rfl, _, _, rfl, rfl, ?_⟩⟩⟩
      refine ⟨_, rfl, _, rfl, e1, x.NP, .ref x.NP, .ref x.NP, true, rfl, eH, Z.ek .place (by decide), fun _ h => h, Z.own .place .place (by decide) (by decide), .inr ⟨true, rfl, _, _, rfl, rfl, _, rfl, e1, x.NP, .ref x.NS, .ref x.NS, false, rfl, eH, Z.ek .place (by decide), fun _ h => h, Z.own .place .stretch (by decide) (by decide), .inr ⟨false, rfl, _, _, rfl, rfl, ?_⟩⟩⟩
      refine ⟨_, rfl, _, rfl, e1, x.NP, .ref x.NF, .ref x.NF, false, rfl, eH, Z.ek .place (by decide), fun _ h => h, Z.own .place .fine (by decide) (by decide), .inr ⟨false, rfl, _, _, rfl, rfl, _, rfl, e1, x.NP, .ref nl, .ref nl, false, rfl, eH, Z.ek .place (by decide), fun _ h => h, Z.nol .place (by decide), .inr ⟨false, rfl, _, _, rfl, rfl, ?_⟩⟩⟩
      refine ⟨_, rfl, rfl, _, rfl, bQ (fun z => absurd z (by decide)) (fun _ => ?_)⟩
      refine ⟨_, rfl, e1, x.NP, .ty "ValueError", .type "ValueError", true, rfl, eH, Z.ek .place (by decide), fun _ h => h, Z.ve .place (by decide), true, rfl, dJ ?_⟩
      exact ⟨_, rfl, q1⟩
    | stretch =>
      refine ⟨_, rfl, e1, x.NS, .ref x.NC, .ref x.NC, false, rfl, eH, Z.ek .stretch (by decide), fun _ h => h, Z.own .stretch .curve (by decide) (by decide), false, rfl, dJ ?_⟩
      refine ⟨_, rfl, e1, x.NS, .ref x.NN, .ref x.NN, false, rfl, eH, Z.ek .stretch (by decide), fun _ h => h, Z.own .stretch .nought (by decide) (by decide), false, rfl, dJ ?_⟩
      refine ⟨_, rfl, e1, x.NS, .ref x.NP, .ref x.NP, false, rfl, eH, Z.ek .stretch (by decide), fun _ h => h, Z.own .stretch .place (by decide) (by decide), false, rfl, dJ ?_⟩
      refine ⟨_, rfl, e1, x.NS, .ref x.NS, .ref x.NS, true, rfl, eH, Z.ek .stretch (by decide), fun _ h => h, Z.own .stretch .stretch (by decide) (by decide), true, rfl, lU ?_⟩
      refine ⟨_, rfl, e1, x.NS, .ref x.NF, .ref x.NF, false, rfl, eH, Z.ek .stretch (by decide), fun _ h => h, Z.own .stretch .fine (by decide) (by decide), false, rfl, dJ ?_⟩
      refine ⟨_, rfl, e1, x.NS, .ref x.NC, .ref x.NC, false, rfl, eH, Z.ek .stretch (by decide), fun _ h => h, Z.own .stretch .curve (by decide) (by decide), .inr ⟨false, rfl, _, rfl, e1, x.NS, .ref x.NN, .ref x.NN, false, rfl, eH, Z.ek .stretch (by decide), fun _ h => h, Z.own .stretch .nought (by decide) (by decide), .inr ⟨false, rfl, _, _, rfl, rfl, ?_⟩⟩⟩
      refine ⟨_, rfl, _, rfl, e1, x.NS, .ref x.NP, .ref x.NP, false, rfl, eH, Z.ek .stretch (by decide), fun _ h => h, Z.own .stretch .place (by decide) (by decide), .inr ⟨false, rfl, _, _, rfl, rfl, _, rfl, e1, x.NS, .ref x.NS, .ref x.NS, true, rfl, eH, Z.ek .stretch (by decide), fun _ h => h, Z.own .stretch .stretch (by decide) (by decide), .inr ⟨true, rfl, _, _, rfl, rfl, ?_⟩⟩⟩
      refine ⟨_, rfl, _, rfl, e1, x.NS, .ref x.NF, .ref x.NF, false, rfl, eH, Z.ek .stretch (by decide), fun _ h => h, Z.own .stretch .fine (by decide) (by decide), .inr ⟨false, rfl, _, _, rfl, rfl, _, rfl, e1, x.NS, .ref nl, .ref nl, false, rfl, eH, Z.ek .stretch (by decide), fun _ h => h, Z.nol .stretch (by decide), .inr ⟨false, rfl, _, _, rfl, rfl, ?_⟩⟩⟩
      refine ⟨_, rfl, rfl, _, rfl, bQ (fun z => absurd z (by decide)) (fun _ => ?_)⟩
      refine ⟨_, rfl, e1, x.NS, .ty "ValueError", .type "ValueError", true, rfl, eH, Z.ek .stretch (by decide), fun _ h => h, Z.ve .stretch (by decide), true, rfl, dJ ?_⟩
      exact ⟨_, rfl, q1⟩
    | fine =>
      refine ⟨_, rfl, e1, x.NF, .ref x.NC, .ref x.NC, false, rfl, eH, Z.ek .fine (by decide), fun _ h => h, Z.own .fine .curve (by decide) (by decide), false, rfl, dJ ?_⟩
      refine ⟨_, rfl, e1, x.NF, .ref x.NN, .ref x.NN, false, rfl, eH, Z.ek .fine (by decide), fun _ h => h, Z.own .fine .nought (by decide) (by decide), false, rfl, dJ ?_⟩
      refine ⟨_, rfl, e1, x.NF, .ref x.NP, .ref x.NP, false, rfl, eH, Z.ek .fine (by decide), fun _ h => h, Z.own .fine .place (by decide) (by decide), false, rfl, dJ ?_⟩
      refine ⟨_, rfl, e1, x.NF, .ref x.NS, .ref x.NS, false, rfl, eH, Z.ek .fine (by decide), fun _ h => h, Z.own .fine .stretch (by decide) (by decide), false, rfl, dJ ?_⟩
      refine ⟨_, rfl, e1, x.NF, .ref x.NF, .ref x.NF, true, rfl, eH, Z.ek .fine (by decide), fun _ h => h, Z.own .fine .fine (by decide) (by decide), true, rfl, lU ?_⟩
      refine ⟨_, rfl, e1, x.NF, .ref x.NC, .ref x.NC, false, rfl, eH, Z.ek .fine (by decide), fun _ h => h, Z.own .fine .curve (by decide) (by decide), .inr ⟨false, rfl, _, rfl, e1, x.NF, .ref x.NN, .ref x.NN, false, rfl, eH, Z.ek .fine (by decide), fun _ h => h, Z.own .fine .nought (by decide) (by decide), .inr ⟨false, rfl, _, _, rfl, rfl, ?_⟩⟩⟩
      refine ⟨_, rfl, _, rfl, e1, x.NF, .ref x.NP, .ref x.NP, false, rfl, eH, Z.ek .fine (by decide), fun _ h => h, Z.own .fine .place (by decide) (by decide), .inr ⟨false, rfl, _, _, rfl, rfl, _, rfl, e1, x.NF, .ref x.NS, .ref x.NS, false, rfl, eH, Z.ek .fine (by decide), fun _ h => h, Z.own .fine .stretch (by decide) (by decide), .inr ⟨false, rfl, _, _, rfl, rfl, ?_⟩⟩⟩
      refine ⟨_, rfl, _, rfl, e1, x.NF, .ref x.NF, .ref x.NF, true, rfl, eH, Z.ek .fine (by decide), fun _ h => h, Z.own .fine .fine (by decide) (by decide), .inr ⟨true, rfl, _, _, rfl, rfl, _, rfl, e1, x.NF, .ref nl, .ref nl, false, rfl, eH, Z.ek .fine (by decide), fun _ h => h, Z.nol .fine (by decide), .inr ⟨false, rfl, _, _, rfl, rfl, ?_⟩⟩⟩
      refine ⟨_, rfl, rfl, _, rfl, bQ (fun z => absurd z (by decide)) (fun _ => ?_)⟩
      refine ⟨_, rfl, e1, x.NF, .ty "ValueError", .type "ValueError", true, rfl, eH, Z.ek .fine (by decide), fun _ h => h, Z.ve .fine (by decide), true, rfl, dJ ?_⟩
      exact ⟨_, rfl, q1⟩
theorem Ek : aZ ["_law_curve", "_law_fine", "e", "_law_many"] ["_law_curve", "_law_fine"] (aB dz) := ⟨rfl, rfl, rfl, by decide +kernel, rfl, by decide +kernel, by decide +kernel⟩
theorem zH {x : Ea} {c0 nl : Addr} (B : Bl mg) (hve : mg "ValueError" = none) (hFE : mg "FenceError" = some (.ref c0)) (hNL : mg "NoLine" = some (.ref nl)) (R1 : Rf K mg "NoCurve" x.NC) (R2 : Rf K mg "Nought" x.NN) (R3 : Rf K mg "NoPlace" x.NP) (R4 : Rf K mg "NoStretch" x.NS) (R5 : Rf K mg "NoFine" x.NF) (Z : Ks K x c0 nl)
    (h_ : bJ P w K mg base 45 "stretches" ["curve", "fine"] (b_ (fU K) (bSt K x)))
    (F : Fun K "_law_base_tells" "_law_base_tells" dz f fd) : bw P w K mg base CX0 48 f fd ["_law_curve", "_law_fine"] (oV K) := by
  refine F.ok Ek (fun vs H Q E h => ?_) (fun cdv A outer s H vs Q E hr h => ?_)
  · obtain ⟨a, c, f0, rfl, _⟩ := h
    rfl
  obtain ⟨a, c, f0, rfl, hA, hc, hf2, k0⟩ := h
  generalize hdue : cj 15 c 1 1 1 1 f0 = due at k0
  refine ⟨_, (ak (Fd (i := 2) (Ew := fun σ C _ H' => σ = [some (.ref a), some (.int f0), none, none] /\ due ≠ .done /\ C = .ref (due.adr x) /\ Same H H') rfl rfl Ek.nd rfl rfl rfl hFE
      (fun pn => (aA (aD (nG h_ hr rfl (aj (pv 0) (aj (pv 1) aq))))))
      (fun e1 => (ak (aK (i := 3) Ek.nd rfl (Or.inl rfl) (bh cU (cB dN rfl B.int_ gG (aj (aO (cJ (K := K) rfl) rfl B.bN bD (aj (pv 2) (aj (dX (v := .ref x.NC) rfl R1.at_ rfl) aq))) aq)) (cB dN rfl B.int_ gG (aj (aO (cJ (K := K) rfl) rfl B.bN bD (aj (pv 2) (aj (dX (v := .ref x.NN) rfl R2.at_ rfl) aq))) aq))))
      (ak (aK (i := 3) Ek.nd rfl (Or.inl rfl) (bh cU (bh cU (pv 3) (cB dN rfl B.int_ gG (aj (aO (cJ (K := K) rfl) rfl B.bN bD (aj (pv 2) (aj (dX (v := .ref x.NP) rfl R3.at_ rfl) aq))) aq))) (cB dN rfl B.int_ gG (aj (aO (cJ (K := K) rfl) rfl B.bN bD (aj (pv 2) (aj (dX (v := .ref x.NS) rfl R4.at_ rfl) aq))) aq))))
      (ak (aK (i := 3) Ek.nd rfl (Or.inl rfl) (bh cU (bh cU (pv 3) (cB dN rfl B.int_ gG (aj (aO (cJ (K := K) rfl) rfl B.bN bD (aj (pv 2) (aj (dX (v := .ref x.NF) rfl R5.at_ rfl) aq))) aq))) (cB dN rfl B.int_ gG (aj (aO (cJ (K := K) rfl) rfl B.bN bD (aj (pv 2) (aj (dX (v := .ref nl) rfl hNL rfl) aq))) aq))))
      (aA (bA (Fl (aO (cJ (K := K) rfl) rfl B.bN bD (aj (pv 2) (aj (m9 (v := .ty "ValueError") rfl hve Kc rfl) aq))) (Fg (vH cg (pv 3) au (aP _)))))))))))
    (aA (bA pC))), ?_⟩
  refine ⟨?_, ?_⟩
  · by_cases hb : dU c
    · have e : due = .curve := by rw [<- hdue]; exact cN hb
      exact ⟨_, rfl, _, rfl, .inr ⟨a, f0, c, rfl, hA, .inl ⟨hb, rfl, by rw [e]; decide, by rw [e]; rfl, Same.refl _⟩⟩⟩
    by_cases hne : c = []
    · have e : due = .nought := by rw [<- hdue]; simp [cj, fK, hne]
      exact ⟨_, rfl, _, rfl, .inr ⟨a, f0, c, rfl, hA, .inr (.inl ⟨hne, rfl, by rw [e]; decide, by rw [e]; rfl, Same.refl _⟩)⟩⟩
    by_cases hf : f0 < 1
    · have e : due = .fine := by rw [<- hdue]; simp [cj, hb, hne, hf]
      exact ⟨_, rfl, _, rfl, .inr ⟨a, f0, c, rfl, hA, .inr (.inr ⟨cW hb, hne, hf, rfl, by rw [e]; decide, by rw [e]; rfl, Same.refl _⟩)⟩⟩
    have e : due = .done := by rw [<- hdue]; simp [cj, hb, hne, hf]
    have g := hc.r hb hne
    obtain ⟨ps, Ls, z, zc⟩ := g.c5.szs
    obtain ⟨sb1, sb2⟩ := zu
    have bf : Bd 100000 f0 := by
      have : Bd 2 f0 := by unfold Bd; omega
      exact this.mono (by decide)
    refine ⟨_, rfl, _, rfl, .inl ⟨a, c, 200, 5, ps, Ls, 100000, 20003, f0, 2 * SEP + 2, SEP, rfl, hA, z, by omega, by omega, sb2, by omega, sb1, by decide, bf, zc, fun r1 H1 zs prs sc l n1 s1 _ _ _ _ _ => ?_⟩⟩
    have := k0 H1 s1
    rw [e] at this
    exact this
  · rintro σ' C H' ⟨rfl, dn, rfl, s1⟩
    refine ⟨due.adr x, rfl, Z.cat due dn, fun e1 he => ?_⟩
    have q1 := k0 _ (s1.trans (aQ he (mU e1 (due.adr x))))
    have eH : upd H' e1 (mU e1 (due.adr x)) e1 = some (mU e1 (due.adr x)) := aH
    generalize upd H' e1 (mU e1 (due.adr x)) = G at q1 eH ⊢
    clear hdue k0
    cases due with
    | done => exact absurd rfl dn
    | curve =>
      refine ⟨_, rfl, e1, x.NC, .ref x.NC, .ref x.NC, true, rfl, eH, Z.ek .curve (by decide), fun _ h => h, Z.own .curve .curve (by decide) (by decide), .inr ⟨true, rfl, _, rfl, e1, x.NC, .ref x.NN, .ref x.NN, false, rfl, eH, Z.ek .curve (by decide), fun _ h => h, Z.own .curve .nought (by decide) (by decide), .inr ⟨false, rfl, _, _, rfl, rfl, ?_⟩⟩⟩
      refine ⟨_, rfl, _, rfl, e1, x.NC, .ref x.NP, .ref x.NP, false, rfl, eH, Z.ek .curve (by decide), fun _ h => h, Z.own .curve .place (by decide) (by decide), .inr ⟨false, rfl, _, _, rfl, rfl, _, rfl, e1, x.NC, .ref x.NS, .ref x.NS, false, rfl, eH, Z.ek .curve (by decide), fun _ h => h, Z.own .curve .stretch (by decide) (by decide), .inr ⟨false, rfl, _, _, rfl, rfl, ?_⟩⟩⟩
      refine ⟨_, rfl, _, rfl, e1, x.NC, .ref x.NF, .ref x.NF, false, rfl, eH, Z.ek .curve (by decide), fun _ h => h, Z.own .curve .fine (by decide) (by decide), .inr ⟨false, rfl, _, _, rfl, rfl, _, rfl, e1, x.NC, .ref nl, .ref nl, false, rfl, eH, Z.ek .curve (by decide), fun _ h => h, Z.nol .curve (by decide), .inr ⟨false, rfl, _, _, rfl, rfl, ?_⟩⟩⟩
      refine ⟨_, rfl, e1, x.NC, .ty "ValueError", .type "ValueError", true, rfl, eH, Z.ek .curve (by decide), fun _ h => h, Z.ve .curve (by decide), true, rfl, lU ?_⟩
      exact ⟨_, rfl, rfl, q1⟩
    | nought =>
      refine ⟨_, rfl, e1, x.NN, .ref x.NC, .ref x.NC, false, rfl, eH, Z.ek .nought (by decide), fun _ h => h, Z.own .nought .curve (by decide) (by decide), .inr ⟨false, rfl, _, rfl, e1, x.NN, .ref x.NN, .ref x.NN, true, rfl, eH, Z.ek .nought (by decide), fun _ h => h, Z.own .nought .nought (by decide) (by decide), .inr ⟨true, rfl, _, _, rfl, rfl, ?_⟩⟩⟩
      refine ⟨_, rfl, _, rfl, e1, x.NN, .ref x.NP, .ref x.NP, false, rfl, eH, Z.ek .nought (by decide), fun _ h => h, Z.own .nought .place (by decide) (by decide), .inr ⟨false, rfl, _, _, rfl, rfl, _, rfl, e1, x.NN, .ref x.NS, .ref x.NS, false, rfl, eH, Z.ek .nought (by decide), fun _ h => h, Z.own .nought .stretch (by decide) (by decide), .inr ⟨false, rfl, _, _, rfl, rfl, ?_⟩⟩⟩
      refine ⟨_, rfl, _, rfl, e1, x.NN, .ref x.NF, .ref x.NF, false, rfl, eH, Z.ek .nought (by decide), fun _ h => h, Z.own .nought .fine (by decide) (by decide), .inr ⟨false, rfl, _, _, rfl, rfl, _, rfl, e1, x.NN, .ref nl, .ref nl, false, rfl, eH, Z.ek .nought (by decide), fun _ h => h, Z.nol .nought (by decide), .inr ⟨false, rfl, _, _, rfl, rfl, ?_⟩⟩⟩
      refine ⟨_, rfl, e1, x.NN, .ty "ValueError", .type "ValueError", true, rfl, eH, Z.ek .nought (by decide), fun _ h => h, Z.ve .nought (by decide), true, rfl, lU ?_⟩
      exact ⟨_, rfl, rfl, q1⟩
    | place =>
      refine ⟨_, rfl, e1, x.NP, .ref x.NC, .ref x.NC, false, rfl, eH, Z.ek .place (by decide), fun _ h => h, Z.own .place .curve (by decide) (by decide), .inr ⟨false, rfl, _, rfl, e1, x.NP, .ref x.NN, .ref x.NN, false, rfl, eH, Z.ek .place (by decide), fun _ h => h, Z.own .place .nought (by decide) (by decide), .inr ⟨false, rfl, _, _, rfl, rfl, ?_⟩⟩⟩
      refine ⟨_, rfl, _, rfl, e1, x.NP, .ref x.NP, .ref x.NP, true, rfl, eH, Z.ek .place (by decide), fun _ h => h, Z.own .place .place (by decide) (by decide), .inr ⟨true, rfl, _, _, rfl, rfl, _, rfl, e1, x.NP, .ref x.NS, .ref x.NS, false, rfl, eH, Z.ek .place (by decide), fun _ h => h, Z.own .place .stretch (by decide) (by decide), .inr ⟨false, rfl, _, _, rfl, rfl, ?_⟩⟩⟩
      refine ⟨_, rfl, _, rfl, e1, x.NP, .ref x.NF, .ref x.NF, false, rfl, eH, Z.ek .place (by decide), fun _ h => h, Z.own .place .fine (by decide) (by decide), .inr ⟨false, rfl, _, _, rfl, rfl, _, rfl, e1, x.NP, .ref nl, .ref nl, false, rfl, eH, Z.ek .place (by decide), fun _ h => h, Z.nol .place (by decide), .inr ⟨false, rfl, _, _, rfl, rfl, ?_⟩⟩⟩
      refine ⟨_, rfl, e1, x.NP, .ty "ValueError", .type "ValueError", true, rfl, eH, Z.ek .place (by decide), fun _ h => h, Z.ve .place (by decide), true, rfl, lU ?_⟩
      exact ⟨_, rfl, rfl, q1⟩
    | stretch =>
      refine ⟨_, rfl, e1, x.NS, .ref x.NC, .ref x.NC, false, rfl, eH, Z.ek .stretch (by decide), fun _ h => h, Z.own .stretch .curve (by decide) (by decide), .inr ⟨false, rfl, _, rfl, e1, x.NS, .ref x.NN, .ref x.NN, false, rfl, eH, Z.ek .stretch (by decide), fun _ h => h, Z.own .stretch .nought (by decide) (by decide), .inr ⟨false, rfl, _, _, rfl, rfl, ?_⟩⟩⟩
      refine ⟨_, rfl, _, rfl, e1, x.NS, .ref x.NP, .ref x.NP, false, rfl, eH, Z.ek .stretch (by decide), fun _ h => h, Z.own .stretch .place (by decide) (by decide), .inr ⟨false, rfl, _, _, rfl, rfl, _, rfl, e1, x.NS, .ref x.NS, .ref x.NS, true, rfl, eH, Z.ek .stretch (by decide), fun _ h => h, Z.own .stretch .stretch (by decide) (by decide), .inr ⟨true, rfl, _, _, rfl, rfl, ?_⟩⟩⟩
      refine ⟨_, rfl, _, rfl, e1, x.NS, .ref x.NF, .ref x.NF, false, rfl, eH, Z.ek .stretch (by decide), fun _ h => h, Z.own .stretch .fine (by decide) (by decide), .inr ⟨false, rfl, _, _, rfl, rfl, _, rfl, e1, x.NS, .ref nl, .ref nl, false, rfl, eH, Z.ek .stretch (by decide), fun _ h => h, Z.nol .stretch (by decide), .inr ⟨false, rfl, _, _, rfl, rfl, ?_⟩⟩⟩
      refine ⟨_, rfl, e1, x.NS, .ty "ValueError", .type "ValueError", true, rfl, eH, Z.ek .stretch (by decide), fun _ h => h, Z.ve .stretch (by decide), true, rfl, lU ?_⟩
      exact ⟨_, rfl, rfl, q1⟩
    | fine =>
      refine ⟨_, rfl, e1, x.NF, .ref x.NC, .ref x.NC, false, rfl, eH, Z.ek .fine (by decide), fun _ h => h, Z.own .fine .curve (by decide) (by decide), .inr ⟨false, rfl, _, rfl, e1, x.NF, .ref x.NN, .ref x.NN, false, rfl, eH, Z.ek .fine (by decide), fun _ h => h, Z.own .fine .nought (by decide) (by decide), .inr ⟨false, rfl, _, _, rfl, rfl, ?_⟩⟩⟩
      refine ⟨_, rfl, _, rfl, e1, x.NF, .ref x.NP, .ref x.NP, false, rfl, eH, Z.ek .fine (by decide), fun _ h => h, Z.own .fine .place (by decide) (by decide), .inr ⟨false, rfl, _, _, rfl, rfl, _, rfl, e1, x.NF, .ref x.NS, .ref x.NS, false, rfl, eH, Z.ek .fine (by decide), fun _ h => h, Z.own .fine .stretch (by decide) (by decide), .inr ⟨false, rfl, _, _, rfl, rfl, ?_⟩⟩⟩
      refine ⟨_, rfl, _, rfl, e1, x.NF, .ref x.NF, .ref x.NF, true, rfl, eH, Z.ek .fine (by decide), fun _ h => h, Z.own .fine .fine (by decide) (by decide), .inr ⟨true, rfl, _, _, rfl, rfl, _, rfl, e1, x.NF, .ref nl, .ref nl, false, rfl, eH, Z.ek .fine (by decide), fun _ h => h, Z.nol .fine (by decide), .inr ⟨false, rfl, _, _, rfl, rfl, ?_⟩⟩⟩
      refine ⟨_, rfl, e1, x.NF, .ty "ValueError", .type "ValueError", true, rfl, eH, Z.ek .fine (by decide), fun _ h => h, Z.ve .fine (by decide), true, rfl, lU ?_⟩
      exact ⟨_, rfl, rfl, q1⟩
theorem scWD : aZ ["_law_which", "_law_curve", "_law_low", "_law_high", "_law_fine"] ["_law_which", "_law_curve", "_law_low", "_law_high", "_law_fine"] (aB d_) := ⟨rfl, rfl, rfl, by decide +kernel, rfl, by decide +kernel, by decide +kernel⟩
theorem in4 (w : Int) : inV (.int w) [.int 5, .int 12, .int 13, .int 14] = decide (w = 5 \/ w = 12 \/ w = 13 \/ w = 14) := by
  simp only [inV, eqV, List.any_cons, List.any_nil, Bool.or_false]
  rw [Bool.eq_iff_iff]
  simp only [Bool.or_eq_true, decide_eq_true_eq, beq_iff_eq]
  omega
theorem in2 (w : Int) : inV (.int w) [.int 13, .int 14] = decide (w = 13 \/ w = 14) := by
  simp only [inV, eqV, List.any_cons, List.any_nil, Bool.or_false]
  rw [Bool.eq_iff_iff]
  simp only [Bool.or_eq_true, decide_eq_true_eq, beq_iff_eq]
  omega
theorem GK (F : Fun K "_law_word_due" "_law_word_due" d_ f fd) : bw P w K mg base CX0 1 f fd ["_law_which", "_law_curve", "_law_low", "_law_high", "_law_fine"] (vp K) := by
  refine F.ok scWD (fun vs H Q E h => ?_) (fun cdv A outer s H vs Q E hr h => ?_)
  · obtain ⟨a, d, e, c, wi, p, q, r, t, f0, rfl, _⟩ := h
    rfl
  obtain ⟨a, d, e, c, wi, p, q, r, t, f0, rfl, h0, h20, hA, hc, hD, hE, ⟨bp, bq, br, bt⟩, k0⟩ := h
  have hu := hr.yQ
  obtain ⟨σ0, hσ⟩ : ∃ σ0 : St, σ0 = [some (.int wi), some (.ref a), some (.ref d), some (.ref e), some (.int f0)] := ⟨_, rfl⟩
  refine mid0 1 (fun σ G => σ = σ0 /\ Same H G /\ ¬ dU c) ?_ ?_
  rotate_left
  · intro tt htt hJ
    refine ⟨_, (ak (bL (PW.pt (gC (aJ (Fp hu) (pv 1) (cT aq) (aP _)) (fj (aJ cg (bT bY (pv 1) (dI cF au) (fun _ _ => rfl)) au (aP _)))))
      (aA (bA cA))
      bB) htt), ?_⟩
    refine ⟨_, rfl, (by show 0 <= sizeLine; decide), fun p1 hp => ?_⟩
    have s1 : Same H (upd H p1 (.lst [])) := aQ hp _
    have e1 : upd H p1 (.lst []) p1 = some (IL []) := aH
    generalize upd H p1 (.lst []) = G at s1 e1 ⊢
    refine ⟨a, p1, c, [], rfl, rfl, s1.seq hA, SqL.of e1, _, rfl, ?_⟩
    by_cases he : c = []
    · rw [decide_eq_true he]
      exact dJ (dJ (hJ _ _ ⟨hσ.symm, s1, by rw [he]; exact fK⟩))
    · rw [decide_eq_false he]
      refine lU ⟨_, rfl, _, rfl, a, _, _, _, rfl, rfl, s1.seq hA, cQ he, rfl, _, rfl, ?_⟩
      refine bQ (fun z => ?_) (fun z => ?_)
      · have z' := of_decide_eq_true z
        injection z' with z'
        have := k0 G s1
        rw [cN ⟨he, z'⟩] at this
        exact this
      · exact (hJ _ _ ⟨hσ.symm, s1, fun b => z (decide_eq_true (by rw [b.2]))⟩)
  refine mid 1 (fun σ G => σ = σ0 /\ Same H G /\ ¬ dU c /\ ¬ (wi = 19 \/ (c = [] /\ 5 < wi /\ wi < 16))) ?_ ?_
  rotate_left
  · intro tt htt hJ
    refine ⟨_, (ak (bL (PW.pt (tK (aJ cg (pv 0) au (aP _)) (oO (PW.pt (gC (aJ (Lf hu) (pv 1) (cT aq) (aP _)) (fj (Gw gB gB au (pv 0) au)))))))
      (aA (bA cA))
      bB) htt), ?_⟩
    rintro σ G0 ⟨rfl, s0, nb⟩
    rw [hσ]
    have ret : ∀ G, Same H G -> (wi = 19 \/ (c = [] /\ 5 < wi /\ wi < 16)) -> Q (.str ("nought" : Str)) G := fun G s h => by
      have := k0 G s
      rw [show cj wi c p q r t f0 = .nought by unfold cj; rw [if_neg nb, if_pos h]] at this
      exact this
    refine ⟨_, rfl, rfl, _, rfl, bQ (fun z => ?_) (fun z => ?_)⟩
    · have z' := of_decide_eq_true z
      injection z' with z'
      exact lU (ret _ s0 (.inl z'))
    have n19 : wi ≠ 19 := fun h => z (decide_eq_true (congrArg V.int h))
    refine ⟨_, rfl, (by show 0 <= sizeLine; decide), fun p1 hp => ?_⟩
    have s1 : Same G0 (upd G0 p1 (.lst [])) := aQ hp _
    have e1 : upd G0 p1 (.lst []) p1 = some (IL []) := aH
    generalize upd G0 p1 (.lst []) = G at s1 e1 ⊢
    have s2 := s0.trans s1
    refine ⟨a, p1, c, [], rfl, rfl, s2.seq hA, SqL.of e1, _, rfl, ?_⟩
    by_cases he : c = []
    · rw [decide_eq_true he]
      refine lU ⟨_, rfl, _, _, rfl, rfl, _, rfl, bQ (fun y => ?_) (fun y => ?_)⟩
      · have y' : (5 : Int) < wi := of_decide_eq_true y
        refine ⟨_, _, rfl, rfl, _, rfl, bQ (fun x1 => ?_) (fun x1 => ?_)⟩
        · have x' : wi < 16 := of_decide_eq_true x1
          exact ret _ s2 (.inr ⟨he, y', x'⟩)
        · have x' : ¬ wi < 16 := of_decide_eq_false (Bool.eq_false_iff.mpr x1)
          exact (hJ _ _ ⟨hσ.symm, s2, nb, fun h => h.elim n19 fun h => x' h.2.2⟩)
      · have y' : ¬ (5 : Int) < wi := of_decide_eq_false (Bool.eq_false_iff.mpr y)
        exact ⟨_, rfl, dJ (hJ _ _ ⟨hσ.symm, s2, nb, fun h => h.elim n19 fun h => y' h.2.1⟩)⟩
    · rw [decide_eq_false he]
      exact dJ (dJ (hJ _ _ ⟨hσ.symm, s2, nb, fun h => h.elim n19 fun h => he h.1⟩))
  refine mid 1 (fun σ G => σ = σ0 /\ Same H G /\ ¬ dU c /\ ¬ (wi = 19 \/ (c = [] /\ 5 < wi /\ wi < 16)) /\ ¬ (q < 1 /\ (wi = 5 \/ wi = 12 \/ wi = 13 \/ wi = 14))) ?_ ?_
  rotate_left
  · intro tt htt hJ
    refine ⟨_, (ak (bL (PW.pt (gC (aJ gB (bT cG (pv 2) au (fun _ _ => rfl)) au (aP _)) (fj (aJ o9 (pv 0) (cT (aj au (aj au (aj au (aj au aq))))) rfl))))
      (aA (bA cA))
      bB) htt), ?_⟩
    rintro σ G0 ⟨rfl, s0, nb, n1⟩
    rw [hσ]
    refine ⟨_, rfl, d, _, _, _, rfl, rfl, s0.tup hD, rfl, _, _, rfl, rfl, _, rfl, bQ (fun z => ?_) (fun z => ?_)⟩
    · have z' : q < 1 := of_decide_eq_true z
      refine ⟨_, rfl, (by show 4 <= sizeLine; decide), fun p1 hp => ?_⟩
      have s1 : Same G0 (upd G0 p1 (.lst [.int 5, .int 12, .int 13, .int 14])) := aQ hp _
      have e1 : upd G0 p1 (.lst [.int 5, .int 12, .int 13, .int 14]) p1 = some (.lst [.int 5, .int 12, .int 13, .int 14]) := aH
      generalize upd G0 p1 (.lst [.int 5, .int 12, .int 13, .int 14]) = G at s1 e1 ⊢
      have s2 := s0.trans s1
      refine ⟨p1, _, rfl, .inl (SqL.of e1), rfl, rfl, _, rfl, ?_⟩
      rw [if_neg Bool.false_ne_true, in4]
      refine bQ (fun y => ?_) (fun y => ?_)
      · have y' := of_decide_eq_true y
        have := k0 G s2
        rw [show cj wi c p q r t f0 = .place by unfold cj; rw [if_neg nb, if_neg n1, if_pos ⟨z', y'⟩]] at this
        exact this
      · exact (hJ _ _ ⟨hσ.symm, s2, nb, n1, fun h => y (decide_eq_true h.2)⟩)
    · exact dJ (hJ _ _ ⟨hσ.symm, s0, nb, n1, fun h => z (decide_eq_true h.1)⟩)
  refine mid 1 (fun σ G => σ = σ0 /\ Same H G /\ ¬ dU c /\ ¬ (wi = 19 \/ (c = [] /\ 5 < wi /\ wi < 16)) /\ ¬ (q < 1 /\ (wi = 5 \/ wi = 12 \/ wi = 13 \/ wi = 14)) /\ ¬ (t < 1 /\ (wi = 13 \/ wi = 14))) ?_ ?_
  rotate_left
  · intro tt htt hJ
    refine ⟨_, (ak (bL (PW.pt (gC (aJ gB (bT cG (pv 3) au (fun _ _ => rfl)) au (aP _)) (fj (aJ o9 (pv 0) (cT (aj au (aj au aq))) rfl))))
      (aA (bA cA))
      bB) htt), ?_⟩
    rintro σ G0 ⟨rfl, s0, nb, n1, n2⟩
    rw [hσ]
    refine ⟨_, rfl, e, _, _, _, rfl, rfl, s0.tup hE, rfl, _, _, rfl, rfl, _, rfl, bQ (fun z => ?_) (fun z => ?_)⟩
    · have z' : t < 1 := of_decide_eq_true z
      refine ⟨_, rfl, (by show 2 <= sizeLine; decide), fun p1 hp => ?_⟩
      have s1 : Same G0 (upd G0 p1 (.lst [.int 13, .int 14])) := aQ hp _
      have e1 : upd G0 p1 (.lst [.int 13, .int 14]) p1 = some (.lst [.int 13, .int 14]) := aH
      generalize upd G0 p1 (.lst [.int 13, .int 14]) = G at s1 e1 ⊢
      have s2 := s0.trans s1
      refine ⟨p1, _, rfl, .inl (SqL.of e1), rfl, rfl, _, rfl, ?_⟩
      rw [if_neg Bool.false_ne_true, in2]
      refine bQ (fun y => ?_) (fun y => ?_)
      · have y' := of_decide_eq_true y
        have := k0 G s2
        rw [show cj wi c p q r t f0 = .place by unfold cj; rw [if_neg nb, if_neg n1, if_neg n2, if_pos ⟨z', y'⟩]] at this
        exact this
      · exact (hJ _ _ ⟨hσ.symm, s2, nb, n1, n2, fun h => y (decide_eq_true h.2)⟩)
    · exact dJ (hJ _ _ ⟨hσ.symm, s0, nb, n1, n2, fun h => z (decide_eq_true h.1)⟩)
  refine mid 1 (fun σ G => σ = σ0 /\ Same H G /\ ¬ dU c /\ ¬ (wi = 19 \/ (c = [] /\ 5 < wi /\ wi < 16)) /\ ¬ (q < 1 /\ (wi = 5 \/ wi = 12 \/ wi = 13 \/ wi = 14)) /\ ¬ (t < 1 /\ (wi = 13 \/ wi = 14)) /\ ¬ ((wi = 13 \/ wi = 14) /\ r * q < p * t)) ?_ ?_
  rotate_left
  · intro tt htt hJ
    refine ⟨_, (ak (bL (PW.pt (gC (aJ o9 (pv 0) (cT (aj au (aj au aq))) rfl) (fj (aJ gB (bh cX (bT cG (pv 3) au (fun _ _ => rfl)) (bT cG (pv 2) au (fun _ _ => rfl))) (bh cX (bT cG (pv 2) au (fun _ _ => rfl)) (bT cG (pv 3) au (fun _ _ => rfl))) (aP _)))))
      (aA (bA cA))
      bB) htt), ?_⟩
    rintro σ G0 ⟨rfl, s0, nb, n1, n2, n3⟩
    rw [hσ]
    refine ⟨_, rfl, (by show 2 <= sizeLine; decide), fun p1 hp => ?_⟩
    have s1 : Same G0 (upd G0 p1 (.lst [.int 13, .int 14])) := aQ hp _
    have e1 : upd G0 p1 (.lst [.int 13, .int 14]) p1 = some (.lst [.int 13, .int 14]) := aH
    generalize upd G0 p1 (.lst [.int 13, .int 14]) = G at s1 e1 ⊢
    have s2 := s0.trans s1
    refine ⟨p1, _, rfl, .inl (SqL.of e1), rfl, rfl, _, rfl, ?_⟩
    rw [if_neg Bool.false_ne_true, in2]
    refine bQ (fun y => ?_) (fun y => ?_)
    · have y' := of_decide_eq_true y
      refine ⟨_, rfl, e, _, _, _, rfl, rfl, s2.tup hE, rfl, _, rfl, d, _, _, _, rfl, rfl, s2.tup hD, rfl, _, _, rfl, rfl, br.fZ bq, _, rfl, d, _, _, _, rfl, rfl, s2.tup hD, rfl, _, rfl, e, _, _, _, rfl, rfl, s2.tup hE, rfl, _, _, rfl, rfl, bp.fZ bt, _, _, rfl, rfl, _, rfl, bQ (fun z => ?_) (fun z => ?_)⟩
      · have z' : r * q < p * t := of_decide_eq_true z
        have := k0 G s2
        rw [show cj wi c p q r t f0 = .stretch by unfold cj; rw [if_neg nb, if_neg n1, if_neg n2, if_neg n3, if_pos ⟨y', z'⟩]] at this
        exact this
      · exact (hJ _ _ ⟨hσ.symm, s2, nb, n1, n2, n3, fun h => z (decide_eq_true h.2)⟩)
    · exact dJ (hJ _ _ ⟨hσ.symm, s2, nb, n1, n2, n3, fun h => y (decide_eq_true h.1)⟩)
  refine ⟨_, (ak (bL (PW.pt (gC (aJ cg (pv 0) au (aP _)) (fj (aJ gB (pv 4) au (aP _)))))
      (aA (bA cA))
      bB)
    (aA (bA cA))), ?_⟩
  rintro σ G0 ⟨rfl, s0, nb, n1, n2, n3, n4⟩
  rw [hσ]
  have fin : ¬ (wi = 15 /\ f0 < 1) -> Q (.str ("done" : Str)) G0 := fun h => by
    have := k0 G0 s0
    rw [show cj wi c p q r t f0 = .done by unfold cj; rw [if_neg nb, if_neg n1, if_neg n2, if_neg n3, if_neg n4, if_neg h]] at this
    exact this
  refine ⟨_, rfl, rfl, _, rfl, bQ (fun z => ?_) (fun z => ?_)⟩
  · have z' := of_decide_eq_true z
    injection z' with z'
    refine ⟨_, rfl, _, _, rfl, rfl, _, rfl, bQ (fun y => ?_) (fun y => ?_)⟩
    · have y' : f0 < 1 := of_decide_eq_true y
      have := k0 G0 s0
      rw [show cj wi c p q r t f0 = .fine by unfold cj; rw [if_neg nb, if_neg n1, if_neg n2, if_neg n3, if_neg n4, if_pos ⟨z', y'⟩]] at this
      exact this
    · exact fin fun h => y (decide_eq_true h.2)
  · exact dJ (fin fun h => z (decide_eq_true (congrArg V.int h.1)))
theorem gA : aZ ["_law_script", "_law_curve", "_law_low", "_law_high", "_law_fine", "_law_second", "_law_way", "_law_bad", "_law_which", "_law_handed", "_law_due"] ["_law_script"] (aB uG) := ⟨rfl, rfl, rfl, by decide +kernel, rfl, by decide +kernel, by decide +kernel⟩
noncomputable def JW (a : Addr) (H : Hp) (n : Nat) (v6 v7 : Option V) (σ : L2.St) (G : Hp) : Prop := ∃ (rc rl rh : Addr) (c : List Int) (p q r t f0 : Int) (v5 : Option V), σ = [some (.ref a), some (.ref rc), some (.ref rl), some (.ref rh), some (.int f0), v5, v6, v7, none, none, none] /\ Same H G /\
  G rc = some (IL c) /\ C10 c /\ c.length <= n /\ G rl = some (.tup [.int p, .int q]) /\ G rh = some (.tup [.int r, .int t]) /\ (Bd 300 p /\ Bd 300 q /\ Bd 300 r /\ Bd 300 t) /\ f0 <= 2
noncomputable def JX (a : Addr) (H : Hp) (n : Nat) (rw : Addr) (ws : List V) (v6 : Option V) (σ : L2.St) (G : Hp) : Prop := ∃ bad : Int, Bd 300 bad /\ bad <= 0 /\ JW a H n v6 (some (.int bad)) σ G /\ G rw = some (.lst ws)
theorem mV {x : Int} (h : x.natAbs <= 100) : Bd 300 x := Nat.lt_of_le_of_lt h (Nat.lt_of_lt_of_le (by decide : 100 < 2 ^ 7) (Nat.pow_le_pow_right (by decide) (by decide)))
theorem HD {c : List Int} (h : C10 c) (hl : c.length <= 90) : C10 (c ++ [0]) := by
  refine ⟨by rw [List.length_append, List.length_singleton]; omega, fun hb => absurd ⟨by simp, ?_⟩ hb⟩
  rw [List.length_append, List.length_singleton, Nat.add_sub_cancel, List.getD_eq_getElem?_getD, List.getElem?_append_right (Nat.le_refl _), Nat.sub_self]
  rfl
theorem Js : C10 [] := ⟨by decide, fun _ => ⟨by decide, fun x hx => (nomatch hx)⟩⟩
theorem due15 {c : List Int} {p q r t f0 : Int} : cj 15 c p q r t f0 = cj 15 c 1 1 1 1 f0 := by
  unfold cj
  simp
theorem Ia (k : Wd) : decide (k ≠ .done) = !decide (V.str k.txt = V.str ("done" : Str)) := by
  cases k <;> decide +kernel
theorem Lq (B : Bl mg) (g8 : FnAt P w K mg base 1 "_law_at" ["_law_script", "_law_k"] (Kr K)) (pA : FnAt P w K mg base 1 "_law_any" ["_law_cell"] zY) (nZ : FnAt P w K mg base 2 "_law_numbers_are" ["_law_found", "_law_due"] (Eo K)) (n_ : FnAt P w K mg base 2 "_law_drawn_curve" ["_law_cells"] (vq K))
    (sS : FnAt P w K mg base 1 "_law_word_due" ["_law_which", "_law_curve", "_law_low", "_law_high", "_law_fine"] (vp K)) (zW : FnAt P w K mg base 48 "_law_said" ["_law_which", "_law_curve", "_law_low", "_law_high", "_law_fine"] (qO K)) (pB : FnAt P w K mg base 48 "_law_base_tells" ["_law_curve", "_law_fine"] (oV K))
    (F : Fun K "law" "law" uG f fd) : bw P w K mg base CX0 49 f fd ["_law_script"] (zX K) := by
  refine F.ok gA (fun vs H Q E h => ?_) (fun cdv A outer s H vs Q E hr h => ?_)
  · obtain ⟨a, ns, rfl, _⟩ := h
    rfl
  obtain ⟨a, ns, rfl, hS, h63, k⟩ := h
  have hu := hr.yQ
  refine mid0 6 (fun σ G => ∃ v6 v7, JW a H 10 v6 v7 σ G) ?_ ?_
  · refine ⟨_, (ak (gD PassesOwn.never rfl (o7 rfl B.mD (aj au aq)) (cP (i := 8) gA.nd rfl (Or.inl rfl))
      (ak (aK (i := 9) gA.nd rfl (Or.inl rfl) (cB jJ rfl B.Ab ql (aj (pv 1) aq)))
      (ak (aK (i := 10) gA.nd rfl (Or.inl rfl) (aC sS hr rfl (aj (pv 8) (aj (pv 1) (aj (pv 2) (aj (pv 3) (aj (pv 4) aq)))))))
      (ak (bL (aJ pD (aC zW hr rfl (aj (pv 8) (aj (pv 9) (aj (pv 2) (aj (pv 3) (aj (pv 4) aq)))))) (pv 10) (aP _))
        (aA (bA pC))
        bB)
      (ak (bL (uQ (jh (aC nZ hr rfl (aj (pv 9) (aj (pv 1) aq)))))
        (aA (bA pC))
        bB)
      (aA (bL (PW.pt (gC (aJ cg (pv 8) au (aP _)) (fj (aJ pD (aC pB hr rfl (aj (pv 9) (aj (pv 4) aq))) (vH pD (pv 10) cA (aP _)) (aP _)))))
        (aA (bA pC))
        bB)))))))
      (aA (bA pC))), ?_⟩
    rintro σ G ⟨v6, v7, rc, rl, rh, c, p, q, r, t, f0, v5, rfl, sG, eC, hC, lC, eL, eH, hB, hf⟩
    refine ⟨_, rfl, by decide, by decide, o_ (lo := 0) (n := 20) (fun i σ H2 => ∃ (v8 v9 v10 : Option V), σ = [some (.ref a), some (.ref rc), some (.ref rl), some (.ref rh), some (.int f0), v5, v6, v7, v8, v9, v10] /\ Same G H2) ⟨none, none, none, rfl, Same.refl _⟩ ?_ ?_⟩
    · rintro i σ H2 hi ⟨v8, v9, v10, rfl, s2⟩
      refine ⟨_, rfl, rc, _, rfl, .inl (SqL.of (s2 _ _ eC)), fun r9 n9 => ?_⟩
      have s3 : Same H2 (upd H2 r9 (.lst (c.map V.int))) := aQ n9 _
      have e9 : upd H2 r9 (.lst (c.map V.int)) r9 = some (IL c) := aH
      generalize upd H2 r9 (.lst (c.map V.int)) = G3 at s3 e9 ⊢
      have s23 := s2.trans s3
      refine ⟨_, rfl, _, rfl, _, rfl, _, rfl, _, rfl, rc, rl, rh, c, 0 + (i : Int), p, q, r, t, f0, rfl, by omega, by omega, SqL.of (s23 _ _ eC), hC.len, SqT.of (s23 _ _ eL), SqT.of (s23 _ _ eH), hB, fun H4 s4 => ?_⟩
      have s24 := s23.trans s4
      refine ⟨_, rfl, _, rfl, _, rfl, _, rfl, _, rfl, r9, rl, rh, c, 0 + (i : Int), p, q, r, t, f0, rfl, by omega, by omega, SqL.of (s4 _ _ e9), hC, SqT.of (s24 _ _ eL), SqT.of (s24 _ _ eH), hB, hf, fun H5 s5 => ?_⟩
      have s25 := s24.trans s5
      refine ⟨_, rfl, rfl, _, rfl, Ac rfl ?_⟩
      refine ⟨_, rfl, _, rfl, r9, rc, c, rfl, SqL.of (s5 _ _ (s4 _ _ e9)), SqL.of (s25 _ _ eC), by have := hC.len; omega, true, rfl, dJ ?_⟩
      refine ⟨_, rfl, rfl, _, rfl, bQ (fun z => ?_) (fun z => dJ ⟨_, _, _, rfl, s25⟩)⟩
      have z1 := of_decide_eq_true z
      injection z1 with z1
      refine ⟨_, rfl, _, rfl, r9, c, f0, rfl, SqL.of (s5 _ _ (s4 _ _ e9)), hC, hf, fun H6 s6 => ?_⟩
      refine ⟨_, rfl, rfl, rfl, _, rfl, Ac ?_ ⟨_, _, _, rfl, s25.trans s6⟩⟩
      rw [z1, due15 (p := p), Ia]
    · rintro σ H2 ⟨v8, v9, v10, rfl, s2⟩
      exact k _
  · intro tt htt hJ
    refine ⟨_, (ak (aK (i := 1) gA.nd rfl (Or.inl rfl) (aC n_ hr rfl (aj (qU vB (pv 0) (qg au) (qg au)) aq)))
      (ak (aK (i := 2) gA.nd rfl (Or.inl rfl) (eO (aj au (aj au aq))))
      (ak (aK (i := 3) gA.nd rfl (Or.inl rfl) (eO (aj (bh cU au (bh gF (aC g8 hr rfl (aj (pv 0) (aj au aq))) au)) (aj au aq))))
      (ak (aK (i := 4) gA.nd rfl (Or.inl rfl) (bh cU au (bh gF (aC g8 hr rfl (aj (pv 0) (aj au aq))) au)))
      (ak (aK (i := 5) gA.nd rfl (Or.inl rfl) (bh cX (bh gF (aC g8 hr rfl (aj (pv 0) (aj au aq))) au) (bh gF (bh nJ (aC g8 hr rfl (aj (pv 0) (aj au aq))) au) au)))
      (ak (gD PassesOwn.never rfl (gq (cT (aj (bh gF (aC g8 hr rfl (aj (pv 0) (aj au aq))) au) (aj (pv 5) aq)))) (cP (i := 6) gA.nd rfl (Or.inl rfl))
        (ak (aK (i := 7) gA.nd rfl (Or.inl rfl) (bh fB au (bh gF (aC g8 hr rfl (aj (pv 0) (aj au aq))) au)))
        (ak (yL (bL (aJ cg (bh gF (aC g8 hr rfl (aj (pv 0) (aj au aq))) au) au (aP _))
          (aA (aK (i := 7) gA.nd rfl (Or.inl rfl) (bh fB au (aO gZ rfl B.wG jV (aj (aC pA hr rfl (aj (aC g8 hr rfl (aj (pv 0) (aj au aq))) aq)) aq)))))
          bB))
        (ak (yL (bL (aJ cg (pv 6) au (aP _))
          (aA (aK (i := 1) gA.nd rfl (Or.inl rfl) (bh Lg (pv 1) (cT (aj au aq)))))
          bB))
        (ak (yL (bL (aJ cg (pv 6) au (aP _))
          (aA (aK (i := 1) gA.nd rfl (Or.inl rfl) (cT aq)))
          bB))
        (ak (yL (bL (aJ cg (pv 6) au (aP _))
          (aA (aK (i := 2) gA.nd rfl (Or.inl rfl) (eO (aj au (aj (pv 7) aq)))))
          bB))
        (ak (yL (bL (aJ cg (pv 6) au (aP _))
          (aA (aK (i := 3) gA.nd rfl (Or.inl rfl) (eO (aj au (aj (pv 7) aq)))))
          bB))
        (ak (yL (bL (aJ cg (pv 6) au (aP _))
          (aA (aK (i := 3) gA.nd rfl (Or.inl rfl) (eO (aj au (aj au aq)))))
          bB))
        (aA (bL (aJ cg (pv 6) au (aP _))
          (aA (aK (i := 4) gA.nd rfl (Or.inl rfl) (pv 7)))
          bB)))))))))) htt)))))), ?_⟩
    refine ⟨_, rfl, _, rfl, _, rfl, a, _, rfl, hS, fun p1 hp => ?_⟩
    have s1 : Same H (upd H p1 (.lst (jM (ns.map V.int) (some 3) (some 6)))) := aQ hp _
    obtain ⟨cs, hcs, hcl⟩ : ∃ cs : List Int, jM (ns.map V.int) (some 3) (some 6) = cs.map V.int /\ cs.length <= 3 := Hw ns (by decide) (by decide) (by decide)
    have e1 : upd H p1 (.lst (jM (ns.map V.int) (some 3) (some 6))) p1 = some (IL cs) := by rw [aH, hcs]
    generalize upd H p1 (.lst (jM (ns.map V.int) (some 3) (some 6))) = G1 at s1 e1 ⊢
    refine ⟨p1, cs, rfl, SqL.of e1, by omega, fun r1 H1 c0 s2 hn1 eC hl1 hb1 hg1 => ?_⟩
    have s12 := s1.trans s2
    refine ⟨(by show 2 <= sizeLine; decide), fun r2 n2 => ?_⟩
    have s3 : Same H1 (upd H1 r2 (.tup [.int 1, .int 1])) := aQ n2 _
    have eL : upd H1 r2 (.tup [.int 1, .int 1]) r2 = some (.tup [.int 1, .int 1]) := aH
    generalize upd H1 r2 (.tup [.int 1, .int 1]) = G3 at s3 eL ⊢
    have s13 := s12.trans s3
    refine ⟨_, rfl, a, ns, 2, rfl, s13.seq hS, by decide, _, _, rfl, rfl, (by show (0 : Int) < 2; decide), _, _, rfl, rfl, (by show 2 <= sizeLine; decide), fun r3 n3 => ?_⟩
    generalize hx2 : ns.getD (2 : Int).toNat 0 = x2
    have s4 : Same G3 (upd G3 r3 (.tup [.int (1 + x2 % 2), .int 1])) := aQ n3 _
    have eH : upd G3 r3 (.tup [.int (1 + x2 % 2), .int 1]) r3 = some (.tup [.int (1 + x2 % 2), .int 1]) := aH
    generalize upd G3 r3 (.tup [.int (1 + x2 % 2), .int 1]) = G4 at s4 eH ⊢
    have s14 := s13.trans s4
    refine ⟨_, rfl, a, ns, 2, rfl, s14.seq hS, by decide, _, _, rfl, rfl, (by show (0 : Int) < 2; decide), _, _, rfl, rfl, ?_⟩
    rw [hx2]
    refine ⟨_, rfl, a, ns, 1, rfl, s14.seq hS, by decide, _, _, rfl, rfl, (by show (0 : Int) < 7; decide), _, rfl, a, ns, 1, rfl, s14.seq hS, by decide, _, _, rfl, rfl, u_ (by decide) (by decide), _, _, rfl, rfl, (by show (0 : Int) < 2; decide), _, _, rfl, rfl, IntMulOk.of_left (intBits_le_64 (by omega) (by omega)), ?_⟩
    generalize ns.getD (1 : Int).toNat 0 % 7 * (ns.getD (1 : Int).toNat 0 / 7 % 2) = x5
    refine ⟨_, rfl, a, ns, 0, rfl, s14.seq hS, by decide, _, _, rfl, rfl, (by show (0 : Int) < 7; decide), _, rfl, (by show 2 <= sizeLine; decide), fun rw nw => ?_⟩
    generalize ns.getD (0 : Int).toNat 0 % 7 = x0
    have s5 : Same G4 (upd G4 rw (.lst [.int x0, .int x5])) := aQ nw _
    have eW : upd G4 rw (.lst [.int x0, .int x5]) rw = some (.lst [.int x0, .int x5]) := aH
    generalize upd G4 rw (.lst [.int x0, .int x5]) = G5 at s5 eW ⊢
    have hC0 : C10 c0 := ⟨by omega, fun _ => ⟨by omega, hb1⟩⟩
    refine ⟨rw, rfl, ⟨_, SqL.of eW⟩, nM (K := K) (xs := [.int x0, .int x5])
      (fun i σ H2 => ∃ v6 v7, JW a H (3 + i) v6 v7 σ H2 /\ H2 rw = some (.lst [.int x0, .int x5]))
      ⟨none, none, ⟨r1, r2, r3, c0, 1, 1, 1 + x2 % 2, 1, 1 + x2 % 2, some (.int x5), rfl, s14.trans s5, s5 _ _ (s4 _ _ (s3 _ _ eC)), hC0, by omega, s5 _ _ (s4 _ _ eL), s5 _ _ eH, ⟨mV (by decide), mV (by decide), mV (by omega), mV (by decide)⟩, by omega⟩, eW⟩
      (fun i σ H5 _ ⟨_, _, _, e⟩ => SqL.of e) ?_ ?_⟩
    · rintro i v σ H2 hv ⟨v6, v7, ⟨rc, rl, rh, c, p, q, r, t, f0, v5, rfl, sG, eC, hC, lC, eL, eH, hB, hf⟩, eW⟩
      obtain ⟨wv, rfl⟩ : ∃ wv : Int, v = .int wv := by
        rcases i with _ | _ | i
        · exact ⟨x0, by simpa using hv.symm⟩
        · exact ⟨x5, by simpa using hv.symm⟩
        · simp at hv
      have hi : i < 2 := by
        have := (List.getElem?_eq_some_iff.mp hv).1
        simpa using this
      refine ⟨_, rfl, a, ns, 2, rfl, sG.seq hS, by decide, _, _, rfl, rfl, (by show (0 : Int) < 2; decide), _, _, rfl, rfl, ?_⟩
      refine ⟨JX a H (3 + i) rw [.int x0, .int x5] (some (.int wv)), ⟨_, rfl, a, ns, 2, rfl, sG.seq hS, by decide, _, _, rfl, rfl, (by show (0 : Int) < 5; decide), rfl, _, rfl, bQ (fun z => ?_) (fun z => ?_)⟩, ?_⟩
      · refine ⟨_, rfl, a, ns, 2, rfl, sG.seq hS, by decide, _, rfl, fun H3 v3 s3 bv => ⟨_, rfl, _, _, rfl, rfl, ?_⟩⟩
        refine ⟨_, ?_, ?_, ⟨rc, rl, rh, c, p, q, r, t, f0, v5, rfl, sG.trans s3, s3 _ _ eC, hC, lC, s3 _ _ eL, s3 _ _ eH, hB, hf⟩, s3 _ _ eW⟩
        · have : Bd 199 (0 - (if v3 < 0 then -v3 else v3)) := by
            unfold Bd at bv ⊢
            split <;> omega
          exact this.mono (by decide)
        · split <;> omega
      · exact ⟨_, mV (by omega), by omega, ⟨rc, rl, rh, c, p, q, r, t, f0, v5, rfl, sG, eC, hC, lC, eL, eH, hB, hf⟩, eW⟩
      clear lC hf hB eH eL hC eC sG eW
      rintro _ G1 ⟨bad, bb, b0, ⟨rc, rl, rh, c, p, q, r, t, f0, v5, rfl, sG, eC, hC, lC, eL, eH, hB, hf⟩, eW⟩
      refine ⟨JX a H (4 + i) rw [.int x0, .int x5] (some (.int wv)), ⟨_, rfl, rfl, _, rfl, bQ (fun z => ?_) (fun z => ?_)⟩, ?_⟩
      · refine ⟨_, rfl, (by show 1 <= sizeLine; decide), fun r4 n4 => ?_⟩
        have s4 : Same G1 (upd G1 r4 (.lst [.int 0])) := aQ n4 _
        have e4 : upd G1 r4 (.lst [.int 0]) r4 = some (.lst [.int 0]) := aH
        generalize upd G1 r4 (.lst [.int 0]) = G4 at s4 e4 ⊢
        refine ⟨rc, r4, _, _, rfl, rfl, s4 _ _ eC, e4, by rw [List.length_map, List.length_singleton]; exact eF (by omega), fun r5 n5 => ?_⟩
        have s5 : Same G4 (upd G4 r5 (.lst (c.map V.int ++ [.int 0]))) := aQ n5 _
        have e5 : upd G4 r5 (.lst (c.map V.int ++ [.int 0])) r5 = some (IL (c ++ [0])) := by rw [aH, q8]
        generalize upd G4 r5 (.lst (c.map V.int ++ [.int 0])) = G5 at s5 e5 ⊢
        have s6 := s4.trans s5
        exact ⟨bad, bb, b0, ⟨r5, rl, rh, c ++ [0], p, q, r, t, f0, v5, rfl, sG.trans s6, e5, HD hC (by omega), by rw [List.length_append, List.length_singleton]; omega, s6 _ _ eL, s6 _ _ eH, hB, hf⟩, s6 _ _ eW⟩
      · exact ⟨bad, bb, b0, ⟨rc, rl, rh, c, p, q, r, t, f0, v5, rfl, sG, eC, hC, by omega, eL, eH, hB, hf⟩, eW⟩
      clear lC hf hB eH eL hC eC sG eW b0 bb
      rintro _ G1 ⟨bad, bb, b0, ⟨rc, rl, rh, c, p, q, r, t, f0, v5, rfl, sG, eC, hC, lC, eL, eH, hB, hf⟩, eW⟩
      refine ⟨JX a H (4 + i) rw [.int x0, .int x5] (some (.int wv)), ⟨_, rfl, rfl, _, rfl, bQ (fun z => ?_) (fun z => ?_)⟩, ?_⟩
      · refine ⟨(by show 0 <= sizeLine; decide), fun r4 n4 => ?_⟩
        have s4 : Same G1 (upd G1 r4 (.lst [])) := aQ n4 _
        have e4 : upd G1 r4 (.lst []) r4 = some (IL []) := aH
        generalize upd G1 r4 (.lst []) = G4 at s4 e4 ⊢
        exact ⟨bad, bb, b0, ⟨r4, rl, rh, [], p, q, r, t, f0, v5, rfl, sG.trans s4, e4, Js, by simp, s4 _ _ eL, s4 _ _ eH, hB, hf⟩, s4 _ _ eW⟩
      · exact ⟨bad, bb, b0, ⟨rc, rl, rh, c, p, q, r, t, f0, v5, rfl, sG, eC, hC, lC, eL, eH, hB, hf⟩, eW⟩
      clear lC hf hB eH eL hC eC sG eW b0 bb
      rintro _ G1 ⟨bad, bb, b0, ⟨rc, rl, rh, c, p, q, r, t, f0, v5, rfl, sG, eC, hC, lC, eL, eH, hB, hf⟩, eW⟩
      refine ⟨JX a H (4 + i) rw [.int x0, .int x5] (some (.int wv)), ⟨_, rfl, rfl, _, rfl, bQ (fun z => ?_) (fun z => ?_)⟩, ?_⟩
      · refine ⟨_, rfl, (by show 2 <= sizeLine; decide), fun r4 n4 => ?_⟩
        have s4 : Same G1 (upd G1 r4 (.tup [.int 1, .int bad])) := aQ n4 _
        have e4 : upd G1 r4 (.tup [.int 1, .int bad]) r4 = some (.tup [.int 1, .int bad]) := aH
        generalize upd G1 r4 (.tup [.int 1, .int bad]) = G4 at s4 e4 ⊢
        exact ⟨bad, bb, b0, ⟨rc, r4, rh, c, 1, bad, r, t, f0, v5, rfl, sG.trans s4, s4 _ _ eC, hC, lC, e4, s4 _ _ eH, ⟨mV (by decide), bb, hB.2.2.1, hB.2.2.2⟩, hf⟩, s4 _ _ eW⟩
      · exact ⟨bad, bb, b0, ⟨rc, rl, rh, c, p, q, r, t, f0, v5, rfl, sG, eC, hC, lC, eL, eH, hB, hf⟩, eW⟩
      clear lC hf hB eH eL hC eC sG eW b0 bb
      rintro _ G1 ⟨bad, bb, b0, ⟨rc, rl, rh, c, p, q, r, t, f0, v5, rfl, sG, eC, hC, lC, eL, eH, hB, hf⟩, eW⟩
      refine ⟨JX a H (4 + i) rw [.int x0, .int x5] (some (.int wv)), ⟨_, rfl, rfl, _, rfl, bQ (fun z => ?_) (fun z => ?_)⟩, ?_⟩
      · refine ⟨_, rfl, (by show 2 <= sizeLine; decide), fun r4 n4 => ?_⟩
        have s4 : Same G1 (upd G1 r4 (.tup [.int 1, .int bad])) := aQ n4 _
        have e4 : upd G1 r4 (.tup [.int 1, .int bad]) r4 = some (.tup [.int 1, .int bad]) := aH
        generalize upd G1 r4 (.tup [.int 1, .int bad]) = G4 at s4 e4 ⊢
        exact ⟨bad, bb, b0, ⟨rc, rl, r4, c, p, q, 1, bad, f0, v5, rfl, sG.trans s4, s4 _ _ eC, hC, lC, s4 _ _ eL, e4, ⟨hB.1, hB.2.1, mV (by decide), bb⟩, hf⟩, s4 _ _ eW⟩
      · exact ⟨bad, bb, b0, ⟨rc, rl, rh, c, p, q, r, t, f0, v5, rfl, sG, eC, hC, lC, eL, eH, hB, hf⟩, eW⟩
      clear lC hf hB eH eL hC eC sG eW b0 bb
      rintro _ G1 ⟨bad, bb, b0, ⟨rc, rl, rh, c, p, q, r, t, f0, v5, rfl, sG, eC, hC, lC, eL, eH, hB, hf⟩, eW⟩
      refine ⟨JX a H (4 + i) rw [.int x0, .int x5] (some (.int wv)), ⟨_, rfl, rfl, _, rfl, bQ (fun z => ?_) (fun z => ?_)⟩, ?_⟩
      · refine ⟨(by show 2 <= sizeLine; decide), fun r4 n4 => ?_⟩
        have s4 : Same G1 (upd G1 r4 (.tup [.int 0, .int 1])) := aQ n4 _
        have e4 : upd G1 r4 (.tup [.int 0, .int 1]) r4 = some (.tup [.int 0, .int 1]) := aH
        generalize upd G1 r4 (.tup [.int 0, .int 1]) = G4 at s4 e4 ⊢
        exact ⟨bad, bb, b0, ⟨rc, rl, r4, c, p, q, 0, 1, f0, v5, rfl, sG.trans s4, s4 _ _ eC, hC, lC, s4 _ _ eL, e4, ⟨hB.1, hB.2.1, mV (by decide), mV (by decide)⟩, hf⟩, s4 _ _ eW⟩
      · exact ⟨bad, bb, b0, ⟨rc, rl, rh, c, p, q, r, t, f0, v5, rfl, sG, eC, hC, lC, eL, eH, hB, hf⟩, eW⟩
      clear lC hf hB eH eL hC eC sG eW b0 bb
      rintro _ G1 ⟨bad, bb, b0, ⟨rc, rl, rh, c, p, q, r, t, f0, v5, rfl, sG, eC, hC, lC, eL, eH, hB, hf⟩, eW⟩
      refine ⟨_, rfl, rfl, _, rfl, bQ (fun z => ?_) (fun z => ?_)⟩
      · exact ⟨_, rfl, _, _, ⟨rc, rl, rh, c, p, q, r, t, bad, v5, rfl, sG, eC, hC, by omega, eL, eH, hB, by omega⟩, eW⟩
      · exact ⟨_, _, ⟨rc, rl, rh, c, p, q, r, t, f0, v5, rfl, sG, eC, hC, by omega, eL, eH, hB, hf⟩, eW⟩
    · rintro σ H2 ⟨v6, v7, ⟨rc, rl, rh, c, p, q, r, t, f0, v5, rfl, sG, eC, hC, lC, eL, eH, hB, hf⟩, eW⟩
      exact hJ _ _ ⟨v6, v7, rc, rl, rh, c, p, q, r, t, f0, v5, rfl, sG, eC, hC, Nat.le_trans lC (by show 3 + 2 <= 10; decide), eL, eH, hB, hf⟩
end
end K10
namespace K10
open PySem L2 Zf
theorem all_mk {l : PySem.W.OpenLaw} {w : World} {K : PySem.W.Frag} {h : Heap} {mg : Str -> Option Value} {fa f1 f2 f3 f4 f5 f6 f7 f8 f9 f10 f11 f12 f13 f14 f15 f16 f17 f18 f19 f20 f21 f22 f23 f24 f25 f26 f27 f28 f29 f30 f31 f32 f33 f34 f35 f36 f37 f38 f39 f40 f41 f42 f43 f44 f45 f46 f47 f48 f49 f50 f51 f52 : Addr} (X : K.In h) (G : h.Ns mainGlobals mg) (hfa : mg "law" = some (.ref fa))
    {od1 an1 od2 an2 od3 an3 od4 an4 od5 an5 od6 an6 od7 an7 od8 an8 od9 an9 od10 an10 od11 an11 od12 an12 od13 an13 od14 an14 od15 an15 od16 an16 od17 an17 od18 an18 od19 an19 od20 an20 od21 an21 od22 an22 od23 an23 od24 an24 od25 an25 od26 an26 od27 an27 od28 an28 od29 an29 od30 an30 od31 an31 od32 an32 od33 an33 od34 an34 od35 an35 od36 an36 od37 an37 od38 an38 od39 an39 od40 an40 od41 an41 od42 an42 od43 an43 od44 an44 od45 an45 od46 an46 od47 an47 od48 an48 od49 an49 od50 an50 od51 an51 od52 an52 : Option Addr} {sl1 sl2 sl3 sl4 sl5 sl6 sl7 sl8 sl9 sl10 sl11 sl12 sl13 sl14 sl15 sl16 sl17 sl18 sl19 sl20 sl21 sl22 sl23 sl24 sl25 sl26 sl27 sl28 sl29 sl30 sl31 sl32 sl33 sl34 sl35 sl36 sl37 sl38 sl39 sl40 sl41 sl42 sl43 sl44 sl45 sl46 sl47 sl48 sl49 sl50 sl51 sl52 : Array (Option Value)} {oc1 kV1 dc1 pm1 cd1 ct1 oc2 kV2 dc2 pm2 cd2 ct2 oc3 kV3 dc3 pm3 cd3 ct3 oc4 kV4 dc4 pm4 cd4 ct4 oc5 kV5 dc5 pm5 cd5 ct5 oc6 kV6 dc6 pm6 cd6 ct6 oc7 kV7 dc7 pm7 cd7 ct7 oc8 kV8 dc8 pm8 cd8 ct8 oc9 kV9 dc9 pm9 cd9 ct9 oc10 kV10 dc10 pm10 cd10 ct10 oc11 kV11 dc11 pm11 cd11 ct11 oc12 kV12 dc12 pm12 cd12 ct12 oc13 kV13 dc13 pm13 cd13 ct13 oc14 kV14 dc14 pm14 cd14 ct14 oc15 kV15 dc15 pm15 cd15 ct15 oc16 kV16 dc16 pm16 cd16 ct16 oc17 kV17 dc17 pm17 cd17 ct17 oc18 kV18 dc18 pm18 cd18 ct18 oc19 kV19 dc19 pm19 cd19 ct19 oc20 kV20 dc20 pm20 cd20 ct20 oc21 kV21 dc21 pm21 cd21 ct21 oc22 kV22 dc22 pm22 cd22 ct22 oc23 kV23 dc23 pm23 cd23 ct23 oc24 kV24 dc24 pm24 cd24 ct24 oc25 kV25 dc25 pm25 cd25 ct25 oc26 kV26 dc26 pm26 cd26 ct26 oc27 kV27 dc27 pm27 cd27 ct27 oc28 kV28 dc28 pm28 cd28 ct28 oc29 kV29 dc29 pm29 cd29 ct29 oc30 kV30 dc30 pm30 cd30 ct30 oc31 kV31 dc31 pm31 cd31 ct31 oc32 kV32 dc32 pm32 cd32 ct32 oc33 kV33 dc33 pm33 cd33 ct33 oc34 kV34 dc34 pm34 cd34 ct34 oc35 kV35 dc35 pm35 cd35 ct35 oc36 kV36 dc36 pm36 cd36 ct36 oc37 kV37 dc37 pm37 cd37 ct37 oc38 kV38 dc38 pm38 cd38 ct38 oc39 kV39 dc39 pm39 cd39 ct39 oc40 kV40 dc40 pm40 cd40 ct40 oc41 kV41 dc41 pm41 cd41 ct41 oc42 kV42 dc42 pm42 cd42 ct42 oc43 kV43 dc43 pm43 cd43 ct43 oc44 kV44 dc44 pm44 cd44 ct44 oc45 kV45 dc45 pm45 cd45 ct45 oc46 kV46 dc46 pm46 cd46 ct46 oc47 kV47 dc47 pm47 cd47 ct47 oc48 kV48 dc48 pm48 cd48 ct48 oc49 kV49 dc49 pm49 cd49 ct49 oc50 kV50 dc50 pm50 cd50 ct50 oc51 kV51 dc51 pm51 cd51 ct51 oc52 kV52 dc52 pm52 cd52 ct52 : Value}
    (a1 : PySem.W.nsIn K mainGlobals "_law_whole" = some (some (.ref f1))) (l1 : K.lookup f1 = some ⟨oc1, od1, .func (PySem.W.fnOf "_law_whole" "_law_whole" (aY oF) (aW oF) (aB oF) .none kV1 dc1 pm1 an1 cd1 ct1), sl1⟩) (c1 : PySem.W.codeIn K cd1 "_law_whole" = true) (k1 : PySem.W.keepIn K (.ref f1) = true)
    (a2 : PySem.W.nsIn K mainGlobals "_law_at" = some (some (.ref f2))) (l2 : K.lookup f2 = some ⟨oc2, od2, .func (PySem.W.fnOf "_law_at" "_law_at" (aY sAt) (aW sAt) (aB sAt) .none kV2 dc2 pm2 an2 cd2 ct2), sl2⟩) (c2 : PySem.W.codeIn K cd2 "_law_at" = true) (k2 : PySem.W.keepIn K (.ref f2) = true)
    (a3 : PySem.W.nsIn K mainGlobals "_law_numbers_are" = some (some (.ref f3))) (l3 : K.lookup f3 = some ⟨oc3, od3, .func (PySem.W.fnOf "_law_numbers_are" "_law_numbers_are" (aY Ce) (aW Ce) (aB Ce) .none kV3 dc3 pm3 an3 cd3 ct3), sl3⟩) (c3 : PySem.W.codeIn K cd3 "_law_numbers_are" = true) (k3 : PySem.W.keepIn K (.ref f3) = true)
    (a4 : PySem.W.nsIn K mainGlobals "_law_any" = some (some (.ref f4))) (l4 : K.lookup f4 = some ⟨oc4, od4, .func (PySem.W.fnOf "_law_any" "_law_any" (aY Cg) (aW Cg) (aB Cg) .none kV4 dc4 pm4 an4 cd4 ct4), sl4⟩) (c4 : PySem.W.codeIn K cd4 "_law_any" = true) (k4 : PySem.W.keepIn K (.ref f4) = true)
    (a5 : PySem.W.nsIn K mainGlobals "_law_drawn_curve" = some (some (.ref f5))) (l5 : K.lookup f5 = some ⟨oc5, od5, .func (PySem.W.fnOf "_law_drawn_curve" "_law_drawn_curve" (aY oK) (aW oK) (aB oK) .none kV5 dc5 pm5 an5 cd5 ct5), sl5⟩) (c5 : PySem.W.codeIn K cd5 "_law_drawn_curve" = true) (k5 : PySem.W.keepIn K (.ref f5) = true)
    (a6 : PySem.W.nsIn K mainGlobals "check_curve" = some (some (.ref f6))) (l6 : K.lookup f6 = some ⟨oc6, od6, .func (PySem.W.fnOf "check_curve" "check_curve" (aY eZ) (aW eZ) (aB eZ) .none kV6 dc6 pm6 an6 cd6 ct6), sl6⟩) (c6 : PySem.W.codeIn K cd6 "check_curve" = true) (k6 : PySem.W.keepIn K (.ref f6) = true)
    (a7 : PySem.W.nsIn K mainGlobals "check_not_nought" = some (some (.ref f7))) (l7 : K.lookup f7 = some ⟨oc7, od7, .func (PySem.W.fnOf "check_not_nought" "check_not_nought" (aY iW) (aW iW) (aB iW) .none kV7 dc7 pm7 an7 cd7 ct7), sl7⟩) (c7 : PySem.W.codeIn K cd7 "check_not_nought" = true) (k7 : PySem.W.keepIn K (.ref f7) = true)
    (a8 : PySem.W.nsIn K mainGlobals "check_place" = some (some (.ref f8))) (l8 : K.lookup f8 = some ⟨oc8, od8, .func (PySem.W.fnOf "check_place" "check_place" (aY eY) (aW eY) (aB eY) .none kV8 dc8 pm8 an8 cd8 ct8), sl8⟩) (c8 : PySem.W.codeIn K cd8 "check_place" = true) (k8 : PySem.W.keepIn K (.ref f8) = true)
    (a9 : PySem.W.nsIn K mainGlobals "check_stretch" = some (some (.ref f9))) (l9 : K.lookup f9 = some ⟨oc9, od9, .func (PySem.W.fnOf "check_stretch" "check_stretch" (aY d7) (aW d7) (aB d7) .none kV9 dc9 pm9 an9 cd9 ct9), sl9⟩) (c9 : PySem.W.codeIn K cd9 "check_stretch" = true) (k9 : PySem.W.keepIn K (.ref f9) = true)
    (a10 : PySem.W.nsIn K mainGlobals "check_fine" = some (some (.ref f10))) (l10 : K.lookup f10 = some ⟨oc10, od10, .func (PySem.W.fnOf "check_fine" "check_fine" (aY fO) (aW fO) (aB fO) .none kV10 dc10 pm10 an10 cd10 ct10), sl10⟩) (c10 : PySem.W.codeIn K cd10 "check_fine" = true) (k10 : PySem.W.keepIn K (.ref f10) = true)
    (a11 : PySem.W.nsIn K mainGlobals "sign_of" = some (some (.ref f11))) (l11 : K.lookup f11 = some ⟨oc11, od11, .func (PySem.W.fnOf "sign_of" "sign_of" (aY kY) (aW kY) (aB kY) .none kV11 dc11 pm11 an11 cd11 ct11), sl11⟩) (c11 : PySem.W.codeIn K cd11 "sign_of" = true) (k11 : PySem.W.keepIn K (.ref f11) = true)
    (a12 : PySem.W.nsIn K mainGlobals "sign_at" = some (some (.ref f12))) (l12 : K.lookup f12 = some ⟨oc12, od12, .func (PySem.W.fnOf "sign_at" "sign_at" (aY jB) (aW jB) (aB jB) .none kV12 dc12 pm12 an12 cd12 ct12), sl12⟩) (c12 : PySem.W.codeIn K cd12 "sign_at" = true) (k12 : PySem.W.keepIn K (.ref f12) = true)
    (a13 : PySem.W.nsIn K mainGlobals "slope" = some (some (.ref f13))) (l13 : K.lookup f13 = some ⟨oc13, od13, .func (PySem.W.fnOf "slope" "slope" (aY mj) (aW mj) (aB mj) .none kV13 dc13 pm13 an13 cd13 ct13), sl13⟩) (c13 : PySem.W.codeIn K cd13 "slope" = true) (k13 : PySem.W.keepIn K (.ref f13) = true)
    (a14 : PySem.W.nsIn K mainGlobals "greatest_in_both" = some (some (.ref f14))) (l14 : K.lookup f14 = some ⟨oc14, od14, .func (PySem.W.fnOf "greatest_in_both" "greatest_in_both" (aY Cd) (aW Cd) (aB Cd) .none kV14 dc14 pm14 an14 cd14 ct14), sl14⟩) (c14 : PySem.W.codeIn K cd14 "greatest_in_both" = true) (k14 : PySem.W.keepIn K (.ref f14) = true)
    (a15 : PySem.W.nsIn K mainGlobals "plain" = some (some (.ref f15))) (l15 : K.lookup f15 = some ⟨oc15, od15, .func (PySem.W.fnOf "plain" "plain" (aY jR) (aW jR) (aB jR) .none kV15 dc15 pm15 an15 cd15 ct15), sl15⟩) (c15 : PySem.W.codeIn K cd15 "plain" = true) (k15 : PySem.W.keepIn K (.ref f15) = true)
    (a16 : PySem.W.nsIn K mainGlobals "times_curve" = some (some (.ref f16))) (l16 : K.lookup f16 = some ⟨oc16, od16, .func (PySem.W.fnOf "times_curve" "times_curve" (aY lZ) (aW lZ) (aB lZ) .none kV16 dc16 pm16 an16 cd16 ct16), sl16⟩) (c16 : PySem.W.codeIn K cd16 "times_curve" = true) (k16 : PySem.W.keepIn K (.ref f16) = true)
    (a17 : PySem.W.nsIn K mainGlobals "taken_off" = some (some (.ref f17))) (l17 : K.lookup f17 = some ⟨oc17, od17, .func (PySem.W.fnOf "taken_off" "taken_off" (aY oG) (aW oG) (aB oG) .none kV17 dc17 pm17 an17 cd17 ct17), sl17⟩) (c17 : PySem.W.codeIn K cd17 "taken_off" = true) (k17 : PySem.W.keepIn K (.ref f17) = true)
    (a18 : PySem.W.nsIn K mainGlobals "trimmed" = some (some (.ref f18))) (l18 : K.lookup f18 = some ⟨oc18, od18, .func (PySem.W.fnOf "trimmed" "trimmed" (aY jo) (aW jo) (aB jo) .none kV18 dc18 pm18 an18 cd18 ct18), sl18⟩) (c18 : PySem.W.codeIn K cd18 "trimmed" = true) (k18 : PySem.W.keepIn K (.ref f18) = true)
    (a19 : PySem.W.nsIn K mainGlobals "without_last" = some (some (.ref f19))) (l19 : K.lookup f19 = some ⟨oc19, od19, .func (PySem.W.fnOf "without_last" "without_last" (aY jm) (aW jm) (aB jm) .none kV19 dc19 pm19 an19 cd19 ct19), sl19⟩) (c19 : PySem.W.codeIn K cd19 "without_last" = true) (k19 : PySem.W.keepIn K (.ref f19) = true)
    (a20 : PySem.W.nsIn K mainGlobals "left" = some (some (.ref f20))) (l20 : K.lookup f20 = some ⟨oc20, od20, .func (PySem.W.fnOf "left" "left" (aY qC) (aW qC) (aB qC) .none kV20 dc20 pm20 an20 cd20 ct20), sl20⟩) (c20 : PySem.W.codeIn K cd20 "left" = true) (k20 : PySem.W.keepIn K (.ref f20) = true)
    (a21 : PySem.W.nsIn K mainGlobals "with_last_above" = some (some (.ref f21))) (l21 : K.lookup f21 = some ⟨oc21, od21, .func (PySem.W.fnOf "with_last_above" "with_last_above" (aY oN) (aW oN) (aB oN) .none kV21 dc21 pm21 an21 cd21 ct21), sl21⟩) (c21 : PySem.W.codeIn K cd21 "with_last_above" = true) (k21 : PySem.W.keepIn K (.ref f21) = true)
    (a22 : PySem.W.nsIn K mainGlobals "shared" = some (some (.ref f22))) (l22 : K.lookup f22 = some ⟨oc22, od22, .func (PySem.W.fnOf "shared" "shared" (aY jC) (aW jC) (aB jC) .none kV22 dc22 pm22 an22 cd22 ct22), sl22⟩) (c22 : PySem.W.codeIn K cd22 "shared" = true) (k22 : PySem.W.keepIn K (.ref f22) = true)
    (a23 : PySem.W.nsIn K mainGlobals "divided_out" = some (some (.ref f23))) (l23 : K.lookup f23 = some ⟨oc23, od23, .func (PySem.W.fnOf "divided_out" "divided_out" (aY iV) (aW iV) (aB iV) .none kV23 dc23 pm23 an23 cd23 ct23), sl23⟩) (c23 : PySem.W.codeIn K cd23 "divided_out" = true) (k23 : PySem.W.keepIn K (.ref f23) = true)
    (a24 : PySem.W.nsIn K mainGlobals "simple" = some (some (.ref f24))) (l24 : K.lookup f24 = some ⟨oc24, od24, .func (PySem.W.fnOf "simple" "simple" (aY jA) (aW jA) (aB jA) .none kV24 dc24 pm24 an24 cd24 ct24), sl24⟩) (c24 : PySem.W.codeIn K cd24 "simple" = true) (k24 : PySem.W.keepIn K (.ref f24) = true)
    (a25 : PySem.W.nsIn K mainGlobals "changes_along" = some (some (.ref f25))) (l25 : K.lookup f25 = some ⟨oc25, od25, .func (PySem.W.fnOf "changes_along" "changes_along" (aY oM) (aW oM) (aB oM) .none kV25 dc25 pm25 an25 cd25 ct25), sl25⟩) (c25 : PySem.W.codeIn K cd25 "changes_along" = true) (k25 : PySem.W.keepIn K (.ref f25) = true)
    (a26 : PySem.W.nsIn K mainGlobals "chain" = some (some (.ref f26))) (l26 : K.lookup f26 = some ⟨oc26, od26, .func (PySem.W.fnOf "chain" "chain" (aY mC) (aW mC) (aB mC) .none kV26 dc26 pm26 an26 cd26 ct26), sl26⟩) (c26 : PySem.W.codeIn K cd26 "chain" = true) (k26 : PySem.W.keepIn K (.ref f26) = true)
    (a27 : PySem.W.nsIn K mainGlobals "changes" = some (some (.ref f27))) (l27 : K.lookup f27 = some ⟨oc27, od27, .func (PySem.W.fnOf "changes" "changes" (aY iY) (aW iY) (aB iY) .none kV27 dc27 pm27 an27 cd27 ct27), sl27⟩) (c27 : PySem.W.codeIn K cd27 "changes" = true) (k27 : PySem.W.keepIn K (.ref f27) = true)
    (a28 : PySem.W.nsIn K mainGlobals "roots_along" = some (some (.ref f28))) (l28 : K.lookup f28 = some ⟨oc28, od28, .func (PySem.W.fnOf "roots_along" "roots_along" (aY k_) (aW k_) (aB k_) .none kV28 dc28 pm28 an28 cd28 ct28), sl28⟩) (c28 : PySem.W.codeIn K cd28 "roots_along" = true) (k28 : PySem.W.keepIn K (.ref f28) = true)
    (a29 : PySem.W.nsIn K mainGlobals "roots_between" = some (some (.ref f29))) (l29 : K.lookup f29 = some ⟨oc29, od29, .func (PySem.W.fnOf "roots_between" "roots_between" (aY iZ) (aW iZ) (aB iZ) .none kV29 dc29 pm29 an29 cd29 ct29), sl29⟩) (c29 : PySem.W.codeIn K cd29 "roots_between" = true) (k29 : PySem.W.keepIn K (.ref f29) = true)
    (a30 : PySem.W.nsIn K mainGlobals "chains_for_times" = some (some (.ref f30))) (l30 : K.lookup f30 = some ⟨oc30, od30, .func (PySem.W.fnOf "chains_for_times" "chains_for_times" (aY iG) (aW iG) (aB iG) .none kV30 dc30 pm30 an30 cd30 ct30), sl30⟩) (c30 : PySem.W.codeIn K cd30 "chains_for_times" = true) (k30 : PySem.W.keepIn K (.ref f30) = true)
    (a31 : PySem.W.nsIn K mainGlobals "times_along" = some (some (.ref f31))) (l31 : K.lookup f31 = some ⟨oc31, od31, .func (PySem.W.fnOf "times_along" "times_along" (aY kW) (aW kW) (aB kW) .none kV31 dc31 pm31 an31 cd31 ct31), sl31⟩) (c31 : PySem.W.codeIn K cd31 "times_along" = true) (k31 : PySem.W.keepIn K (.ref f31) = true)
    (a32 : PySem.W.nsIn K mainGlobals "roots_with_times" = some (some (.ref f32))) (l32 : K.lookup f32 = some ⟨oc32, od32, .func (PySem.W.fnOf "roots_with_times" "roots_with_times" (aY fL) (aW fL) (aB fL) .none kV32 dc32 pm32 an32 cd32 ct32), sl32⟩) (c32 : PySem.W.codeIn K cd32 "roots_with_times" = true) (k32 : PySem.W.keepIn K (.ref f32) = true)
    (a33 : PySem.W.nsIn K mainGlobals "reach" = some (some (.ref f33))) (l33 : K.lookup f33 = some ⟨oc33, od33, .func (PySem.W.fnOf "reach" "reach" (aY jQ) (aW jQ) (aB jQ) .none kV33 dc33 pm33 an33 cd33 ct33), sl33⟩) (c33 : PySem.W.codeIn K cd33 "reach" = true) (k33 : PySem.W.keepIn K (.ref f33) = true)
    (a34 : PySem.W.nsIn K mainGlobals "roots_in_all" = some (some (.ref f34))) (l34 : K.lookup f34 = some ⟨oc34, od34, .func (PySem.W.fnOf "roots_in_all" "roots_in_all" (aY mz) (aW mz) (aB mz) .none kV34 dc34 pm34 an34 cd34 ct34), sl34⟩) (c34 : PySem.W.codeIn K cd34 "roots_in_all" = true) (k34 : PySem.W.keepIn K (.ref f34) = true)
    (a35 : PySem.W.nsIn K mainGlobals "in_parts" = some (some (.ref f35))) (l35 : K.lookup f35 = some ⟨oc35, od35, .func (PySem.W.fnOf "in_parts" "in_parts" (aY iU) (aW iU) (aB iU) .none kV35 dc35 pm35 an35 cd35 ct35), sl35⟩) (c35 : PySem.W.codeIn K cd35 "in_parts" = true) (k35 : PySem.W.keepIn K (.ref f35) = true)
    (a36 : PySem.W.nsIn K mainGlobals "middle" = some (some (.ref f36))) (l36 : K.lookup f36 = some ⟨oc36, od36, .func (PySem.W.fnOf "middle" "middle" (aY lq) (aW lq) (aB lq) .none kV36 dc36 pm36 an36 cd36 ct36), sl36⟩) (c36 : PySem.W.codeIn K cd36 "middle" = true) (k36 : PySem.W.keepIn K (.ref f36) = true)
    (a37 : PySem.W.nsIn K mainGlobals "is_longer" = some (some (.ref f37))) (l37 : K.lookup f37 = some ⟨oc37, od37, .func (PySem.W.fnOf "is_longer" "is_longer" (aY lA) (aW lA) (aB lA) .none kV37 dc37 pm37 an37 cd37 ct37), sl37⟩) (c37 : PySem.W.codeIn K cd37 "is_longer" = true) (k37 : PySem.W.keepIn K (.ref f37) = true)
    (a38 : PySem.W.nsIn K mainGlobals "narrowed" = some (some (.ref f38))) (l38 : K.lookup f38 = some ⟨oc38, od38, .func (PySem.W.fnOf "narrowed" "narrowed" (aY iD) (aW iD) (aB iD) .none kV38 dc38 pm38 an38 cd38 ct38), sl38⟩) (c38 : PySem.W.codeIn K cd38 "narrowed" = true) (k38 : PySem.W.keepIn K (.ref f38) = true)
    (a39 : PySem.W.nsIn K mainGlobals "one_root_each" = some (some (.ref f39))) (l39 : K.lookup f39 = some ⟨oc39, od39, .func (PySem.W.fnOf "one_root_each" "one_root_each" (aY jq) (aW jq) (aB jq) .none kV39 dc39 pm39 an39 cd39 ct39), sl39⟩) (c39 : PySem.W.codeIn K cd39 "one_root_each" = true) (k39 : PySem.W.keepIn K (.ref f39) = true)
    (a40 : PySem.W.nsIn K mainGlobals "stretches" = some (some (.ref f40))) (l40 : K.lookup f40 = some ⟨oc40, od40, .func (PySem.W.fnOf "stretches" "stretches" (aY fM) (aW fM) (aB fM) .none kV40 dc40 pm40 an40 cd40 ct40), sl40⟩) (c40 : PySem.W.codeIn K cd40 "stretches" = true) (k40 : PySem.W.keepIn K (.ref f40) = true)
    (a41 : PySem.W.nsIn K mainGlobals "signs_over" = some (some (.ref f41))) (l41 : K.lookup f41 = some ⟨oc41, od41, .func (PySem.W.fnOf "signs_over" "signs_over" (aY qz) (aW qz) (aB qz) .none kV41 dc41 pm41 an41 cd41 ct41), sl41⟩) (c41 : PySem.W.codeIn K cd41 "signs_over" = true) (k41 : PySem.W.keepIn K (.ref f41) = true)
    (a42 : PySem.W.nsIn K mainGlobals "shown_sign" = some (some (.ref f42))) (l42 : K.lookup f42 = some ⟨oc42, od42, .func (PySem.W.fnOf "shown_sign" "shown_sign" (aY kZ) (aW kZ) (aB kZ) .none kV42 dc42 pm42 an42 cd42 ct42), sl42⟩) (c42 : PySem.W.codeIn K cd42 "shown_sign" = true) (k42 : PySem.W.keepIn K (.ref f42) = true)
    (a43 : PySem.W.nsIn K mainGlobals "shown_figures" = some (some (.ref f43))) (l43 : K.lookup f43 = some ⟨oc43, od43, .func (PySem.W.fnOf "shown_figures" "shown_figures" (aY oJ) (aW oJ) (aB oJ) .none kV43 dc43 pm43 an43 cd43 ct43), sl43⟩) (c43 : PySem.W.codeIn K cd43 "shown_figures" = true) (k43 : PySem.W.keepIn K (.ref f43) = true)
    (a44 : PySem.W.nsIn K mainGlobals "shown_power" = some (some (.ref f44))) (l44 : K.lookup f44 = some ⟨oc44, od44, .func (PySem.W.fnOf "shown_power" "shown_power" (aY oH) (aW oH) (aB oH) .none kV44 dc44 pm44 an44 cd44 ct44), sl44⟩) (c44 : PySem.W.codeIn K cd44 "shown_power" = true) (k44 : PySem.W.keepIn K (.ref f44) = true)
    (a45 : PySem.W.nsIn K mainGlobals "shown" = some (some (.ref f45))) (l45 : K.lookup f45 = some ⟨oc45, od45, .func (PySem.W.fnOf "shown" "shown" (aY mq) (aW mq) (aB mq) .none kV45 dc45 pm45 an45 cd45 ct45), sl45⟩) (c45 : PySem.W.codeIn K cd45 "shown" = true) (k45 : PySem.W.keepIn K (.ref f45) = true)
    (a46 : PySem.W.nsIn K mainGlobals "_law_first_ones" = some (some (.ref f46))) (l46 : K.lookup f46 = some ⟨oc46, od46, .func (PySem.W.fnOf "_law_first_ones" "_law_first_ones" (aY dw) (aW dw) (aB dw) .none kV46 dc46 pm46 an46 cd46 ct46), sl46⟩) (c46 : PySem.W.codeIn K cd46 "_law_first_ones" = true) (k46 : PySem.W.keepIn K (.ref f46) = true)
    (a47 : PySem.W.nsIn K mainGlobals "_law_next_ones" = some (some (.ref f47))) (l47 : K.lookup f47 = some ⟨oc47, od47, .func (PySem.W.fnOf "_law_next_ones" "_law_next_ones" (aY dO) (aW dO) (aB dO) .none kV47 dc47 pm47 an47 cd47 ct47), sl47⟩) (c47 : PySem.W.codeIn K cd47 "_law_next_ones" = true) (k47 : PySem.W.keepIn K (.ref f47) = true)
    (a48 : PySem.W.nsIn K mainGlobals "_law_last_ones" = some (some (.ref f48))) (l48 : K.lookup f48 = some ⟨oc48, od48, .func (PySem.W.fnOf "_law_last_ones" "_law_last_ones" (aY dR) (aW dR) (aB dR) .none kV48 dc48 pm48 an48 cd48 ct48), sl48⟩) (c48 : PySem.W.codeIn K cd48 "_law_last_ones" = true) (k48 : PySem.W.keepIn K (.ref f48) = true)
    (a49 : PySem.W.nsIn K mainGlobals "_law_said" = some (some (.ref f49))) (l49 : K.lookup f49 = some ⟨oc49, od49, .func (PySem.W.fnOf "_law_said" "_law_said" (aY gM) (aW gM) (aB gM) .none kV49 dc49 pm49 an49 cd49 ct49), sl49⟩) (c49 : PySem.W.codeIn K cd49 "_law_said" = true) (k49 : PySem.W.keepIn K (.ref f49) = true)
    (a50 : PySem.W.nsIn K mainGlobals "_law_base_tells" = some (some (.ref f50))) (l50 : K.lookup f50 = some ⟨oc50, od50, .func (PySem.W.fnOf "_law_base_tells" "_law_base_tells" (aY dz) (aW dz) (aB dz) .none kV50 dc50 pm50 an50 cd50 ct50), sl50⟩) (c50 : PySem.W.codeIn K cd50 "_law_base_tells" = true) (k50 : PySem.W.keepIn K (.ref f50) = true)
    (a51 : PySem.W.nsIn K mainGlobals "_law_word_due" = some (some (.ref f51))) (l51 : K.lookup f51 = some ⟨oc51, od51, .func (PySem.W.fnOf "_law_word_due" "_law_word_due" (aY d_) (aW d_) (aB d_) .none kV51 dc51 pm51 an51 cd51 ct51), sl51⟩) (c51 : PySem.W.codeIn K cd51 "_law_word_due" = true) (k51 : PySem.W.keepIn K (.ref f51) = true)
    (a52 : PySem.W.nsIn K mainGlobals "law" = some (some (.ref f52))) (l52 : K.lookup f52 = some ⟨oc52, od52, .func (PySem.W.fnOf "law" "law" (aY uG) (aW uG) (aB uG) .none kV52 dc52 pm52 an52 cd52 ct52), sl52⟩) (c52 : PySem.W.codeIn K cd52 "law" = true) (k52 : PySem.W.keepIn K (.ref f52) = true)
    (z1 : PySem.W.nsIn K mainGlobals "len" = some none)
    (z2 : PySem.W.nsIn K mainGlobals "abs" = some none)
    (z3 : PySem.W.nsIn K mainGlobals "range" = some none)
    (z4 : PySem.W.nsIn K mainGlobals "list" = some none)
    (z5 : PySem.W.nsIn K mainGlobals "int" = some none)
    (z6 : PySem.W.nsIn K mainGlobals "bool" = some none)
    (z7 : PySem.W.nsIn K mainGlobals "isinstance" = some none)
    (z8 : PySem.W.nsIn K mainGlobals "sorted" = some none)
    (z9 : PySem.W.nsIn K mainGlobals "min" = some none)
    (z10 : PySem.W.nsIn K mainGlobals "enumerate" = some none)
    (z11 : PySem.W.nsIn K mainGlobals "max" = some none)
    (z12 : PySem.W.nsIn K mainGlobals "sum" = some none)
    (z13 : PySem.W.nsIn K mainGlobals "str" = some none)
    (z14 : PySem.W.nsIn K mainGlobals "ValueError" = some none)
    {c0 nl NC NN NP NS NF : Addr} {cd0 cd1 cd2 cd3 cd4 cd5 : ClassData}
    (qFE : PySem.W.nsIn K mainGlobals "FenceError" = some (some (.ref c0)))
    (qNL : PySem.W.nsIn K mainGlobals "NoLine" = some (some (.ref nl)))
    (qNC : PySem.W.nsIn K mainGlobals "NoCurve" = some (some (.ref NC)))
    (qNN : PySem.W.nsIn K mainGlobals "Nought" = some (some (.ref NN)))
    (qNP : PySem.W.nsIn K mainGlobals "NoPlace" = some (some (.ref NP)))
    (qNS : PySem.W.nsIn K mainGlobals "NoStretch" = some (some (.ref NS)))
    (qNF : PySem.W.nsIn K mainGlobals "NoFine" = some (some (.ref NF)))
    (c0b : PySem.W.subIn K (.ref c0) (.type "BaseException") = some true)
    (c0c : PySem.W.clsIn K c0 = some cd0)
    (c0t : PySem.W.typeIn K (.ref c0) = some (.type "type"))
    (hs : PySem.W.specialIn K (.builtin "object.__class__") "__get__" = some (some (.builtin "getset_descriptor.__get__")))
    (ht : PySem.W.takesIn K (.builtin "object.__class__") = some true)
    (x1 : PySem.W.excIn K NC bmV "ValueError.__new__" = true)
    (u1c : PySem.W.clsIn K NC = some cd1)
    (u1g : PySem.W.findIn K (.ref NC) "__getattribute__" = some (some (.builtin "BaseException.__getattribute__")))
    (u1n : PySem.W.findIn K (.ref NC) "__getattr__" = some none)
    (u1b : PySem.W.subIn K (.ref NC) (.type "BaseException") = some true)
    (u1f : PySem.W.findIn K (.ref NC) "__class__" = some (some (.builtin "object.__class__")))
    (u1m : PySem.W.mroIn K NC (.type "object") = some true)
    (u1s : PySem.W.subIn K (.ref NC) (.ref c0) = some true)
    (w11 : PySem.W.kitOne K (.ref NC) (.ref NC) = some true)
    (w12 : PySem.W.kitOne K (.ref NC) (.ref NN) = some false)
    (w13 : PySem.W.kitOne K (.ref NC) (.ref NP) = some false)
    (w14 : PySem.W.kitOne K (.ref NC) (.ref NS) = some false)
    (w15 : PySem.W.kitOne K (.ref NC) (.ref NF) = some false)
    (w1l : PySem.W.kitOne K (.ref NC) (.ref nl) = some false)
    (w1v : PySem.W.kitOne K (.ref NC) (.type "ValueError") = some true)
    (x2 : PySem.W.excIn K NN bmV "ValueError.__new__" = true)
    (u2c : PySem.W.clsIn K NN = some cd2)
    (u2g : PySem.W.findIn K (.ref NN) "__getattribute__" = some (some (.builtin "BaseException.__getattribute__")))
    (u2n : PySem.W.findIn K (.ref NN) "__getattr__" = some none)
    (u2b : PySem.W.subIn K (.ref NN) (.type "BaseException") = some true)
    (u2f : PySem.W.findIn K (.ref NN) "__class__" = some (some (.builtin "object.__class__")))
    (u2m : PySem.W.mroIn K NN (.type "object") = some true)
    (u2s : PySem.W.subIn K (.ref NN) (.ref c0) = some true)
    (w21 : PySem.W.kitOne K (.ref NN) (.ref NC) = some false)
    (w22 : PySem.W.kitOne K (.ref NN) (.ref NN) = some true)
    (w23 : PySem.W.kitOne K (.ref NN) (.ref NP) = some false)
    (w24 : PySem.W.kitOne K (.ref NN) (.ref NS) = some false)
    (w25 : PySem.W.kitOne K (.ref NN) (.ref NF) = some false)
    (w2l : PySem.W.kitOne K (.ref NN) (.ref nl) = some false)
    (w2v : PySem.W.kitOne K (.ref NN) (.type "ValueError") = some true)
    (x3 : PySem.W.excIn K NP bmV "ValueError.__new__" = true)
    (u3c : PySem.W.clsIn K NP = some cd3)
    (u3g : PySem.W.findIn K (.ref NP) "__getattribute__" = some (some (.builtin "BaseException.__getattribute__")))
    (u3n : PySem.W.findIn K (.ref NP) "__getattr__" = some none)
    (u3b : PySem.W.subIn K (.ref NP) (.type "BaseException") = some true)
    (u3f : PySem.W.findIn K (.ref NP) "__class__" = some (some (.builtin "object.__class__")))
    (u3m : PySem.W.mroIn K NP (.type "object") = some true)
    (u3s : PySem.W.subIn K (.ref NP) (.ref c0) = some true)
    (w31 : PySem.W.kitOne K (.ref NP) (.ref NC) = some false)
    (w32 : PySem.W.kitOne K (.ref NP) (.ref NN) = some false)
    (w33 : PySem.W.kitOne K (.ref NP) (.ref NP) = some true)
    (w34 : PySem.W.kitOne K (.ref NP) (.ref NS) = some false)
    (w35 : PySem.W.kitOne K (.ref NP) (.ref NF) = some false)
    (w3l : PySem.W.kitOne K (.ref NP) (.ref nl) = some false)
    (w3v : PySem.W.kitOne K (.ref NP) (.type "ValueError") = some true)
    (x4 : PySem.W.excIn K NS bmV "ValueError.__new__" = true)
    (u4c : PySem.W.clsIn K NS = some cd4)
    (u4g : PySem.W.findIn K (.ref NS) "__getattribute__" = some (some (.builtin "BaseException.__getattribute__")))
    (u4n : PySem.W.findIn K (.ref NS) "__getattr__" = some none)
    (u4b : PySem.W.subIn K (.ref NS) (.type "BaseException") = some true)
    (u4f : PySem.W.findIn K (.ref NS) "__class__" = some (some (.builtin "object.__class__")))
    (u4m : PySem.W.mroIn K NS (.type "object") = some true)
    (u4s : PySem.W.subIn K (.ref NS) (.ref c0) = some true)
    (w41 : PySem.W.kitOne K (.ref NS) (.ref NC) = some false)
    (w42 : PySem.W.kitOne K (.ref NS) (.ref NN) = some false)
    (w43 : PySem.W.kitOne K (.ref NS) (.ref NP) = some false)
    (w44 : PySem.W.kitOne K (.ref NS) (.ref NS) = some true)
    (w45 : PySem.W.kitOne K (.ref NS) (.ref NF) = some false)
    (w4l : PySem.W.kitOne K (.ref NS) (.ref nl) = some false)
    (w4v : PySem.W.kitOne K (.ref NS) (.type "ValueError") = some true)
    (x5 : PySem.W.excIn K NF bmV "ValueError.__new__" = true)
    (u5c : PySem.W.clsIn K NF = some cd5)
    (u5g : PySem.W.findIn K (.ref NF) "__getattribute__" = some (some (.builtin "BaseException.__getattribute__")))
    (u5n : PySem.W.findIn K (.ref NF) "__getattr__" = some none)
    (u5b : PySem.W.subIn K (.ref NF) (.type "BaseException") = some true)
    (u5f : PySem.W.findIn K (.ref NF) "__class__" = some (some (.builtin "object.__class__")))
    (u5m : PySem.W.mroIn K NF (.type "object") = some true)
    (u5s : PySem.W.subIn K (.ref NF) (.ref c0) = some true)
    (w51 : PySem.W.kitOne K (.ref NF) (.ref NC) = some false)
    (w52 : PySem.W.kitOne K (.ref NF) (.ref NN) = some false)
    (w53 : PySem.W.kitOne K (.ref NF) (.ref NP) = some false)
    (w54 : PySem.W.kitOne K (.ref NF) (.ref NS) = some false)
    (w55 : PySem.W.kitOne K (.ref NF) (.ref NF) = some true)
    (w5l : PySem.W.kitOne K (.ref NF) (.ref nl) = some false)
    (w5v : PySem.W.kitOne K (.ref NF) (.type "ValueError") = some true)
    (hT : l.prog.given.tree = none)
    : ∃ fd : FuncData, (∀ (s : Shared) (v : Value), BindsTo s fd ⟨[v], []⟩ [("_law_script", v)]) /\ ∀ base : Heap, K.In base -> base.Ns mainGlobals mg -> base.NoSeer -> bw l.prog w K mg base CX0 49 fa fd ["_law_script"] (zX K) := by
  have e := hfa.symm.trans (PySem.W.mg_of X G a52)
  cases e
  let x : Ea := ⟨NC, NN, NP, NS, NF⟩
  have hFE : mg "FenceError" = some (.ref c0) := PySem.W.mg_of X G qFE
  have hNL : mg "NoLine" = some (.ref nl) := PySem.W.mg_of X G qNL
  have R1 : Rf K mg "NoCurve" x.NC := ⟨PySem.W.mg_of X G qNC, x1, ⟨by rw [show PySem.W.clsIn K x.NC = some cd1 from u1c]; rfl, u1g, u1n, u1b, u1f, hs, ht, u1m⟩⟩
  have R2 : Rf K mg "Nought" x.NN := ⟨PySem.W.mg_of X G qNN, x2, ⟨by rw [show PySem.W.clsIn K x.NN = some cd2 from u2c]; rfl, u2g, u2n, u2b, u2f, hs, ht, u2m⟩⟩
  have R3 : Rf K mg "NoPlace" x.NP := ⟨PySem.W.mg_of X G qNP, x3, ⟨by rw [show PySem.W.clsIn K x.NP = some cd3 from u3c]; rfl, u3g, u3n, u3b, u3f, hs, ht, u3m⟩⟩
  have R4 : Rf K mg "NoStretch" x.NS := ⟨PySem.W.mg_of X G qNS, x4, ⟨by rw [show PySem.W.clsIn K x.NS = some cd4 from u4c]; rfl, u4g, u4n, u4b, u4f, hs, ht, u4m⟩⟩
  have R5 : Rf K mg "NoFine" x.NF := ⟨PySem.W.mg_of X G qNF, x5, ⟨by rw [show PySem.W.clsIn K x.NF = some cd5 from u5c]; rfl, u5g, u5n, u5b, u5f, hs, ht, u5m⟩⟩
  have Z1 : ∀ k : Wd, k ≠ .done -> H9 K (k.adr x) := fun k hk => match k, hk with
    | .curve, _ => R1.k
    | .nought, _ => R2.k
    | .place, _ => R3.k
    | .stretch, _ => R4.k
    | .fine, _ => R5.k
    | .done, h => absurd rfl h
  have Z2 : ∀ k j : Wd, k ≠ .done -> j ≠ .done -> PySem.W.kitOne K (.ref (k.adr x)) (.ref (j.adr x)) = some (decide (k = j)) := fun k j hk hj => match k, j, hk, hj with
    | .curve, .curve, _, _ => w11
    | .curve, .nought, _, _ => w12
    | .curve, .place, _, _ => w13
    | .curve, .stretch, _, _ => w14
    | .curve, .fine, _, _ => w15
    | .curve, .done, _, h => absurd rfl h
    | .nought, .curve, _, _ => w21
    | .nought, .nought, _, _ => w22
    | .nought, .place, _, _ => w23
    | .nought, .stretch, _, _ => w24
    | .nought, .fine, _, _ => w25
    | .nought, .done, _, h => absurd rfl h
    | .place, .curve, _, _ => w31
    | .place, .nought, _, _ => w32
    | .place, .place, _, _ => w33
    | .place, .stretch, _, _ => w34
    | .place, .fine, _, _ => w35
    | .place, .done, _, h => absurd rfl h
    | .stretch, .curve, _, _ => w41
    | .stretch, .nought, _, _ => w42
    | .stretch, .place, _, _ => w43
    | .stretch, .stretch, _, _ => w44
    | .stretch, .fine, _, _ => w45
    | .stretch, .done, _, h => absurd rfl h
    | .fine, .curve, _, _ => w51
    | .fine, .nought, _, _ => w52
    | .fine, .place, _, _ => w53
    | .fine, .stretch, _, _ => w54
    | .fine, .fine, _, _ => w55
    | .fine, .done, _, h => absurd rfl h
    | .done, _, h, _ => absurd rfl h
  have Z3 : ∀ k : Wd, k ≠ .done -> PySem.W.kitOne K (.ref (k.adr x)) (.ref nl) = some false := fun k hk => match k, hk with
    | .curve, _ => w1l
    | .nought, _ => w2l
    | .place, _ => w3l
    | .stretch, _ => w4l
    | .fine, _ => w5l
    | .done, h => absurd rfl h
  have Z4 : ∀ k : Wd, k ≠ .done -> PySem.W.kitOne K (.ref (k.adr x)) (.type "ValueError") = some true := fun k hk => match k, hk with
    | .curve, _ => w1v
    | .nought, _ => w2v
    | .place, _ => w3v
    | .stretch, _ => w4v
    | .fine, _ => w5v
    | .done, h => absurd rfl h
  have Z5 : ∀ k : Wd, k ≠ .done -> PySem.W.exmOne K (.ref (k.adr x)) (.ref c0) = some true := fun k hk => match k, hk with
    | .curve, _ => qH c0b c0c c0t u1s
    | .nought, _ => qH c0b c0c c0t u2s
    | .place, _ => qH c0b c0c c0t u3s
    | .stretch, _ => qH c0b c0c c0t u4s
    | .fine, _ => qH c0b c0c c0t u5s
    | .done, h => absurd rfl h
  have Z : Ks K x c0 nl := ⟨Z1, Z2, Z3, Z4, Z5⟩
  clear_value x
  have B : Bl mg := ⟨PySem.W.mg_none_of X G z1, PySem.W.mg_none_of X G z2, PySem.W.mg_none_of X G z3, PySem.W.mg_none_of X G z4, PySem.W.mg_none_of X G z5, PySem.W.mg_none_of X G z6, PySem.W.mg_none_of X G z7, PySem.W.mg_none_of X G z8, PySem.W.mg_none_of X G z9, PySem.W.mg_none_of X G z10⟩
  have hmax : mg "max" = none := PySem.W.mg_none_of X G z11
  have hsum : mg "sum" = none := PySem.W.mg_none_of X G z12
  have hstr : mg "str" = none := PySem.W.mg_none_of X G z13
  have hValueError : mg "ValueError" = none := PySem.W.mg_none_of X G z14
  have F1 := bM (st := oF) l1 c1 k1
  have F2 := bM (st := sAt) l2 c2 k2
  have F3 := bM (st := Ce) l3 c3 k3
  have F4 := bM (st := Cg) l4 c4 k4
  have F5 := bM (st := oK) l5 c5 k5
  have F6 := bM (st := eZ) l6 c6 k6
  have F7 := bM (st := iW) l7 c7 k7
  have F8 := bM (st := eY) l8 c8 k8
  have F9 := bM (st := d7) l9 c9 k9
  have F10 := bM (st := fO) l10 c10 k10
  have F11 := bM (st := kY) l11 c11 k11
  have F12 := bM (st := jB) l12 c12 k12
  have F13 := bM (st := mj) l13 c13 k13
  have F14 := bM (st := Cd) l14 c14 k14
  have F15 := bM (st := jR) l15 c15 k15
  have F16 := bM (st := lZ) l16 c16 k16
  have F17 := bM (st := oG) l17 c17 k17
  have F18 := bM (st := jo) l18 c18 k18
  have F19 := bM (st := jm) l19 c19 k19
  have F20 := bM (st := qC) l20 c20 k20
  have F21 := bM (st := oN) l21 c21 k21
  have F22 := bM (st := jC) l22 c22 k22
  have F23 := bM (st := iV) l23 c23 k23
  have F24 := bM (st := jA) l24 c24 k24
  have F25 := bM (st := oM) l25 c25 k25
  have F26 := bM (st := mC) l26 c26 k26
  have F27 := bM (st := iY) l27 c27 k27
  have F28 := bM (st := k_) l28 c28 k28
  have F29 := bM (st := iZ) l29 c29 k29
  have F30 := bM (st := iG) l30 c30 k30
  have F31 := bM (st := kW) l31 c31 k31
  have F32 := bM (st := fL) l32 c32 k32
  have F33 := bM (st := jQ) l33 c33 k33
  have F34 := bM (st := mz) l34 c34 k34
  have F35 := bM (st := iU) l35 c35 k35
  have F36 := bM (st := lq) l36 c36 k36
  have F37 := bM (st := lA) l37 c37 k37
  have F38 := bM (st := iD) l38 c38 k38
  have F39 := bM (st := jq) l39 c39 k39
  have F40 := bM (st := fM) l40 c40 k40
  have F41 := bM (st := qz) l41 c41 k41
  have F42 := bM (st := kZ) l42 c42 k42
  have F43 := bM (st := oJ) l43 c43 k43
  have F44 := bM (st := oH) l44 c44 k44
  have F45 := bM (st := mq) l45 c45 k45
  have F46 := bM (st := dw) l46 c46 k46
  have F47 := bM (st := dO) l47 c47 k47
  have F48 := bM (st := dR) l48 c48 k48
  have F49 := bM (st := gM) l49 c49 k49
  have F50 := bM (st := dz) l50 c50 k50
  have F51 := bM (st := d_) l51 c51 k51
  have F52 := bM (st := uG) l52 c52 k52
  have b1 := F1.binds (ps := ["_law_found"]) fun _ _ _ _ _ _ us hl => by1 (us := us) hl (fun _ => rfl)
  have b2 := F2.binds (ps := ["_law_script", "_law_k"]) fun _ _ _ _ _ _ us hl => by2 (us := us) hl (fun _ _ => rfl)
  have b3 := F3.binds (ps := ["_law_found", "_law_due"]) fun _ _ _ _ _ _ us hl => by2 (us := us) hl (fun _ _ => rfl)
  have b4 := F4.binds (ps := ["_law_cell"]) fun _ _ _ _ _ _ us hl => by1 (us := us) hl (fun _ => rfl)
  have b5 := F5.binds (ps := ["_law_cells"]) fun _ _ _ _ _ _ us hl => by1 (us := us) hl (fun _ => rfl)
  have b6 := F6.binds (ps := ["curve"]) fun _ _ _ _ _ _ us hl => by1 (us := us) hl (fun _ => rfl)
  have b7 := F7.binds (ps := ["curve"]) fun _ _ _ _ _ _ us hl => by1 (us := us) hl (fun _ => rfl)
  have b8 := F8.binds (ps := ["place"]) fun _ _ _ _ _ _ us hl => by1 (us := us) hl (fun _ => rfl)
  have b9 := F9.binds (ps := ["low", "high"]) fun _ _ _ _ _ _ us hl => by2 (us := us) hl (fun _ _ => rfl)
  have b10 := F10.binds (ps := ["fine"]) fun _ _ _ _ _ _ us hl => by1 (us := us) hl (fun _ => rfl)
  have b11 := F11.binds (ps := ["number"]) fun _ _ _ _ _ _ us hl => by1 (us := us) hl (fun _ => rfl)
  have b12 := F12.binds (ps := ["curve", "place"]) fun _ _ _ _ _ _ us hl => by2 (us := us) hl (fun _ _ => rfl)
  have b13 := F13.binds (ps := ["curve"]) fun _ _ _ _ _ _ us hl => by1 (us := us) hl (fun _ => rfl)
  have b14 := F14.binds (ps := ["first", "second"]) fun _ _ _ _ _ _ us hl => by2 (us := us) hl (fun _ _ => rfl)
  have b15 := F15.binds (ps := ["curve"]) fun _ _ _ _ _ _ us hl => by1 (us := us) hl (fun _ => rfl)
  have b16 := F16.binds (ps := ["curve", "other"]) fun _ _ _ _ _ _ us hl => by2 (us := us) hl (fun _ _ => rfl)
  have b17 := F17.binds (ps := ["numbers", "other", "factor", "shift"]) fun _ _ _ _ _ _ us hl => by4 (us := us) hl (fun _ _ _ _ => rfl)
  have b18 := F18.binds (ps := ["numbers"]) fun _ _ _ _ _ _ us hl => by1 (us := us) hl (fun _ => rfl)
  have b19 := F19.binds (ps := ["curve", "other"]) fun _ _ _ _ _ _ us hl => by2 (us := us) hl (fun _ _ => rfl)
  have b20 := F20.binds (ps := ["curve", "other"]) fun _ _ _ _ _ _ us hl => by2 (us := us) hl (fun _ _ => rfl)
  have b21 := F21.binds (ps := ["curve"]) fun _ _ _ _ _ _ us hl => by1 (us := us) hl (fun _ => rfl)
  have b22 := F22.binds (ps := ["curve", "other"]) fun _ _ _ _ _ _ us hl => by2 (us := us) hl (fun _ _ => rfl)
  have b23 := F23.binds (ps := ["curve", "other"]) fun _ _ _ _ _ _ us hl => by2 (us := us) hl (fun _ _ => rfl)
  have b24 := F24.binds (ps := ["curve"]) fun _ _ _ _ _ _ us hl => by1 (us := us) hl (fun _ => rfl)
  have b25 := F25.binds (ps := ["links", "place"]) fun _ _ _ _ _ _ us hl => by2 (us := us) hl (fun _ _ => rfl)
  have b26 := F26.binds (ps := ["curve"]) fun _ _ _ _ _ _ us hl => by1 (us := us) hl (fun _ => rfl)
  have b27 := F27.binds (ps := ["curve", "place"]) fun _ _ _ _ _ _ us hl => by2 (us := us) hl (fun _ _ => rfl)
  have b28 := F28.binds (ps := ["links", "low", "high"]) fun _ _ _ _ _ _ us hl => by3 (us := us) hl (fun _ _ _ => rfl)
  have b29 := F29.binds (ps := ["curve", "low", "high"]) fun _ _ _ _ _ _ us hl => by3 (us := us) hl (fun _ _ _ => rfl)
  have b30 := F30.binds (ps := ["curve"]) fun _ _ _ _ _ _ us hl => by1 (us := us) hl (fun _ => rfl)
  have b31 := F31.binds (ps := ["chains", "low", "high"]) fun _ _ _ _ _ _ us hl => by3 (us := us) hl (fun _ _ _ => rfl)
  have b32 := F32.binds (ps := ["curve", "low", "high"]) fun _ _ _ _ _ _ us hl => by3 (us := us) hl (fun _ _ _ => rfl)
  have b33 := F33.binds (ps := ["curve"]) fun _ _ _ _ _ _ us hl => by1 (us := us) hl (fun _ => rfl)
  have b34 := F34.binds (ps := ["curve"]) fun _ _ _ _ _ _ us hl => by1 (us := us) hl (fun _ => rfl)
  have b35 := F35.binds (ps := ["place", "parts"]) fun _ _ _ _ _ _ us hl => by2 (us := us) hl (fun _ _ => rfl)
  have b36 := F36.binds (ps := ["low", "high"]) fun _ _ _ _ _ _ us hl => by2 (us := us) hl (fun _ _ => rfl)
  have b37 := F37.binds (ps := ["low", "high", "fine"]) fun _ _ _ _ _ _ us hl => by3 (us := us) hl (fun _ _ _ => rfl)
  have b38 := F38.binds (ps := ["curve", "low", "high", "fine"]) fun _ _ _ _ _ _ us hl => by4 (us := us) hl (fun _ _ _ _ => rfl)
  have b39 := F39.binds (ps := ["links", "low", "high"]) fun _ _ _ _ _ _ us hl => by3 (us := us) hl (fun _ _ _ => rfl)
  have b40 := F40.binds (ps := ["curve", "fine"]) fun _ _ _ _ _ _ us hl => by2 (us := us) hl (fun _ _ => rfl)
  have b41 := F41.binds (ps := ["curve"]) fun _ _ _ _ _ _ us hl => by1 (us := us) hl (fun _ => rfl)
  have b42 := F42.binds (ps := ["number", "line"]) fun _ _ _ _ _ _ us hl => by2 (us := us) hl (fun _ _ => rfl)
  have b43 := F43.binds (ps := ["number", "power"]) fun _ _ _ _ _ _ us hl => by2 (us := us) hl (fun _ _ => rfl)
  have b44 := F44.binds (ps := ["power"]) fun _ _ _ _ _ _ us hl => by1 (us := us) hl (fun _ => rfl)
  have b45 := F45.binds (ps := ["curve"]) fun _ _ _ _ _ _ us hl => by1 (us := us) hl (fun _ => rfl)
  have b46 := F46.binds (ps := ["_law_which", "_law_curve", "_law_low"]) fun _ _ _ _ _ _ us hl => by3 (us := us) hl (fun _ _ _ => rfl)
  have b47 := F47.binds (ps := ["_law_which", "_law_curve", "_law_low", "_law_high", "_law_fine"]) fun _ _ _ _ _ _ us hl => by5 (us := us) hl (fun _ _ _ _ _ => rfl)
  have b48 := F48.binds (ps := ["_law_which", "_law_curve"]) fun _ _ _ _ _ _ us hl => by2 (us := us) hl (fun _ _ => rfl)
  have b49 := F49.binds (ps := ["_law_which", "_law_curve", "_law_low", "_law_high", "_law_fine"]) fun _ _ _ _ _ _ us hl => by5 (us := us) hl (fun _ _ _ _ _ => rfl)
  have b50 := F50.binds (ps := ["_law_curve", "_law_fine"]) fun _ _ _ _ _ _ us hl => by2 (us := us) hl (fun _ _ => rfl)
  have b51 := F51.binds (ps := ["_law_which", "_law_curve", "_law_low", "_law_high", "_law_fine"]) fun _ _ _ _ _ _ us hl => by5 (us := us) hl (fun _ _ _ _ _ => rfl)
  refine ⟨PySem.W.fnOf "law" "law" (aY uG) (aW uG) (aB uG) .none kV52 dc52 pm52 an52 cd52 ct52, fun s v => .of_eq rfl, fun base _ _ hN => ?_⟩
  have A_whole : FnAt l.prog w K mg base 1 "_law_whole" ["_law_found"] vg := ⟨f1, _, GD B F1, b1, k1, PySem.W.mg_of X G a1⟩
  have A_at : FnAt l.prog w K mg base 1 "_law_at" ["_law_script", "_law_k"] (Kr K) := ⟨f2, _, ok_at B F2, b2, k2, PySem.W.mg_of X G a2⟩
  have A_are : FnAt l.prog w K mg base 2 "_law_numbers_are" ["_law_found", "_law_due"] (Eo K) := ⟨f3, _, Lw B A_whole F3, b3, k3, PySem.W.mg_of X G a3⟩
  have A_any : FnAt l.prog w K mg base 1 "_law_any" ["_law_cell"] zY := ⟨f4, _, Lx F4, b4, k4, PySem.W.mg_of X G a4⟩
  have A_drawn : FnAt l.prog w K mg base 2 "_law_drawn_curve" ["_law_cells"] (vq K) := ⟨f5, _, GP B A_any F5, b5, k5, PySem.W.mg_of X G a5⟩
  have A_cc : FnAt l.prog w K mg base 1 "check_curve" ["curve"] (aR K) := ⟨f6, _, JZ B F6, b6, k6, PySem.W.mg_of X G a6⟩
  have E_cc : bJ l.prog w K mg base 1 "check_curve" ["curve"] (b_ (aR K) (bCC K x)) := ⟨f6, _, bw.or (bw.any (JZ B F6)) (Lp B R1 F6), b6, k6, PySem.W.mg_of X G a6⟩
  have A_nn : FnAt l.prog w K mg base 1 "check_not_nought" ["curve"] (bV K) := ⟨f7, _, JQ B F7, b7, k7, PySem.W.mg_of X G a7⟩
  have E_nn : bJ l.prog w K mg base 1 "check_not_nought" ["curve"] (b_ (bV K) (bNN K x)) := ⟨f7, _, bw.or (bw.any (JQ B F7)) (Li B R2 F7), b7, k7, PySem.W.mg_of X G a7⟩
  have A_cp : FnAt l.prog w K mg base 1 "check_place" ["place"] (dj K) := ⟨f8, _, JT F8, b8, k8, PySem.W.mg_of X G a8⟩
  have E_cp : bJ l.prog w K mg base 1 "check_place" ["place"] (b_ (dj K) (bCP K x)) := ⟨f8, _, bw.or (bw.any (JT F8)) (Lk R3 F8), b8, k8, PySem.W.mg_of X G a8⟩
  have A_cs : FnAt l.prog w K mg base 2 "check_stretch" ["low", "high"] (dF K) := ⟨f9, _, JR A_cp F9, b9, k9, PySem.W.mg_of X G a9⟩
  have E_cs : bJ l.prog w K mg base 2 "check_stretch" ["low", "high"] (b_ (dF K) (bCS K x)) := ⟨f9, _, bw.or (bw.any (JR A_cp F9)) (Lj R4 E_cp F9), b9, k9, PySem.W.mg_of X G a9⟩
  have A_cf : FnAt l.prog w K mg base 1 "check_fine" ["fine"] g_ := ⟨f10, _, JV F10, b10, k10, PySem.W.mg_of X G a10⟩
  have E_cf : bJ l.prog w K mg base 1 "check_fine" ["fine"] (b_ g_ (bCF x)) := ⟨f10, _, bw.or (bw.any (JV F10)) (Ln R5 F10), b10, k10, PySem.W.mg_of X G a10⟩
  have A_so : FnAt l.prog w K mg base 1 "sign_of" ["number"] qM := ⟨f11, _, ok_so F11, b11, k11, PySem.W.mg_of X G a11⟩
  have A_sa : FnAt l.prog w K mg base 2 "sign_at" ["curve", "place"] (gJ K) := ⟨f12, _, Fq B A_cc A_cp A_so F12, b12, k12, PySem.W.mg_of X G a12⟩
  have E_sa : bJ l.prog w K mg base 2 "sign_at" ["curve", "place"] (b_ (gJ K) (bSA K x)) := ⟨f12, _, bw.or (bw.any (Fq B A_cc A_cp A_so F12)) (Lh E_cc E_cp F12), b12, k12, PySem.W.mg_of X G a12⟩
  have A_slope : FnAt l.prog w K mg base 2 "slope" ["curve"] (jw K) := ⟨f13, _, wV B A_cc F13, b13, k13, PySem.W.mg_of X G a13⟩
  have E_slope : bJ l.prog w K mg base 2 "slope" ["curve"] (b_ (jw K) (bCC K x)) := ⟨f13, _, bw.or (bw.any (wV B A_cc F13)) (CZ E_cc F13), b13, k13, PySem.W.mg_of X G a13⟩
  have A_gib : FnAt l.prog w K mg base 1 "greatest_in_both" ["first", "second"] En := ⟨f14, _, Lr B F14, b14, k14, PySem.W.mg_of X G a14⟩
  have A_plain : FnAt l.prog w K mg base 40 "plain" ["curve"] (gR K) := ⟨f15, _, tW hN hT A_cc A_gib F15, b15, k15, PySem.W.mg_of X G a15⟩
  have E_plain : bJ l.prog w K mg base 40 "plain" ["curve"] (b_ (gR K) (bCC K x)) := ⟨f15, _, bw.or (bw.any (tW hN hT A_cc A_gib F15)) (Dd E_cc F15), b15, k15, PySem.W.mg_of X G a15⟩
  have A_times : FnAt l.prog w K mg base 2 "times_curve" ["curve", "other"] (mY K) := ⟨f16, _, wU B A_cc F16, b16, k16, PySem.W.mg_of X G a16⟩
  have E_times : bJ l.prog w K mg base 2 "times_curve" ["curve", "other"] (b_ (mY K) (b2C K x)) := ⟨f16, _, bw.or (bw.any (wU B A_cc F16)) (CW E_cc F16), b16, k16, PySem.W.mg_of X G a16⟩
  have A_taken : FnAt l.prog w K mg base 1 "taken_off" ["numbers", "other", "factor", "shift"] (jZ K) := ⟨f17, _, Dj B F17, b17, k17, PySem.W.mg_of X G a17⟩
  have A_trim : FnAt l.prog w K mg base 1 "trimmed" ["numbers"] (lH K) := ⟨f18, _, zG B F18, b18, k18, PySem.W.mg_of X G a18⟩
  have A_without : FnAt l.prog w K mg base 2 "without_last" ["curve", "other"] (mG K) := ⟨f19, _, yw B A_trim A_taken F19, b19, k19, PySem.W.mg_of X G a19⟩
  have A_left : FnAt l.prog w K mg base 41 "left" ["curve", "other"] (jy K) := ⟨f20, _, wY B A_cc A_nn A_without A_plain F20, b20, k20, PySem.W.mg_of X G a20⟩
  have E_left : bJ l.prog w K mg base 41 "left" ["curve", "other"] (b_ (jy K) (b2L K x)) := ⟨f20, _, bw.or (bw.any (wY B A_cc A_nn A_without A_plain F20)) (GC E_cc E_nn F20), b20, k20, PySem.W.mg_of X G a20⟩
  have A_above : FnAt l.prog w K mg base 1 "with_last_above" ["curve"] (vA K) := ⟨f21, _, GR B F21, b21, k21, PySem.W.mg_of X G a21⟩
  have A_shared : FnAt l.prog w K mg base 42 "shared" ["curve", "other"] (gK K) := ⟨f22, _, rO B A_cc A_left A_plain A_above F22, b22, k22, PySem.W.mg_of X G a22⟩
  have E_shared : bJ l.prog w K mg base 42 "shared" ["curve", "other"] (b_ (gK K) (b2C K x)) := ⟨f22, _, bw.or (bw.any (rO B A_cc A_left A_plain A_above F22)) (zF E_cc F22), b22, k22, PySem.W.mg_of X G a22⟩
  have A_div : FnAt l.prog w K mg base 40 "divided_out" ["curve", "other"] (oY K) := ⟨f23, _, zM hN hT B A_taken F23, b23, k23, PySem.W.mg_of X G a23⟩
  have A_simple : FnAt l.prog w K mg base 43 "simple" ["curve"] (j4 K) := ⟨f24, _, tV A_cc A_nn A_plain A_slope A_shared A_div F24, b24, k24, PySem.W.mg_of X G a24⟩
  have E_simple : bJ l.prog w K mg base 43 "simple" ["curve"] (b_ (j4 K) (b1N K x)) := ⟨f24, _, bw.or (bw.any (tV A_cc A_nn A_plain A_slope A_shared A_div F24)) (zE E_cc E_nn F24), b24, k24, PySem.W.mg_of X G a24⟩
  have A_along : FnAt l.prog w K mg base 3 "changes_along" ["links", "place"] (mZ K) := ⟨f25, _, GQ B A_sa F25, b25, k25, PySem.W.mg_of X G a25⟩
  have A_chain : FnAt l.prog w K mg base 44 "chain" ["curve"] (iz K) := ⟨f26, _, xg B A_cc A_nn A_plain A_slope A_simple A_left F26, b26, k26, PySem.W.mg_of X G a26⟩
  have E_chain : bJ l.prog w K mg base 44 "chain" ["curve"] (b_ (iz K) (b1N K x)) := ⟨f26, _, bw.or (bw.any (xg B A_cc A_nn A_plain A_slope A_simple A_left F26)) (Dh E_cc E_nn F26), b26, k26, PySem.W.mg_of X G a26⟩
  have A_changes : FnAt l.prog w K mg base 45 "changes" ["curve", "place"] (lK K) := ⟨f27, _, rP A_cc A_nn A_cp A_chain A_along F27, b27, k27, PySem.W.mg_of X G a27⟩
  have E_changes : bJ l.prog w K mg base 45 "changes" ["curve", "place"] (b_ (lK K) (bCh K x)) := ⟨f27, _, bw.or (bw.any (rP A_cc A_nn A_cp A_chain A_along F27)) (yt E_cc E_nn E_cp F27), b27, k27, PySem.W.mg_of X G a27⟩
  have A_ra : FnAt l.prog w K mg base 4 "roots_along" ["links", "low", "high"] (j5 K) := ⟨f28, _, ok_ra A_along F28, b28, k28, PySem.W.mg_of X G a28⟩
  have A_between : FnAt l.prog w K mg base 45 "roots_between" ["curve", "low", "high"] (lM K) := ⟨f29, _, rQ A_cc A_nn A_cs A_chain A_ra F29, b29, k29, PySem.W.mg_of X G a29⟩
  have E_between : bJ l.prog w K mg base 45 "roots_between" ["curve", "low", "high"] (b_ (lM K) (bBt K x)) := ⟨f29, _, bw.or (bw.any (rQ A_cc A_nn A_cs A_chain A_ra F29)) (yu E_cc E_nn E_cs F29), b29, k29, PySem.W.mg_of X G a29⟩
  have A_ft : FnAt l.prog w K mg base 45 "chains_for_times" ["curve"] (uL K) := ⟨f30, _, sZ B A_chain A_shared A_slope F30, b30, k30, PySem.W.mg_of X G a30⟩
  have A_ta : FnAt l.prog w K mg base 5 "times_along" ["chains", "low", "high"] (nA K) := ⟨f31, _, Di hsum A_ra F31, b31, k31, PySem.W.mg_of X G a31⟩
  have A_wt : FnAt l.prog w K mg base 46 "roots_with_times" ["curve", "low", "high"] (uK K) := ⟨f32, _, kI A_cc A_nn A_cs A_ta A_ft F32, b32, k32, PySem.W.mg_of X G a32⟩
  have E_wt : bJ l.prog w K mg base 46 "roots_with_times" ["curve", "low", "high"] (b_ (uK K) (bBt K x)) := ⟨f32, _, bw.or (bw.any (kI A_cc A_nn A_cs A_ta A_ft F32)) (sX E_cc E_nn E_cs F32), b32, k32, PySem.W.mg_of X G a32⟩
  have A_reach : FnAt l.prog w K mg base 40 "reach" ["curve"] (jx K) := ⟨f33, _, wX hN hT B hmax A_cc A_nn F33, b33, k33, PySem.W.mg_of X G a33⟩
  have E_reach : bJ l.prog w K mg base 40 "reach" ["curve"] (b_ (jx K) (b1N K x)) := ⟨f33, _, bw.or (bw.any (wX hN hT B hmax A_cc A_nn F33)) (Dc E_cc E_nn F33), b33, k33, PySem.W.mg_of X G a33⟩
  have A_inall : FnAt l.prog w K mg base 45 "roots_in_all" ["curve"] (p8 K) := ⟨f34, _, wZ A_cc A_nn A_reach A_chain A_ra F34, b34, k34, PySem.W.mg_of X G a34⟩
  have E_inall : bJ l.prog w K mg base 45 "roots_in_all" ["curve"] (b_ (p8 K) (b1N K x)) := ⟨f34, _, bw.or (bw.any (wZ A_cc A_nn A_reach A_chain A_ra F34)) (Df E_cc E_nn F34), b34, k34, PySem.W.mg_of X G a34⟩
  have A_inparts : FnAt l.prog w K mg base 40 "in_parts" ["place", "parts"] (lJ K) := ⟨f35, _, zK hN hT F35, b35, k35, PySem.W.mg_of X G a35⟩
  have A_middle : FnAt l.prog w K mg base 41 "middle" ["low", "high"] (nD K) := ⟨f36, _, Dn hmax A_inparts F36, b36, k36, PySem.W.mg_of X G a36⟩
  have A_longer : FnAt l.prog w K mg base 41 "is_longer" ["low", "high", "fine"] (qQ K) := ⟨f37, _, Dp hmax A_inparts F37, b37, k37, PySem.W.mg_of X G a37⟩
  have A_narrowed : FnAt l.prog w K mg base 42 "narrowed" ["curve", "low", "high", "fine"] (mH K) := ⟨f38, _, yx A_sa A_middle A_longer F38, b38, k38, PySem.W.mg_of X G a38⟩
  have A_oneeach : FnAt l.prog w K mg base 42 "one_root_each" ["links", "low", "high"] (oW K) := ⟨f39, _, zJ B A_along A_middle F39, b39, k39, PySem.W.mg_of X G a39⟩
  have A_stretches : FnAt l.prog w K mg base 45 "stretches" ["curve", "fine"] (fU K) := ⟨f40, _, nR A_cc A_nn A_cf A_chain A_reach A_oneeach A_narrowed F40, b40, k40, PySem.W.mg_of X G a40⟩
  have E_stretches : bJ l.prog w K mg base 45 "stretches" ["curve", "fine"] (b_ (fU K) (bSt K x)) := ⟨f40, _, bw.or (bw.any (nR A_cc A_nn A_cf A_chain A_reach A_oneeach A_narrowed F40)) (sY E_cc E_nn E_cf F40), b40, k40, PySem.W.mg_of X G a40⟩
  have A_over : FnAt l.prog w K mg base 46 "signs_over" ["curve"] (nC K) := ⟨f41, _, tX A_cc A_nn A_ft A_sa A_reach A_stretches A_ta F41, b41, k41, PySem.W.mg_of X G a41⟩
  have E_over : bJ l.prog w K mg base 46 "signs_over" ["curve"] (b_ (nC K) (b1N K x)) := ⟨f41, _, bw.or (bw.any (tX A_cc A_nn A_ft A_sa A_reach A_stretches A_ta F41)) (Gz E_cc E_nn F41), b41, k41, PySem.W.mg_of X G a41⟩
  have A_sgn : FnAt l.prog w K mg base 1 "shown_sign" ["number", "line"] qN := ⟨f42, _, Dk F42, b42, k42, PySem.W.mg_of X G a42⟩
  have A_fig : FnAt l.prog w K mg base 1 "shown_figures" ["number", "power"] vo := ⟨f43, _, GJ B hstr F43, b43, k43, PySem.W.mg_of X G a43⟩
  have A_pow : FnAt l.prog w K mg base 1 "shown_power" ["power"] vh := ⟨f44, _, GF hstr F44, b44, k44, PySem.W.mg_of X G a44⟩
  have A_shown : FnAt l.prog w K mg base 2 "shown" ["curve"] (p7 K) := ⟨f45, _, wW B A_cc A_sgn A_fig A_pow F45, b45, k45, PySem.W.mg_of X G a45⟩
  have E_shown : bJ l.prog w K mg base 2 "shown" ["curve"] (b_ (p7 K) (bCC K x)) := ⟨f45, _, bw.or (bw.any (wW B A_cc A_sgn A_fig A_pow F45)) (C_ E_cc F45), b45, k45, PySem.W.mg_of X G a45⟩
  have E_first : bJ l.prog w K mg base 47 "_law_first_ones" ["_law_which", "_law_curve", "_law_low"] (oX K x) := ⟨f46, _, zL E_plain E_slope E_times E_shared E_shown E_sa E_left E_simple F46, b46, k46, PySem.W.mg_of X G a46⟩
  have E_next : bJ l.prog w K mg base 47 "_law_next_ones" ["_law_which", "_law_curve", "_law_low", "_law_high", "_law_fine"] (qP K x) := ⟨f47, _, Dm E_chain E_inall E_reach E_over E_changes E_between E_wt E_stretches F47, b47, k47, PySem.W.mg_of X G a47⟩
  have E_last : bJ l.prog w K mg base 47 "_law_last_ones" ["_law_which", "_law_curve"] (qR K x) := ⟨f48, _, Dq E_times E_shared E_left F48, b48, k48, PySem.W.mg_of X G a48⟩
  have A_said : FnAt l.prog w K mg base 48 "_law_said" ["_law_which", "_law_curve", "_law_low", "_law_high", "_law_fine"] (qO K) := ⟨f49, _, Dl B hValueError hFE hNL R1 R2 R3 R4 R5 Z E_first E_next E_last F49, b49, k49, PySem.W.mg_of X G a49⟩
  have A_tells : FnAt l.prog w K mg base 48 "_law_base_tells" ["_law_curve", "_law_fine"] (oV K) := ⟨f50, _, zH B hValueError hFE hNL R1 R2 R3 R4 R5 Z E_stretches F50, b50, k50, PySem.W.mg_of X G a50⟩
  have A_due : FnAt l.prog w K mg base 1 "_law_word_due" ["_law_which", "_law_curve", "_law_low", "_law_high", "_law_fine"] (vp K) := ⟨f51, _, GK F51, b51, k51, PySem.W.mg_of X G a51⟩
  exact Lq B A_at A_any A_are A_drawn A_due A_said A_tells F52
theorem walk {l : PySem.W.OpenLaw} {q : Program} {loose : List Str} {XP : (Str -> Option Value) -> Heap -> Prop} {YP : World -> Heap -> Prop} {d : DefRec} {K : Params -> PySem.W.Frag} (hn : l.most = some 63) (himp : PyProof.Rows.importsNone q = true) (hdf : d.params.defaults = [])
    (hY : ∀ (w : World) (h : Heap), YP w h -> (K w.params).In h)
    (F : ∀ (w : World) (mg : Str -> Option Value) (fa : Addr) (h : Heap), (K w.params).In h -> h.Ns mainGlobals mg -> mg d.name = some (.ref fa) ->
      ∃ fd : FuncData, (∀ (s : Shared) (u : Value), BindsTo s fd ⟨[u], []⟩ [("_law_script", u)]) /\ ∀ base : Heap, (K w.params).In base -> base.Ns mainGlobals mg -> base.NoSeer -> bw l.prog w (K w.params) mg base CX0 49 fa fd ["_law_script"] (zX (K w.params))) :
    PySem.W.WalkO q loose XP YP l.row.toRowW d [] (fun f vs => PySem.call f vs) :=
  L2.Gr (n := 63) (k := 49) (x := "_law_script") (CX := fun _ => CX0) (sp := fun w => zX (K w.params)) hn (by decide) himp hdf ⟨rfl, by decide, by decide⟩ hY F (fun _ _ a ns hl _ hS => ⟨a, ns, rfl, hS, hl, fun _ => rfl⟩) fun _ _ _ _ _ z => z
end K10
open PySem PySem.W PyProof.Rows
set_option maxRecDepth 100000 in
set_option maxHeartbeats 0 in
theorem PySem.Challenge.cw_zerofence_k10_refused_holds : PySem.Challenge.rw_zerofence_k10_refused.Holds := by
  w_on; o_law; k_head; (case hw => w_witness2)
  k_fill
  refine K10.walk (l := PySem.Challenge.rw_zerofence_k10_refused) rfl (by decide +kernel) rfl (fun w h Y => PySem.W.kIn_of Y) ?F
  case F =>
    intro w mg fa h KX G hmg
    refine' K10.all_mk KX G hmg ?a1 ?l1 ?c1 ?k1 ?a2 ?l2 ?c2 ?k2 ?a3 ?l3 ?c3 ?k3 ?a4 ?l4 ?c4 ?k4 ?a5 ?l5 ?c5 ?k5 ?a6 ?l6 ?c6 ?k6 ?a7 ?l7 ?c7 ?k7 ?a8 ?l8 ?c8 ?k8 ?a9 ?l9 ?c9 ?k9 ?a10 ?l10 ?c10 ?k10 ?a11 ?l11 ?c11 ?k11 ?a12 ?l12 ?c12 ?k12 ?a13 ?l13 ?c13 ?k13 ?a14 ?l14 ?c14 ?k14 ?a15 ?l15 ?c15 ?k15 ?a16 ?l16 ?c16 ?k16 ?a17 ?l17 ?c17 ?k17 ?a18 ?l18 ?c18 ?k18 ?a19 ?l19 ?c19 ?k19 ?a20 ?l20 ?c20 ?k20 ?a21 ?l21 ?c21 ?k21 ?a22 ?l22 ?c22 ?k22 ?a23 ?l23 ?c23 ?k23 ?a24 ?l24 ?c24 ?k24 ?a25 ?l25 ?c25 ?k25 ?a26 ?l26 ?c26 ?k26 ?a27 ?l27 ?c27 ?k27 ?a28 ?l28 ?c28 ?k28 ?a29 ?l29 ?c29 ?k29 ?a30 ?l30 ?c30 ?k30 ?a31 ?l31 ?c31 ?k31 ?a32 ?l32 ?c32 ?k32 ?a33 ?l33 ?c33 ?k33 ?a34 ?l34 ?c34 ?k34 ?a35 ?l35 ?c35 ?k35 ?a36 ?l36 ?c36 ?k36 ?a37 ?l37 ?c37 ?k37 ?a38 ?l38 ?c38 ?k38 ?a39 ?l39 ?c39 ?k39 ?a40 ?l40 ?c40 ?k40 ?a41 ?l41 ?c41 ?k41 ?a42 ?l42 ?c42 ?k42 ?a43 ?l43 ?c43 ?k43 ?a44 ?l44 ?c44 ?k44 ?a45 ?l45 ?c45 ?k45 ?a46 ?l46 ?c46 ?k46 ?a47 ?l47 ?c47 ?k47 ?a48 ?l48 ?c48 ?k48 ?a49 ?l49 ?c49 ?k49 ?a50 ?l50 ?c50 ?k50 ?a51 ?l51 ?c51 ?k51 ?a52 ?l52 ?c52 ?k52 ?z1 ?z2 ?z3 ?z4 ?z5 ?z6 ?z7 ?z8 ?z9 ?z10 ?z11 ?z12 ?z13 ?z14 ?qFE ?qNL ?qNC ?qNN ?qNP ?qNS ?qNF ?c0b ?c0c ?c0t ?hs ?ht ?x1 ?u1c ?u1g ?u1n ?u1b ?u1f ?u1m ?u1s ?w11 ?w12 ?w13 ?w14 ?w15 ?w1l ?w1v ?x2 ?u2c ?u2g ?u2n ?u2b ?u2f ?u2m ?u2s ?w21 ?w22 ?w23 ?w24 ?w25 ?w2l ?w2v ?x3 ?u3c ?u3g ?u3n ?u3b ?u3f ?u3m ?u3s ?w31 ?w32 ?w33 ?w34 ?w35 ?w3l ?w3v ?x4 ?u4c ?u4g ?u4n ?u4b ?u4f ?u4m ?u4s ?w41 ?w42 ?w43 ?w44 ?w45 ?w4l ?w4v ?x5 ?u5c ?u5g ?u5n ?u5b ?u5f ?u5m ?u5s ?w51 ?w52 ?w53 ?w54 ?w55 ?w5l ?w5v rfl
    (case a1 => k_is)
    (case l1 => k_is)
    (case c1 => k_is)
    (case k1 => k_is)
    (case a2 => k_is)
    (case l2 => k_is)
    (case c2 => k_is)
    (case k2 => k_is)
    (case a3 => k_is)
    (case l3 => k_is)
    (case c3 => k_is)
    (case k3 => k_is)
    (case a4 => k_is)
    (case l4 => k_is)
    (case c4 => k_is)
    (case k4 => k_is)
    (case a5 => k_is)
    (case l5 => k_is)
    (case c5 => k_is)
    (case k5 => k_is)
    (case a6 => k_is)
    (case l6 => k_is)
    (case c6 => k_is)
    (case k6 => k_is)
    (case a7 => k_is)
    (case l7 => k_is)
    (case c7 => k_is)
    (case k7 => k_is)
    (case a8 => k_is)
    (case l8 => k_is)
    (case c8 => k_is)
    (case k8 => k_is)
    (case a9 => k_is)
    (case l9 => k_is)
    (case c9 => k_is)
    (case k9 => k_is)
    (case a10 => k_is)
    (case l10 => k_is)
    (case c10 => k_is)
    (case k10 => k_is)
    (case a11 => k_is)
    (case l11 => k_is)
    (case c11 => k_is)
    (case k11 => k_is)
    (case a12 => k_is)
    (case l12 => k_is)
    (case c12 => k_is)
    (case k12 => k_is)
    (case a13 => k_is)
    (case l13 => k_is)
    (case c13 => k_is)
    (case k13 => k_is)
    (case a14 => k_is)
    (case l14 => k_is)
    (case c14 => k_is)
    (case k14 => k_is)
    (case a15 => k_is)
    (case l15 => k_is)
    (case c15 => k_is)
    (case k15 => k_is)
    (case a16 => k_is)
    (case l16 => k_is)
    (case c16 => k_is)
    (case k16 => k_is)
    (case a17 => k_is)
    (case l17 => k_is)
    (case c17 => k_is)
    (case k17 => k_is)
    (case a18 => k_is)
    (case l18 => k_is)
    (case c18 => k_is)
    (case k18 => k_is)
    (case a19 => k_is)
    (case l19 => k_is)
    (case c19 => k_is)
    (case k19 => k_is)
    (case a20 => k_is)
    (case l20 => k_is)
    (case c20 => k_is)
    (case k20 => k_is)
    (case a21 => k_is)
    (case l21 => k_is)
    (case c21 => k_is)
    (case k21 => k_is)
    (case a22 => k_is)
    (case l22 => k_is)
    (case c22 => k_is)
    (case k22 => k_is)
    (case a23 => k_is)
    (case l23 => k_is)
    (case c23 => k_is)
    (case k23 => k_is)
    (case a24 => k_is)
    (case l24 => k_is)
    (case c24 => k_is)
    (case k24 => k_is)
    (case a25 => k_is)
    (case l25 => k_is)
    (case c25 => k_is)
    (case k25 => k_is)
    (case a26 => k_is)
    (case l26 => k_is)
    (case c26 => k_is)
    (case k26 => k_is)
    (case a27 => k_is)
    (case l27 => k_is)
    (case c27 => k_is)
    (case k27 => k_is)
    (case a28 => k_is)
    (case l28 => k_is)
    (case c28 => k_is)
    (case k28 => k_is)
    (case a29 => k_is)
    (case l29 => k_is)
    (case c29 => k_is)
    (case k29 => k_is)
    (case a30 => k_is)
    (case l30 => k_is)
    (case c30 => k_is)
    (case k30 => k_is)
    (case a31 => k_is)
    (case l31 => k_is)
    (case c31 => k_is)
    (case k31 => k_is)
    (case a32 => k_is)
    (case l32 => k_is)
    (case c32 => k_is)
    (case k32 => k_is)
    (case a33 => k_is)
    (case l33 => k_is)
    (case c33 => k_is)
    (case k33 => k_is)
    (case a34 => k_is)
    (case l34 => k_is)
    (case c34 => k_is)
    (case k34 => k_is)
    (case a35 => k_is)
    (case l35 => k_is)
    (case c35 => k_is)
    (case k35 => k_is)
    (case a36 => k_is)
    (case l36 => k_is)
    (case c36 => k_is)
    (case k36 => k_is)
    (case a37 => k_is)
    (case l37 => k_is)
    (case c37 => k_is)
    (case k37 => k_is)
    (case a38 => k_is)
    (case l38 => k_is)
    (case c38 => k_is)
    (case k38 => k_is)
    (case a39 => k_is)
    (case l39 => k_is)
    (case c39 => k_is)
    (case k39 => k_is)
    (case a40 => k_is)
    (case l40 => k_is)
    (case c40 => k_is)
    (case k40 => k_is)
    (case a41 => k_is)
    (case l41 => k_is)
    (case c41 => k_is)
    (case k41 => k_is)
    (case a42 => k_is)
    (case l42 => k_is)
    (case c42 => k_is)
    (case k42 => k_is)
    (case a43 => k_is)
    (case l43 => k_is)
    (case c43 => k_is)
    (case k43 => k_is)
    (case a44 => k_is)
    (case l44 => k_is)
    (case c44 => k_is)
    (case k44 => k_is)
    (case a45 => k_is)
    (case l45 => k_is)
    (case c45 => k_is)
    (case k45 => k_is)
    (case a46 => k_is)
    (case l46 => k_is)
    (case c46 => k_is)
    (case k46 => k_is)
    (case a47 => k_is)
    (case l47 => k_is)
    (case c47 => k_is)
    (case k47 => k_is)
    (case a48 => k_is)
    (case l48 => k_is)
    (case c48 => k_is)
    (case k48 => k_is)
    (case a49 => k_is)
    (case l49 => k_is)
    (case c49 => k_is)
    (case k49 => k_is)
    (case a50 => k_is)
    (case l50 => k_is)
    (case c50 => k_is)
    (case k50 => k_is)
    (case a51 => k_is)
    (case l51 => k_is)
    (case c51 => k_is)
    (case k51 => k_is)
    (case a52 => k_is)
    (case l52 => k_is)
    (case c52 => k_is)
    (case k52 => k_is)
    (case z1 => k_is)
    (case z2 => k_is)
    (case z3 => k_is)
    (case z4 => k_is)
    (case z5 => k_is)
    (case z6 => k_is)
    (case z7 => k_is)
    (case z8 => k_is)
    (case z9 => k_is)
    (case z10 => k_is)
    (case z11 => k_is)
    (case z12 => k_is)
    (case z13 => k_is)
    (case z14 => k_is)
    (case qFE => k_is)
    (case qNL => k_is)
    (case qNC => k_is)
    (case qNN => k_is)
    (case qNP => k_is)
    (case qNS => k_is)
    (case qNF => k_is)
    (case c0b => k_is)
    (case c0c => k_is)
    (case c0t => k_is)
    (case hs => k_is)
    (case ht => k_is)
    (case x1 => k_exc)
    (case u1c => k_is)
    (case u1g => k_is)
    (case u1n => k_is)
    (case u1b => k_is)
    (case u1f => k_is)
    (case u1m => k_is)
    (case u1s => k_is)
    (case w11 => kit_is)
    (case w12 => kit_is)
    (case w13 => kit_is)
    (case w14 => kit_is)
    (case w15 => kit_is)
    (case w1l => kit_is)
    (case w1v => kit_is)
    (case x2 => k_exc)
    (case u2c => k_is)
    (case u2g => k_is)
    (case u2n => k_is)
    (case u2b => k_is)
    (case u2f => k_is)
    (case u2m => k_is)
    (case u2s => k_is)
    (case w21 => kit_is)
    (case w22 => kit_is)
    (case w23 => kit_is)
    (case w24 => kit_is)
    (case w25 => kit_is)
    (case w2l => kit_is)
    (case w2v => kit_is)
    (case x3 => k_exc)
    (case u3c => k_is)
    (case u3g => k_is)
    (case u3n => k_is)
    (case u3b => k_is)
    (case u3f => k_is)
    (case u3m => k_is)
    (case u3s => k_is)
    (case w31 => kit_is)
    (case w32 => kit_is)
    (case w33 => kit_is)
    (case w34 => kit_is)
    (case w35 => kit_is)
    (case w3l => kit_is)
    (case w3v => kit_is)
    (case x4 => k_exc)
    (case u4c => k_is)
    (case u4g => k_is)
    (case u4n => k_is)
    (case u4b => k_is)
    (case u4f => k_is)
    (case u4m => k_is)
    (case u4s => k_is)
    (case w41 => kit_is)
    (case w42 => kit_is)
    (case w43 => kit_is)
    (case w44 => kit_is)
    (case w45 => kit_is)
    (case w4l => kit_is)
    (case w4v => kit_is)
    (case x5 => k_exc)
    (case u5c => k_is)
    (case u5g => k_is)
    (case u5n => k_is)
    (case u5b => k_is)
    (case u5f => k_is)
    (case u5m => k_is)
    (case u5s => k_is)
    (case w51 => kit_is)
    (case w52 => kit_is)
    (case w53 => kit_is)
    (case w54 => kit_is)
    (case w55 => kit_is)
    (case w5l => kit_is)
    (case w5v => kit_is)
