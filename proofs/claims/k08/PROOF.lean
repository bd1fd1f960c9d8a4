import PyProof.Rows.All
import Wide.All
import OpenK.AllK
import Wide.FinOn
import Lean
import PyProof.EqAt
import PyProof.EqKinds
import PyProof.TupleCall
import PyProof.NeKinds
import PyProof.EnumFor
import PyProof.EnumMake
import PyProof.CompFree
import PyProof.CompUse
import PyProof.CompMap
import KE.KMinKey
import PySem.Challenge.RW_zerofence_k08_whole_times_and_signs
set_option Elab.async false
set_option linter.all false
set_option maxRecDepth 100000
set_option maxHeartbeats 4000000
local macro_rules | `(tactic| omega) => `(tactic| lia)
noncomputable def PySem.W.Fast.tw2126916765419100822 : Nat := 0
noncomputable def PySem.W.Fast.tw12050770222412607291 : Nat := 0
noncomputable def PySem.W.Fast.tw14245761914739332765 : Nat := 0
noncomputable def PySem.W.Fast.tw7194638477600299275 : Nat := 0
noncomputable def PySem.W.Fast.tw14953504689787791336 : Nat := 0
noncomputable def PySem.W.Fast.tw8466230236207489885 : Nat := 0
noncomputable def PySem.W.Fast.tw1100131151840644639 : Nat := 0
noncomputable def PySem.W.Fast.tw17314515350839827945 : Nat := 0
namespace Zf

noncomputable def Bd (n : Nat) (x : Int) : Prop := x.natAbs < 2 ^ n
theorem Bd.mono {m n : Nat} {x : Int} (h : Bd m x) (l : m ≤ n) : Bd n x := Nat.lt_of_lt_of_le h (Nat.pow_le_pow_right (by decide) l)
theorem Bd.mul {m n : Nat} {x y : Int} (h : Bd m x) (k : Bd n y) : Bd (m + n) (x * y) := by
  unfold Bd at *
  rw [Int.natAbs_mul, Nat.pow_add]
  exact Nat.mul_lt_mul'' h k
theorem Bd.add {n : Nat} {x y : Int} (h : Bd n x) (k : Bd n y) : Bd (n + 1) (x + y) := by
  unfold Bd at *
  have := Int.natAbs_add_le x y
  rw [Nat.pow_succ]
  omega
theorem Bd.sub {n : Nat} {x y : Int} (h : Bd n x) (k : Bd n y) : Bd (n + 1) (x - y) := by
  unfold Bd at *
  have := Int.natAbs_sub_le x y
  rw [Nat.pow_succ]
  omega
theorem Bd.neg {n : Nat} {x : Int} (h : Bd n x) : Bd n (-x) := by
  unfold Bd at *
  rwa [Int.natAbs_neg]
theorem Bd.zero (n : Nat) : Bd n 0 := Nat.two_pow_pos n
theorem Bd.pow {n : Nat} {x : Int} (h : Bd n x) : ∀ k : Nat, Bd (n * k + 1) (x ^ k)
  | 0 => by unfold Bd; rw [Int.pow_zero]; show 1 < 2 ^ (n * 0 + 1); rw [Nat.mul_zero]; decide
  | k + 1 => by
    rw [Int.pow_succ]
    exact (Bd.mul (Bd.pow h k) h).mono (by rw [Nat.mul_succ]; omega)
theorem Bd.of_le {n : Nat} {x : Int} (m : Nat) (h : x.natAbs ≤ m) (k : m < 2 ^ n) : Bd n x := Nat.lt_of_le_of_lt h k

noncomputable def sumTo (f : Nat → Int) : Nat → Int
  | 0 => 0
  | n + 1 => sumTo f n + f n
theorem sumTo_succ (f : Nat → Int) (n : Nat) : sumTo f (n + 1) = sumTo f n + f n := rfl
theorem sumTo_congr {f g : Nat → Int} : ∀ {n : Nat}, (∀ k, k < n → f k = g k) → sumTo f n = sumTo g n
  | 0, _ => rfl
  | n + 1, h => by
    unfold sumTo
    rw [sumTo_congr fun k hk => h k (Nat.lt_succ_of_lt hk), h n (Nat.lt_succ_self n)]
theorem sumTo_left (f : Nat → Int) : ∀ n : Nat, sumTo f (n + 1) = f 0 + sumTo (fun k => f (k + 1)) n
  | 0 => by simp [sumTo]
  | n + 1 => by
    have := sumTo_left f n
    rw [sumTo, this]
    show _ = f 0 + (sumTo (fun k => f (k + 1)) n + f (n + 1))
    rw [Int.add_assoc]
theorem sumTo_add (f g : Nat → Int) : ∀ n : Nat, sumTo (fun k => f k + g k) n = sumTo f n + sumTo g n
  | 0 => rfl
  | n + 1 => by
    unfold sumTo
    rw [sumTo_add f g n]
    omega
theorem sumTo_mul (c : Int) (f : Nat → Int) : ∀ n : Nat, sumTo (fun k => c * f k) n = c * sumTo f n
  | 0 => by simp [sumTo]
  | n + 1 => by
    unfold sumTo
    rw [sumTo_mul c f n, Int.mul_add]
theorem sumTo_zero {f : Nat → Int} : ∀ {n : Nat}, (∀ k, k < n → f k = 0) → sumTo f n = 0
  | 0, _ => rfl
  | n + 1, h => by
    unfold sumTo
    rw [sumTo_zero fun k hk => h k (Nat.lt_succ_of_lt hk), h n (Nat.lt_succ_self n)]
    rfl
theorem sumTo_ext {f : Nat → Int} {m n : Nat} (hl : m ≤ n) (h : ∀ k, m ≤ k → k < n → f k = 0) : sumTo f n = sumTo f m := by
  induction n with
  | zero => have : m = 0 := by omega
            rw [this]
  | succ n ih =>
    by_cases e : m = n + 1
    · rw [e]
    · rw [sumTo_succ, ih (by omega) fun k h1 h2 => h k h1 (by omega), h n (by omega) (by omega), Int.add_zero]

noncomputable def hv (p q : Int) : List Int → Int
  | [] => 0
  | c :: cs => hv p q cs * p + c * q ^ cs.length
theorem hv_cons (p q c : Int) (cs : List Int) : hv p q (c :: cs) = hv p q cs * p + c * q ^ cs.length := rfl
theorem hv_bd {p q : Int} {B : Nat} (hp : Bd B p) (hq : Bd B q) : ∀ {c : List Int}, (∀ x ∈ c, Bd B x) → Bd ((B + 3) * c.length + 1) (hv p q c)
  | [], _ => Bd.zero _
  | c :: cs, h => by
    have ih := hv_bd hp hq (c := cs) fun x hx => h x (List.mem_cons_of_mem _ hx)
    have hc := h c List.mem_cons_self
    unfold hv
    have a1 := ih.mul hp
    have a2 := hc.mul (hq.pow cs.length)
    rw [List.length_cons]
    have : (B + 3) * (cs.length + 1) + 1 = ((B + 3) * cs.length + 1 + B + 2) + 1 := by rw [Nat.mul_succ]; omega
    rw [this]
    refine Bd.add (a1.mono (by omega)) (a2.mono ?_)
    have : B * cs.length ≤ (B + 3) * cs.length := Nat.mul_le_mul_right _ (by omega)
    omega
theorem hv_drop (p q : Int) (c : List Int) {i : Nat} (h : i < c.length) : hv p q (c.drop i) = hv p q (c.drop (i + 1)) * p + c.getD i 0 * q ^ (c.length - 1 - i) := by
  rw [List.drop_eq_getElem_cons h, hv, List.length_drop]
  have : c.length - (i + 1) = c.length - 1 - i := by omega
  rw [this, List.getD_eq_getElem?_getD, List.getElem?_eq_getElem h]
  rfl
noncomputable def sgn (x : Int) : Int := if x > 0 then 1 else if x < 0 then -1 else 0
end Zf

namespace Zf

theorem gcd_step {h l : Int} (h0 : 0 ≤ h) (l0 : 0 < l) : Int.gcd l (h % l) = Int.gcd h l := by
  obtain ⟨a, rfl⟩ : ∃ a : Nat, h = a := ⟨h.toNat, by omega⟩
  obtain ⟨b, rfl⟩ : ∃ b : Nat, l = b := ⟨l.toNat, by omega⟩
  have e : ((a : Int) % (b : Int)) = ((a % b : Nat) : Int) := (Int.natCast_emod a b).symm
  rw [e]
  show Nat.gcd b (a % b) = Nat.gcd a b
  rw [Nat.gcd_comm a b, Nat.gcd_comm b, ← Nat.gcd_rec]

noncomputable def ct (c : List Int) : Int := c.foldl (fun d x => ((Int.gcd d x : Nat) : Int)) 0
theorem ct_snoc (c : List Int) (x : Int) : ct (c ++ [x]) = ((Int.gcd (ct c) x : Nat) : Int) := by
  unfold ct
  rw [List.foldl_append]
  rfl
theorem ct_take (c : List Int) {i : Nat} (h : i < c.length) : ct (c.take (i + 1)) = ((Int.gcd (ct (c.take i)) (c.getD i 0) : Nat) : Int) := by
  rw [List.take_succ_eq_append_getElem h, ct_snoc]
  rw [List.getD_eq_getElem?_getD, List.getElem?_eq_getElem h]
  rfl
theorem snoc_ind {p : List Int → Prop} (h0 : p []) (h1 : ∀ c x, p c → p (c ++ [x])) : ∀ c, p c := by
  intro c
  have : p c.reverse.reverse := by
    generalize c.reverse = d
    induction d with
    | nil => exact h0
    | cons x d ih => rw [List.reverse_cons]; exact h1 _ _ ih
  rwa [List.reverse_reverse] at this
theorem ct_nonneg (c : List Int) : 0 ≤ ct c := by
  refine snoc_ind (p := fun c => 0 ≤ ct c) (by decide) (fun c x _ => ?_) c
  show 0 ≤ ct (c ++ [x])
  rw [ct_snoc]
  exact Int.natCast_nonneg _
theorem ct_dvd (c : List Int) : ∀ x ∈ c, ct c ∣ x := by
  refine snoc_ind (p := fun c => ∀ x ∈ c, ct c ∣ x) (by simp) (fun c y ih => ?_) c
  intro x hx
  rw [ct_snoc]
  rcases List.mem_append.mp hx with hx | hx
  · exact Int.dvd_trans (Int.gcd_dvd_left ..) (ih x hx)
  · rw [List.mem_singleton.mp hx]
    exact Int.gcd_dvd_right ..
theorem dvd_ct {k : Int} : ∀ (c : List Int), (∀ x ∈ c, k ∣ x) → k ∣ ct c := by
  intro c
  refine snoc_ind (p := fun c => (∀ x ∈ c, k ∣ x) → k ∣ ct c) (fun _ => Int.dvd_zero _) (fun c y ih h => ?_) c
  show k ∣ ct (c ++ [y])
  rw [ct_snoc]
  exact Int.dvd_coe_gcd (ih fun x hx => h x (List.mem_append_left _ hx)) (h y (by simp))
theorem ct_pos {c : List Int} {x : Int} (hx : x ∈ c) (h0 : x ≠ 0) : 0 < ct c := by
  have h1 := ct_nonneg c
  have h2 := ct_dvd c x hx
  rcases Int.lt_or_eq_of_le h1 with h | h
  · exact h
  · rw [← h] at h2
    exact absurd (Int.zero_dvd.mp h2) h0

noncomputable def plainL (c : List Int) : List Int := c.map (· / ct c)

noncomputable def tmc (c o : List Int) (t a : Nat) : Int := if a ≤ t then c.getD a 0 * o.getD (t - a) 0 else 0
noncomputable def mulL (c o : List Int) : List Int := (List.range (c.length + o.length - 1)).map fun t => sumTo (tmc c o t) c.length
theorem getD_out' {c : List Int} {i : Nat} (h : c.length ≤ i) : c.getD i 0 = 0 := by
  rw [List.getD_eq_getElem?_getD, List.getElem?_eq_none h]
  rfl
theorem sum_tmc (c o : List Int) (t n : Nat) (h : c.length ≤ n) (h2 : t + 1 ≤ n) : sumTo (tmc c o t) c.length = sumTo (tmc c o t) (t + 1) := by
  have e1 : sumTo (tmc c o t) n = sumTo (tmc c o t) c.length := sumTo_ext h fun k h1 _ => by
    unfold tmc
    rw [getD_out' h1]
    split <;> simp
  have e2 : sumTo (tmc c o t) n = sumTo (tmc c o t) (t + 1) := sumTo_ext h2 fun k h1 _ => by
    unfold tmc
    rw [if_neg (by omega)]
  rw [← e1, e2]
theorem sumTo_rev (f : Nat → Int) : ∀ n : Nat, sumTo f n = sumTo (fun k => f (n - 1 - k)) n
  | 0 => rfl
  | n + 1 => by
    rw [sumTo_succ, sumTo_rev f n, sumTo_left]
    have : sumTo (fun k => f (n + 1 - 1 - (k + 1))) n = sumTo (fun k => f (n - 1 - k)) n := sumTo_congr fun k hk => by
      congr 1
      omega
    rw [this, Int.add_comm]
    rfl
theorem sum_tmc_comm (c o : List Int) (t : Nat) : sumTo (tmc c o t) c.length = sumTo (tmc o c t) o.length := by
  rw [sum_tmc c o t (c.length + o.length + t + 1) (by omega) (by omega), sum_tmc o c t (c.length + o.length + t + 1) (by omega) (by omega), sumTo_rev]
  refine sumTo_congr fun k hk => ?_
  unfold tmc
  rw [if_pos (by omega), if_pos (by omega)]
  have e : t - (t + 1 - 1 - k) = k := by omega
  rw [e, Int.mul_comm]
  rfl
theorem mulL_comm (c o : List Int) : mulL c o = mulL o c := by
  unfold mulL
  rw [Nat.add_comm c.length]
  refine List.map_congr_left fun t _ => sum_tmc_comm c o t
theorem mulL_length (c o : List Int) : (mulL c o).length = c.length + o.length - 1 := by
  unfold mulL
  rw [List.length_map, List.length_range]
theorem tmc_bd {m n : Nat} {c o : List Int} (hc : ∀ x ∈ c, Bd m x) (ho : ∀ x ∈ o, Bd n x) (t a : Nat) : Bd (m + n) (tmc c o t a) := by
  have g : ∀ {k : Nat} {l : List Int} (i : Nat), (∀ x ∈ l, Bd k x) → Bd k (l.getD i 0) := by
    intro k l i h
    by_cases hi : i < l.length
    · refine h _ ?_
      rw [List.getD_eq_getElem?_getD, List.getElem?_eq_getElem hi]
      exact List.getElem_mem hi
    · rw [getD_out' (by omega)]; exact Bd.zero _
  unfold tmc
  split
  · exact (g a hc).mul (g _ ho)
  · exact Bd.zero _
theorem sumTo_bd {f : Nat → Int} {m : Nat} (h : ∀ k, Bd m (f k)) : ∀ n : Nat, Bd (m + n) (sumTo f n)
  | 0 => Bd.zero _
  | n + 1 => by
    rw [sumTo_succ]
    exact Bd.add (sumTo_bd h n) ((h n).mono (Nat.le_add_right m n))
theorem mulL_bd {m n : Nat} {c o : List Int} (hc : ∀ x ∈ c, Bd m x) (ho : ∀ x ∈ o, Bd n x) : ∀ x ∈ mulL c o, Bd (m + n + c.length) x := by
  intro x hx
  obtain ⟨t, _, rfl⟩ := List.mem_map.mp hx
  exact sumTo_bd (tmc_bd hc ho t) _

noncomputable def slopeL (c : List Int) : List Int := (List.range (c.length - 1)).map fun (i : Nat) => (1 + (i : Int)) * c.getD (i + 1) 0
end Zf

namespace Zf

noncomputable def PS := Nat → Int
namespace PS
@[ext] theorem ext {f g : PS} (h : ∀ t, f t = g t) : f = g := funext h
noncomputable def conv (f g : PS) : PS := fun t => sumTo (fun a => f a * g (t - a)) (t + 1)
noncomputable def C (k : Int) : PS := fun t => if t = 0 then k else 0
noncomputable instance : Add PS := ⟨fun f g t => f t + g t⟩
noncomputable instance : Neg PS := ⟨fun f t => - f t⟩
noncomputable instance : Sub PS := ⟨fun f g t => f t - g t⟩
noncomputable instance : Mul PS := ⟨conv⟩
noncomputable instance : NatCast PS := ⟨fun n => C n⟩
noncomputable instance : IntCast PS := ⟨fun n => C n⟩
noncomputable instance (n : Nat) : OfNat PS n := ⟨C n⟩
noncomputable instance : SMul Nat PS := ⟨fun n f => (n : PS) * f⟩
noncomputable instance : SMul Int PS := ⟨fun n f => (n : PS) * f⟩
noncomputable def pw (f : PS) : Nat → PS
  | 0 => 1
  | n + 1 => pw f n * f
noncomputable instance : HPow PS Nat PS := ⟨pw⟩
theorem add_at (f g : PS) (t : Nat) : (f + g) t = f t + g t := rfl
theorem sub_at (f g : PS) (t : Nat) : (f - g) t = f t - g t := rfl
theorem neg_at (f : PS) (t : Nat) : (-f) t = - f t := rfl
theorem mul_at (f g : PS) (t : Nat) : (f * g) t = sumTo (fun a => f a * g (t - a)) (t + 1) := rfl
theorem ofNat_at (n t : Nat) : (OfNat.ofNat n : PS) t = if t = 0 then (n : Int) else 0 := rfl
theorem zero_at (t : Nat) : (0 : PS) t = 0 := by
  rw [ofNat_at]
  split <;> rfl
theorem C_mul (k : Int) (f : PS) (t : Nat) : (C k * f) t = k * f t := by
  rw [mul_at, sumTo_left, sumTo_zero]
  · show (if (0 : Nat) = 0 then k else 0) * f (t - 0) + 0 = k * f t
    rw [if_pos rfl, Nat.sub_zero, Int.add_zero]
  · intro i _
    show (if i + 1 = 0 then k else 0) * _ = 0
    rw [if_neg (by omega), Int.zero_mul]
theorem mul_comm (f g : PS) : f * g = g * f := by
  ext t
  rw [mul_at, mul_at, sumTo_rev]
  refine sumTo_congr fun k hk => ?_
  have e1 : t + 1 - 1 - k = t - k := by omega
  have e2 : t - (t - k) = k := by omega
  rw [e1, e2, Int.mul_comm]
theorem mul_add (f g h : PS) : f * (g + h) = f * g + f * h := by
  ext t
  rw [add_at, mul_at, mul_at, mul_at, ← sumTo_add]
  exact sumTo_congr fun k _ => Int.mul_add ..
theorem tri (G : Nat → Nat → Int) : ∀ n : Nat, sumTo (fun a => sumTo (fun b => G a b) (a + 1)) n = sumTo (fun b => sumTo (fun c => G (b + c) b) (n - b)) n
  | 0 => rfl
  | n + 1 => by
    rw [sumTo_succ, tri G n]
    have e : sumTo (fun b => sumTo (fun c => G (b + c) b) (n + 1 - b)) (n + 1) = sumTo (fun b => sumTo (fun c => G (b + c) b) (n - b) + G n b) (n + 1) := sumTo_congr fun b hb => by
      have e1 : n + 1 - b = (n - b) + 1 := by omega
      rw [e1, sumTo_succ]
      have e2 : b + (n - b) = n := by omega
      rw [e2]
    rw [e, sumTo_add, sumTo_succ (fun b => sumTo (fun c => G (b + c) b) (n - b)) n, Nat.sub_self]
    rw [show (sumTo (fun c => G (n + c) n) 0) = 0 from rfl, Int.add_zero]
theorem mul_assoc (f g h : PS) : f * g * h = f * (g * h) := by
  ext t
  rw [mul_at, mul_at]
  have e1 : sumTo (fun a => (f * g) a * h (t - a)) (t + 1) = sumTo (fun a => sumTo (fun b => f b * g (a - b) * h (t - a)) (a + 1)) (t + 1) := sumTo_congr fun a _ => by
    rw [mul_at, Int.mul_comm, ← sumTo_mul]
    exact sumTo_congr fun b _ => Int.mul_comm ..
  have e2 : sumTo (fun b => f b * (g * h) (t - b)) (t + 1) = sumTo (fun b => sumTo (fun c => f b * g (b + c - b) * h (t - (b + c))) (t + 1 - b)) (t + 1) := sumTo_congr fun b hb => by
    rw [mul_at, ← sumTo_mul]
    have e : t + 1 - b = t - b + 1 := by omega
    rw [e]
    refine sumTo_congr fun c hc => ?_
    have e3 : b + c - b = c := by omega
    have e4 : t - (b + c) = t - b - c := by omega
    rw [e3, e4, Int.mul_assoc]
  rw [e1, e2]
  exact tri (fun a b => f b * g (a - b) * h (t - a)) (t + 1)
theorem C_add (a b : Int) : C (a + b) = C a + C b := by
  ext t
  show (if t = 0 then a + b else 0) = (if t = 0 then a else 0) + (if t = 0 then b else 0)
  split <;> rfl
theorem C_neg (a : Int) : C (-a) = - C a := by
  ext t
  show (if t = 0 then -a else 0) = -(if t = 0 then a else 0)
  split <;> rfl
theorem CC (a b : Int) : C a * C b = C (a * b) := by
  ext t
  rw [C_mul]
  show a * (if t = 0 then b else 0) = (if t = 0 then a * b else 0)
  split
  · rfl
  · exact Int.mul_zero a
noncomputable instance : Lean.Grind.CommRing PS where
  add_zero f := by ext t; rw [add_at, zero_at, Int.add_zero]
  add_comm f g := by ext t; rw [add_at, add_at, Int.add_comm]
  add_assoc f g h := by ext t; simp only [add_at]; omega
  mul_assoc := mul_assoc
  mul_one f := by ext t; rw [mul_comm]; exact (C_mul 1 f t).trans (Int.one_mul _)
  left_distrib := mul_add
  zero_mul f := by ext t; rw [zero_at]; exact (C_mul 0 f t).trans (Int.zero_mul _)
  mul_comm := mul_comm
  one_mul f := by ext t; exact (C_mul 1 f t).trans (Int.one_mul _)
  right_distrib f g h := by rw [mul_comm, mul_add, mul_comm h, mul_comm h]
  mul_zero f := by ext t; rw [mul_comm, zero_at]; exact (C_mul 0 f t).trans (Int.zero_mul _)
  pow_zero f := rfl
  pow_succ f n := rfl
  ofNat_succ n := by
    show C ((n + 1 : Nat) : Int) = C (n : Int) + C 1
    rw [← C_add]
    rfl
  ofNat_eq_natCast n := rfl
  nsmul_eq_natCast_mul n f := rfl
  neg_add_cancel f := by ext t; rw [add_at, neg_at, zero_at]; omega
  sub_eq_add_neg f g := by ext t; rw [add_at, neg_at, sub_at]; omega
  neg_zsmul n f := by
    show C (-n) * f = -(C n * f)
    ext t
    rw [C_mul, neg_at, C_mul, Int.neg_mul]
  zsmul_natCast_eq_nsmul n f := rfl
  intCast_ofNat n := rfl
  intCast_neg n := C_neg n
example (f g : PS) : (f + g) * (f - g) = f * f - g * g := by grind
end PS
end Zf

namespace Zf
open PS

noncomputable def co (c : List Int) : PS := fun t => c.getD t 0
theorem co_at (c : List Int) (t : Nat) : co c t = c.getD t 0 := rfl
theorem co_out {c : List Int} {t : Nat} (h : c.length ≤ t) : co c t = 0 := getD_out' h
theorem co_mul (c o : List Int) : co (mulL c o) = co c * co o := by
  ext t
  rw [mul_at]
  have e : sumTo (fun a => co c a * co o (t - a)) (t + 1) = sumTo (tmc c o t) c.length := by
    rw [sum_tmc c o t (c.length + t + 1) (by omega) (by omega)]
    refine sumTo_congr fun a ha => ?_
    unfold tmc
    rw [if_pos (by omega)]
    rfl
  rw [e]
  unfold co mulL
  by_cases h : t < c.length + o.length - 1
  · rw [List.getD_eq_getElem?_getD, List.getElem?_map, List.getElem?_range h]
    rfl
  · rw [List.getD_eq_getElem?_getD, List.getElem?_eq_none (by simp; omega)]
    show (0 : Int) = _
    rw [sumTo_zero]
    intro a ha
    unfold tmc
    split
    · rw [getD_out' (c := o) (by omega), Int.mul_zero]
    · rfl

noncomputable def GoodL (c : List Int) : Prop := c ≠ [] → c.getD (c.length - 1) 0 ≠ 0
theorem co_inj {c o : List Int} (hc : GoodL c) (ho : GoodL o) (h : co c = co o) : c = o := by
  have key : ∀ {c o : List Int}, GoodL c → co c = co o → c.length ≤ o.length := by
    intro c o hc h
    rcases Nat.lt_or_ge o.length c.length with hl | hl
    · have hne : c ≠ [] := fun z => by rw [z] at hl; exact absurd hl (by simp)
      have := congrFun h (c.length - 1)
      rw [co_out (c := o) (by omega)] at this
      exact absurd this (hc hne)
    · exact hl
  have hl : c.length = o.length := Nat.le_antisymm (key hc h) (key ho h.symm)
  refine List.ext_getElem hl fun i h1 h2 => ?_
  have := congrFun h i
  unfold co at this
  simpa [List.getD_eq_getElem?_getD, h1, h2] using this

noncomputable def Dg (n : Nat) (f : PS) : Prop := ∀ t, n ≤ t → f t = 0
theorem Dg.mono {m n : Nat} {f : PS} (h : Dg m f) (l : m ≤ n) : Dg n f := fun t ht => h t (by omega)
theorem Dg.co (c : List Int) : Dg c.length (co c) := fun _ h => co_out h
theorem Dg.add {n : Nat} {f g : PS} (h : Dg n f) (k : Dg n g) : Dg n (f + g) := fun t ht => by rw [add_at, h t ht, k t ht]; rfl
theorem Dg.sub {n : Nat} {f g : PS} (h : Dg n f) (k : Dg n g) : Dg n (f - g) := fun t ht => by rw [sub_at, h t ht, k t ht]; rfl
theorem Dg.smul {n : Nat} {f : PS} (k : Int) (h : Dg n f) : Dg n (C k * f) := fun t ht => by rw [C_mul, h t ht, Int.mul_zero]
theorem Dg.C (k : Int) : Dg 1 (C k) := fun t ht => by
  show (if t = 0 then k else 0) = 0
  rw [if_neg (by omega)]
theorem Dg.mul {m n : Nat} {f g : PS} (h : Dg m f) (k : Dg n g) : Dg (m + n) (f * g) := fun t ht => by
  rw [mul_at]
  refine sumTo_zero fun a ha => ?_
  by_cases hm : m ≤ a
  · rw [h a hm, Int.zero_mul]
  · rw [k (t - a) (by omega), Int.mul_zero]

noncomputable def xp (k : Nat) : PS := fun t => if t = k then 1 else 0
theorem Dg.xp (k : Nat) : Dg (k + 1) (xp k) := fun t ht => by
  show (if t = k then (1 : Int) else 0) = 0
  rw [if_neg (by omega)]
theorem xp_mul (k : Nat) (f : PS) (t : Nat) : (xp k * f) t = if k ≤ t then f (t - k) else 0 := by
  rw [mul_at]
  by_cases h : k ≤ t
  · rw [if_pos h]
    have e1 : sumTo (fun a => xp k a * f (t - a)) (t + 1) = sumTo (fun a => xp k a * f (t - a)) (k + 1) := sumTo_ext (by omega) fun a h1 _ => by
      show (if a = k then (1 : Int) else 0) * _ = 0
      rw [if_neg (by omega), Int.zero_mul]
    rw [e1, sumTo_succ, sumTo_zero]
    · show 0 + (if k = k then (1 : Int) else 0) * _ = _
      rw [if_pos rfl, Int.zero_add, Int.one_mul]
    · intro a ha
      show (if a = k then (1 : Int) else 0) * _ = 0
      rw [if_neg (by omega), Int.zero_mul]
  · rw [if_neg h]
    refine sumTo_zero fun a ha => ?_
    show (if a = k then (1 : Int) else 0) * _ = 0
    rw [if_neg (by omega), Int.zero_mul]

theorem mul_top {m n : Nat} {f g : PS} (h : Dg (m + 1) f) (k : Dg (n + 1) g) : (f * g) (m + n) = f m * g n := by
  rw [mul_at]
  have e1 : sumTo (fun a => f a * g (m + n - a)) (m + n + 1) = sumTo (fun a => f a * g (m + n - a)) (m + 1) := sumTo_ext (by omega) fun a h1 _ => by
    rw [h a (by omega), Int.zero_mul]
  rw [e1, sumTo_succ, sumTo_zero]
  · rw [Int.zero_add, show m + n - m = n by omega]
  · intro a ha
    rw [k (m + n - a) (by omega), Int.mul_zero]

theorem top_of {n : Nat} {f : PS} (h : Dg n f) (hf : f ≠ 0) : ∃ m, Dg (m + 1) f ∧ f m ≠ 0 := by
  induction n with
  | zero =>
    refine absurd ?_ hf
    ext t
    rw [h t (Nat.zero_le t), zero_at]
  | succ n ih =>
    by_cases e : f n = 0
    · refine ih fun t ht => ?_
      by_cases ht' : t = n
      · rw [ht', e]
      · exact h t (by omega)
    · exact ⟨n, h, e⟩
theorem mul_ne {m n : Nat} {f g : PS} (h : Dg m f) (k : Dg n g) (hf : f ≠ 0) (hg : g ≠ 0) : f * g ≠ 0 := by
  obtain ⟨a, ha, fa⟩ := top_of h hf
  obtain ⟨b, hb, gb⟩ := top_of k hg
  intro z
  have := mul_top ha hb
  rw [z, zero_at] at this
  rcases Int.mul_eq_zero.mp this.symm with q | q
  · exact fa q
  · exact gb q

theorem small_mul {d n : Nat} {q g : PS} (hq : Dg d q) (hg : Dg (n + 1) g) (hn : g n ≠ 0) (hs : Dg n (q * g)) : q = 0 := by
  apply Classical.byContradiction
  intro hq0
  obtain ⟨a, ha, qa⟩ := top_of hq hq0
  have := mul_top ha hg
  rw [hs (a + n) (by omega)] at this
  rcases Int.mul_eq_zero.mp this.symm with z | z
  · exact qa z
  · exact hn z

theorem plain_at (c : List Int) (i : Nat) : (plainL c).getD i 0 = c.getD i 0 / ct c := by
  unfold plainL
  by_cases h : i < c.length
  · simp [List.getD_eq_getElem?_getD, h]
  · rw [getD_out' (by simp; omega), getD_out' (by omega), Int.zero_ediv]
theorem plain_length (c : List Int) : (plainL c).length = c.length := by simp [plainL]
theorem getD_dvd {k : Int} {c : List Int} (h : ∀ x ∈ c, k ∣ x) (i : Nat) : k ∣ c.getD i 0 := by
  by_cases hi : i < c.length
  · refine h _ ?_
    rw [List.getD_eq_getElem?_getD, List.getElem?_eq_getElem hi]
    exact List.getElem_mem hi
  · rw [getD_out' (by omega)]; exact Int.dvd_zero _
theorem plain_mul (c : List Int) : C (ct c) * co (plainL c) = co c := by
  ext t
  rw [C_mul, co_at, plain_at]
  exact Int.mul_ediv_cancel' (getD_dvd (ct_dvd c) t)
theorem ct_ne_zero {c : List Int} (h : GoodL c) (hne : c ≠ []) : 0 < ct c := by
  have hl : c.length - 1 < c.length := by have := List.length_pos_iff.mpr hne; omega
  refine ct_pos (x := c.getD (c.length - 1) 0) ?_ (h hne)
  rw [List.getD_eq_getElem?_getD, List.getElem?_eq_getElem hl]
  exact List.getElem_mem hl
theorem plain_good {c : List Int} (h : GoodL c) : GoodL (plainL c) := by
  intro hne
  have hc : c ≠ [] := fun z => hne (by rw [z]; rfl)
  rw [plain_length, plain_at]
  intro z
  have h1 := Int.mul_ediv_cancel' (getD_dvd (ct_dvd c) (c.length - 1))
  rw [z, Int.mul_zero] at h1
  exact h hc h1.symm

theorem plain_eq {a b : Int} {r s : List Int} (ha : 0 < a) (hb : 0 < b) (hr : GoodL r) (hs : GoodL s) (h : C b * co r = C a * co s) : plainL r = plainL s := by
  have hat : ∀ t, b * r.getD t 0 = a * s.getD t 0 := fun t => by
    have := congrFun h t
    rw [C_mul, C_mul] at this
    exact this
  have hl : r.length = s.length := by
    have key : ∀ {r s : List Int} {a b : Int}, 0 < b → GoodL r → (∀ t, b * r.getD t 0 = a * s.getD t 0) → r.length ≤ s.length := by
      intro r s a b hb hr hat
      rcases Nat.lt_or_ge s.length r.length with hl | hl
      · have hne : r ≠ [] := fun z => by rw [z] at hl; exact absurd hl (by simp)
        have := hat (r.length - 1)
        rw [getD_out' (c := s) (by omega), Int.mul_zero] at this
        rcases Int.mul_eq_zero.mp this with z | z
        · omega
        · exact absurd z (hr hne)
      · exact hl
    exact Nat.le_antisymm (key hb hr hat) (key ha hs fun t => (hat t).symm)
  by_cases hne : r = []
  · subst hne
    have : s = [] := List.eq_nil_of_length_eq_zero (by rw [← hl]; rfl)
    rw [this]
  have hne2 : s ≠ [] := fun z => hne (List.eq_nil_of_length_eq_zero (by rw [hl, z]; rfl))
  have c1 := ct_ne_zero hr hne
  have c2 := ct_ne_zero hs hne2

  have key2 : ∀ {r s : List Int} {a b : Int}, 0 < a → (∀ t, b * r.getD t 0 = a * s.getD t 0) → r.length = s.length → a * ct s ∣ b * ct r ∨ True := fun _ _ _ => .inr trivial
  have dv : ∀ {r s : List Int} {a b : Int}, 0 < a → 0 < b → (∀ t, b * r.getD t 0 = a * s.getD t 0) → 0 < ct s → b * ct r ∣ a * ct s := by
    intro r s a b ha hb hat hc

    have h1 : ∀ t, b * ct r ∣ a * s.getD t 0 := fun t => by
      rw [← hat t]
      exact Int.mul_dvd_mul_left _ (getD_dvd (ct_dvd r) t)
    have h2 : ct (s.map (a * ·)) = a * ct s := by
      have nn : ∀ s : List Int, ct (s.map (a * ·)) = a * ct s := by
        intro s
        refine snoc_ind (p := fun s => ct (s.map (a * ·)) = a * ct s) ?_ (fun c x ih => ?_) s
        · show (0 : Int) = a * 0
          rw [Int.mul_zero]
        · show ct ((c ++ [x]).map (a * ·)) = a * ct (c ++ [x])
          rw [List.map_append, List.map_singleton, ct_snoc, ct_snoc, ih, Int.gcd_mul_left]
          rw [Int.natCast_mul, Int.natAbs_of_nonneg (by omega)]
      exact nn s
    rw [← h2]
    refine dvd_ct _ fun x hx => ?_
    obtain ⟨y, hy, rfl⟩ := List.mem_map.mp hx
    obtain ⟨i, hi, rfl⟩ := List.mem_iff_getElem.mp hy
    have := h1 i
    simpa [List.getD_eq_getElem?_getD, hi] using this
  have d1 := dv ha hb hat c2
  have d2 := dv hb ha (fun t => (hat t).symm) c1
  have e : b * ct r = a * ct s := Int.dvd_antisymm (by have := Int.mul_pos hb c1; omega) (by have := Int.mul_pos ha c2; omega) d1 d2
  refine List.ext_getElem (by rw [plain_length, plain_length, hl]) fun i h1 h2 => ?_
  have g1 : (plainL r)[i] = (plainL r).getD i 0 := by simp [List.getD_eq_getElem?_getD, h1]
  have g2 : (plainL s)[i] = (plainL s).getD i 0 := by simp [List.getD_eq_getElem?_getD, h2]
  rw [g1, g2, plain_at, plain_at]
  have x1 := Int.mul_ediv_cancel' (getD_dvd (ct_dvd r) i)
  have x2 := Int.mul_ediv_cancel' (getD_dvd (ct_dvd s) i)
  have x3 := hat i
  rw [← x1, ← x2, ← Int.mul_assoc, ← Int.mul_assoc, e] at x3
  exact Int.eq_of_mul_eq_mul_left (by have := Int.mul_pos ha c2; omega) x3

noncomputable def Left (f g r : List Int) : Prop := GoodL r ∧ r.length < g.length ∧ ∃ (a : Int) (d : Nat) (q : PS), 0 < a ∧ Dg d q ∧ C a * co f = q * co g + co r
theorem left_one {f g r s : List Int} (hg : GoodL g) (hr : Left f g r) (hs : Left f g s) : plainL r = plainL s := by
  obtain ⟨r1, r2, a, d, q, ha, hq, e1⟩ := hr
  obtain ⟨s1, s2, b, d', q', hb, hq', e2⟩ := hs
  have hne : g ≠ [] := fun z => by rw [z] at r2; exact absurd r2 (by simp)
  have key : (C b * q - C a * q') * co g = C a * co s - C b * co r := by
    have x1 : C b * (C a * co f) = C b * (q * co g + co r) := by rw [e1]
    have x2 : C a * (C b * co f) = C a * (q' * co g + co s) := by rw [e2]
    grind
  have hd : Dg (d + d') (C b * q - C a * q') := Dg.sub ((hq.smul b).mono (by omega)) ((hq'.smul a).mono (by omega))
  have hgl : g.length - 1 + 1 = g.length := by have := List.length_pos_iff.mpr hne; omega
  have z := small_mul (n := g.length - 1) hd (by rw [hgl]; exact Dg.co g) (hg hne) (by
    rw [key]
    exact Dg.sub (((Dg.co s).mono (by omega)).smul a) (((Dg.co r).mono (by omega)).smul b))
  rw [z] at key
  refine plain_eq ha hb r1 s1 ?_
  grind
end Zf

namespace Zf
open PS

noncomputable def offL (num o : List Int) (k : Int) (s j : Nat) : List Int := (List.range num.length).map fun t => num.getD t 0 - (if s ≤ t ∧ t - s < j then k * o.getD (t - s) 0 else 0)
theorem off_zero (num o : List Int) (k : Int) (s : Nat) : offL num o k s 0 = num := by
  refine List.ext_getElem (by simp [offL]) fun t h1 h2 => ?_
  simp only [offL, List.getElem_map, List.getElem_range]
  rw [if_neg (by omega), Int.sub_zero]
  simp [List.getD_eq_getElem?_getD, h2]
theorem off_length (num o : List Int) (k : Int) (s j : Nat) : (offL num o k s j).length = num.length := by simp [offL]
theorem off_at (num o : List Int) (k : Int) (s j t : Nat) (h : t < num.length) : (offL num o k s j).getD t 0 = num.getD t 0 - (if s ≤ t ∧ t - s < j then k * o.getD (t - s) 0 else 0) := by
  simp [offL, List.getD_eq_getElem?_getD, h]
theorem off_step (num o : List Int) (k : Int) (s j : Nat) (h : s + j < num.length) : (offL num o k s j).set (s + j) ((offL num o k s j).getD (s + j) 0 - k * o.getD j 0) = offL num o k s (j + 1) := by
  rw [off_at _ _ _ _ _ _ h, if_neg (by omega), Int.sub_zero]
  refine List.ext_getElem (by simp [offL]) fun t h1 h2 => ?_
  rw [List.getElem_set]
  simp only [offL, List.getElem_map, List.getElem_range]
  by_cases e : s + j = t
  · subst e
    rw [if_pos rfl, if_pos (by omega), show s + j - s = j by omega]
  · rw [if_neg e]
    congr 1
    by_cases hc : s ≤ t ∧ t - s < j
    · rw [if_pos hc, if_pos (by omega)]
    · rw [if_neg hc, if_neg (by omega)]
theorem off_co (num o : List Int) (k : Int) (s : Nat) (h : s + o.length ≤ num.length) : co (offL num o k s o.length) = co num - C k * (xp s * co o) := by
  ext t
  rw [sub_at, C_mul, xp_mul]
  by_cases ht : t < num.length
  · show (offL num o k s o.length).getD t 0 = num.getD t 0 - _
    rw [off_at _ _ _ _ _ _ ht]
    congr 1
    by_cases hs : s ≤ t
    · rw [if_pos hs]
      by_cases h2 : t - s < o.length
      · rw [if_pos ⟨hs, h2⟩]
        rfl
      · rw [if_neg (fun z => h2 z.2), co_out (by omega), Int.mul_zero]
    · rw [if_neg hs, if_neg (fun z => hs z.1), Int.mul_zero]
  · rw [co_out (by rw [off_length]; omega), co_out (by omega)]
    by_cases hs : s ≤ t
    · rw [if_pos hs, co_out (by omega), Int.mul_zero]
      rfl
    · rw [if_neg hs, Int.mul_zero]
      rfl
theorem getD_bd {n : Nat} {c : List Int} (h : ∀ x ∈ c, Bd n x) (i : Nat) : Bd n (c.getD i 0) := by
  by_cases hi : i < c.length
  · refine h _ ?_
    rw [List.getD_eq_getElem?_getD, List.getElem?_eq_getElem hi]
    exact List.getElem_mem hi
  · rw [getD_out' (by omega)]; exact Bd.zero _
theorem off_bd {m n p : Nat} {num o : List Int} {k : Int} (hn : ∀ x ∈ num, Bd p x) (ho : ∀ x ∈ o, Bd n x) (hk : Bd m k) (hp : m + n ≤ p) (s j : Nat) : ∀ x ∈ offL num o k s j, Bd (p + 1) x := by
  intro x hx
  obtain ⟨t, _, rfl⟩ := List.mem_map.mp hx
  refine Bd.sub (getD_bd hn t) ?_
  split
  · exact (hk.mul (getD_bd ho _)).mono hp
  · exact Bd.zero _

noncomputable def Trim (xs : List Int) (e : Nat) : Prop := e ≤ xs.length ∧ (∀ t, e ≤ t → xs.getD t 0 = 0) ∧ (e ≠ 0 → xs.getD (e - 1) 0 ≠ 0)
theorem take_getD (xs : List Int) (e t : Nat) : (xs.take e).getD t 0 = if t < e then xs.getD t 0 else 0 := by
  by_cases h : t < e
  · rw [if_pos h, List.getD_eq_getElem?_getD, List.getD_eq_getElem?_getD, List.getElem?_take_of_lt h]
  · rw [if_neg h, getD_out' (by rw [List.length_take]; omega)]
theorem Trim.co {xs : List Int} {e : Nat} (h : Trim xs e) : co (xs.take e) = co xs := by
  ext t
  show (xs.take e).getD t 0 = xs.getD t 0
  rw [take_getD]
  by_cases ht : t < e
  · rw [if_pos ht]
  · rw [if_neg ht, h.2.1 t (by omega)]
theorem Trim.length {xs : List Int} {e : Nat} (h : Trim xs e) : (xs.take e).length = e := by rw [List.length_take]; have := h.1; omega
theorem Trim.good {xs : List Int} {e : Nat} (h : Trim xs e) : GoodL (xs.take e) := by
  intro hne
  have he : e ≠ 0 := fun z => hne (by rw [z]; rfl)
  rw [h.length, take_getD, if_pos (by omega)]
  exact h.2.2 he

theorem left_step {f g r : List Int} {e : Nat} {l k : Int} {q : PS} {a : Int} {d : Nat} (ha : 0 < a) (hl : 0 < l) (hq : Dg d q) (he : C a * co f = q * co g + co r) (hgr : g.length ≤ r.length)
    (ht : Trim (offL (r.map (l * ·)) g k (r.length - g.length) g.length) e) :
    ∃ (a' : Int) (d' : Nat) (q' : PS), 0 < a' ∧ Dg d' q' ∧ C a' * co f = q' * co g + co ((offL (r.map (l * ·)) g k (r.length - g.length) g.length).take e) := by
  refine ⟨l * a, d + (r.length - g.length + 1), C l * q + C k * xp (r.length - g.length), Int.mul_pos hl ha, Dg.add ((hq.smul l).mono (by omega)) (((Dg.xp _).smul k).mono (by omega)), ?_⟩
  rw [ht.co, off_co _ _ _ _ (by rw [List.length_map]; omega)]
  have e1 : co (r.map (l * ·)) = C l * co r := by
    ext t
    rw [C_mul]
    show (r.map (l * ·)).getD t 0 = l * r.getD t 0
    by_cases h : t < r.length
    · simp [List.getD_eq_getElem?_getD, h]
    · rw [getD_out' (by simp; omega), getD_out' (by omega), Int.mul_zero]
  rw [e1, ← CC]
  have x1 : C l * (C a * co f) = C l * (q * co g + co r) := by rw [he]
  grind
end Zf

namespace Zf
open PS
end Zf

namespace Zf
open PS

noncomputable def Po (f : PS) : Prop := ∃ n, Dg n f
theorem Po.co (c : List Int) : Po (co c) := ⟨_, Dg.co c⟩
theorem Po.add {f g : PS} (h : Po f) (k : Po g) : Po (f + g) := let ⟨m, a⟩ := h; let ⟨n, b⟩ := k; ⟨m + n, Dg.add (a.mono (by omega)) (b.mono (by omega))⟩
theorem Po.sub {f g : PS} (h : Po f) (k : Po g) : Po (f - g) := let ⟨m, a⟩ := h; let ⟨n, b⟩ := k; ⟨m + n, Dg.sub (a.mono (by omega)) (b.mono (by omega))⟩
theorem Po.mul {f g : PS} (h : Po f) (k : Po g) : Po (f * g) := let ⟨_, a⟩ := h; let ⟨_, b⟩ := k; ⟨_, Dg.mul a b⟩
theorem Po.C (k : Int) : Po (C k) := ⟨1, Dg.C k⟩
theorem Po.zero : Po 0 := ⟨0, fun t _ => zero_at t⟩
theorem Po.one : Po 1 := Po.C 1
theorem Po.pow {f : PS} (h : Po f) : ∀ n : Nat, Po (f ^ n)
  | 0 => Po.one
  | n + 1 => by
    have e : f ^ (n + 1) = f ^ n * f := rfl
    rw [e]
    exact (Po.pow h n).mul h
theorem Po.xp (k : Nat) : Po (xp k) := ⟨_, Dg.xp k⟩
theorem C_ne {a : Int} (h : a ≠ 0) : C a ≠ 0 := fun z => by
  have := congrFun z 0
  rw [zero_at] at this
  exact h this
theorem po_mul_ne {f g : PS} (h : Po f) (k : Po g) (hf : f ≠ 0) (hg : g ≠ 0) : f * g ≠ 0 := let ⟨_, a⟩ := h; let ⟨_, b⟩ := k; mul_ne a b hf hg

noncomputable def Dv (d f : PS) : Prop := ∃ (a : Int) (q : PS), a ≠ 0 ∧ Po q ∧ C a * f = q * d

noncomputable def Bz (g f h : PS) : Prop := ∃ (a : Int) (u v : PS), a ≠ 0 ∧ Po u ∧ Po v ∧ C a * g = u * f + v * h
noncomputable def IsG (g f h : PS) : Prop := Dv g f ∧ Dv g h ∧ Bz g f h
theorem IsG.self (g : PS) : IsG g g 0 := ⟨⟨1, 1, by decide, Po.one, by rw [show C 1 = (1 : PS) from rfl]⟩, ⟨1, 0, by decide, Po.zero, by grind⟩, ⟨1, 1, 0, by decide, Po.one, Po.zero, by rw [show C 1 = (1 : PS) from rfl]; grind⟩⟩
theorem IsG.symm {g f h : PS} (x : IsG g f h) : IsG g h f := ⟨x.2.1, x.1, let ⟨a, u, v, h1, h2, h3, e⟩ := x.2.2; ⟨a, v, u, h1, h3, h2, by rw [e]; grind⟩⟩

theorem IsG.step {g x y r q : PS} {a k : Int} (ha : a ≠ 0) (hk : k ≠ 0) (hq : Po q) (e : C a * x = q * y + C k * r) (h : IsG g y r) : IsG g x y := by
  obtain ⟨⟨b, s, hb, hs, e1⟩, ⟨c, t, hc, ht, e2⟩, ⟨d, u, v, hd, hu, hv, e3⟩⟩ := h
  refine ⟨⟨b * c * a, C c * q * s + C b * C k * t, Int.mul_ne_zero (Int.mul_ne_zero hb hc) ha, ((Po.C c).mul hq |>.mul hs).add (((Po.C b).mul (Po.C k)).mul ht), ?_⟩, ⟨b, s, hb, hs, e1⟩, ⟨d * k, C a * v, C k * u - q * v, Int.mul_ne_zero hd hk, (Po.C a).mul hv, ((Po.C k).mul hu).sub (hq.mul hv), ?_⟩⟩
  · rw [← CC, ← CC]
    have x1 : C b * C c * (C a * x) = C b * C c * (q * y + C k * r) := by rw [e]
    have x2 : C c * q * (C b * y) = C c * q * (s * g) := by rw [e1]
    have x3 : C b * C k * (C c * r) = C b * C k * (t * g) := by rw [e2]
    grind
  · rw [← CC]
    have x1 : C k * (C d * g) = C k * (u * y + v * r) := by rw [e3]
    have x2 : v * (C a * x) = v * (q * y + C k * r) := by rw [e]
    grind
theorem IsG.scale {g g' f h : PS} {a b : Int} (ha : a ≠ 0) (hb : b ≠ 0) (e : C a * g' = C b * g) (x : IsG g f h) : IsG g' f h := by
  obtain ⟨⟨c, s, hc, hs, e1⟩, ⟨d, t, hd, ht, e2⟩, ⟨k, u, v, hk, hu, hv, e3⟩⟩ := x
  refine ⟨⟨b * c, C a * s, Int.mul_ne_zero hb hc, (Po.C a).mul hs, ?_⟩, ⟨b * d, C a * t, Int.mul_ne_zero hb hd, (Po.C a).mul ht, ?_⟩, ⟨k * a, C b * u, C b * v, Int.mul_ne_zero hk ha, (Po.C b).mul hu, (Po.C b).mul hv, ?_⟩⟩
  · rw [← CC]
    have x1 : C b * (C c * f) = C b * (s * g) := by rw [e1]
    have x2 : s * (C a * g') = s * (C b * g) := by rw [e]
    grind
  · rw [← CC]
    have x1 : C b * (C d * h) = C b * (t * g) := by rw [e2]
    have x2 : t * (C a * g') = t * (C b * g) := by rw [e]
    grind
  · rw [← CC]
    have x1 : C b * (C k * g) = C b * (u * f + v * h) := by rw [e3]
    have x2 : C k * (C a * g') = C k * (C b * g) := by rw [e]
    grind
theorem Dv.of_bz {d g f h : PS} (x : Bz g f h) (hf : Dv d f) (hh : Dv d h) : Dv d g := by
  obtain ⟨a, u, v, ha, hu, hv, e⟩ := x
  obtain ⟨b, s, hb, hs, e1⟩ := hf
  obtain ⟨c, t, hc, ht, e2⟩ := hh
  refine ⟨b * c * a, C c * u * s + C b * v * t, Int.mul_ne_zero (Int.mul_ne_zero hb hc) ha, (((Po.C c).mul hu).mul hs).add (((Po.C b).mul hv).mul ht), ?_⟩
  rw [← CC, ← CC]
  have x1 : C b * C c * (C a * g) = C b * C c * (u * f + v * h) := by rw [e]
  have x2 : C c * u * (C b * f) = C c * u * (s * d) := by rw [e1]
  have x3 : C b * v * (C c * h) = C b * v * (t * d) := by rw [e2]
  grind

theorem const_of {p q : PS} {k : Int} (hp : Po p) (hq : Po q) (hk : k ≠ 0) (e : q * p = C k) : q = C (q 0) ∧ q 0 ≠ 0 := by
  have q0 : q ≠ 0 := fun z => by rw [z] at e; exact C_ne hk (by rw [← e]; grind)
  have p0 : p ≠ 0 := fun z => by rw [z] at e; exact C_ne hk (by rw [← e]; grind)
  obtain ⟨_, hq'⟩ := hq
  obtain ⟨_, hp'⟩ := hp
  obtain ⟨m, hm, qm⟩ := top_of hq' q0
  obtain ⟨n, hn, pn⟩ := top_of hp' p0
  have t := mul_top hm hn
  rw [e] at t
  have m0 : m = 0 := by
    apply Classical.byContradiction
    intro hm0
    have : (C k) (m + n) = 0 := by
      show (if m + n = 0 then k else 0) = 0
      rw [if_neg (by omega)]
    rw [this] at t
    exact absurd t.symm (Int.mul_ne_zero qm pn)
  subst m0
  refine ⟨?_, qm⟩
  ext t
  show q t = if t = 0 then q 0 else 0
  by_cases ht : t = 0
  · rw [if_pos ht, ht]
  · rw [if_neg ht]
    exact hm t (by omega)
theorem cancel {f g h : PS} (hf : Po f) (hg : Po g) (hh : Po h) (h0 : h ≠ 0) (e : f * h = g * h) : f = g := by
  have e2 : (f - g) * h = 0 := by grind
  apply Classical.byContradiction
  intro hne
  have : f - g ≠ 0 := fun z => hne (by
    have : f = (f - g) + g := by grind
    rw [this, z]
    grind)
  exact po_mul_ne (hf.sub hg) hh this h0 e2

theorem IsG.one {g g' f h : PS} (hg : Po g) (hg0 : g ≠ 0) (x : IsG g f h) (y : IsG g' f h) : ∃ a b : Int, a ≠ 0 ∧ b ≠ 0 ∧ C a * g = C b * g' := by
  obtain ⟨a, q, ha, hq, e1⟩ := Dv.of_bz x.2.2 y.1 y.2.1
  obtain ⟨b, p, hb, hp, e2⟩ := Dv.of_bz y.2.2 x.1 x.2.1
  have e3 : (q * p) * g = C (a * b) * g := by
    rw [← CC]
    have x1 : C b * (C a * g) = C b * (q * g') := by rw [e1]
    have x2 : q * (C b * g') = q * (p * g) := by rw [e2]
    grind
  have e4 := cancel (hq.mul hp) (Po.C _) hg hg0 e3
  obtain ⟨e5, q0⟩ := const_of hp hq (Int.mul_ne_zero ha hb) e4
  exact ⟨a, q 0, ha, q0, by rw [e1, ← e5]⟩
theorem co_ne {c : List Int} (h : GoodL c) (hne : c ≠ []) : co c ≠ 0 := fun z => h hne (by
  have := congrFun z (c.length - 1)
  rw [zero_at] at this
  exact this)
theorem plain_self {c : List Int} (h : ct c = 1) : plainL c = c := by
  unfold plainL
  rw [h]
  simp
theorem shared_one {s d : List Int} {f h : PS} (hs : GoodL s) (hd : GoodL d) (hs0 : s ≠ []) (hd0 : d ≠ []) (cs : ct s = 1) (cd : ct d = 1) (ls : 0 < s.getD (s.length - 1) 0) (ld : 0 < d.getD (d.length - 1) 0) (x : IsG (co s) f h) (y : IsG (co d) f h) : s = d := by
  obtain ⟨a, b, ha, hb, e⟩ := IsG.one (Po.co s) (co_ne hs hs0) x y
  have hat : ∀ t, a * s.getD t 0 = b * d.getD t 0 := fun t => by
    have := congrFun e t
    rw [C_mul, C_mul] at this
    exact this

  have len : ∀ {s d : List Int} {a b : Int}, a ≠ 0 → GoodL s → s ≠ [] → (∀ t, a * s.getD t 0 = b * d.getD t 0) → s.length ≤ d.length := by
    intro s d a b ha hs hne hat
    rcases Nat.lt_or_ge d.length s.length with hl | hl
    · have := hat (s.length - 1)
      rw [getD_out' (c := d) (by omega), Int.mul_zero] at this
      rcases Int.mul_eq_zero.mp this with z | z
      · exact absurd z ha
      · exact absurd z (hs hne)
    · exact hl
  have hl : s.length = d.length := Nat.le_antisymm (len ha hs hs0 hat) (len hb hd hd0 fun t => (hat t).symm)
  have top := hat (s.length - 1)
  rw [hl] at top ls

  have pos : ∀ {a b : Int}, 0 < a → 0 < b → C a * co s = C b * co d → s = d := by
    intro a b ha hb e
    have := plain_eq (a := b) (b := a) hb ha hs hd e
    rw [plain_self cs, plain_self cd] at this
    exact this
  rcases Int.lt_or_gt_of_ne ha with ha' | ha'
  · have hb' : b < 0 := by
      rcases Int.lt_or_gt_of_ne hb with z | z
      · exact z
      · exact absurd top (by
          have h1 := Int.mul_neg_of_neg_of_pos ha' ls
          have h2 := Int.mul_pos z ld
          omega)
    refine pos (a := -a) (b := -b) (by omega) (by omega) ?_
    rw [C_neg, C_neg]
    grind
  · have hb' : 0 < b := by
      rcases Int.lt_or_gt_of_ne hb with z | z
      · exact absurd top (by
          have h1 := Int.mul_pos ha' ls
          have h2 := Int.mul_neg_of_neg_of_pos z ld
          omega)
      · exact z
    exact pos ha' hb' e
theorem ct_plain {c : List Int} (h : GoodL c) (hne : c ≠ []) : ct (plainL c) = 1 := by
  have c0 := ct_ne_zero h hne
  have h1 : ct c * ct (plainL c) ∣ ct c := by
    refine dvd_ct _ fun x hx => ?_
    obtain ⟨i, hi, rfl⟩ := List.mem_iff_getElem.mp hx
    have e : ct c * (plainL c).getD i 0 = c.getD i 0 := by rw [plain_at]; exact Int.mul_ediv_cancel' (getD_dvd (ct_dvd c) i)
    have g : c.getD i 0 = c[i] := by simp [List.getD_eq_getElem?_getD, hi]
    rw [← g, ← e]
    exact Int.mul_dvd_mul_left _ (getD_dvd (ct_dvd _) i)
  have h2 := ct_nonneg (plainL c)
  obtain ⟨k, hk⟩ := h1
  have : ct (plainL c) * k = 1 := by
    have h3 : ct c * (ct (plainL c) * k) = ct c * 1 := by rw [← Int.mul_assoc, ← hk, Int.mul_one]
    exact Int.eq_of_mul_eq_mul_left (by omega) h3
  have h5 : ct (plainL c) ∣ 1 := ⟨k, this.symm⟩
  have h6 := Int.le_of_dvd (by decide) h5
  have h7 : ct (plainL c) ≠ 0 := fun z => by rw [z, Int.zero_mul] at this; exact absurd this (by decide)
  omega

noncomputable def Cop (f g : PS) : Prop := ∃ (a : Int) (u v : PS), a ≠ 0 ∧ Po u ∧ Po v ∧ C a = u * f + v * g
theorem Cop.symm {f g : PS} (h : Cop f g) : Cop g f := let ⟨a, u, v, h1, h2, h3, e⟩ := h; ⟨a, v, u, h1, h3, h2, by rw [e]; grind⟩
theorem Cop.one (g : PS) : Cop 1 g := ⟨1, 1, 0, by decide, Po.one, Po.zero, by rw [show C 1 = (1 : PS) from rfl]; grind⟩
theorem Cop.mul {f g h : PS} (hf : Po f) (hg : Po g) (hh : Po h) (x : Cop f h) (y : Cop g h) : Cop (f * g) h := by
  obtain ⟨a, u, v, ha, hu, hv, e⟩ := x
  obtain ⟨b, s, t, hb, hs, ht, e2⟩ := y
  refine ⟨a * b, u * s, u * f * t + v * s * g + v * t * h, Int.mul_ne_zero ha hb, hu.mul hs, (((hu.mul hf).mul ht).add ((hv.mul hs).mul hg)).add ((hv.mul ht).mul hh), ?_⟩
  rw [← CC, e, e2]
  grind

theorem IsG.of_cop {c f g : PS} {a b : Int} (ha : a ≠ 0) (hb : b ≠ 0) (hf : Po f) (hg : Po g) (x : Cop f g) : IsG c (C a * (c * f)) (C b * (c * g)) := by
  obtain ⟨k, u, v, hk, hu, hv, e⟩ := x
  refine ⟨⟨1, C a * f, by decide, (Po.C a).mul hf, by rw [show C 1 = (1 : PS) from rfl]; grind⟩, ⟨1, C b * g, by decide, (Po.C b).mul hg, by rw [show C 1 = (1 : PS) from rfl]; grind⟩, ⟨a * b * k, C b * u, C a * v, Int.mul_ne_zero (Int.mul_ne_zero ha hb) hk, (Po.C b).mul hu, (Po.C a).mul hv, ?_⟩⟩
  rw [← CC, ← CC]
  have x1 : C a * C b * c * C k = C a * C b * c * (u * f + v * g) := by rw [e]
  grind

theorem pow_add (f : PS) (m n : Nat) : f ^ (m + n) = f ^ m * f ^ n := by
  induction n with
  | zero =>
    show f ^ m = f ^ m * 1
    grind
  | succ n ih =>
    have e1 : f ^ (m + (n + 1)) = f ^ (m + n) * f := rfl
    have e2 : f ^ (n + 1) = f ^ n * f := rfl
    rw [e1, e2, ih]
    grind
end Zf

namespace Zf
open PS

noncomputable def X1 : PS := xp 1
theorem co_cons (b : Int) (l : List Int) : co (b :: l) = C b + X1 * co l := by
  ext t
  rw [add_at]
  show (b :: l).getD t 0 = (if t = 0 then b else 0) + (xp 1 * co l) t
  rw [xp_mul]
  cases t with
  | zero => rw [if_pos rfl, if_neg (by decide)]; simp
  | succ t =>
    rw [if_neg (by omega), if_pos (by omega)]
    show l.getD t 0 = 0 + l.getD (t + 1 - 1) 0
    rw [Int.zero_add]
    rfl
theorem co_nil : co [] = 0 := by
  ext t
  rw [zero_at]
  rfl
theorem C_sub (a b : Int) : C (a - b) = C a - C b := by
  rw [Int.sub_eq_add_neg, C_add, C_neg]
  grind
noncomputable def QL : List (Int × Int) := [(-2, 0), (-3, 0), (-5, 0), (-7, 0), (-8, 0), (1, -1), (1, 0), (1, 1), (2, -1), (2, 0), (2, 1), (3, -1), (3, 0), (3, 1)]
noncomputable def Lin (b a : Int) : Prop := a = 1 ∨ (a = 2 ∧ b % 2 = 1) ∨ (a = 3 ∧ b % 3 ≠ 0)
noncomputable def Fac (f : List Int) : Prop := (∃ b a : Int, f = [b, a] ∧ Lin b a ∧ b.natAbs ≤ 1000) ∨ (∃ p ∈ QL, f = [p.1, p.2, 1])
theorem cop_lin {a b c d : Int} (h : b * c - a * d ≠ 0) : Cop (co [b, a]) (co [d, c]) := by
  refine ⟨b * c - a * d, C c, C (-a), h, Po.C _, Po.C _, ?_⟩
  rw [C_sub, ← CC, ← CC, C_neg, co_cons, co_cons, co_cons, co_cons, co_nil]
  grind
theorem cop_linquad {a b q p : Int} (h : a * a * q - b * (a * p - b) ≠ 0) : Cop (co [b, a]) (co [q, p, 1]) := by
  refine ⟨a * a * q - b * (a * p - b), C (-a) * X1 + C (b - a * p), C (a * a), h, ((Po.C _).mul (Po.xp 1)).add (Po.C _), Po.C _, ?_⟩
  rw [C_sub, ← CC, ← CC, ← CC, C_sub, C_sub, ← CC, C_neg, co_cons, co_cons, co_cons, co_cons, co_cons, co_nil, show C 1 = (1 : PS) from rfl]
  grind
theorem cop_quads {q p r s : Int} (h : (p - s) * (p - s) * r - (q - r) * ((p - s) * s - (q - r)) ≠ 0) : Cop (co [q, p, 1]) (co [r, s, 1]) := by
  refine ⟨(p - s) * (p - s) * r - (q - r) * ((p - s) * s - (q - r)), C (-(p - s)) * X1 + C ((q - r) - (p - s) * s), C ((p - s) * (p - s)) + (C (p - s) * X1 + C ((p - s) * s - (q - r))), h, ((Po.C _).mul (Po.xp 1)).add (Po.C _), (Po.C _).add (((Po.C _).mul (Po.xp 1)).add (Po.C _)), ?_⟩
  simp only [C_sub, ← CC, C_neg, co_cons, co_nil, show C 1 = (1 : PS) from rfl]
  grind
theorem quads_apart : ∀ x ∈ QL, ∀ y ∈ QL, x ≠ y → (x.2 - y.2) * (x.2 - y.2) * y.1 - (x.1 - y.1) * ((x.2 - y.2) * y.2 - (x.1 - y.1)) ≠ 0 := by decide +kernel
theorem small_apart : ∀ n : _root_.Fin 201, ∀ x ∈ QL, ∀ a ∈ [(1 : Int), 2, 3], a * a * x.1 - (((n : Nat) : Int) - 100) * (a * x.2 - (((n : Nat) : Int) - 100)) ≠ 0 := by decide +kernel
theorem lin_range {b a : Int} (h : Lin b a) : a ∈ [(1 : Int), 2, 3] := by
  rcases h with h | ⟨h, _⟩ | ⟨h, _⟩ <;> subst h <;> decide
theorem QL_range : ∀ x ∈ QL, -8 ≤ x.1 ∧ x.1 ≤ 3 ∧ -1 ≤ x.2 ∧ x.2 ≤ 1 := by decide +kernel
theorem linquad_apart {b a : Int} (h : Lin b a) {x : Int × Int} (hx : x ∈ QL) : a * a * x.1 - b * (a * x.2 - b) ≠ 0 := by
  have ha := lin_range h
  obtain ⟨q1, q2, p1, p2⟩ := QL_range x hx
  have ha' : a = 1 ∨ a = 2 ∨ a = 3 := by simpa using ha
  have m1 : -72 ≤ a * a * x.1 ∧ a * a * x.1 ≤ 27 := by rcases ha' with r | r | r <;> subst r <;> omega
  have m2 : -3 ≤ a * x.2 ∧ a * x.2 ≤ 3 := by rcases ha' with r | r | r <;> subst r <;> omega
  by_cases hb : -100 ≤ b ∧ b ≤ 100
  · have := small_apart ⟨(b + 100).toNat, by omega⟩ x hx a ha
    have e : (((⟨(b + 100).toNat, by omega⟩ : _root_.Fin 201) : Nat) : Int) - 100 = b := by
      show (((b + 100).toNat : Nat) : Int) - 100 = b
      omega
    rw [e] at this
    exact this
  · generalize a * x.2 = k at m2
    generalize a * a * x.1 = m at m1
    intro z
    rcases (by omega : 100 < b ∨ b < -100) with h1 | h1
    · have : (100 : Int) * 90 ≤ b * (b - k) := Int.mul_le_mul (by omega) (by omega) (by decide) (by omega)
      have e : b * (b - k) = -(b * (k - b)) := by rw [← Int.mul_neg]; congr 1; omega
      omega
    · have : (100 : Int) * 90 ≤ (-b) * (k - b) := Int.mul_le_mul (by omega) (by omega) (by decide) (by omega)
      have e : (-b) * (k - b) = -(b * (k - b)) := Int.neg_mul ..
      omega
theorem fac_cop {f g : List Int} (hf : Fac f) (hg : Fac g) (hne : f ≠ g) : Cop (co f) (co g) := by
  rcases hf with ⟨b, a, rfl, hl, _⟩ | ⟨x, hx, rfl⟩
  · rcases hg with ⟨d, c, rfl, hl2, _⟩ | ⟨y, hy, rfl⟩
    · refine cop_lin fun z => hne ?_
      have key : b = d ∧ a = c := by
        rcases hl with r | ⟨r, r1⟩ | ⟨r, r1⟩ <;> rcases hl2 with t | ⟨t, t1⟩ | ⟨t, t1⟩ <;> subst r <;> subst t <;> omega
      rw [key.1, key.2]
    · exact cop_linquad (linquad_apart hl hy)
  · rcases hg with ⟨d, c, rfl, hl2, _⟩ | ⟨y, hy, rfl⟩
    · exact (cop_linquad (linquad_apart hl2 hx)).symm
    · refine cop_quads (quads_apart x hx y hy fun z => hne (by rw [z]))
theorem fac_good {f : List Int} (h : Fac f) : f ≠ [] ∧ 0 < f.getD (f.length - 1) 0 ∧ 2 ≤ f.length ∧ f.length ≤ 3 ∧ ∀ x ∈ f, Bd 11 x := by
  rcases h with ⟨b, a, rfl, hl, hb⟩ | ⟨x, hx, rfl⟩
  · have ha : a = 1 ∨ a = 2 ∨ a = 3 := by
      rcases hl with r | ⟨r, _⟩ | ⟨r, _⟩
      · exact .inl r
      · exact .inr (.inl r)
      · exact .inr (.inr r)
    refine ⟨by simp, ?_, by simp, by simp, fun y hy => ?_⟩
    · show 0 < a
      omega
    · have hy' : y = b ∨ y = a := by simpa using hy
      unfold Bd
      rcases hy' with e | e
      · rw [e]
        have : (2 : Nat) ^ 11 = 2048 := by decide
        omega
      · rw [e]
        have : (2 : Nat) ^ 11 = 2048 := by decide
        omega
  · obtain ⟨q1, q2, p1, p2⟩ := QL_range x hx
    refine ⟨by simp, by show (0 : Int) < 1; decide, by simp, by simp, fun y hy => ?_⟩
    have hy' : y = x.1 ∨ y = x.2 ∨ y = 1 := by simpa using hy
    unfold Bd
    have : (2 : Nat) ^ 11 = 2048 := by decide
    rcases hy' with e | e | e <;> rw [e] <;> omega

noncomputable def rprod (rows : List (List Int × Nat)) : PS := rows.foldr (fun p acc => co p.1 ^ p.2 * acc) 1
theorem rprod_cons (p : List Int × Nat) (rows : List (List Int × Nat)) : rprod (p :: rows) = co p.1 ^ p.2 * rprod rows := rfl
theorem rprod_append (a b : List (List Int × Nat)) : rprod (a ++ b) = rprod a * rprod b := by
  induction a with
  | nil => show rprod b = 1 * rprod b; grind
  | cons p a ih => rw [List.cons_append, rprod_cons, rprod_cons, ih]; grind
end Zf

namespace Zf
open PS

noncomputable def aboveL (c : List Int) : List Int := if c ≠ [] ∧ c.getD (c.length - 1) 0 < 0 then c.map (- ·) else c
theorem neg_at' (c : List Int) (t : Nat) : (c.map (- ·)).getD t 0 = - c.getD t 0 := by
  by_cases h : t < c.length
  · simp [List.getD_eq_getElem?_getD, h]
  · rw [getD_out' (by simp; omega), getD_out' (by omega)]
    rfl
theorem co_neg (c : List Int) : co (c.map (- ·)) = C (-1) * co c := by
  ext t
  rw [C_mul]
  show (c.map (- ·)).getD t 0 = -1 * c.getD t 0
  rw [neg_at']
  omega
theorem ct_neg (c : List Int) : ct (c.map (- ·)) = ct c := by
  refine snoc_ind (p := fun c => ct (c.map (- ·)) = ct c) rfl (fun c x ih => ?_) c
  show ct ((c ++ [x]).map (- ·)) = ct (c ++ [x])
  rw [List.map_append, List.map_singleton, ct_snoc, ct_snoc, ih, Int.gcd_neg]

noncomputable def Shared (c o s : List Int) : Prop := (c = [] ∧ o = [] ∧ s = []) ∨ (s ≠ [] ∧ GoodL s ∧ ct s = 1 ∧ 0 < s.getD (s.length - 1) 0 ∧ IsG (co s) (co c) (co o))
theorem shared_end {c o x : List Int} (hx : x ≠ []) (hg : GoodL x) (h : IsG (co x) (co c) (co o)) : Shared c o (aboveL (plainL x)) := by
  right
  have c0 := ct_ne_zero hg hx
  have pne : plainL x ≠ [] := fun z => hx (List.eq_nil_of_length_eq_zero (by rw [← plain_length, z]; rfl))
  have pg := plain_good hg
  have pl := pg pne
  have pc := ct_plain hg hx
  have pm := plain_mul x
  have plen := List.length_pos_iff.mpr pne
  by_cases hs : plainL x ≠ [] ∧ (plainL x).getD ((plainL x).length - 1) 0 < 0
  · have e : aboveL (plainL x) = (plainL x).map (- ·) := by unfold aboveL; rw [if_pos hs]
    rw [e]
    have last : ((plainL x).map (- ·)).getD (((plainL x).map (- ·)).length - 1) 0 = - (plainL x).getD ((plainL x).length - 1) 0 := by rw [List.length_map, neg_at']
    refine ⟨fun z => pne (List.map_eq_nil_iff.mp z), fun _ => ?_, by rw [ct_neg]; exact pc, ?_, ?_⟩
    · rw [last]; omega
    · rw [last]; have := hs.2; omega
    · refine IsG.scale (g := co x) (a := ct x) (b := -1) (by omega) (by decide) ?_ h
      rw [co_neg, ← pm]
      grind
  · have e : aboveL (plainL x) = plainL x := by unfold aboveL; rw [if_neg hs]
    rw [e]
    refine ⟨pne, pg, pc, ?_, IsG.scale (g := co x) (a := ct x) (b := 1) (by omega) (by decide) (by rw [pm, show C 1 = (1 : PS) from rfl]; grind) h⟩
    have : ¬ (plainL x).getD ((plainL x).length - 1) 0 < 0 := fun z => hs ⟨pne, z⟩
    omega
theorem shared_uniq {c o s d : List Int} (h : Shared c o s) (hd : GoodL d) (hd0 : d ≠ []) (cd : ct d = 1) (ld : 0 < d.getD (d.length - 1) 0) (y : IsG (co d) (co c) (co o)) (hne : c ≠ [] ∨ o ≠ []) : s = d := by
  rcases h with ⟨h1, h2, _⟩ | ⟨s1, s2, s3, s4, s5⟩
  · exact absurd hne (fun z => z.elim (fun q => q h1) (fun q => q h2))
  · exact shared_one s2 hd s1 hd0 s3 cd s4 ld s5 y

theorem plain_k (r : List Int) (hg : GoodL r) : ∃ k : Int, k ≠ 0 ∧ co r = C k * co (plainL r) := by
  by_cases h : r = []
  · subst h
    exact ⟨1, by decide, by rw [show plainL [] = [] from rfl, co_nil]; grind⟩
  · exact ⟨ct r, by have := ct_ne_zero hg h; omega, (plain_mul r).symm⟩
theorem plain_bd {n : Nat} {c : List Int} (h : ∀ x ∈ c, Bd n x) : ∀ x ∈ plainL c, Bd n x := by
  intro x hx
  obtain ⟨y, hy, rfl⟩ := List.mem_map.mp hx
  have hb := h y hy
  unfold Bd at hb ⊢
  refine Nat.lt_of_le_of_lt ?_ hb
  by_cases h0 : ct c = 0
  · rw [h0, Int.ediv_zero]
    exact Nat.zero_le _
  · have e : ct c * (y / ct c) = y := Int.mul_ediv_cancel' (ct_dvd c y hy)
    have e2 := congrArg Int.natAbs e
    rw [Int.natAbs_mul] at e2
    rw [← e2]
    exact Nat.le_mul_of_pos_left _ (Int.natAbs_pos.mpr h0)
theorem left_isG {x y r : List Int} (hl : Left x y r) {g : PS} (h : IsG g (co y) (co (plainL r))) : IsG g (co x) (co y) := by
  obtain ⟨hg, _, a, d, q, ha, hq, e⟩ := hl
  obtain ⟨k, hk, e2⟩ := plain_k r hg
  exact IsG.step (a := a) (k := k) (by omega) hk ⟨d, hq⟩ (by rw [e, e2]) h

noncomputable def gb : Nat → Nat → Nat → Nat → Nat → Nat
  | 0, _, _, p, q => p + q
  | k + 1, La, l, p, q => if l = 0 then p + q else gb k l (min La (l - 1)) q (p + (q + 1) * La)
theorem gb_ge : ∀ (k La l p q : Nat), p + q ≤ gb k La l p q
  | 0, _, _, _, _ => Nat.le_refl _
  | k + 1, La, l, p, q => by
    unfold gb
    split
    · exact Nat.le_refl _
    · rename_i hl
      have h := gb_ge k l (min La (l - 1)) q (p + (q + 1) * La)
      omega
theorem gb_step {k La l p q : Nat} (hl : l ≠ 0) : gb (k + 1) La l p q = gb k l (min La (l - 1)) q (p + (q + 1) * La) := by
  show (if l = 0 then _ else _) = _
  rw [if_neg hl]

noncomputable def totN (rows : List (List Int × Nat)) : Nat := (rows.map (·.2)).sum
noncomputable def degN (rows : List (List Int × Nat)) : Nat := (rows.map fun p => p.2 * (p.1.length - 1)).sum
theorem totN_snoc (rows : List (List Int × Nat)) (p : List Int × Nat) : totN (rows ++ [p]) = totN rows + p.2 := by simp [totN]
theorem degN_snoc (rows : List (List Int × Nat)) (p : List Int × Nat) : degN (rows ++ [p]) = degN rows + p.2 * (p.1.length - 1) := by simp [degN]
theorem rprod_snoc (rows : List (List Int × Nat)) (p : List Int × Nat) : rprod (rows ++ [p]) = rprod rows * co p.1 ^ p.2 := by
  rw [rprod_append]
  show _ * (co p.1 ^ p.2 * 1) = _
  grind

structure Made (scale : Int) (f : PS) (n d : Nat) (c : List Int) : Prop where
  eq : co c = C scale * f
  len : c.length = d + 1
  bd : ∀ x ∈ c, Bd (31 + 14 * n) x
  top : c.getD (c.length - 1) 0 ≠ 0
  pos : 0 < scale → 0 < c.getD (c.length - 1) 0
theorem Made.start {scale : Int} (h : scale ≠ 0) (hb : Bd 31 scale) : Made scale 1 0 0 [scale] := by
  refine ⟨?_, rfl, fun x hx => by rw [List.mem_singleton.mp hx]; exact hb, h, fun p => p⟩
  rw [co_cons, co_nil]
  grind
theorem Made.turn {scale : Int} {f : PS} {n d : Nat} {c g : List Int} (m : Made scale f n d c) (hg : Fac g) : Made scale (f * co g) (n + 1) (d + (g.length - 1)) (mulL c g) := by
  obtain ⟨g0, gl, g2, g3, gb⟩ := fac_good hg
  have hl : (mulL c g).length = d + (g.length - 1) + 1 := by rw [mulL_length, m.len]; omega
  have tp : (mulL c g).getD ((mulL c g).length - 1) 0 = c.getD (c.length - 1) 0 * g.getD (g.length - 1) 0 := by
    show co (mulL c g) ((mulL c g).length - 1) = _
    rw [co_mul, mulL_length, show c.length + g.length - 1 - 1 = (c.length - 1) + (g.length - 1) by have := m.len; omega]
    rw [mul_top (m := c.length - 1) (n := g.length - 1) (by rw [show c.length - 1 + 1 = c.length by have := m.len; omega]; exact Dg.co c) (by rw [show g.length - 1 + 1 = g.length by omega]; exact Dg.co g)]
    rfl
  refine ⟨by rw [co_mul, m.eq]; grind, hl, fun x hx => ?_, ?_, fun h => ?_⟩
  · rw [mulL_comm] at hx
    exact (mulL_bd gb m.bd x hx).mono (by omega)
  · rw [tp]
    exact Int.mul_ne_zero m.top (by omega)
  · rw [tp]
    exact Int.mul_pos (m.pos h) gl
theorem Made.ne {scale : Int} {f : PS} {n d : Nat} {c : List Int} (m : Made scale f n d c) : c ≠ [] := fun z => by
  have := m.len
  rw [z] at this
  exact absurd this (by simp)
theorem degN_append (a b : List (List Int × Nat)) : degN (a ++ b) = degN a + degN b := by simp [degN]
theorem totN_append (a b : List (List Int × Nat)) : totN (a ++ b) = totN a + totN b := by simp [totN]
theorem deg_le {rows : List (List Int × Nat)} {m : Nat} (h : ∀ p ∈ rows, p.2 * (p.1.length - 1) ≤ m) : degN rows ≤ m * rows.length := by
  induction rows with
  | nil => exact Nat.zero_le _
  | cons p rows ih =>
    have h1 := h p List.mem_cons_self
    have h2 := ih fun q hq => h q (List.mem_cons_of_mem _ hq)
    show p.2 * (p.1.length - 1) + degN rows ≤ m * (rows.length + 1)
    rw [Nat.mul_succ]
    omega
theorem tot_le {rows : List (List Int × Nat)} {m : Nat} (h : ∀ p ∈ rows, p.2 ≤ m) : totN rows ≤ m * rows.length := by
  induction rows with
  | nil => exact Nat.zero_le _
  | cons p rows ih =>
    have h1 := h p List.mem_cons_self
    have h2 := ih fun q hq => h q (List.mem_cons_of_mem _ hq)
    show p.2 + totN rows ≤ m * (rows.length + 1)
    rw [Nat.mul_succ]
    omega

theorem lin_fac {t p : Int} (ht : t.natAbs ≤ 1000) (hp : p = 1 ∨ p = 2 ∨ p = 3) : 0 < ((Int.gcd t p : Nat) : Int) ∧ Fac [0 - t / ((Int.gcd t p : Nat) : Int), p / ((Int.gcd t p : Nat) : Int)] := by
  have g0 : 0 < Int.gcd t p := Int.gcd_pos_of_ne_zero_right _ (by omega)
  have d1 : ((Int.gcd t p : Nat) : Int) ∣ p := Int.gcd_dvd_right ..
  have d2 : ((Int.gcd t p : Nat) : Int) ∣ t := Int.gcd_dvd_left ..
  have big : ∀ k : Int, k ∣ t → k ∣ p → k ∣ ((Int.gcd t p : Nat) : Int) := fun k h1 h2 => Int.dvd_coe_gcd h1 h2
  generalize hG : ((Int.gcd t p : Nat) : Int) = G at *
  have G0 : 0 < G := by omega
  refine ⟨G0, .inl ⟨_, _, rfl, ?_, ?_⟩⟩
  · have Gle : G ≤ p := Int.le_of_dvd (by omega) d1
    rcases hp with rfl | rfl | rfl
    · have : G = 1 := by omega
      subst this
      exact .inl (by decide)
    · rcases (by omega : G = 1 ∨ G = 2) with rfl | rfl
      · refine .inr (.inl ⟨by decide, ?_⟩)
        apply Classical.byContradiction
        intro z
        have := big 2 (by omega) (by decide)
        omega
      · exact .inl (by decide)
    · rcases (by omega : G = 1 ∨ G = 2 ∨ G = 3) with rfl | rfl | rfl
      · refine .inr (.inr ⟨by decide, fun z => ?_⟩)
        have := big 3 (by omega) (by decide)
        omega
      · omega
      · exact .inl (by decide)
  · have e : t / G * G = t := Int.ediv_mul_cancel d2
    have e2 := congrArg Int.natAbs e
    rw [Int.natAbs_mul] at e2
    have : (t / G).natAbs ≤ t.natAbs := by
      rw [← e2]
      exact Nat.le_mul_of_pos_right _ (by omega)
    omega
end Zf

namespace Zf
open PS
theorem Made.good {k : Int} {f : PS} {n d : Nat} {c : List Int} (m : Made k f n d c) : GoodL c := fun _ => m.top
theorem made_one {f : PS} {n d : Nat} {c : List Int} (m : Made 1 f n d c) : co c = f := by
  rw [m.eq, show C 1 = (1 : PS) from rfl]
  grind
theorem plain_pos {c : List Int} (hg : GoodL c) (hne : c ≠ []) (h : 0 < c.getD (c.length - 1) 0) : 0 < (plainL c).getD ((plainL c).length - 1) 0 := by
  rw [plain_length, plain_at]
  have l := List.length_pos_iff.mpr hne
  have e : c.getD (c.length - 1) 0 = c[c.length - 1] := by rw [List.getD_eq_getElem?_getD, List.getElem?_eq_getElem (by omega)]; rfl
  have d := ct_dvd c (c.getD (c.length - 1) 0) (by rw [e]; exact List.getElem_mem _)
  have c0 := ct_ne_zero hg hne
  exact Int.ediv_pos_of_pos_of_dvd h (by omega) d
theorem above_plain {c : List Int} (hg : GoodL c) (hne : c ≠ []) (h : 0 < c.getD (c.length - 1) 0) : aboveL (plainL c) = plainL c := by
  have p := plain_pos hg hne h
  unfold aboveL
  rw [if_neg (fun z => by have := z.2; omega)]
theorem due_shared {f : PS} {n d : Nat} {c o cm : List Int} (m : Made 1 f n d cm) (h : IsG f (co c) (co o)) : Shared c o (plainL cm) := by
  have := shared_end m.ne m.good (by rw [made_one m]; exact h : IsG (co cm) (co c) (co o))
  rw [above_plain m.good m.ne (m.pos (by decide))] at this
  exact this
theorem shared_same {c o s d : List Int} (h : Shared c o s) (k : Shared c o d) (hne : c ≠ [] ∨ o ≠ []) : s = d := by
  rcases k with ⟨a, b, _⟩ | ⟨k1, k2, k3, k4, k5⟩
  · exact absurd hne (fun z => z.elim (fun q => q a) (fun q => q b))
  · exact shared_uniq h k2 k1 k3 k4 k5 hne
end Zf

namespace Zf
open PS

noncomputable def dv (f : PS) : PS := fun t => ((t : Int) + 1) * f (t + 1)
theorem dv_at (f : PS) (t : Nat) : dv f t = ((t : Int) + 1) * f (t + 1) := rfl
theorem dv_mul (f g : PS) : dv (f * g) = dv f * g + f * dv g := by
  ext t
  rw [dv_at, add_at, mul_at, mul_at, mul_at]
  have e0 : ((t : Int) + 1) * sumTo (fun a => f a * g (t + 1 - a)) (t + 1 + 1) = sumTo (fun a => ((a : Int) * f a) * g (t + 1 - a)) (t + 1 + 1) + sumTo (fun a => f a * ((((t + 1 - a : Nat)) : Int) * g (t + 1 - a))) (t + 1 + 1) := by
    rw [← sumTo_mul, ← sumTo_add]
    refine sumTo_congr fun a ha => ?_
    have h1 : ((t : Int) + 1) = (a : Int) + ((t + 1 - a : Nat) : Int) := by omega
    rw [h1]
    generalize ((t + 1 - a : Nat) : Int) = k
    grind
  rw [e0]
  congr 1
  · rw [sumTo_left]
    have z : ((0 : Nat) : Int) * f 0 * g (t + 1 - 0) = 0 := by simp
    rw [z, Int.zero_add]
    refine sumTo_congr fun a ha => ?_
    rw [dv_at, show t + 1 - (a + 1) = t - a by omega]
    rw [show ((a + 1 : Nat) : Int) = (a : Int) + 1 by omega]
  · rw [sumTo_succ]
    have z : f (t + 1) * ((((t + 1 - (t + 1) : Nat)) : Int) * g (t + 1 - (t + 1))) = 0 := by simp
    rw [z, Int.add_zero]
    refine sumTo_congr fun a ha => ?_
    rw [dv_at, show t + 1 - a = t - a + 1 by omega]
    rw [show ((t - a + 1 : Nat) : Int) = ((t - a : Nat) : Int) + 1 by omega]
theorem dv_C (k : Int) : dv (C k) = 0 := by
  ext t
  rw [dv_at, zero_at]
  show _ * (if t + 1 = 0 then k else 0) = 0
  rw [if_neg (by omega), Int.mul_zero]
theorem dv_one : dv 1 = 0 := dv_C 1
theorem dv_scale (k : Int) (f : PS) : dv (C k * f) = C k * dv f := by
  rw [dv_mul, dv_C]
  grind
theorem dv_pow (f : PS) : ∀ n : Nat, dv (f ^ (n + 1)) = C ((n : Int) + 1) * (f ^ n * dv f)
  | 0 => by
    have e : f ^ (0 + 1) = 1 * f := rfl
    have e2 : f ^ 0 = 1 := rfl
    rw [e, dv_mul, dv_one, e2, show C (((0 : Nat) : Int) + 1) = (1 : PS) from rfl]
    grind
  | n + 1 => by
    have e : f ^ (n + 1 + 1) = f ^ (n + 1) * f := rfl
    have e2 : f ^ (n + 1) = f ^ n * f := rfl
    rw [e, dv_mul, dv_pow f n, e2, show (((n + 1 : Nat)) : Int) + 1 = ((n : Int) + 1) + 1 by omega, C_add ((n : Int) + 1) 1, show C 1 = (1 : PS) from rfl]
    grind
theorem Dg.dv {n : Nat} {f : PS} (h : Dg (n + 1) f) : Dg n (dv f) := fun t ht => by rw [dv_at, h (t + 1) (by omega), Int.mul_zero]
theorem Po.dv {f : PS} (h : Po f) : Po (dv f) := let ⟨n, a⟩ := h; ⟨n, Dg.dv (a.mono (Nat.le_succ n))⟩
theorem slope_length (c : List Int) : (slopeL c).length = c.length - 1 := by simp [slopeL]
theorem slope_at (c : List Int) (t : Nat) : (slopeL c).getD t 0 = ((t : Int) + 1) * c.getD (t + 1) 0 := by
  by_cases h : t < c.length - 1
  · unfold slopeL
    rw [List.getD_eq_getElem?_getD, List.getElem?_map, List.getElem?_range h]
    show (1 + (t : Int)) * _ = _
    rw [Int.add_comm 1]
  · rw [getD_out' (by rw [slope_length]; omega), getD_out' (c := c) (by omega), Int.mul_zero]
theorem co_slope (c : List Int) : co (slopeL c) = dv (co c) := by
  ext t
  rw [co_at, slope_at, dv_at, co_at]
theorem slope_good {c : List Int} (h : GoodL c) : GoodL (slopeL c) := by
  intro hne
  have hl : 0 < (slopeL c).length := List.length_pos_iff.mpr hne
  rw [slope_length] at hl
  have hc : c ≠ [] := fun z => by rw [z] at hl; exact absurd hl (by simp)
  rw [slope_length, slope_at, show c.length - 1 - 1 + 1 = c.length - 1 by omega]
  exact Int.mul_ne_zero (by omega) (h hc)

theorem dvd_mul_ct {m y : Int} (c : List Int) (h : ∀ x ∈ c, m ∣ y * x) : m ∣ y * ct c := by
  revert h
  refine snoc_ind (p := fun c => (∀ x ∈ c, m ∣ y * x) → m ∣ y * ct c) ?_ (fun c x ih h => ?_) c
  · intro _
    show m ∣ y * 0
    rw [Int.mul_zero]
    exact Int.dvd_zero m
  · rw [ct_snoc]
    have h1 := ih fun z hz => h z (List.mem_append_left _ hz)
    have h2 := h x (List.mem_append_right _ (List.mem_singleton.mpr rfl))
    have h3 : m ∣ ((Int.gcd (y * ct c) (y * x) : Nat) : Int) := Int.dvd_coe_gcd h1 h2
    rw [Int.gcd_mul_left] at h3
    rw [Int.natCast_mul] at h3
    rcases Int.natAbs_eq y with e | e
    · rwa [← e] at h3
    · have e2 : (y.natAbs : Int) = - y := by omega
      rw [e2, Int.neg_mul] at h3
      exact (Int.dvd_neg).mp h3
theorem gauss {m : Int} {g : List Int} (hg : ct g = 1) : ∀ (d : Nat) (q : PS), (∀ t, d ≤ t → m ∣ q t) → (∀ t, m ∣ (q * co g) t) → ∀ t, m ∣ q t
  | 0, q, h, _ => fun t => h t (Nat.zero_le t)
  | d + 1, q, h, k => by
    have key : ∀ (n i : Nat), g.length ≤ i + n → ∀ t, m ∣ co g i * q t := by
      intro n
      induction n with
      | zero =>
        intro i hi t
        rw [co_out (by omega), Int.zero_mul]
        exact Int.dvd_zero m
      | succ n ih =>
        intro i hi

        have up : ∀ j, i < j → ∀ t, m ∣ co g j * q t := fun j hj => ih j (by omega)
        have top : m ∣ q d * co g i := by
          have h1 := k (d + i)
          rw [mul_at] at h1
          have split : ∀ (n : Nat), m ∣ (sumTo (fun a => q a * co g (d + i - a)) n - (if d < n then q d * co g i else 0)) ∨ n > d + i + 1 := by
            intro n
            induction n with
            | zero => left; show m ∣ 0 - 0; exact Int.dvd_zero m
            | succ n ihn =>
              by_cases hn : n > d + i
              · right; omega
              · rcases ihn with ihn | ihn
                · left
                  rw [sumTo_succ]
                  rcases Nat.lt_trichotomy n d with c1 | c1 | c1
                  · rw [if_neg (by omega)] at ihn ⊢
                    have := up (d + i - n) (by omega) n
                    rw [Int.mul_comm] at this
                    have := Int.dvd_add ihn this
                    rwa [show ∀ x y : Int, x - 0 + y = x + y - 0 by intros; omega] at this
                  · subst c1
                    rw [if_neg (by omega)] at ihn
                    rw [if_pos (by omega), show n + i - n = i by omega]
                    rwa [show ∀ x y : Int, x + y - y = x - 0 by intros; omega]
                  · rw [if_pos (by omega)] at ihn ⊢
                    have : m ∣ q n * co g (d + i - n) := Int.dvd_mul_of_dvd_left (h n (by omega))
                    have := Int.dvd_add ihn this
                    rwa [show ∀ x y z : Int, x - z + y = x + y - z by intros; omega] at this
                · right; omega
          rcases split (d + i + 1) with h2 | h2
          · rw [if_pos (by omega)] at h2
            have := Int.dvd_sub h1 h2
            rwa [show ∀ x y : Int, x - (x - y) = y by intros; omega] at this
          · omega
        have := gauss hg d (C (co g i) * q) (fun t ht => by
          rw [C_mul]
          rcases Nat.lt_or_ge d t with c1 | c1
          · exact Int.dvd_mul_of_dvd_right (h t (by omega))
          · have e : t = d := by omega
            rw [e, Int.mul_comm]
            exact top) (fun t => by
          rw [PS.mul_assoc, C_mul]
          exact Int.dvd_mul_of_dvd_right (k t))
        intro t
        have := this t
        rwa [C_mul] at this
    intro t
    have h1 : m ∣ q t * ct g := dvd_mul_ct g fun x hx => by
      obtain ⟨i, hi, rfl⟩ := List.mem_iff_getElem.mp hx
      have := key g.length i (by omega) t
      rw [Int.mul_comm]
      simpa [co, List.getD_eq_getElem?_getD, hi] using this
    rwa [hg, Int.mul_one] at h1

theorem gauss_div {a : Int} {f q : PS} {g : List Int} (ha : a ≠ 0) (hg : ct g = 1) (hq : Po q) (e : C a * f = q * co g) : ∃ s, Po s ∧ f = s * co g := by
  obtain ⟨d, hd⟩ := hq
  have h1 : ∀ t, a ∣ q t := gauss hg d q (fun t ht => by rw [hd t ht]; exact Int.dvd_zero a) fun t => by
    rw [← e, C_mul]
    exact Int.dvd_mul_right a _
  let s : PS := fun t => q t / a
  have h2 : C a * s = q := by
    ext t
    rw [C_mul]
    exact Int.mul_ediv_cancel' (h1 t)
  refine ⟨s, ⟨d, fun t ht => by show q t / a = 0; rw [hd t ht, Int.zero_ediv]⟩, ?_⟩
  have h3 : C a * f = C a * (s * co g) := by rw [e, ← PS.mul_assoc, h2]
  ext t
  have h4 := congrFun h3 t
  rw [C_mul, C_mul] at h4
  exact Int.eq_of_mul_eq_mul_left ha h4
theorem ct_mulL {f g : List Int} (hf : ct f = 1) (hg : ct g = 1) : ct (mulL f g) = 1 := by
  have h1 : ∀ t, ct (mulL f g) ∣ (co f * co g) t := fun t => by
    rw [← co_mul]
    exact getD_dvd (ct_dvd _) t
  have h2 := gauss hg f.length (co f) (fun t ht => by rw [co_out ht]; exact Int.dvd_zero _) h1
  have h3 : ct (mulL f g) ∣ ct f := dvd_ct f fun x hx => by
    obtain ⟨i, hi, rfl⟩ := List.mem_iff_getElem.mp hx
    have := h2 i
    simpa [co, List.getD_eq_getElem?_getD, hi] using this
  rw [hf] at h3
  have h4 := ct_nonneg (mulL f g)
  have := Int.le_of_dvd (by decide) h3
  have h5 : ct (mulL f g) ≠ 0 := fun z => by rw [z] at h3; exact absurd (Int.zero_dvd.mp h3) (by decide)
  omega
theorem top_mulL {f g : List Int} (hf : f ≠ []) (hg : g ≠ []) : (mulL f g).getD ((mulL f g).length - 1) 0 = f.getD (f.length - 1) 0 * g.getD (g.length - 1) 0 := by
  have lf := List.length_pos_iff.mpr hf
  have lg := List.length_pos_iff.mpr hg
  show co (mulL f g) ((mulL f g).length - 1) = _
  rw [co_mul, mulL_length, show f.length + g.length - 1 - 1 = (f.length - 1) + (g.length - 1) by omega]
  rw [mul_top (m := f.length - 1) (n := g.length - 1) (by rw [show f.length - 1 + 1 = f.length by omega]; exact Dg.co f) (by rw [show g.length - 1 + 1 = g.length by omega]; exact Dg.co g)]
  rfl
theorem good_mulL {f g : List Int} (hf : GoodL f) (hg : GoodL g) (f0 : f ≠ []) (g0 : g ≠ []) : GoodL (mulL f g) := fun _ => by
  rw [top_mulL f0 g0]
  exact Int.mul_ne_zero (hf f0) (hg g0)

noncomputable def upto (S : PS) (n : Nat) : List Int := (List.range n).map fun t => S t
theorem upto_length (S : PS) (n : Nat) : (upto S n).length = n := by simp [upto]
theorem upto_at (S : PS) (n t : Nat) : (upto S n).getD t 0 = if t < n then S t else 0 := by
  by_cases h : t < n
  · rw [if_pos h]
    unfold upto
    rw [List.getD_eq_getElem?_getD, List.getElem?_map, List.getElem?_range h]
    rfl
  · rw [if_neg h, getD_out' (by rw [upto_length]; omega)]
theorem upto_co {S : PS} {n : Nat} (h : Dg n S) : co (upto S n) = S := by
  ext t
  rw [co_at, upto_at]
  by_cases ht : t < n
  · rw [if_pos ht]
  · rw [if_neg ht, h t (by omega)]

theorem quot_dg {S : PS} {c g : List Int} (hS : Po S) (hg : GoodL g) (g0 : g ≠ []) (e : co c = S * co g) : Dg (c.length + 1 - g.length) S := by
  have lg := List.length_pos_iff.mpr g0
  by_cases hz : S = 0
  · rw [hz]
    exact fun t _ => zero_at t
  obtain ⟨n, hn⟩ := hS
  obtain ⟨m, h1, h2⟩ := top_of hn hz
  have h3 := mul_top (n := g.length - 1) h1 (by rw [show g.length - 1 + 1 = g.length by omega]; exact Dg.co g)
  rw [← e] at h3
  have h4 : m + (g.length - 1) < c.length := by
    rcases Nat.lt_or_ge (m + (g.length - 1)) c.length with q | q
    · exact q
    · rw [co_out q] at h3
      exact absurd h3.symm (Int.mul_ne_zero h2 (hg g0))
  exact h1.mono (by omega)

noncomputable def Simple (c s : List Int) : Prop := s ≠ [] ∧ GoodL s ∧ ct s = 1 ∧ ∃ g, Shared c (slopeL c) g ∧ co (plainL c) = co s * co g
theorem simple_uniq {c s r : List Int} (hc : c ≠ []) (h : Simple c s) (k : Simple c r) : s = r := by
  obtain ⟨s1, s2, s3, g, s4, s5⟩ := h
  obtain ⟨r1, r2, r3, g', r4, r5⟩ := k
  have e := shared_same s4 r4 (.inl hc)
  subst e
  have g0 : g ≠ [] ∧ GoodL g := by
    rcases s4 with ⟨z, _⟩ | ⟨a, b, _⟩
    · exact absurd z hc
    · exact ⟨a, b⟩
  exact co_inj s2 r2 (cancel (Po.co s) (Po.co r) (Po.co g) (co_ne g0.2 g0.1) (by rw [← s5, ← r5]))

theorem simple_div {c g : List Int} (hc : c ≠ []) (hg : GoodL c) (h : Shared c (slopeL c) g) : g ≠ [] ∧ GoodL g ∧ g.length ≤ c.length ∧ ∃ S : PS, Dg (c.length + 1 - g.length) S ∧ co (plainL c) = S * co g ∧ Simple c (upto S (c.length + 1 - g.length)) := by
  have h0 := h
  rcases h with ⟨z, _⟩ | ⟨g0, g1, g2, g3, g4⟩
  · exact absurd z hc
  have lc := List.length_pos_iff.mpr hc
  have lg := List.length_pos_iff.mpr g0
  obtain ⟨a, q, ha, hq, e⟩ := g4.1
  have cp := ct_ne_zero hg hc
  have e2 : C (a * ct c) * co (plainL c) = q * co g := by
    rw [← CC, PS.mul_assoc, plain_mul, e]
  obtain ⟨S, hS, e3⟩ := gauss_div (Int.mul_ne_zero ha (by omega)) g2 hq e2
  have hd := quot_dg hS g1 g0 e3
  rw [plain_length] at hd
  have e4 := upto_co hd
  have hl : g.length ≤ c.length := by
    rcases Nat.lt_or_ge c.length g.length with q | q
    · exfalso
      have z : S = 0 := by
        ext t
        rw [hd t (by omega), zero_at]
      rw [z] at e3
      have : co (plainL c) = 0 := by rw [e3]; grind
      exact co_ne (plain_good hg) (fun z => hc (by have := plain_length c; rw [z] at this; exact List.eq_nil_of_length_eq_zero this.symm)) this
    · exact q
  refine ⟨g0, g1, hl, S, hd, e3, ?_, ?_, ?_, g, h0, by rw [e4, e3]⟩
  · intro z
    have := upto_length S (c.length + 1 - g.length)
    rw [z] at this
    simp at this
    omega
  · intro _
    rw [upto_length, upto_at, if_pos (by omega)]
    intro z
    have t1 : co (plainL c) ((c.length - g.length) + (g.length - 1)) = S (c.length - g.length) * co g (g.length - 1) := by
      rw [e3]
      exact mul_top (by rw [show c.length - g.length + 1 = c.length + 1 - g.length by omega]; exact hd) (by rw [show g.length - 1 + 1 = g.length by omega]; exact Dg.co g)
    rw [show c.length + 1 - g.length - 1 = c.length - g.length by omega] at z
    rw [z, Int.zero_mul, show c.length - g.length + (g.length - 1) = c.length - 1 by omega] at t1
    have pg := plain_good hg
    have : plainL c ≠ [] := fun z => hc (by have := plain_length c; rw [z] at this; exact List.eq_nil_of_length_eq_zero this.symm)
    have := pg this
    rw [plain_length] at this
    exact this t1
  ·
    have c1 : ct (upto S (c.length + 1 - g.length)) ∣ ct (plainL c) := dvd_ct _ fun x hx => by
      obtain ⟨i, hi, rfl⟩ := List.mem_iff_getElem.mp hx
      have t1 : ct (upto S (c.length + 1 - g.length)) ∣ co (plainL c) i := by
        rw [e3, mul_at]
        have : ∀ n, ct (upto S (c.length + 1 - g.length)) ∣ sumTo (fun a => S a * co g (i - a)) n := by
          intro n
          induction n with
          | zero => exact Int.dvd_zero _
          | succ n ih =>
            rw [sumTo_succ]
            refine Int.dvd_add ih (Int.dvd_mul_of_dvd_left ?_)
            have := getD_dvd (ct_dvd (upto S (c.length + 1 - g.length))) n
            have e5 : (upto S (c.length + 1 - g.length)).getD n 0 = S n := congrFun e4 n
            rwa [e5] at this
        exact this _
      simpa [co, List.getD_eq_getElem?_getD, hi] using t1
    rw [ct_plain hg hc] at c1
    have h4 := ct_nonneg (upto S (c.length + 1 - g.length))
    have := Int.le_of_dvd (by decide) c1
    have h5 : ct (upto S (c.length + 1 - g.length)) ≠ 0 := fun z => by rw [z] at c1; exact absurd (Int.zero_dvd.mp c1) (by decide)
    omega
end Zf

namespace Zf
open PS

noncomputable def once (rows : List (List Int × Nat)) : List (List Int × Nat) := rows.map fun p => (p.1, 1)
noncomputable def less (rows : List (List Int × Nat)) : List (List Int × Nat) := rows.map fun p => (p.1, p.2 - 1)
theorem Po.rprod (rows : List (List Int × Nat)) : Po (rprod rows) := by
  induction rows with
  | nil => exact Po.one
  | cons p rows ih => rw [rprod_cons]; exact ((Po.co _).pow _).mul ih
theorem pow_one' (f : PS) : f ^ 1 = f := by
  have e : f ^ 1 = 1 * f := rfl
  rw [e]; grind
theorem rprod_split : ∀ {rows : List (List Int × Nat)}, (∀ p ∈ rows, 1 ≤ p.2) → rprod rows = rprod (less rows) * rprod (once rows)
  | [], _ => by show (1 : PS) = 1 * 1; grind
  | p :: rows, h => by
    have ih := rprod_split fun q hq => h q (List.mem_cons_of_mem _ hq)
    have h1 := h p List.mem_cons_self
    show co p.1 ^ p.2 * rprod rows = (co p.1 ^ (p.2 - 1) * rprod (less rows)) * (co p.1 ^ 1 * rprod (once rows))
    obtain ⟨k, hk⟩ : ∃ k, p.2 = k + 1 := ⟨p.2 - 1, by omega⟩
    rw [ih, hk, show k + 1 - 1 = k by omega, pow_one']
    have e : co p.1 ^ (k + 1) = co p.1 ^ k * co p.1 := rfl
    rw [e]
    grind
theorem cop_addmul {f g h : PS} (x : Cop f g) (hh : Po h) (_hf : Po f) (_hg : Po g) : Cop f (g + h * f) := by
  obtain ⟨a, u, v, ha, hu, hv, e⟩ := x
  exact ⟨a, u - v * h, v, ha, hu.sub (hv.mul hh), hv, by rw [e]; grind⟩
theorem cop_scale {f g : PS} {k : Int} (hk : k ≠ 0) (x : Cop f g) : Cop f (C k * g) := by
  obtain ⟨a, u, v, ha, hu, hv, e⟩ := x
  refine ⟨k * a, C k * u, v, Int.mul_ne_zero hk ha, (Po.C k).mul hu, hv, ?_⟩
  rw [← CC, e]
  grind
theorem quads_slope : ∀ x ∈ QL, 4 * x.1 - x.2 * x.2 ≠ 0 := by decide +kernel
theorem fac_slope {f : List Int} (h : Fac f) : Cop (co f) (dv (co f)) := by
  rw [← co_slope]
  rcases h with ⟨b, a, rfl, hl, _⟩ | ⟨p, hp, rfl⟩
  · have ha : a ≠ 0 := by rcases hl with r | ⟨r, _⟩ | ⟨r, _⟩ <;> omega
    have e : slopeL [b, a] = [a] := by show [(1 + ((0 : Nat) : Int)) * a] = [a]; simp
    rw [e]
    refine ⟨a, 0, 1, ha, Po.zero, Po.one, ?_⟩
    simp only [co_cons, co_nil]
    grind
  · have e : slopeL [p.1, p.2, 1] = [p.2, 2] := by
      show [(1 + ((0 : Nat) : Int)) * p.2, (1 + ((1 : Nat) : Int)) * 1] = [p.2, 2]
      simp
    rw [e]
    refine ⟨4 * p.1 - p.2 * p.2, C 4, C (-2) * X1 + C (- p.2), quads_slope p hp, Po.C 4, ((Po.C _).mul (Po.xp 1)).add (Po.C _), ?_⟩
    simp only [C_sub, ← CC, C_neg, co_cons, co_nil, show C 1 = (1 : PS) from rfl, show C 2 = (2 : PS) from rfl, show C 4 = (4 : PS) from rfl]
    grind
theorem cop_once {f : PS} (hf : Po f) : ∀ {rows : List (List Int × Nat)}, (∀ p ∈ rows, Cop (co p.1) f) → Cop (rprod (once rows)) f
  | [], _ => Cop.one f
  | p :: rows, h => by
    show Cop (co p.1 ^ 1 * rprod (once rows)) f
    rw [pow_one']
    exact Cop.mul (Po.co _) (Po.rprod _) hf (h p List.mem_cons_self) (cop_once hf fun q hq => h q (List.mem_cons_of_mem _ hq))
theorem rows_dv : ∀ {rows : List (List Int × Nat)}, (∀ p ∈ rows, Fac p.1 ∧ 1 ≤ p.2) → (rows.map (·.1)).Nodup → ∃ S, Po S ∧ dv (rprod rows) = rprod (less rows) * S ∧ Cop (rprod (once rows)) S
  | [], _, _ => ⟨0, Po.zero, by show dv 1 = 1 * 0; rw [dv_one]; grind, Cop.one 0⟩
  | p :: rows, h, nd => by
    have nd' := List.nodup_cons.mp (by simpa using nd : (p.1 :: rows.map (·.1)).Nodup)
    obtain ⟨S, hS, e, cp⟩ := rows_dv (fun q hq => h q (List.mem_cons_of_mem _ hq)) nd'.2
    obtain ⟨hf, h1⟩ := h p List.mem_cons_self
    obtain ⟨k, hk⟩ : ∃ k, p.2 = k + 1 := ⟨p.2 - 1, by omega⟩
    have sp := rprod_split (rows := rows) fun q hq => (h q (List.mem_cons_of_mem _ hq)).2
    have cr : Cop (rprod (once rows)) (co p.1) := cop_once (Po.co _) fun q hq => fac_cop (h q (List.mem_cons_of_mem _ hq)).1 hf fun z => nd'.1 (by rw [← z]; exact List.mem_map.mpr ⟨q, hq, rfl⟩)
    have pf := Po.co p.1
    have po := Po.rprod (once rows)
    have pd := pf.dv
    refine ⟨C ((k : Int) + 1) * (dv (co p.1) * rprod (once rows)) + S * co p.1, ((Po.C _).mul (pd.mul po)).add (hS.mul pf), ?_, ?_⟩
    · show dv (co p.1 ^ p.2 * rprod rows) = (co p.1 ^ (p.2 - 1) * rprod (less rows)) * _
      rw [hk, show k + 1 - 1 = k by omega, dv_mul, dv_pow, e]
      have e2 : co p.1 ^ (k + 1) = co p.1 ^ k * co p.1 := rfl
      rw [e2, sp]
      grind
    · show Cop (co p.1 ^ 1 * rprod (once rows)) _
      rw [pow_one']
      refine Cop.mul pf po (((Po.C _).mul (pd.mul po)).add (hS.mul pf)) ?_ ?_
      · refine cop_addmul (cop_scale (by omega) ?_) hS pf ((Po.C _).mul (pd.mul po))
        exact (Cop.mul pd po pf (fac_slope hf).symm cr).symm
      · have e3 : C ((k : Int) + 1) * (dv (co p.1) * rprod (once rows)) + S * co p.1 = S * co p.1 + (C ((k : Int) + 1) * dv (co p.1)) * rprod (once rows) := by grind
        rw [e3]
        refine cop_addmul ?_ ((Po.C _).mul pd) po (hS.mul pf)
        exact (Cop.mul hS pf po cp.symm cr.symm).symm
theorem made_pow {scale : Int} {f : PS} {n d : Nat} {c g : List Int} (hg : Fac g) (m : Made scale f n d c) : ∀ k : Nat, ∃ c', Made scale (f * co g ^ k) (n + k) (d + k * (g.length - 1)) c'
  | 0 => ⟨c, by
    have e : co g ^ 0 = 1 := rfl
    rw [e, show f * 1 = f by grind, Nat.zero_mul]
    exact m⟩
  | k + 1 => by
    obtain ⟨c', m'⟩ := made_pow hg m k
    have e : co g ^ (k + 1) = co g ^ k * co g := rfl
    have := m'.turn hg
    rw [PS.mul_assoc] at this
    refine ⟨mulL c' g, ?_⟩
    rw [e, Nat.succ_mul, ← Nat.add_assoc, ← Nat.add_assoc]
    exact this
theorem made_rows {scale : Int} (h : scale ≠ 0) (hb : Bd 31 scale) : ∀ {rows : List (List Int × Nat)}, (∀ p ∈ rows, Fac p.1) → ∃ c, Made scale (rprod rows) (totN rows) (degN rows) c
  | [], _ => ⟨_, Made.start h hb⟩
  | p :: rows, hr => by
    obtain ⟨c, m⟩ := made_rows h hb fun q hq => hr q (List.mem_cons_of_mem _ hq)
    obtain ⟨c', m'⟩ := made_pow (hr p List.mem_cons_self) m p.2
    refine ⟨c', ?_⟩
    have e1 : rprod (p :: rows) = rprod rows * co p.1 ^ p.2 := by rw [rprod_cons]; grind
    have e2 : totN (p :: rows) = totN rows + p.2 := by show p.2 + totN rows = _; omega
    have e3 : degN (p :: rows) = degN rows + p.2 * (p.1.length - 1) := by show p.2 * (p.1.length - 1) + degN rows = _; omega
    rw [e1, e2, e3]
    exact m'

theorem rows_simple {rows : List (List Int × Nat)} (hr : ∀ p ∈ rows, Fac p.1 ∧ 1 ≤ p.2) (nd : (rows.map (·.1)).Nodup) {scale sg : Int} {n d n' d' : Nat} {c o : List Int} (hs : scale ≠ 0) (m : Made scale (rprod rows) n d c) (hsg : 0 < scale ∧ sg = 1 ∨ scale < 0 ∧ sg = -1) (mo : Made sg (rprod (once rows)) n' d' o) :
    Simple c (plainL o) ∧ ∃ cm, Made 1 (rprod (less rows)) (totN (less rows)) (degN (less rows)) cm ∧ Shared c (slopeL c) (plainL cm) := by
  obtain ⟨cm, mc⟩ := made_rows (scale := 1) (by decide) (by unfold Bd; decide) (rows := less rows) (fun p hp => by
    obtain ⟨q, hq, rfl⟩ := List.mem_map.mp hp
    exact (hr q hq).1)
  obtain ⟨S, hS, e, cp⟩ := rows_dv hr nd
  have sp := rprod_split (rows := rows) fun q hq => (hr q hq).2
  have ig : IsG (rprod (less rows)) (co c) (co (slopeL c)) := by
    rw [co_slope, m.eq, dv_scale, e, sp]
    exact IsG.of_cop hs hs (Po.rprod _) hS cp
  have sh := due_shared mc ig
  have p1 : plainL o ≠ [] := fun z => mo.ne (List.eq_nil_of_length_eq_zero (by rw [← plain_length, z]; rfl))
  have p2 : plainL cm ≠ [] := fun z => mc.ne (List.eq_nil_of_length_eq_zero (by rw [← plain_length, z]; rfl))
  refine ⟨⟨p1, plain_good mo.good, ct_plain mo.good mo.ne, plainL cm, sh, ?_⟩, cm, mc, sh⟩
  rw [← co_mul]
  have gm := good_mulL (plain_good mo.good) (plain_good mc.good) p1 p2
  have t1 := ct_mulL (ct_plain mo.good mo.ne) (ct_plain mc.good mc.ne)
  have k1 := ct_ne_zero mo.good mo.ne
  have k2 := ct_ne_zero mc.good mc.ne
  have k3 : 0 < scale * sg := by rcases hsg with ⟨a, b⟩ | ⟨a, b⟩ <;> subst b <;> omega
  have e9 : plainL c = plainL (mulL (plainL o) (plainL cm)) := by
    refine plain_eq (a := scale * sg * (ct o * ct cm)) (b := 1) (Int.mul_pos k3 (Int.mul_pos k1 k2)) (by decide) m.good gm ?_
    rw [co_mul, m.eq, sp, ← CC (scale * sg), ← CC (ct o)]
    have f1 := plain_mul o
    have f2 := plain_mul cm
    rw [made_one mc] at f2
    rw [mo.eq] at f1
    have ss : C sg * C sg = (1 : PS) := by
      rw [CC]
      rcases hsg with ⟨_, b⟩ | ⟨_, b⟩ <;> subst b <;> rfl
    rw [show C 1 = (1 : PS) from rfl, ← CC scale]
    have g1 : C scale * C sg * (C (ct o) * C (ct cm)) * (co (plainL o) * co (plainL cm)) = C scale * C sg * (C (ct o) * co (plainL o)) * (C (ct cm) * co (plainL cm)) := by grind
    rw [g1, f1, f2]
    have g2 : C scale * C sg * (C sg * rprod (once rows)) * rprod (less rows) = C scale * (C sg * C sg) * (rprod (less rows) * rprod (once rows)) := by grind
    rw [g2, ss]
    grind
  rw [e9, plain_self t1]

noncomputable def negL (c : List Int) : List Int := c.map (- ·)
theorem neg_length (c : List Int) : (negL c).length = c.length := List.length_map _
theorem neg_good {c : List Int} (h : GoodL c) : GoodL (negL c) := fun hne => by
  have : c ≠ [] := fun z => hne (by rw [z]; rfl)
  unfold negL
  rw [neg_at', List.length_map]
  have := h this
  omega
inductive Steps : List Int → List Int → List (List Int) → Prop
  | stop (a : List Int) : Steps a [] []
  | step (a b r : List Int) (ls : List (List Int)) : b ≠ [] → Left a b r → Steps b (negL (plainL r)) ls → Steps a b (b :: ls)
theorem Steps.uniq {a b : List Int} {ls ms : List (List Int)} (h : Steps a b ls) (hb : GoodL b) (k : Steps a b ms) : ls = ms := by
  induction h generalizing ms with
  | stop a =>
    cases k with
    | stop => rfl
    | step _ _ _ _ hne => exact absurd rfl hne
  | step a b r ls hne hl _ ih =>
    cases k with
    | stop => exact absurd rfl hne
    | step _ _ r' ls' _ hl' k' =>
      rw [← left_one hb hl hl'] at k'
      rw [ih (neg_good (plain_good hl.1)) k']
noncomputable def Chain (c : List Int) (ls : List (List Int)) : Prop := ∃ s l, Simple c s ∧ ls = s :: l ∧ Steps s (plainL (slopeL s)) l
theorem Chain.uniq {c : List Int} {ls ms : List (List Int)} (hc : c ≠ []) (h : Chain c ls) (k : Chain c ms) : ls = ms := by
  obtain ⟨s, l, h1, rfl, h3⟩ := h
  obtain ⟨s', l', k1, rfl, k3⟩ := k
  have e := simple_uniq hc h1 k1
  subst e
  rw [h3.uniq (plain_good (slope_good h1.2.1)) k3]

noncomputable def chg : Int → List Int → Int
  | _, [] => 0
  | a, s :: ss => (if a * s = -1 then 1 else 0) + chg (if s ≠ 0 then s else a) ss
noncomputable def Sg (x : Int) : Prop := x = 1 ∨ x = 0 ∨ x = -1
theorem sgn_sg (x : Int) : Sg (sgn x) := by
  unfold sgn Sg
  split
  · exact .inl rfl
  · split
    · exact .inr (.inr rfl)
    · exact .inr (.inl rfl)
theorem sgn_pm {L : Int} (hL : L ≠ 0) : sgn L = 1 ∨ sgn L = -1 := by
  unfold sgn
  rcases Int.lt_or_gt_of_ne hL with q | q
  · rw [if_neg (by omega), if_pos q]; exact .inr rfl
  · rw [if_pos q]; exact .inl rfl
end Zf


namespace L2
open PySem PySem.Spec PyProof.Rows

noncomputable abbrev Key := Sum Int Str
noncomputable def keyIs : Key → Value → Bool
  | .inl k, v => Value.isInt k v
  | .inr x, v => Value.isStrOf x v
noncomputable def keyH (w : World) : Key → Int
  | .inl k => hashInt k
  | .inr x => hashStr w x
theorem keyIs_shape : ∀ {k : Key} {v : Value}, keyIs k v = true → (∃ i t, k = Sum.inl i ∧ v = Value.int i t) ∨ (∃ x t, k = Sum.inr x ∧ v = Value.str x t)
  | .inl i, v, h => by
    obtain ⟨t, e⟩ := Value.isInt_shape (k := i) (v := v) h
    exact .inl ⟨i, t, rfl, e⟩
  | .inr x, v, h => by
    obtain ⟨t, e⟩ := Value.isStrOf_shape (x := x) (v := v) h
    exact .inr ⟨x, t, rfl, e⟩
theorem key_ll (a b : Int) : decide ((Sum.inl a : Key) = Sum.inl b) = (a == b) := by
  by_cases e : a = b
  · subst e; simp
  · have h : ¬ (Sum.inl a : Key) = Sum.inl b := fun q => e (Sum.inl.inj q)
    rw [decide_eq_false h]
    exact (beq_eq_false_iff_ne.mpr e).symm
theorem key_rr (a b : Str) : decide ((Sum.inr a : Key) = Sum.inr b) = decide (a = b) := by
  by_cases e : a = b
  · subst e; simp
  · have h : ¬ (Sum.inr a : Key) = Sum.inr b := fun q => e (Sum.inr.inj q)
    rw [decide_eq_false h, decide_eq_false e]
theorem key_lr (a : Int) (b : Str) : decide ((Sum.inl a : Key) = Sum.inr b) = false := decide_eq_false (fun q => nomatch q)
theorem key_rl (a : Str) (b : Int) : decide ((Sum.inr a : Key) = Sum.inl b) = false := decide_eq_false (fun q => nomatch q)

noncomputable def mixKind (prog : Program) (w : World) : PySem.KeyKind prog w Key where
  is := keyIs
  hash := keyH w
  inj := fun v a b ha hb => by
    rcases keyIs_shape ha with ⟨i, t, rfl, rfl⟩ | ⟨x, t, rfl, rfl⟩
    · rcases keyIs_shape hb with ⟨j, u, rfl, e⟩ | ⟨y, u, rfl, e⟩
      · injection e with e1 _; rw [e1]
      · exact nomatch e
    · rcases keyIs_shape hb with ⟨j, u, rfl, e⟩ | ⟨y, u, rfl, e⟩
      · exact nomatch e
      · injection e with e1 _; rw [e1]
  byValue := fun k v h => by
    rcases keyIs_shape h with ⟨i, t, rfl, rfl⟩ | ⟨x, t, rfl, rfl⟩ <;> rfl
  pyHash := fun hv h => by
    rcases keyIs_shape hv with ⟨i, t, rfl, rfl⟩ | ⟨x, t, rfl, rfl⟩
    · exact wpAny_pyHash_int h
    · exact wpAny_pyHash_str h
  eqBool := fun hu hv h => by
    rcases keyIs_shape hu with ⟨i, t, rfl, rfl⟩ | ⟨x, t, rfl, rfl⟩
    · rcases keyIs_shape hv with ⟨j, u, rfl, rfl⟩ | ⟨y, u, rfl, rfl⟩
      · rw [key_ll] at h; exact wpAny_eqBool_int h
      · rw [key_lr] at h; exact SeqAt.EqAt.int_str i t y u _ _ _ _ h
    · rcases keyIs_shape hv with ⟨j, u, rfl, rfl⟩ | ⟨y, u, rfl, rfl⟩
      · rw [key_rl] at h; exact SeqAt.EqAt.str_int x t j u _ _ _ _ h
      · rw [key_rr] at h; exact wpAny_eqBool_str h
  «strs» := fun k x t v h => by
    rcases keyIs_shape h with ⟨i, u, rfl, e⟩ | ⟨y, u, rfl, e⟩
    · exact nomatch e
    · injection e with e1 _
      subst e1
      cases v <;> rfl

end L2

namespace L2
open PySem PySem.Spec PyProof.Rows

inductive V where
  | non | bl (b : Bool) | int (i : Int) | str (x : Str) | byt (b : Array UInt8) | flt (b : UInt64) | ref (a : Addr) | ty (n : String)
  deriving DecidableEq

noncomputable def RelV : V → Value → Prop
  | .non, u => u = Value.none
  | .bl b, u => u = Value.bool b
  | .int i, u => ∃ t, u = Value.int i t
  | .str x, u => ∃ t, u = Value.str x t
  | .byt b, u => ∃ t, u = Value.bytes b t
  | .flt b, u => ∃ t, u = Value.float b t
  | .ref a, u => u = Value.ref a
  | .ty n, u => u = Value.type n

noncomputable abbrev Vals : List V → List Value → Prop := Paired RelV
theorem Vals.length {xs : List V} {us : List Value} (r : Vals xs us) : xs.length = us.length := Paired.length r
theorem Vals.get : ∀ {xs : List V} {us : List Value} {i : Nat} {x : V}, Vals xs us → xs[i]? = some x → ∃ u, us[i]? = some u ∧ RelV x u
  | _, _, _, _, .nil, e => by simp at e
  | _, _, 0, _, .cons r _, e => by simp at e; subst e; exact ⟨_, rfl, r⟩
  | _, _, i + 1, x, .cons _ t, e => by
    obtain ⟨u, h1, h2⟩ := Vals.get (i := i) (x := x) t (by simpa using e)
    exact ⟨u, by simpa using h1, h2⟩
theorem Vals.set {x : V} {u : Value} (r : RelV x u) : ∀ {xs : List V} {us : List Value} (i : Nat), Vals xs us → Vals (xs.set i x) (us.set i u)
  | _, _, _, .nil => .nil
  | _, _, 0, .cons _ t => .cons r t
  | _, _, i + 1, .cons q t => .cons q (Vals.set r i t)
theorem Vals.append : ∀ {xs ys : List V} {us ws : List Value}, Vals xs us → Vals ys ws → Vals (xs ++ ys) (us ++ ws)
  | _, _, _, _, .nil, s => s
  | _, _, _, _, .cons r t, s => .cons r (Vals.append t s)
theorem Vals.take : ∀ {xs : List V} {us : List Value} (n : Nat), Vals xs us → Vals (xs.take n) (us.take n)
  | _, _, 0, _ => .nil
  | _, _, _ + 1, .nil => .nil
  | _, _, n + 1, .cons r t => .cons r (Vals.take n t)
theorem Vals.drop : ∀ {xs : List V} {us : List Value} (n : Nat), Vals xs us → Vals (xs.drop n) (us.drop n)
  | _, _, 0, r => r
  | _, _, _ + 1, .nil => .nil
  | _, _, n + 1, .cons _ t => Vals.drop n t

noncomputable def RelO : Option V → Option Value → Prop
  | some v, some u => RelV v u
  | none, none => True
  | _, _ => False
noncomputable def KV {κ : Type} : List (κ × V) → List (κ × Value) → Prop := Paired fun (p : κ × V) (q : κ × Value) => p.1 = q.1 ∧ RelV p.2 q.2

noncomputable def kV : Key → V
  | .inl i => .int i
  | .inr x => .str x

inductive HO where

  | lst (xs : List V)

  | tup (xs : List V)

  | dK (kvs : List (Key × V)) | dT (kvs : List (List Key × V))

  | set (S : Int → Bool) (n : Nat)

  | ins (C dx : Addr) (fs : List (Str × V))

  | own (x : Addr)

  | xd (fs : List (Str × V))

  | met (f x : Addr)

  | rng (lo hi : Int)

  | frz (o : Obj) (u : HO)

  | tbl (ps : Array Value)

  | ext (φ : Heap → Prop)

noncomputable abbrev Hp := Addr → Option HO
noncomputable def upd (H : Hp) (a : Addr) (o : HO) : Hp := fun b => if b = a then some o else H b
theorem upd_same {H : Hp} {a : Addr} {o : HO} : upd H a o a = some o := by unfold upd; rw [if_pos rfl]
theorem upd_ne {H : Hp} {a b : Addr} {o : HO} (h : b ≠ a) : upd H a o b = H b := by unfold upd; rw [if_neg h]
theorem ne_of_none {H : Hp} {a b : Addr} {o : HO} (h : H a = some o) (h' : H b = none) : a ≠ b := by
  intro e; subst e; rw [h] at h'; cases h'

section
variable (P : Program) (w : World)
noncomputable def ObjOk (H : Hp) (h : Heap) (a : Addr) : HO → Prop
  | .lst xs => xs.length ≤ sizeLine ∧ ∃ (its : List Value) (n : Nat), Vals xs its ∧ h.get? a = some { cls := .type "list", data := .seq its.toArray n }
  | .tup xs => xs.length ≤ sizeLine ∧ ∃ its : List Value, Vals xs its ∧ IsTup h a its.toArray
  | .dK kvs => kvs.length ≤ sizeLine ∧ (a == sysModules) = false ∧ ∃ vs, KV kvs vs ∧ h.DictOf (mixKind P w) a vs
  | .dT kvs => kvs.length ≤ sizeLine ∧ (a == sysModules) = false ∧ ∃ xs : List (List Key × Addr × Value),
      Paired (fun (p : List Key × V) (q : List Key × Addr × Value) => p.1 = q.1 ∧ H q.2.1 = some (.tup (p.1.map kV)) ∧ RelV p.2 q.2.2) kvs xs ∧
      ∃ o es ep, h.get? a = some o ∧ o.ExactDict ∧ o.data = .dict es ep ∧ es.toList = xs.map (entryOfKey (tupleKind (mixKind P w))) ∧ (xs.map (·.1)).Nodup
  | .set S n => h.SetOf (intKind P w) a S n
  | .ins C dx fs => H dx = some (.own a) ∧ fs.length ≤ 1000 ∧ dx ≠ a ∧ h.get? a = some (PySem.W.instObj C dx) ∧
      ∃ mA, h.Ns1 dx mA ∧ (∀ f, RelO (fs.lookup f) (mA f)) ∧ PySem.Within mA (fs.map (·.1))
  | .own _ => ∃ o, h.get? a = some o
  | .xd fs => ∃ mA, h.Ns1 a mA ∧ ∀ f, RelO (fs.lookup f) (mA f)
  | .rng lo hi => ∃ t u v, h.get? a = some { cls := .type "range", data := .fields #[.int lo t, .int hi u, .int 1 v] }
  | .frz o u => h.get? a = some o ∧ ObjOk H h a u
  | .tbl ps => h.get? a = some { cls := .none, data := .fields ps }
  | .met f x => h.get? a = some (PySem.W.methodObj (.ref f) (.ref x))
  | .ext φ => φ h ∧ (∃ o, h.get? a = some o) ∧ ∀ h1 h2 : Heap, φ h1 → (∀ o, h1.get? a = some o → h2.get? a = some o) → φ h2

noncomputable def HOk (H : Hp) (h : Heap) : Prop := ∀ a o, H a = some o → ObjOk P w H h a o
end

section
variable {P : Program} {w : World} {H H' : Hp} {h h' : Heap} {a : Addr} {o : HO}
theorem ObjOk.lt (x : ObjOk P w H h a o) : a < h.objs.size := by
  cases o with
  | lst xs => obtain ⟨_, _, _, _, e⟩ := x; exact Heap.lt_size e
  | tup xs => obtain ⟨_, _, _, p⟩ := x; exact p.lt
  | dK kvs => obtain ⟨_, _, _, _, o, _, _, e, _⟩ := x; exact Heap.lt_size e
  | dT kvs => obtain ⟨_, _, _, _, o, _, _, e, _⟩ := x; exact Heap.lt_size e
  | set S n => obtain ⟨o, _, _, _, e, _⟩ := x; exact Heap.lt_size e
  | ins C dx fs => obtain ⟨_, _, _, e, _⟩ := x; exact Heap.lt_size e
  | own y => obtain ⟨_, e⟩ := x; exact Heap.lt_size e
  | xd fs => obtain ⟨_, ⟨_, _, _, e, _⟩, _⟩ := x; exact Heap.lt_size e
  | rng lo hi => obtain ⟨_, _, _, e⟩ := x; exact Heap.lt_size e
  | frz ob u => obtain ⟨e, _⟩ := x; exact Heap.lt_size e
  | tbl ps => exact Heap.lt_size (show h.get? a = some _ from x)
  | met f y => exact Heap.lt_size (show h.get? a = some _ from x)
  | ext φ => obtain ⟨_, ⟨_, e⟩, _⟩ := x; exact Heap.lt_size e
theorem Paired.mapP {α β : Type} {F G : α → β → Prop} : ∀ {l₁ : List α} {l₂ : List β}, Paired F l₁ l₂ → (∀ a b, F a b → G a b) → Paired G l₁ l₂
  | _, _, .nil, _ => .nil
  | _, _, .cons r t, f => .cons (f _ _ r) (Paired.mapP t f)

theorem ObjOk.stay (x : ObjOk P w H h a o) (k : ∀ b u, (b = a ∨ H b = some (.own a)) → h.get? b = some u → h'.get? b = some u)
    (ho : ∀ b, H b = some (.own a) → H' b = some (.own a)) (ht : ∀ b xs, H b = some (.tup xs) → H' b = some (.tup xs)) : ObjOk P w H' h' a o := by
  induction o with
  | lst xs => obtain ⟨z, its, n, r, e⟩ := x; exact ⟨z, its, n, r, k _ _ (.inl rfl) e⟩
  | tup xs => obtain ⟨z, its, r, ob, e, c⟩ := x; exact ⟨z, its, r, ob, k _ _ (.inl rfl) e, c⟩
  | dK kvs => obtain ⟨z, y, vs, r, ob, es, ep, e, c⟩ := x; exact ⟨z, y, vs, r, ob, es, ep, k _ _ (.inl rfl) e, c⟩
  | dT kvs =>
    obtain ⟨z, y, xs, r, ob, es, ep, e, c⟩ := x
    exact ⟨z, y, xs, Paired.mapP r fun p q z => ⟨z.1, ht _ _ z.2.1, z.2.2⟩, ob, es, ep, k _ _ (.inl rfl) e, c⟩
  | set S n => obtain ⟨ob, es, ep, t, e, c⟩ := x; exact ⟨ob, es, ep, t, k _ _ (.inl rfl) e, c⟩
  | ins C dx fs =>
    obtain ⟨d, z, ne, e, mA, ⟨od, es, ep, e2, c⟩, r⟩ := x
    exact ⟨ho _ d, z, ne, k _ _ (.inl rfl) e, mA, ⟨od, es, ep, k _ _ (.inr d) e2, c⟩, r⟩
  | own y => obtain ⟨ob, e⟩ := x; exact ⟨ob, k _ _ (.inl rfl) e⟩
  | xd fs => obtain ⟨mA, ⟨od, es, ep, e, c⟩, r⟩ := x; exact ⟨mA, ⟨od, es, ep, k _ _ (.inl rfl) e, c⟩, r⟩
  | rng lo hi => obtain ⟨t, u, v, e⟩ := x; exact ⟨t, u, v, k _ _ (.inl rfl) e⟩
  | frz ob u ih => obtain ⟨e, q⟩ := x; exact ⟨k _ _ (.inl rfl) e, ih q⟩
  | tbl ps =>
    have e : h.get? a = some { cls := .none, data := .fields ps } := x
    show h'.get? a = some { cls := .none, data := .fields ps }
    exact k a _ (.inl rfl) e
  | met f y =>
    have e : h.get? a = some (PySem.W.methodObj (.ref f) (.ref y)) := x
    show h'.get? a = some (PySem.W.methodObj (.ref f) (.ref y))
    exact k a _ (.inl rfl) e
  | ext φ => obtain ⟨p, ⟨o, e⟩, st⟩ := x; exact ⟨st _ _ p fun o q => k _ _ (.inl rfl) q, ⟨o, k _ _ (.inl rfl) e⟩, st⟩
theorem HOk.lt (x : HOk P w H h) (e : H a = some o) : a < h.objs.size := (x a o e).lt
theorem HOk.fresh (x : HOk P w H h) (e : h.objs.size ≤ a) : H a = none := by
  cases q : H a with
  | none => rfl
  | some u => exact absurd (Nat.lt_of_lt_of_le (x.lt q) e) (Nat.lt_irrefl _)

theorem HOk.kept (x : HOk P w H h) (k : ∀ b u, h.get? b = some u → h'.get? b = some u) : HOk P w H h' := fun a o e =>
  (x a o e).stay (fun b u _ q => k b u q) (fun _ q => q) fun _ _ q => q

theorem HOk.laid (x : HOk P w H h) (k : ∀ b u, h.get? b = some u → h'.get? b = some u) (hp : h.objs.size ≤ a) (new : ObjOk P w (upd H a o) h' a o) : HOk P w (upd H a o) h' := fun b u e => by
  have hn := x.fresh hp
  by_cases hb : b = a
  · subst hb; rw [upd_same] at e; cases e; exact new
  · rw [upd_ne hb] at e
    exact (x b u e).stay (fun c v _ q => k c v q) (fun c q => by rw [upd_ne (ne_of_none q hn)]; exact q) fun c xs q => by rw [upd_ne (ne_of_none q hn)]; exact q
end

noncomputable def Rd (H : Hp) (a : Addr) (u : HO) : Prop := H a = some u ∨ ∃ o, H a = some (.frz o u)
theorem Rd.ok {P : Program} {w : World} {H : Hp} {h : Heap} {a : Addr} {u : HO} (r : Rd H a u) (x : HOk P w H h) : ObjOk P w H h a u := by
  rcases r with r | ⟨o, r⟩
  · exact x a u r
  · obtain ⟨_, q⟩ := x a _ r
    exact q

noncomputable def Mut : Option HO → Prop
  | some (.lst _) => True
  | some (.dK _) => True
  | some (.dT _) => True
  | some (.set _ _) => True
  | some (.ins _ _ _) => True
  | some (.ext _) => True
  | _ => False
section
variable {P : Program} {w : World} {H : Hp} {h h' : Heap} {x e : Addr} {o' : HO}

theorem HOk.write (ok : HOk P w H h) (mu : Mut (H x)) (he : e = x ∨ H e = some (.own x)) (k : ∀ b u, b ≠ e → h.get? b = some u → h'.get? b = some u) (heo : ∃ u, h'.get? e = some u)
    (new : ObjOk P w (upd H x o') h' x o') : HOk P w (upd H x o') h' := fun b u q => by
  have nown : ∀ c y, H c = some (.own y) → c ≠ x := fun c y r z => by subst z; rw [r] at mu; exact mu
  have ntup : ∀ c xs, H c = some (.tup xs) → c ≠ x := fun c xs r z => by subst z; rw [r] at mu; exact mu
  by_cases hb : b = x
  · subst hb; rw [upd_same] at q; cases q; exact new
  · rw [upd_ne hb] at q
    by_cases hbe : b = e
    · have q' : H b = some (.own x) := by
        rcases he with z | z
        · exact absurd (hbe.trans z) hb
        · rw [hbe]; exact z
      rw [q] at q'; cases q'
      obtain ⟨v, hv⟩ := heo
      exact ⟨v, by rw [hbe]; exact hv⟩
    · refine (ok b u q).stay (fun c v hc r => k c v ?_ r) (fun c r => by rw [upd_ne (nown c b r)]; exact r) fun c xs r => by rw [upd_ne (ntup c xs r)]; exact r
      rcases hc with rfl | hc
      · exact hbe
      · rintro rfl
        rcases he with z | z
        · exact nown c b hc z
        · rw [hc] at z; cases z; exact hb rfl
end

structure Un (fs ex : List Addr) (H H' : Hp) (h h' : Heap) : Prop where
  keep : ∀ b o, h.get? b = some o → H b = none → b ∉ fs → b ∉ ex → h'.get? b = some o
  slot : ∀ b o, h.get? b = some o → H b = none → b ∈ fs → b ∉ ex → ∃ sl, h'.get? b = some { o with slots := sl }
  free : ∀ b o, h.get? b = some o → H b = none → b ∉ ex → H' b = none
  there : ∀ b o, h.get? b = some o → b ∉ ex → ∃ o', h'.get? b = some o'
  tups : ∀ b xs, H b = some (.tup xs) → H' b = some (.tup xs)
  frzs : ∀ b o u, H b = some (.frz o u) → H' b = some (.frz o u)
  tbls : ∀ b ps, H b = some (.tbl ps) → ∃ more, H' b = some (.tbl (ps ++ more))
section
variable {fs fs' ex ex' : List Addr} {H H1 H2 : Hp} {h h1 h2 h' : Heap} {a x e : Addr} {o : HO}
theorem Un.any (u : Un fs ex H H1 h h1) {b : Addr} {ob : Obj} (q : h.get? b = some ob) (n : H b = none) (hx : b ∉ ex) : ∃ sl, h1.get? b = some { ob with slots := sl } := by
  by_cases hb : b ∈ fs
  · exact u.slot b ob q n hb hx
  · exact ⟨ob.slots, u.keep b ob q n hb hx⟩
theorem Un.trans (a : Un fs ex H H1 h h1) (b : Un fs ex H1 H2 h1 h2) : Un fs ex H H2 h h2 where
  keep := fun c ob q n hc hx => b.keep c ob (a.keep c ob q n hc hx) (a.free c ob q n hx) hc hx
  slot := fun c ob q n hc hx => by
    obtain ⟨sl, e1⟩ := a.slot c ob q n hc hx
    obtain ⟨sl', e2⟩ := b.slot c _ e1 (a.free c ob q n hx) hc hx
    exact ⟨sl', e2⟩
  free := fun c ob q n hx => by
    obtain ⟨o', e1⟩ := a.there c ob q hx
    exact b.free c o' e1 (a.free c ob q n hx) hx
  there := fun c ob q hx => by
    obtain ⟨o', e1⟩ := a.there c ob q hx
    exact b.there c o' e1 hx
  tups := fun c xs q => b.tups c xs (a.tups c xs q)
  frzs := fun c ob xs q => b.frzs c ob xs (a.frzs c ob xs q)
  tbls := fun c ps q => by
    obtain ⟨m1, e1⟩ := a.tbls c ps q
    obtain ⟨m2, e2⟩ := b.tbls c _ e1
    exact ⟨m1 ++ m2, by rw [e2, Array.append_assoc]⟩
theorem Un.kept (k : ∀ b u, h.get? b = some u → h'.get? b = some u) : Un fs ex H H h h' :=
  ⟨fun b ob q _ _ _ => k b ob q, fun b ob q _ _ _ => ⟨ob.slots, k b ob q⟩, fun _ _ _ n _ => n, fun b ob q _ => ⟨ob, k b ob q⟩, fun _ _ q => q, fun _ _ _ q => q, fun _ ps q => ⟨#[], by rw [q]; simp⟩⟩
theorem Un.refl : Un fs ex H H h h := Un.kept fun _ _ q => q
theorem Un.laid (k : ∀ b u, h.get? b = some u → h'.get? b = some u) (hp : h.objs.size ≤ a) (hn : H a = none) : Un fs ex H (upd H a o) h h' where
  keep := fun b u q _ _ _ => k b u q
  slot := fun b u q _ _ _ => ⟨u.slots, k b u q⟩
  free := fun b u q n _ => by rw [upd_ne (Nat.ne_of_lt (Nat.lt_of_lt_of_le (Heap.lt_size q) hp))]; exact n
  there := fun b u q _ => ⟨u, k b u q⟩
  tups := fun b xs q => by rw [upd_ne (ne_of_none q hn)]; exact q
  frzs := fun b u xs q => by rw [upd_ne (ne_of_none q hn)]; exact q
  tbls := fun b ps q => ⟨#[], by rw [upd_ne (ne_of_none q hn), q]; simp⟩
theorem Un.write (mu : Mut (H x)) (he : e = x ∨ H e = some (.own x)) (k : ∀ b u, b ≠ e → h.get? b = some u → h'.get? b = some u) (heo : ∃ u, h'.get? e = some u) : Un fs ex H (upd H x o) h h' := by
  have hx : ∀ b, H b = none → b ≠ x := fun b n z => by subst z; rw [n] at mu; exact mu
  have hb : ∀ b, H b = none → b ≠ e := fun b n z => by
    subst z
    rcases he with r | r
    · exact hx b n r
    · rw [n] at r; cases r
  have hm : ∀ b u, H b = some u → ¬ Mut (some u) → b ≠ x := fun b u q nm z => by subst z; rw [q] at mu; exact nm mu
  refine ⟨fun b u q n _ _ => k b u (hb b n) q, fun b u q n _ _ => ⟨u.slots, k b u (hb b n) q⟩, fun b u q n _ => by rw [upd_ne (hx b n)]; exact n, fun b u q _ => ?_,
    fun b xs q => by rw [upd_ne (hm b _ q fun z => z)]; exact q, fun b u xs q => by rw [upd_ne (hm b _ q fun z => z)]; exact q, fun b ps q => ⟨#[], by rw [upd_ne (hm b _ q fun z => z), q]; simp⟩⟩
  by_cases hbe : b = e
  · subst hbe; exact heo
  · exact ⟨u, k b u hbe q⟩
theorem Un.mono (u : Un fs ex H H1 h h1) (hs : ∀ b ∈ fs, b ∈ fs') (hx : ∀ b ∈ ex, b ∈ ex') : Un fs' ex' H H1 h h1 :=
  ⟨fun b ob q n hb he => u.keep b ob q n (fun z => hb (hs b z)) fun z => he (hx b z), fun _ _ q n _ he => u.any q n fun z => he (hx _ z), fun b ob q n he => u.free b ob q n fun z => he (hx b z), fun b ob q he => u.there b ob q fun z => he (hx b z), u.tups, u.frzs, u.tbls⟩
end

noncomputable def trk (h : Heap) (H : Hp) : List Addr := (List.range h.objs.size).filter fun a => (H a).isSome
noncomputable def hidT (h : Heap) (H : Hp) : Heap := PySem.W.hideAll h (trk h H)
theorem hidT_size (h : Heap) (H : Hp) : (hidT h H).objs.size = h.objs.size := PySem.W.hideAll_size _ _
theorem hidT_get {h : Heap} {H : Hp} {b : Addr} {o : Obj} (e : h.get? b = some o) (n : H b = none) : (hidT h H).get? b = some o :=
  PySem.W.hideAll_get _ e fun hm => by
    have q : (H b).isSome = true := (List.mem_filter.mp hm).2
    rw [n] at q; simp at q
theorem of_hidT {h : Heap} {H : Hp} {b : Addr} {o : Obj} (e : (hidT h H).get? b = some o) : h.get? b = some o ∧ H b = none := by
  have e' : h.get? b = some o := PySem.W.of_hideAll (trk h H) e
  refine ⟨e', ?_⟩
  cases q : H b with
  | none => rfl
  | some x =>
    have hm : b ∈ trk h H := List.mem_filter.mpr ⟨List.mem_range.mpr (Heap.lt_size e'), by simp [q]⟩
    have z : (hidT h H).get? b = none := PySem.W.hideAll_none (trk h H) hm
    rw [z] at e; cases e

noncomputable def allNews (g h : Heap) (L : Addr) : List (Addr × Obj) := (List.range h.objs.size).filterMap fun a => if a = L ∨ (g.get? a).isSome = true then none else (h.get? a).map fun o => (a, o)
noncomputable def rest (g h : Heap) (L d : Addr) : List (Addr × Obj) := (allNews g h L).filter fun p => decide (p.1 ≠ d)
end L2

namespace L2
open PySem PySem.Spec PyProof.Rows

structure Mod (K : PySem.W.Frag) (mg : Str → Option Value) (base : Heap) : Prop where
  kin : K.In base
  glob : base.Ns mainGlobals mg
  blt : ∃ mb, base.Ns builtinsNs mb ∧ ∀ x : Str, x ≠ "__name__" → mb x = bootBuiltins x
  nolimit : base.NoLimit

structure Cx where
  prog : Program
  w : World
  K : PySem.W.Frag
  mg : Str → Option Value
  base : Heap
  A : Around
  N : List Str
  s₀ : Shared
  H₀ : Hp
  env : Env
  outer : List Env
  stack : List Env
  ex : List Addr
  fn : Str → Bool
  calm : Bool
  pn : List (Addr × Obj)
  xe : Value → Shared → Prop

noncomputable def frs (l : List Env) : List Addr := l.filterMap (·.frame)
noncomputable abbrev Cx.fs (X : Cx) : List Addr := frs X.outer

noncomputable def Vis (sc : Scope) (x : Str) : Prop := sc.names.lookup x = some .local ∨ sc.names.lookup x = some .cell ∨ sc.names.lookup x = some .free
noncomputable def Loc (sc : Scope) (x : Str) : Prop := sc.names.lookup x = some .local ∨ sc.names.lookup x = some .cell
noncomputable def Look (env : Env) (h : Heap) (m : Str → Option Value) (x : Str) (u : Value) : Prop :=
  (env.kindOf x = some .local ∧ m x = some u) ∨ ((env.kindOf x = some .cell ∨ env.kindOf x = some .free) ∧ ∃ c, env.cells.lookup x = some c ∧ h.IsCell c (some u))

structure Cx.Ok (X : Cx) : Prop where
  mod : Mod X.K X.mg X.base
  kind : X.env.scope.kind = .function
  glob : X.env.globals = mainGlobals
  blt : X.env.builtins = builtinsNs
  above : X.s₀.heap.objs.size ≤ X.env.locals
  inj : ∀ x y c, X.env.cells.lookup x = some c → X.env.cells.lookup y = some c → x = y
  has : ∀ x, (X.env.kindOf x = some .cell ∨ X.env.kindOf x = some .free) → ∃ c, X.env.cells.lookup x = some c
  cab : ∀ x c, X.fn x = true → X.env.cells.lookup x = some c → X.s₀.heap.objs.size ≤ c
  hd : X.calm = true → X.A.handled = none
  frames : X.A.frames = some X.stack
  stk : X.stack = X.outer ∨ (X.stack = X.env :: X.outer ∧ X.env.frame = some X.env.locals)
  exf : ∀ b ∈ X.ex, b ≠ X.env.locals ∧ ∀ x c, X.env.cells.lookup x = some c → c ≠ b
  bs : ∀ b o, X.base.get? b = some o → X.s₀.heap.get? b = some o ∧ X.H₀ b = none
  bsz : X.base.objs.size ≤ X.s₀.heap.objs.size
  noex : ∀ b o, X.base.get? b = some o → b ∉ X.ex
  exfs : ∀ b ∈ X.ex, b ∉ X.fs
  funs : X.s₀.heap.FunFrames X.base X.outer
  frf : ∀ b ∈ X.fs, X.H₀ b = none

structure Inv (X : Cx) (pins : List (Addr × Obj)) (σ : List (Option V)) (H : Hp) (s : Shared) : Prop where
  ok : X.Ok
  os : s.os = X.s₀.os
  bare : AllBare s.gens
  base : Un X.fs X.ex X.H₀ H X.s₀.heap s.heap
  loc : ∃ m, s.heap.Ns X.env.locals m ∧ ∀ (i : Nat) (x : Str) (v : V), X.N[i]? = some x → σ[i]? = some (some v) → Vis X.env.scope x → ∃ u, RelV v u ∧ Look X.env s.heap m x u
  cell : ∀ x c, X.env.cells.lookup x = some c → ∃ v, s.heap.IsCell c v
  free : H X.env.locals = none
  freeC : ∀ x c, X.env.cells.lookup x = some c → H c = none
  pin : ∀ p ∈ X.pn ++ pins, s.heap.get? p.1 = some p.2 ∧ H p.1 = none ∧ p.1 ≠ X.env.locals ∧ p.1 ∉ X.fs ∧ ∀ v, p.2.data ≠ .cell v
  hok : HOk X.prog X.w H s.heap
  len : σ.length = X.N.length

section
variable {X : Cx} {pins : List (Addr × Obj)} {σ : List (Option V)} {H H' : Hp} {s : Shared} {h' : Heap}

theorem Cx.Ok.nofr (ok : X.Ok) {b : Addr} {o : Obj} (e : X.base.get? b = some o) : b ∉ X.fs := fun hb => by
  have := (ok.funs.mem hb).1
  rw [e] at this; cases this
theorem Inv.bs (I : Inv X pins σ H s) : ∀ b o, X.base.get? b = some o → s.heap.get? b = some o ∧ H b = none := fun b o e =>
  ⟨I.base.keep b o (I.ok.bs b o e).1 (I.ok.bs b o e).2 (I.ok.nofr e) (I.ok.noex b o e), I.base.free b o (I.ok.bs b o e).1 (I.ok.bs b o e).2 (I.ok.noex b o e)⟩
theorem Inv.bk (I : Inv X pins σ H s) : ∀ b o, X.base.get? b = some o → s.heap.get? b = some o := fun b o e => (I.bs b o e).1
theorem Inv.mod (I : Inv X pins σ H s) : Mod X.K X.mg X.base := I.ok.mod
theorem Inv.kIn (I : Inv X pins σ H s) : X.K.In s.heap := I.ok.mod.kin.keeps I.bk
theorem Inv.nolimit (I : Inv X pins σ H s) : s.heap.NoLimit := I.ok.mod.nolimit.keeps I.bk
theorem Inv.lt (I : Inv X pins σ H s) : X.env.locals < s.heap.objs.size := let ⟨_, hn, _⟩ := I.loc; hn.lt
theorem Inv.sz (I : Inv X pins σ H s) : X.s₀.heap.objs.size ≤ s.heap.objs.size := Nat.le_trans I.ok.above (Nat.le_of_lt I.lt)
theorem Inv.nofs (I : Inv X pins σ H s) {a : Addr} (h : s.heap.objs.size ≤ a) : a ∉ X.fs := fun hb => by
  obtain ⟨_, o, ho, _⟩ := I.ok.funs.mem hb
  exact absurd (Nat.lt_of_lt_of_le (Heap.lt_size ho) (Nat.le_trans I.sz h)) (Nat.lt_irrefl _)
theorem Inv.cne (I : Inv X pins σ H s) : ∀ x c, X.env.cells.lookup x = some c → c ≠ X.env.locals := fun x c e z => by
  obtain ⟨v, o, ho, hd⟩ := I.cell x c e
  obtain ⟨m, ⟨o', es, ep, ho', hd', _⟩, _⟩ := I.loc
  rw [z, ho'] at ho; cases ho; rw [hd'] at hd; cases hd
theorem Inv.funs (I : Inv X pins σ H s) : s.heap.FunFrames X.base X.outer := by
  have all : ∀ (l : List Env), (∀ b ∈ frs l, b ∈ X.fs) → X.s₀.heap.FunFrames X.base l → s.heap.FunFrames X.base l := by
    intro l
    induction l with
    | nil => intro _ _; trivial
    | cons env r ih =>
      intro hs hl
      obtain ⟨hk, ⟨L, o, hf, hn, ho, hd⟩, hr⟩ := hl
      have hL : L ∈ X.fs := hs L (by unfold frs; rw [List.filterMap_cons, hf]; exact List.mem_cons_self)
      obtain ⟨sl, e⟩ := I.base.slot L o ho (I.ok.frf L hL) hL fun z => I.ok.exfs L z hL
      exact ⟨hk, ⟨L, _, hf, hn, e, hd⟩, ih (fun b hb => hs b (by unfold frs; rw [List.filterMap_cons, hf]; exact List.mem_cons_of_mem _ hb)) hr⟩
  exact all X.outer (fun _ hb => hb) I.ok.funs

theorem Inv.stack (I : Inv X pins σ H s) : s.heap.FunFrames X.base X.stack := by
  rcases I.ok.stk with e | ⟨e, hf⟩
  · rw [e]; exact I.funs
  · rw [e]
    obtain ⟨m, hn, _⟩ := I.loc
    refine .cons (by rw [I.ok.kind]; decide) hf hn ?_ I.funs
    exact Heap.get?_none_of_le (Nat.le_trans I.ok.bsz I.ok.above)
theorem Inv.stkSub (I : Inv X pins σ H s) : ∀ b ∈ frs X.stack, b ∈ X.env.locals :: X.fs := fun b hb => by
  rcases I.ok.stk with e | ⟨e, hf⟩
  · rw [e] at hb; exact List.mem_cons_of_mem _ hb
  · rw [e] at hb
    unfold frs at hb
    rw [List.filterMap_cons, hf] at hb
    exact hb
theorem Inv.stkFree (I : Inv X pins σ H s) : ∀ b ∈ frs X.stack, H b = none := fun b hb => by
  rcases List.mem_cons.mp (I.stkSub b hb) with e | hb
  · rw [e]; exact I.free
  · obtain ⟨_, o, ho, _⟩ := I.ok.funs.mem hb
    exact I.base.free b o ho (I.ok.frf b hb) fun z => I.ok.exfs b z hb

theorem Inv.step {g' : Array GenState} {t' : Nat} {d' : Drawn} {ch : List Addr} (I : Inv X pins σ H s)
    (hch : ∀ b ∈ ch, (b ∈ X.ex ∨ X.s₀.heap.objs.size ≤ b) ∧ b ≠ X.env.locals ∧ (∀ x c, X.env.cells.lookup x = some c → c ≠ b) ∧ ∀ p ∈ X.pn ++ pins, p.1 ≠ b)
    (keep : ∀ b o, b ≠ X.env.locals → b ∉ X.fs → b ∉ ch → s.heap.get? b = some o → H b = none → h'.get? b = some o)
    (slot : ∀ b o, b ≠ X.env.locals → b ∈ X.fs → b ∉ ch → s.heap.get? b = some o → H b = none → ∃ sl, h'.get? b = some { o with slots := sl }) (free : ∀ b o, b ∉ ch → s.heap.get? b = some o → H b = none → H' b = none)
    (there : ∀ b o, b ∉ ch → s.heap.get? b = some o → ∃ o', h'.get? b = some o')
    (tups : ∀ b xs, H b = some (.tup xs) → H' b = some (.tup xs)) (frzs : ∀ b o u, H b = some (.frz o u) → H' b = some (.frz o u)) (tbls : ∀ b ps, H b = some (.tbl ps) → ∃ more, H' b = some (.tbl (ps ++ more)))
    (ns : ∀ m, s.heap.Ns X.env.locals m → h'.Ns X.env.locals m) (hok : HOk X.prog X.w H' h') (hg : AllBare g') :
    Inv X pins σ H' { s with heap := h', gens := g', drawn := d', toks := t' } := by
  have neL : ∀ b o, X.s₀.heap.get? b = some o → b ≠ X.env.locals := fun b o e => Nat.ne_of_lt (Nat.lt_of_lt_of_le (Heap.lt_size e) I.ok.above)
  have neC : ∀ b o, X.s₀.heap.get? b = some o → b ∉ X.ex → b ∉ ch := fun b o e hx hb => by
    rcases (hch b hb).1 with z | z
    · exact hx z
    · exact absurd (Nat.lt_of_lt_of_le (Heap.lt_size e) z) (Nat.lt_irrefl _)
  have cellK : ∀ x c, X.env.cells.lookup x = some c → ∀ v, s.heap.IsCell c v → h'.IsCell c v := fun x c e v ⟨o, ho, hd⟩ => by
    have nch : c ∉ ch := fun z => (hch c z).2.2.1 x c e rfl
    by_cases hc : c ∈ X.fs
    · obtain ⟨sl, q⟩ := slot c o (I.cne x c e) hc nch ho (I.freeC x c e)
      exact ⟨_, q, hd⟩
    · exact ⟨o, keep c o (I.cne x c e) hc nch ho (I.freeC x c e), hd⟩
  refine ⟨I.ok, I.os, hg, ⟨fun b o e n hb hx => ?_, fun b o e n hb hx => ?_, fun b o e n hx => ?_, fun b o e hx => ?_, fun b xs e => tups b xs (I.base.tups b xs e), fun b o xs e => frzs b o xs (I.base.frzs b o xs e), fun b ps e => ?_⟩, ?_, fun x c e => ?_, ?_, fun x c e => ?_, fun p hp => ?_, hok, I.len⟩
  · exact keep b o (neL b o e) hb (neC b o e hx) (I.base.keep b o e n hb hx) (I.base.free b o e n hx)
  · obtain ⟨sl, e1⟩ := I.base.slot b o e n hb hx
    obtain ⟨sl', e2⟩ := slot b _ (neL b o e) hb (neC b o e hx) e1 (I.base.free b o e n hx)
    exact ⟨sl', e2⟩
  · obtain ⟨o', e1⟩ := I.base.there b o e hx
    exact free b o' (neC b o e hx) e1 (I.base.free b o e n hx)
  · obtain ⟨o', e1⟩ := I.base.there b o e hx
    exact there b o' (neC b o e hx) e1
  · obtain ⟨m1, e1⟩ := I.base.tbls b ps e
    obtain ⟨m2, e2⟩ := tbls b _ e1
    exact ⟨m1 ++ m2, by rw [e2, Array.append_assoc]⟩
  · obtain ⟨m, hn, hl⟩ := I.loc
    refine ⟨m, ns m hn, fun i x v e1 e2 e3 => ?_⟩
    obtain ⟨u, r, l⟩ := hl i x v e1 e2 e3
    refine ⟨u, r, ?_⟩
    rcases l with l | ⟨k, c, e, z⟩
    · exact .inl l
    · exact .inr ⟨k, c, e, cellK x c e _ z⟩
  · obtain ⟨v, z⟩ := I.cell x c e
    exact ⟨v, cellK x c e v z⟩
  · obtain ⟨m, ⟨o, _, _, ho, _⟩, _⟩ := I.loc
    exact free _ o (fun z => (hch _ z).2.1 rfl) ho I.free
  · obtain ⟨v, o, ho, hd⟩ := I.cell x c e
    exact free c o (fun z => (hch c z).2.2.1 x c e rfl) ho (I.freeC x c e)
  · obtain ⟨e, n, ne, nf, d⟩ := I.pin p hp
    have nch : p.1 ∉ ch := fun z => (hch p.1 z).2.2.2 p hp rfl
    exact ⟨keep p.1 p.2 ne nf nch e n, free p.1 p.2 nch e n, ne, nf, d⟩

theorem Inv.un {t' : Nat} (I : Inv X pins σ H s) (u : Un X.fs [] H H' s.heap h') (hok : HOk X.prog X.w H' h') : Inv X pins σ H' { s with heap := h', toks := t' } := by
  obtain ⟨m, ⟨o, es, ep, ho, r⟩, _⟩ := id I.loc
  obtain ⟨sl, hL⟩ := u.any ho I.free (by simp)
  exact I.step (g' := s.gens) (d' := s.drawn) (ch := []) (fun _ z => nomatch z) (fun b o _ hb _ e n => u.keep b o e n hb (by simp)) (fun b o _ hb _ e n => u.slot b o e n hb (by simp)) (fun b o _ e n => u.free b o e n (by simp)) (fun b o _ e => u.there b o e (by simp)) u.tups u.frzs u.tbls (fun m' hm => by
    obtain ⟨o', es', ep', ho', r'⟩ := hm
    rw [ho] at ho'; cases ho'
    exact ⟨_, es', ep', hL, r'⟩) hok I.bare

theorem Inv.call {g' : Array GenState} {t' : Nat} {d' : Drawn} {ch : List Addr} (I : Inv X pins σ H s) (u : Un (frs X.stack) ch H H' s.heap h') (hok : HOk X.prog X.w H' h') (hg : AllBare g')
    (hch : ∀ b ∈ ch, (b ∈ X.ex ∨ X.s₀.heap.objs.size ≤ b) ∧ b ≠ X.env.locals ∧ (∀ x c, X.env.cells.lookup x = some c → c ≠ b) ∧ ∀ p ∈ X.pn ++ pins, p.1 ≠ b) :
    Inv X pins σ H' { s with heap := h', gens := g', drawn := d', toks := t' } := by
  obtain ⟨m, ⟨o, es, ep, ho, r⟩, _⟩ := id I.loc
  obtain ⟨sl, hL⟩ := u.any ho I.free fun z => (hch _ z).2.1 rfl
  exact I.step (ch := ch) hch (fun b o hL hb hc e n => u.keep b o e n (fun z => (List.mem_cons.mp (I.stkSub b z)).elim hL hb) hc) (fun b o _ _ hc e n => u.any e n hc) (fun b o hc e n => u.free b o e n hc) (fun b o hc e => u.there b o e hc) u.tups u.frzs u.tbls (fun m' hm => by
    obtain ⟨o', es', ep', ho', r'⟩ := hm
    rw [ho] at ho'; cases ho'
    exact ⟨_, es', ep', hL, r'⟩) hok hg

theorem Inv.turned {t' : Nat} {it : Addr} (I : Inv X pins σ H s) (k : ∀ b o, b ≠ it → s.heap.get? b = some o → h'.get? b = some o) (hn : H it = none) (hL : it ≠ X.env.locals)
    (h1 : it ∈ X.ex ∨ X.s₀.heap.objs.size ≤ it) (h2 : ∀ x c, X.env.cells.lookup x = some c → c ≠ it) (h3 : ∀ p ∈ X.pn ++ pins, p.1 ≠ it) : Inv X pins σ H { s with heap := h', toks := t' } := by
  have nit : ∀ b u, H b = some u → b ≠ it := fun b u e z => by rw [z, hn] at e; cases e
  refine I.step (g' := s.gens) (d' := s.drawn) (ch := [it]) (fun b hb => ?_) (fun b o _ _ hc e _ => k b o (fun z => hc (by simp [z])) e) (fun b o _ _ hc e _ => ⟨o.slots, k b o (fun z => hc (by simp [z])) e⟩) (fun _ _ _ _ n => n)
    (fun b o hc e => ⟨o, k b o (fun z => hc (by simp [z])) e⟩) (fun _ _ e => e) (fun _ _ _ e => e) (fun b ps e => ⟨#[], by rw [e]; simp⟩) (fun m hm => ?_) (fun b u e => ?_) I.bare
  · have e : b = it := by simpa using hb
    subst e
    exact ⟨h1, hL, h2, h3⟩
  · obtain ⟨o, es, ep, ho, r⟩ := hm
    exact ⟨o, es, ep, k _ o (Ne.symm hL) ho, r⟩
  · refine (I.hok b u e).stay (fun c v hc q => k c v ?_ q) (fun _ q => q) fun _ _ q => q
    rcases hc with z | z
    · rw [z]; exact nit b u e
    · exact nit c _ z
theorem Inv.tok (I : Inv X pins σ H s) (t : Nat) : Inv X pins σ H { s with toks := t } := I.un (h' := s.heap) (t' := t) Un.refl I.hok

theorem Inv.kept {t' : Nat} (I : Inv X pins σ H s) (k : ∀ b u, s.heap.get? b = some u → h'.get? b = some u) : Inv X pins σ H { s with heap := h', toks := t' } := I.un (Un.kept k) (I.hok.kept k)

theorem Inv.laid {a : Addr} {o : HO} {t' : Nat} (I : Inv X pins σ H s) (k : ∀ b u, s.heap.get? b = some u → h'.get? b = some u) (hp : s.heap.objs.size ≤ a) (new : ObjOk X.prog X.w (upd H a o) h' a o) :
    Inv X pins σ (upd H a o) { s with heap := h', toks := t' } := I.un (Un.laid k hp (I.hok.fresh hp)) (I.hok.laid k hp new)

theorem Inv.write {x e : Addr} {o : HO} {t' : Nat} (I : Inv X pins σ H s) (mu : Mut (H x)) (he : e = x ∨ H e = some (.own x)) (k : ∀ b u, b ≠ e → s.heap.get? b = some u → h'.get? b = some u) (heo : ∃ u, h'.get? e = some u)
    (new : ObjOk X.prog X.w (upd H x o) h' x o) : Inv X pins σ (upd H x o) { s with heap := h', toks := t' } := I.un (Un.write mu he k heo) (I.hok.write mu he k heo new)
theorem Inv.pins_of {pins' : List (Addr × Obj)} (I : Inv X pins σ H s) (h : ∀ p ∈ pins', s.heap.get? p.1 = some p.2 ∧ H p.1 = none ∧ p.1 ≠ X.env.locals ∧ p.1 ∉ X.fs ∧ ∀ v, p.2.data ≠ .cell v) : Inv X pins' σ H s :=
  ⟨I.ok, I.os, I.bare, I.base, I.loc, I.cell, I.free, I.freeC, fun p hp => (List.mem_append.mp hp).elim (fun z => I.pin p (List.mem_append_left _ z)) (h p), I.hok, I.len⟩

theorem nodup_ix {N : List Str} (hN : N.Nodup) {i j : Nat} {x : Str} (a : N[i]? = some x) (b : N[j]? = some x) : i = j := by
  obtain ⟨h1, e1⟩ := List.getElem?_eq_some_iff.mp a
  obtain ⟨h2, e2⟩ := List.getElem?_eq_some_iff.mp b
  exact (List.getElem_inj hN).mp (e1.trans e2.symm)

theorem store_ok2 {M : Model} {A : Around} {E : Value → Shared → Prop} {i : Nat} {x : Str} {v : V} {u : Value} {Q : Unit → Shared → Prop} (I : Inv X pins σ H s) (hN : X.N.Nodup) (hi : X.N[i]? = some x) (hx : Loc X.env.scope x) (r : RelV v u)
    (h : ∀ s', Inv X pins (σ.set i (some v)) H s' → (∃ a, Heap.SameBut a s.heap s'.heap ∧ (a = X.env.locals ∨ X.env.cells.lookup x = some a)) → Q () s') (hf : X.fn x = true ∨ X.env.scope.names.lookup x = some .local := by first | exact .inl rfl | exact .inr rfl | assumption) : wpAny M A (storeName X.env x u) Q E s := by
  obtain ⟨m, hn, hl⟩ := id I.loc
  have hcls : (X.env.scope.kind == .class || (X.env.scope.kind == .module && X.env.locals != X.env.globals)) = false := by rw [I.ok.kind]; rfl
  have hiσ : i < σ.length := by rw [I.len]; exact (List.getElem?_eq_some_iff.mp hi).1
  have cne := I.cne
  have tracked : ∀ {a : Addr} {h' : Heap}, (∃ o, s.heap.get? a = some o ∧ H a = none) → Heap.SameBut a s.heap h' → HOk X.prog X.w H h' := fun {a h'} ha hs b ob e => by
    obtain ⟨_, _, hfree⟩ := ha
    refine (I.hok b ob e).stay (fun c w' hc q => (hs.2 c ?_).trans q) (fun _ q => q) fun _ _ q => q
    rintro rfl
    rcases hc with rfl | hc
    · rw [hfree] at e; cases e
    · rw [hfree] at hc; cases hc
  rcases hx with hk | hk
  · refine wpAny_storeName_local hk hn (fun h' hn' hs => ?_) hcls
    obtain ⟨oL, _, _, hoL, _⟩ := id hn
    refine h _ ⟨I.ok, I.os, I.bare, ⟨fun b o e n hb hx => ?_, fun b o e n hb hx => ?_, I.base.free, fun b o e hx => ?_, I.base.tups, I.base.frzs, I.base.tbls⟩, ⟨_, hn', fun j y v' e1 e2 e3 => ?_⟩, fun y c e => ?_, I.free, I.freeC, fun p hp => ?_, tracked ⟨oL, hoL, I.free⟩ hs, by simpa using I.len⟩ ⟨_, hs, .inl rfl⟩
    · exact (hs.2 b (Nat.ne_of_lt (Nat.lt_of_lt_of_le (Heap.lt_size e) I.ok.above))).trans (I.base.keep b o e n hb hx)
    · obtain ⟨sl, e1⟩ := I.base.slot b o e n hb hx
      exact ⟨sl, (hs.2 b (Nat.ne_of_lt (Nat.lt_of_lt_of_le (Heap.lt_size e) I.ok.above))).trans e1⟩
    · obtain ⟨o', e1⟩ := I.base.there b o e hx
      exact ⟨o', (hs.2 b (Nat.ne_of_lt (Nat.lt_of_lt_of_le (Heap.lt_size e) I.ok.above))).trans e1⟩
    · by_cases hj : j = i
      · subst hj
        rw [hi] at e1; cases e1
        rw [List.getElem?_set_self hiσ] at e2
        cases e2
        exact ⟨u, r, .inl ⟨hk, by simp⟩⟩
      · rw [List.getElem?_set_ne (Ne.symm hj)] at e2
        obtain ⟨u', r', q⟩ := hl j y v' e1 e2 e3
        refine ⟨u', r', ?_⟩
        rcases q with ⟨k, e⟩ | ⟨k, c, e, z⟩
        · refine .inl ⟨k, ?_⟩
          have : y ≠ x := fun e => hj (nodup_ix hN e1 (e ▸ hi))
          simp [this, e]
        · exact .inr ⟨k, c, e, z.sameBut hs (cne y c e)⟩
    · obtain ⟨w', z⟩ := I.cell y c e
      exact ⟨w', z.sameBut hs (cne y c e)⟩
    · obtain ⟨e, n, ne, nf, d⟩ := I.pin p hp
      exact ⟨(hs.2 p.1 ne).trans e, n, ne, nf, d⟩
  · have hfn : X.fn x = true := by
      rcases hf with z | z
      · exact z
      · rw [z] at hk; cases hk
    obtain ⟨c, hc⟩ := I.ok.has x (.inl hk)
    obtain ⟨w', z⟩ := I.cell x c hc
    refine wpAny_storeName_cell I.ok.kind hk hc z (fun h' hc' hs => ?_)
    obtain ⟨oc, hoc, hocd⟩ := id z
    refine h { s with heap := h' } ⟨I.ok, I.os, I.bare, ⟨fun b o e n hb hx => ?_, fun b o e n hb hx => ?_, I.base.free, fun b o e hx => ?_, I.base.tups, I.base.frzs, I.base.tbls⟩, ⟨m, hn.sameBut hs (Ne.symm (cne x c hc)), fun j y v' e1 e2 e3 => ?_⟩, fun y c' e => ?_, I.free, I.freeC, fun p hp => ?_, tracked ⟨oc, hoc, I.freeC x c hc⟩ hs, by simpa using I.len⟩ ⟨c, hs, .inr hc⟩
    · exact (hs.2 b (Nat.ne_of_lt (Nat.lt_of_lt_of_le (Heap.lt_size e) (I.ok.cab x c hfn hc)))).trans (I.base.keep b o e n hb hx)
    · obtain ⟨sl, e1⟩ := I.base.slot b o e n hb hx
      exact ⟨sl, (hs.2 b (Nat.ne_of_lt (Nat.lt_of_lt_of_le (Heap.lt_size e) (I.ok.cab x c hfn hc)))).trans e1⟩
    · obtain ⟨o', e1⟩ := I.base.there b o e hx
      exact ⟨o', (hs.2 b (Nat.ne_of_lt (Nat.lt_of_lt_of_le (Heap.lt_size e) (I.ok.cab x c hfn hc)))).trans e1⟩
    · by_cases hj : j = i
      · subst hj
        rw [hi] at e1; cases e1
        rw [List.getElem?_set_self hiσ] at e2
        cases e2
        exact ⟨u, r, .inr ⟨.inl hk, c, hc, hc'⟩⟩
      · rw [List.getElem?_set_ne (Ne.symm hj)] at e2
        obtain ⟨u', r', q⟩ := hl j y v' e1 e2 e3
        refine ⟨u', r', ?_⟩
        rcases q with q | ⟨k, c', e, z'⟩
        · exact .inl q
        · refine .inr ⟨k, c', e, z'.sameBut hs ?_⟩
          rintro rfl
          exact hj (nodup_ix hN e1 (I.ok.inj _ _ _ e hc ▸ hi))
    · by_cases hcc : c' = c
      · subst hcc; exact ⟨_, hc'⟩
      · obtain ⟨w2, z2⟩ := I.cell y c' e
        exact ⟨w2, z2.sameBut hs hcc⟩
    · obtain ⟨e, n, ne, nf, d⟩ := I.pin p hp
      refine ⟨(hs.2 p.1 ?_).trans e, n, ne, nf, d⟩
      intro q
      rw [q, hoc] at e
      have q' : oc = p.2 := Option.some.inj e
      exact d w' (by rw [← q']; exact hocd)
theorem store_ok {M : Model} {A : Around} {E : Value → Shared → Prop} {i : Nat} {x : Str} {v : V} {u : Value} {Q : Unit → Shared → Prop} (I : Inv X pins σ H s) (hN : X.N.Nodup) (hi : X.N[i]? = some x) (hx : Loc X.env.scope x) (r : RelV v u)
    (h : ∀ s', Inv X pins (σ.set i (some v)) H s' → Q () s') (hf : X.fn x = true ∨ X.env.scope.names.lookup x = some .local := by first | exact .inl rfl | exact .inr rfl | assumption) : wpAny M A (storeName X.env x u) Q E s :=
  store_ok2 I hN hi hx r (fun s' I' _ => h s' I') hf

theorem Inv.call' {s' : Shared} {ch : List Addr} (I : Inv X pins σ H s) (ho : s'.os = s.os) (u : Un (frs X.stack) ch H H' s.heap s'.heap) (hok : HOk X.prog X.w H' s'.heap) (hg : AllBare s'.gens)
    (hch : ∀ b ∈ ch, (b ∈ X.ex ∨ X.s₀.heap.objs.size ≤ b) ∧ b ≠ X.env.locals ∧ (∀ x c, X.env.cells.lookup x = some c → c ≠ b) ∧ ∀ p ∈ X.pn ++ pins, p.1 ≠ b) : Inv X pins σ H' s' := by
  obtain ⟨h', g', d', t', o'⟩ := s'
  have e : o' = s.os := ho
  subst e
  exact I.call (g' := g') (t' := t') (d' := d') u hok hg hch
end

noncomputable abbrev XK := Value → Option Addr → Hp → Prop
noncomputable abbrev St := List (Option V)
noncomputable abbrev VK := V → Hp → Prop

noncomputable abbrev TE := St → Hp → VK → Prop
noncomputable abbrev TT := St → Hp → (Bool → Hp → Prop) → Prop
noncomputable abbrev TA := St → Hp → (List V → Hp → Prop) → Prop

structure Ends where
  nx : St → Hp → Prop
  rt : VK
  bk : St → Hp → Prop := fun _ _ => False
  ct : St → Hp → Prop := fun _ _ => False
noncomputable abbrev TS := Ends → St → Hp → Prop

noncomputable def EP (X : Cx) (pins : List (Addr × Obj)) (σ : St) (Q : VK) (u : Value) (s' : Shared) : Prop := ∃ v H', Inv X pins σ H' s' ∧ RelV v u ∧ Q v H'
noncomputable def TP (X : Cx) (pins : List (Addr × Obj)) (σ : St) (Q : Bool → Hp → Prop) (b : Bool) (s' : Shared) : Prop := ∃ H', Inv X pins σ H' s' ∧ Q b H'
noncomputable def AP (X : Cx) (pins : List (Addr × Obj)) (σ : St) (Q : List V → Hp → Prop) (us : List Value) (s' : Shared) : Prop := ∃ vs H', Inv X pins σ H' s' ∧ Vals vs us ∧ Q vs H'
noncomputable def SP (X : Cx) (pins : List (Addr × Obj)) (D : Ends) (f : Flow) (s' : Shared) : Prop :=
  match f with
  | .next => ∃ σ' H', Inv X pins σ' H' s' ∧ D.nx σ' H'
  | .brk => ∃ σ' H', Inv X pins σ' H' s' ∧ D.bk σ' H'
  | .cont => ∃ σ' H', Inv X pins σ' H' s' ∧ D.ct σ' H'
  | .ret u => ∃ v σ' H', Inv X pins σ' H' s' ∧ RelV v u ∧ D.rt v H'

noncomputable def PE (X : Cx) (e : Expr) (t : TE) : Prop :=
  ∀ (pins : List (Addr × Obj)) (s : Shared) (σ : St) (H : Hp) (Q : VK), Inv X pins σ H s → t σ H Q → wpAny (model X.prog X.w) X.A (eval e X.env) (EP X pins σ Q) X.xe s
noncomputable def PT (X : Cx) (e : Expr) (t : TT) : Prop :=
  ∀ (pins : List (Addr × Obj)) (s : Shared) (σ : St) (H : Hp) (Q : Bool → Hp → Prop), Inv X pins σ H s → t σ H Q → wpAny (model X.prog X.w) X.A (isTrue e X.env (eval e X.env)) (TP X pins σ Q) X.xe s

noncomputable def PW (X : Cx) (e : Expr) (t : TT) : Prop :=
  ∀ (whole : Sem Value) (pins : List (Addr × Obj)) (s : Shared) (σ : St) (H : Hp) (Q : Bool → Hp → Prop), Inv X pins σ H s → t σ H Q → wpAny (model X.prog X.w) X.A (isTrue e X.env whole) (TP X pins σ Q) X.xe s
theorem PW.pt {X : Cx} {e : Expr} {t : TT} (h : PW X e t) : PT X e t := h _

noncomputable def PA (X : Cx) (es : List Expr) (t : TA) : Prop :=
  ∀ (pos : Pos) (pins : List (Addr × Obj)) (s : Shared) (σ : St) (H : Hp) (Q : List V → Hp → Prop), Inv X pins σ H s → t σ H Q → wpAny (model X.prog X.w) X.A (spliced (backTo pos (starEach es X.env))) (AP X pins σ Q) X.xe s
noncomputable def PS (X : Cx) (st : Stmt) (t : TS) : Prop :=
  ∀ (pins : List (Addr × Obj)) (s : Shared) (σ : St) (H : Hp) (D : Ends), Inv X pins σ H s → t D σ H → wpAny (model X.prog X.w) X.A (exec st X.env) (SP X pins D) X.xe s
noncomputable def PSs (X : Cx) (st : List Stmt) (t : TS) : Prop :=
  ∀ (pins : List (Addr × Obj)) (s : Shared) (σ : St) (H : Hp) (D : Ends), Inv X pins σ H s → t D σ H → wpAny (model X.prog X.w) X.A (execs st X.env) (SP X pins D) X.xe s

theorem thn {α : Type} {t : Sem α} {Q Q' : α → Shared → Prop} {M : Model} {A : Around} {E : Value → Shared → Prop} {s : Shared} (h : wpAny M A t Q E s) (hQ : ∀ a s, Q a s → Q' a s) : wpAny M A t Q' E s := wpAny_mono h hQ fun _ _ x => x
end L2

namespace L2
open PySem PySem.Spec PyProof.Rows
section
variable {X : Cx}

theorem bin {a b : Expr} {ta tb : TE} (ha : PE X a ta) (hb : PE X b tb) {pins : List (Addr × Obj)} {s : Shared} {σ : St} {H : Hp} {R : V → V → Hp → Prop} (I : Inv X pins σ H s) (h : ta σ H fun x H1 => tb σ H1 fun y H2 => R x y H2)
    {α : Type} {Q : α → Shared → Prop} {f : Value → Value → Sem α}
    (hf : ∀ v u s2 x y H2, Inv X pins σ H2 s2 → RelV x v → RelV y u → R x y H2 → wpAny (model X.prog X.w) X.A (f v u) Q X.xe s2) :
    wpAny (model X.prog X.w) X.A (eval a X.env) (fun v s₁ => wpAny (model X.prog X.w) X.A (eval b X.env) (fun u s₂ => wpAny (model X.prog X.w) X.A (f v u) Q X.xe s₂) X.xe s₁) X.xe s := by
  refine thn (ha pins s σ H _ I h) fun v s1 ⟨x, H1, I1, r1, q1⟩ => ?_
  refine thn (hb pins s1 σ H1 _ I1 q1) fun u s2 ⟨y, H2, I2, r2, q2⟩ => ?_
  exact hf v u s2 x y H2 I2 r1 r2 q2

inductive XVar (i : Nat) (σ : St) (H : Hp) (Q : VK) : Prop
  | mk (v : V) (e : σ[i]? = some (some v)) (q : Q v H) : XVar i σ H Q
noncomputable def tVar (i : Nat) : TE := fun σ H Q => XVar i σ H Q
noncomputable def tC (v : V) : TE := fun _ H Q => Q v H
theorem pe_var {i : Nat} {x : Str} {pos : Pos} (hN : X.N[i]? = some x) (hv : Vis X.env.scope x) (hd : (x == ("__debug__" : Str)) = false := by decide) (hcd : (x == ("__classdict__" : Str)) = false := by decide) : PE X (.Name x pos) (tVar i) := by
  intro pins s σ H Q I h
  obtain ⟨v, e, h⟩ := h
  obtain ⟨m, hn, hl⟩ := I.loc
  obtain ⟨u, r, l⟩ := hl i x v hN e hv
  have fin : EP X pins σ Q u s := ⟨v, H, I, r, h⟩
  rcases l with ⟨hk, hm⟩ | ⟨hk, c, hc, hcell⟩
  · exact wpAny_Name (wpAny_loadName_local I.ok.kind hk hn hm fin) hd
  · rcases hk with hk | hk
    · exact wpAny_Name (wpAny_loadName_cell I.ok.kind hk hc hcell fin) hd
    · exact wpAny_Name (wpAny_loadName_free I.ok.kind hk hc hcell fin hcd) hd
theorem pe_int {i j pos} : PE X (.Constant (.int i) j pos) (tC (.int i)) := fun _ _ _ H _ I h => wpAny_Constant_int ⟨.int i, H, I.tok _, ⟨_, rfl⟩, h⟩
theorem pe_bl {b j pos} : PE X (.Constant (.bool b) j pos) (tC (.bl b)) := fun _ _ _ H _ I h => Constant_bool ⟨.bl b, H, I, rfl, h⟩
theorem pe_non {j pos} : PE X (.Constant .none j pos) (tC .non) := fun _ _ _ H _ I h => Constant_none ⟨.non, H, I, rfl, h⟩
theorem pe_str {x j pos} : PE X (.Constant (.str x) j pos) (tC (.str x)) := fun _ _ _ H _ I h => Calls.Constant_str ⟨.str x, H, I.tok _, ⟨_, rfl⟩, h⟩

noncomputable def Gl (X : Cx) (x : Str) : Prop := X.env.kindOf x = some .globalImplicit
theorem ld_glob {E : Value → Shared → Prop} {pins : List (Addr × Obj)} {s : Shared} {σ : St} {H : Hp} {x : Str} {u : Value} {pos : Pos} {Q : Value → Shared → Prop} (I : Inv X pins σ H s) (hg : Gl X x) (hm : X.mg x = some u) (h : Q u s)
    (hd : (x == ("__debug__" : Str)) = false := by decide) : wpAny (model X.prog X.w) X.A (eval (.Name x pos) X.env) Q E s :=
  Calls.Name_function_global I.ok.kind hg (Calls.loadGlobal_global (by rw [I.ok.glob]; exact I.mod.glob.keeps I.bk) hm h) hd
theorem ld_blt {E : Value → Shared → Prop} {pins : List (Addr × Obj)} {s : Shared} {σ : St} {H : Hp} {x : Str} {u : Value} {pos : Pos} {Q : Value → Shared → Prop} (I : Inv X pins σ H s) (hg : Gl X x) (hm : X.mg x = none) (hv : bootBuiltins x = some u) (h : Q u s)
    (hn : x ≠ "__name__" := by decide) (hd : (x == ("__debug__" : Str)) = false := by decide) : wpAny (model X.prog X.w) X.A (eval (.Name x pos) X.env) Q E s := by
  obtain ⟨mb, h1, h2⟩ := I.mod.blt
  exact Calls.Name_function_global I.ok.kind hg (Calls.loadGlobal_builtin (by rw [I.ok.glob]; exact I.mod.glob.keeps I.bk) hm (by rw [I.ok.blt]; exact h1.keeps I.bk) ((h2 x hn).trans hv) h) hd
theorem pe_bltn {x : Str} {v : V} {u : Value} {pos : Pos} (hg : Gl X x) (hm : X.mg x = none) (hv : bootBuiltins x = some u) (r : RelV v u) (hn : x ≠ "__name__" := by decide) (hd : (x == ("__debug__" : Str)) = false := by decide) : PE X (.Name x pos) (tC v) :=
  fun _ _ _ H _ I h => ld_blt I hg hm hv ⟨v, H, I, r, h⟩ hn hd

variable {a b : Expr} {ta tb : TE} {pos : Pos}

noncomputable def PC (X : Cx) (op : CmpOp) (a b : Expr) (t : TE) : Prop :=
  ∀ (pins : List (Addr × Obj)) (s : Shared) (σ : St) (H : Hp) (Q : VK), Inv X pins σ H s → t σ H Q →
    wpAny (model X.prog X.w) X.A (eval a X.env) (fun v s₁ => wpAny (model X.prog X.w) X.A (eval b X.env) (fun u s₂ => wpAny (model X.prog X.w) X.A (compareOp op v u) (EP X pins σ Q) X.xe s₂) X.xe s₁) X.xe s
theorem nobehind (b : Expr) {op : CmpOp} (h : op ≠ .In) (h2 : op ≠ .NotIn) : behindInMarks op b = false := by
  have e1 : (op == CmpOp.In) = false := by cases op <;> first | rfl | exact absurd rfl h
  have e2 : (op == CmpOp.NotIn) = false := by cases op <;> first | rfl | exact absurd rfl h2
  cases b <;> simp [behindInMarks, e1, e2]

inductive XB (x : V) (H : Hp) (Q : Bool → Hp → Prop) : Prop
  | mk (c : Bool) (e : x = .bl c) (q : Q c H) : XB x H Q
noncomputable def tB (t : TE) : TT := fun σ H Q => t σ H fun x H1 => XB x H1 Q
theorem pt_cmp {op : CmpOp} {t : TE} (h : PC X op a b t) (h1 : behindInMarks op b = false := by first | exact nobehind _ (by decide) (by decide) | rfl) : PT X (.Compare a [op] [b] pos) (tB t) := by
  intro pins s σ H Q I hw
  refine wpAny_isTrue_Compare1 (thn (h pins s σ H _ I hw) fun v s1 h1 => thn h1 fun u s2 h2 => thn h2 fun c s3 ⟨x, H1, I1, r1, q1⟩ => ?_) h1
  obtain ⟨d, rfl, q⟩ := q1
  cases r1
  exact wpAny_truthy_bool ⟨H1, I1, q⟩

theorem pt_val {e : Expr} {t : TE} (h : PE X e t) (he : ∀ whole, isTrue e X.env whole = (do let v ← whole; standAt e.pos; holding [v] (truthy v)) := by intro _; rfl) : PT X e (tB t) := by
  intro pins s σ H Q I hw
  refine isTrue_plain (thn (h pins s σ H _ I hw) fun v s1 ⟨x, H1, I1, r1, q1⟩ => ?_) (he _)
  obtain ⟨d, rfl, q⟩ := q1
  cases r1
  exact wpAny_truthy_bool ⟨H1, I1, q⟩

variable {tA tB' : TT} {rest : List Expr}
noncomputable def tAnd (t u : TT) : TT := fun σ H Q => t σ H fun c H1 => if c = true then u σ H1 Q else Q false H1
noncomputable def tOr (t u : TT) : TT := fun σ H Q => t σ H fun c H1 => if c = true then Q true H1 else u σ H1 Q
noncomputable def tNot (t : TT) : TT := fun σ H Q => t σ H fun c H1 => Q (!c) H1
theorem pw_and1 (ha : PT X a tA) : PW X (.BoolOp .And [a] pos) tA := by
  intro wh pins s σ H Q I h
  refine isTrue_and (thn (ha pins s σ H Q I h) fun c s1 e => ?_)
  cases c with
  | true => exact isTrue_and_nil e
  | false => exact e
theorem pw_or1 (ha : PT X a tA) : PW X (.BoolOp .Or [a] pos) tA := by
  intro wh pins s σ H Q I h
  refine isTrue_or (thn (ha pins s σ H Q I h) fun c s1 e => ?_)
  cases c with
  | false => exact isTrue_or_nil e
  | true => exact e
theorem pw_and (ha : PT X a tA) (hb : PW X (.BoolOp .And (b :: rest) pos) tB') : PW X (.BoolOp .And (a :: b :: rest) pos) (tAnd tA tB') := by
  intro wh pins s σ H Q I h
  refine isTrue_and (thn (ha pins s σ H _ I h) fun c s1 ⟨H1, I1, q1⟩ => ?_)
  cases c with
  | true => exact hb wh pins s1 σ H1 Q I1 q1
  | false => exact ⟨H1, I1, q1⟩
theorem pw_or (ha : PT X a tA) (hb : PW X (.BoolOp .Or (b :: rest) pos) tB') : PW X (.BoolOp .Or (a :: b :: rest) pos) (tOr tA tB') := by
  intro wh pins s σ H Q I h
  refine isTrue_or (thn (ha pins s σ H _ I h) fun c s1 ⟨H1, I1, q1⟩ => ?_)
  cases c with
  | true => exact ⟨H1, I1, q1⟩
  | false => exact hb wh pins s1 σ H1 Q I1 q1
theorem pt_not (ha : PT X a tA) : PT X (.UnaryOp .Not a pos) (tNot tA) := by
  intro pins s σ H Q I h
  exact isTrue_not (ha pins s σ H (fun c H1 => Q (!c) H1) I h)

noncomputable def tAndV (ta tb : TE) : TE := fun σ H Q => ta σ H fun x H1 => ∃ c, x = .bl c ∧ if c = true then tb σ H1 Q else Q (.bl false) H1
noncomputable def tOrV (ta tb : TE) : TE := fun σ H Q => ta σ H fun x H1 => ∃ c, x = .bl c ∧ if c = true then Q (.bl true) H1 else tb σ H1 Q
noncomputable def tNotV (ta : TE) : TE := fun σ H Q => ta σ H fun x H1 => ∃ c, x = .bl c ∧ Q (.bl (!c)) H1
theorem pe_one {op} {t : TE} (h : PE X a t) : PE X (.BoolOp op [a] pos) t := fun pins s σ H Q I hw => BoolOp_one (h pins s σ H Q I hw)
theorem pe_and (ha : PE X a ta) (hb : PE X (.BoolOp .And (b :: rest) pos) tb) : PE X (.BoolOp .And (a :: b :: rest) pos) (tAndV ta tb) := by
  intro pins s σ H Q I h
  refine BoolOp_and (thn (ha pins s σ H _ I h) fun v s1 ⟨x, H1, I1, r1, q1⟩ => ?_)
  obtain ⟨c, rfl, q1⟩ := q1
  cases r1
  refine wpAny_truthy_bool ?_
  cases c with
  | true => exact hb pins s1 σ H1 Q I1 q1
  | false => exact ⟨.bl false, H1, I1, rfl, q1⟩
theorem pe_or (ha : PE X a ta) (hb : PE X (.BoolOp .Or (b :: rest) pos) tb) : PE X (.BoolOp .Or (a :: b :: rest) pos) (tOrV ta tb) := by
  intro pins s σ H Q I h
  refine BoolOp_or (thn (ha pins s σ H _ I h) fun v s1 ⟨x, H1, I1, r1, q1⟩ => ?_)
  obtain ⟨c, rfl, q1⟩ := q1
  cases r1
  refine wpAny_truthy_bool ?_
  cases c with
  | false => exact hb pins s1 σ H1 Q I1 q1
  | true => exact ⟨.bl true, H1, I1, rfl, q1⟩
theorem pe_not (ha : PE X a ta) : PE X (.UnaryOp .Not a pos) (tNotV ta) := by
  intro pins s σ H Q I h
  refine UnaryOp_ (thn (ha pins s σ H _ I h) fun v s1 ⟨x, H1, I1, r1, q1⟩ => ?_)
  obtain ⟨c, rfl, q1⟩ := q1
  cases r1
  exact not_of (wpAny_truthy_bool ⟨.bl (!c), H1, I1, rfl, q1⟩)

noncomputable def tIf (t : TT) (ta tb : TE) : TE := fun σ H Q => t σ H fun c H1 => if c = true then ta σ H1 Q else tb σ H1 Q
theorem pe_ifExp {c : Expr} (hc : PT X c tA) (ha : PE X a ta) (hb : PE X b tb) : PE X (.IfExp c a b pos) (tIf tA ta tb) := by
  intro pins s σ H Q I h
  refine wpAny_IfExp (thn (hc pins s σ H _ I h) fun d s1 ⟨H1, I1, q1⟩ => ?_)
  cases d with
  | true => exact ha pins s1 σ H1 Q I1 q1
  | false => exact hb pins s1 σ H1 Q I1 q1
end
end L2

namespace L2
open PySem PySem.Spec PyProof.Rows

noncomputable def SqL (K : PySem.W.Frag) (H : Hp) (a : Addr) (xs : List V) : Prop :=
  Rd H a (.lst xs) ∨
    ∃ (o : Obj) (its : Array Value) (n : Nat), K.lookup a = some o ∧ o.cls = .type "list" ∧ o.dict = none ∧ o.data = .seq its n ∧ its.size ≤ sizeLine ∧ Vals xs its.toList
noncomputable def SqT (K : PySem.W.Frag) (H : Hp) (a : Addr) (xs : List V) : Prop :=
  Rd H a (.tup xs) ∨
    ∃ (o : Obj) (its : Array Value) (n : Nat), K.lookup a = some o ∧ o.cls = .type "tuple" ∧ o.data = .seq its n ∧ its.size ≤ sizeLine ∧ Vals xs its.toList
noncomputable def absV : Value → Option V
  | .none => some .non
  | .bool b => some (.bl b)
  | .int i _ => some (.int i)
  | .str x _ => some (.str x)
  | .bytes b _ => some (.byt b)
  | .float b _ => some (.flt b)
  | .ref a => some (.ref a)
  | .type n => some (.ty n)
  | _ => none
theorem RelV.abs {x : V} {u : Value} (r : RelV x u) : absV u = some x := by
  cases x with
  | non => cases r; rfl
  | bl _ => cases r; rfl
  | int _ => obtain ⟨t, rfl⟩ := r; rfl
  | str _ => obtain ⟨t, rfl⟩ := r; rfl
  | byt _ => obtain ⟨t, rfl⟩ := r; rfl
  | flt _ => obtain ⟨t, rfl⟩ := r; rfl
  | ref _ => cases r; rfl
  | ty _ => cases r; rfl
theorem RelV.inj {x y : V} {u : Value} (r : RelV x u) (q : RelV y u) : x = y := Option.some.inj (r.abs.symm.trans q.abs)
theorem Vals.inj : ∀ {xs ys : List V} {us : List Value}, Vals xs us → Vals ys us → xs = ys
  | _, _, _, .nil, .nil => rfl
  | _, _, _, .cons r t, .cons r' t' => by rw [r.inj r', Vals.inj t t']
section
variable {X : Cx} {pins : List (Addr × Obj)} {σ : St} {H : Hp} {s : Shared} {a : Addr} {xs ys : List V}
theorem SqL.of {K : PySem.W.Frag} (h : H a = some (.lst xs)) : SqL K H a xs := .inl (.inl h)
theorem SqT.of {K : PySem.W.Frag} (h : H a = some (.tup xs)) : SqT K H a xs := .inl (.inl h)
theorem Inv.list (I : Inv X pins σ H s) (h : SqL X.K H a xs) : ∃ its : List Value, Vals xs its ∧ PlainL s.heap a its.toArray ∧ xs.length ≤ sizeLine := by
  rcases h with h | ⟨o, its, n, hk, hc, hd, hs, hz, r⟩
  · obtain ⟨z, its, n, r, e⟩ := h.ok I.hok
    exact ⟨its, r, ⟨_, n, e, rfl, rfl, rfl⟩, z⟩
  · refine ⟨its.toList, r, ⟨o, n, I.kIn a o hk, hc, hd, by simpa using hs⟩, ?_⟩
    have e := r.length
    simp only [Array.length_toList] at e
    omega
theorem Inv.tuple (I : Inv X pins σ H s) (h : SqT X.K H a xs) : ∃ its : List Value, Vals xs its ∧ IsTup s.heap a its.toArray ∧ xs.length ≤ sizeLine := by
  rcases h with h | ⟨o, its, n, hk, hc, hs, hz, r⟩
  · obtain ⟨z, its, r, p⟩ := h.ok I.hok
    exact ⟨its, r, p, z⟩
  · refine ⟨its.toList, r, ⟨o, I.kIn a o hk, hc, n, by simpa using hs⟩, ?_⟩
    have e := r.length
    simp only [Array.length_toList] at e
    omega
theorem Inv.list_inj (I : Inv X pins σ H s) (h : SqL X.K H a xs) (h' : SqL X.K H a ys) : xs = ys := by
  obtain ⟨its, r, ⟨o, n, e, _, _, d⟩, _⟩ := I.list h
  obtain ⟨its', r', ⟨o', n', e', _, _, d'⟩, _⟩ := I.list h'
  rw [e] at e'; cases e'
  rw [d] at d'
  injection d' with d1 _
  have : its = its' := by simpa using congrArg Array.toList d1
  subst this
  exact r.inj r'
end

noncomputable abbrev Cx.wish (X : Cx) (E : Value → Shared → Prop) : Cx := { X with xe := E }

noncomputable abbrev Cx.nox (X : Cx) : Cx := X.wish fun _ _ => False
theorem Cx.Ok.wish {X : Cx} (ok : X.Ok) (E : Value → Shared → Prop) : (X.wish E).Ok :=
  ⟨ok.mod, ok.kind, ok.glob, ok.blt, ok.above, ok.inj, ok.has, ok.cab, ok.hd, ok.frames, ok.stk, ok.exf, ok.bs, ok.bsz, ok.noex, ok.exfs, ok.funs, ok.frf⟩
theorem Cx.Ok.unwish {X : Cx} {E : Value → Shared → Prop} (ok : (X.wish E).Ok) : X.Ok :=
  ⟨ok.mod, ok.kind, ok.glob, ok.blt, ok.above, ok.inj, ok.has, ok.cab, ok.hd, ok.frames, ok.stk, ok.exf, ok.bs, ok.bsz, ok.noex, ok.exfs, ok.funs, ok.frf⟩
section
variable {X : Cx} {pins : List (Addr × Obj)} {σ : St} {H : Hp} {s : Shared} {E : Value → Shared → Prop}
theorem Inv.wish (I : Inv X pins σ H s) (E : Value → Shared → Prop) : Inv (X.wish E) pins σ H s := ⟨I.ok.wish E, I.os, I.bare, I.base, I.loc, I.cell, I.free, I.freeC, I.pin, I.hok, I.len⟩
theorem Inv.unwish (I : Inv (X.wish E) pins σ H s) : Inv X pins σ H s := ⟨I.ok.unwish, I.os, I.bare, I.base, I.loc, I.cell, I.free, I.freeC, I.pin, I.hok, I.len⟩
theorem SP.unwish {D : Ends} {f : Flow} {s' : Shared} (h : SP (X.wish E) pins D f s') : SP X pins D f s' := by
  cases f with
  | next => obtain ⟨σ', H', I, q⟩ := h; exact ⟨σ', H', I.unwish, q⟩
  | brk => obtain ⟨σ', H', I, q⟩ := h; exact ⟨σ', H', I.unwish, q⟩
  | cont => obtain ⟨σ', H', I, q⟩ := h; exact ⟨σ', H', I.unwish, q⟩
  | ret u => obtain ⟨v, σ', H', I, r, q⟩ := h; exact ⟨v, σ', H', I.unwish, r, q⟩
theorem PSs.nox {st : List Stmt} {t : TS} (h : PSs X.nox st t) : PSs X st t := fun pins s σ H D I hw =>
  wpAny_mono (h pins s σ H D (I.wish _) hw) (fun _ _ q => q.unwish) fun _ _ z => False.elim z
end

section
variable {X : Cx} {st : Stmt} {rest : List Stmt} {t u : TS} {e : Expr} {te : TE} {pos : Pos}
noncomputable def tNext : TS := fun D σ H => D.nx σ H
noncomputable def tSeq (t u : TS) : TS := fun D σ H => t { D with nx := u D } σ H
theorem pss_nil : PSs X [] tNext := fun _ _ σ H _ I h => wpAny_execs_nil ⟨σ, H, I, h⟩
theorem pss_cons (h1 : PS X st t) (h2 : PSs X rest u) : PSs X (st :: rest) (tSeq t u) := by
  intro pins s σ H D I h
  refine wpAny_execs_cons (thn (h1 pins s σ H { D with nx := u D } I h) fun f s1 q => ?_)
  cases f with
  | next =>
    obtain ⟨σ', H', I', q⟩ := q
    exact h2 pins s1 σ' H' D I' q
  | ret v => exact q
  | brk => exact q
  | cont => exact q
theorem pss_one (h1 : PS X st t) : PSs X [st] t := by
  intro pins s σ H D I h
  refine wpAny_execs_cons (thn (h1 pins s σ H D I h) fun f s1 q => ?_)
  cases f with
  | next => exact wpAny_execs_nil q
  | ret v => exact q
  | brk => exact q
  | cont => exact q

theorem Inv.quiet {pins : List (Addr × Obj)} {σ : St} {H : Hp} {s : Shared} (I : Inv X pins σ H s) : interactive X.env = false := by simp [interactive, I.ok.kind]

noncomputable def tDrop (te : TE) : TS := fun D σ H => te σ H fun _ H1 => D.nx σ H1
theorem ps_expr (he : PE X e te) (hs : swapsWith e none pos.line X.env = pure false := by rfl) : PS X (.Expr e pos) (tDrop te) := by
  intro pins s σ H D I h
  exact wpAny_Expr_any (thn (he pins s σ H _ I h) fun v s1 ⟨x, H1, I1, r1, q1⟩ => ⟨σ, H1, I1, q1⟩) I.quiet hs
noncomputable def tRet (te : TE) : TS := fun D σ H => te σ H D.rt
theorem ps_ret (he : PE X e te) : PS X (.Return (some e) pos) (tRet te) := by
  intro pins s σ H D I h
  exact wpAny_Return_some (thn (he pins s σ H _ I h) fun v s1 ⟨x, H1, I1, r1, q1⟩ => ⟨x, σ, H1, I1, r1, q1⟩)
noncomputable def tIfS (c : TT) (t u : TS) : TS := fun D σ H => c σ H fun b H1 => if b = true then t D σ H1 else u D σ H1
theorem ps_if {c : Expr} {a b : List Stmt} {tc : TT} (hc : PT X c tc) (ha : PSs X a t) (hb : PSs X b u) : PS X (.If c a b pos) (tIfS tc t u) := by
  intro pins s σ H D I h
  refine wpAny_If (thn (hc pins s σ H _ I h) fun d s1 ⟨H1, I1, q1⟩ => ?_)
  cases d with
  | true => exact ha pins s1 σ H1 D I1 q1
  | false => exact hb pins s1 σ H1 D I1 q1

noncomputable def tNever : TS := fun _ _ _ => False
theorem ps_never : PS X st tNever := fun _ _ _ _ _ _ h => h.elim
end

noncomputable abbrev TG := V → St → Hp → (St → Hp → Prop) → Prop
noncomputable abbrev TGs := List V → St → Hp → (St → Hp → Prop) → Prop
noncomputable def PG (X : Cx) (target : Expr) (t : TG) : Prop :=
  ∀ (pins : List (Addr × Obj)) (s : Shared) (σ : St) (H : Hp) (v : V) (u : Value) (Q : St → Hp → Prop), Inv X pins σ H s → RelV v u → t v σ H Q →
    wpAny (model X.prog X.w) X.A (assign target X.env u) (fun _ s' => ∃ σ' H', Inv X pins σ' H' s' ∧ Q σ' H') X.xe s

noncomputable def PGs (X : Cx) (ts : List Expr) (t : TGs) : Prop :=
  ∀ (pins : List (Addr × Obj)) (s : Shared) (σ : St) (H : Hp) (vs : List V) (us : List Value) (Q : St → Hp → Prop), Inv X pins σ H s → Vals vs us → t vs σ H Q →
    wpAny (model X.prog X.w) X.A (assignInOrder ((assignEach ts X.env).map (·.2)) us) (fun _ s' => ∃ σ' H', Inv X pins σ' H' s' ∧ Q σ' H') X.xe s

noncomputable abbrev TSet := V → V → V → Hp → (Hp → Prop) → Prop
noncomputable def PSet (X : Cx) (t : TSet) : Prop :=
  ∀ (pins : List (Addr × Obj)) (s : Shared) (σ : St) (H : Hp) (o i v : V) (ov iv u : Value) (Q : Hp → Prop), Inv X pins σ H s → RelV o ov → RelV i iv → RelV v u → t o i v H Q →
    wpAny (model X.prog X.w) X.A (setItem ov iv u) (fun _ s' => ∃ H', Inv X pins σ H' s' ∧ Q H') X.xe s
section
variable {X : Cx} {pos : Pos}
noncomputable def gName (i : Nat) : TG := fun v σ H Q => Q (σ.set i (some v)) H
theorem pg_name {i : Nat} {x : Str} (hN : X.N.Nodup) (hi : X.N[i]? = some x) (hx : Loc X.env.scope x) (hf : X.fn x = true ∨ X.env.scope.names.lookup x = some .local := by first | exact .inl rfl | exact .inr rfl | assumption) : PG X (.Name x pos) (gName i) := by
  intro pins s σ H v u Q I r h
  exact wpAny_assign_Name (store_ok I hN hi hx r (fun s' I' => ⟨_, H, I', h⟩) hf)
noncomputable def gNil : TGs := fun vs σ H Q => vs = [] ∧ Q σ H
inductive XCons (t : TG) (u : TGs) (vs : List V) (σ : St) (H : Hp) (Q : St → Hp → Prop) : Prop
  | mk (v : V) (r : List V) (e : vs = v :: r) (q : t v σ H fun σ' H' => u r σ' H' Q) : XCons t u vs σ H Q
noncomputable def gCons (t : TG) (u : TGs) : TGs := fun vs σ H Q => XCons t u vs σ H Q
theorem pgs_nil : PGs X [] gNil := by
  intro pins s σ H vs us Q I r h
  obtain ⟨e, h⟩ := h
  subst e
  cases r
  exact assignInOrder_nil ⟨σ, H, I, h⟩
theorem pgs_cons {e : Expr} {es : List Expr} {t : TG} {u : TGs} (h1 : PG X e t) (h2 : PGs X es u)
    (hs : (assignEach (e :: es) X.env).map (·.2) = assign e X.env :: (assignEach es X.env).map (·.2) := by rfl) : PGs X (e :: es) (gCons t u) := by
  intro pins s σ H vs us Q I r h
  obtain ⟨v, vr, e1, h⟩ := h
  subst e1
  cases r with
  | cons r rr =>
    rw [hs]
    refine assignInOrder_cons (thn (h1 pins s σ H _ _ _ I r h) fun _ s1 ⟨σ1, H1, I1, q1⟩ => ?_)
    exact h2 pins s1 σ1 H1 _ _ Q I1 rr q1

inductive XTup (K : PySem.W.Frag) (n : Nat) (t : TGs) (v : V) (σ : St) (H : Hp) (Q : St → Hp → Prop) : Prop
  | mk (a : Addr) (xs : List V) (e : v = .ref a) (s : SqT K H a xs) (l : xs.length = n) (q : t xs σ H Q) : XTup K n t v σ H Q
noncomputable def gTup (K : PySem.W.Frag) (n : Nat) (t : TGs) : TG := fun v σ H Q => XTup K n t v σ H Q
theorem pg_tup {es : List Expr} {k : Nat} {t : TGs} {n : Nat} (hc : X.calm = true) (h : PGs X es t)
    (hn : (assignEach es X.env).length = n := by rfl) (hst : (assignEach es X.env).findIdx? (·.1) = none := by rfl) : PG X (.Tuple es k pos) (gTup X.K n t) := by
  intro pins s σ H v u Q I r hw
  obtain ⟨a, xs, e1, hq, hl, hw⟩ := hw
  subst e1
  cases r
  obtain ⟨its, rv, ht, hz⟩ := I.tuple hq
  refine assign_Tuple_tuple (I.ok.hd hc) ht (by simp [hn, ← hl, rv.length]) hst fun h' hx => ?_
  have I1 : Inv X pins σ H { s with heap := h' } := I.kept (t' := s.toks) fun b o e => hx b o (Nat.ne_of_lt (Heap.lt_size e)) e
  exact h pins _ σ H xs _ Q I1 (by simpa using rv) hw

noncomputable def gSub (to ti : TE) (t : TSet) : TG := fun v σ H Q => to σ H fun o H1 => ti σ H1 fun i H2 => t o i v H2 fun H3 => Q σ H3
theorem pg_sub {o i : Expr} {to ti : TE} {t : TSet} (ho : PE X o to) (hi : PE X i ti) (hs : PSet X t)
    (ha : ∀ v, assign (.Subscript o i pos) X.env v = (do
      let ov ← holding [v] (eval o X.env)
      let iv ← holding [v, ov] (eval i X.env)
      standAt pos
      holding [v, ov, iv] (setItem ov iv v)
      release [v, ov, iv] []) := by intro _; rfl) : PG X (.Subscript o i pos) (gSub to ti t) := by
  intro pins s σ H v u Q I r h
  rw [ha]
  refine wpAny_bind (wpAny_holding (thn (ho pins s σ H _ I h) fun ov s1 ⟨x, H1, I1, r1, q1⟩ => ?_))
  refine wpAny_bind (wpAny_holding (thn (hi pins s1 σ H1 _ I1 q1) fun iv s2 ⟨y, H2, I2, r2, q2⟩ => ?_))
  refine wpAny_bind (wpAny_standAt (wpAny_bind (wpAny_holding (thn (hs pins s2 σ H2 x y v ov iv u _ I2 r1 r2 r q2) fun _ s3 ⟨H3, I3, q3⟩ => ?_))))
  exact wpAny_release ⟨σ, H3, I3, q3⟩

noncomputable def tAsg (te : TE) (g : TG) : TS := fun D σ H => te σ H fun x H1 => g x σ H1 D.nx
theorem ps_asg {tg e : Expr} {te : TE} {g : TG} (he : PE X e te) (hg : PG X tg g) (hs : swapsWithSole [tg] e pos.line X.env = pure false := by rfl) (hw : swappedStores [tg] e X.env = pure none := by rfl)
    (h1 : (assignEach [tg] X.env).map (·.2) = [assign tg X.env] := by rfl) : PS X (.Assign [tg] e pos) (tAsg te g) := by
  intro pins s σ H D I h
  refine wpAny_Assign_stores (thn (he pins s σ H _ I h) fun v s1 ⟨x, H1, I1, r1, q1⟩ => ?_) hs hw
  rw [h1]
  exact thn (hg pins s1 σ H1 x v _ I1 r1 q1) fun _ s2 q => q

theorem ps_set {i : Nat} {x : Str} {e : Expr} {te : TE} {pos' : Pos} (hN : X.N.Nodup) (hi : X.N[i]? = some x) (hx : Loc X.env.scope x) (he : PE X e te) (hs : swapsWith e (some (.Name x pos')) pos.line X.env = pure false := by rfl) (hf : X.fn x = true ∨ X.env.scope.names.lookup x = some .local := by first | exact .inl rfl | exact .inr rfl | assumption) :
    PS X (.Assign [.Name x pos'] e pos) (tAsg te (gName i)) := by
  intro pins s σ H D I h
  refine wpAny_Assign_Name (thn (he pins s σ H _ I h) fun v s1 ⟨y, H1, I1, r1, q1⟩ => ?_) hs
  exact store_ok I1 hN hi hx r1 (fun s2 I2 => ⟨_, H1, I2, q1⟩) hf

inductive XPar (i j : Nat) (σ : St) (vs : List V) (H : Hp) (Q : St → Hp → Prop) : Prop
  | mk (v w : V) (e : vs = [v, w]) (q : Q ((σ.set i (some v)).set j (some w)) H) : XPar i j σ vs H Q
noncomputable def tPar (i j : Nat) (ta : TA) : TS := fun D σ H => ta σ H fun vs H1 => XPar i j σ vs H1 D.nx
theorem ps_par {i j : Nat} {x y : Str} {a b : Expr} {ta : TA} {px py pt : Pos} {kt k2 pt2} (hc : X.calm = true) (hN : X.N.Nodup) (hi : X.N[i]? = some x) (hj : X.N[j]? = some y) (hij : i ≠ j)
    (hx : X.env.scope.names.lookup x = some .local) (hy : X.env.scope.names.lookup y = some .local) (ha : PA X [a, b] ta)
    (hw : swappedStores [.Tuple [.Name x px, .Name y py] kt pt] (.Tuple [a, b] k2 pt2) X.env = pure (some [x, y]))
    (hs : swapsWithSole [.Tuple [.Name x px, .Name y py] kt pt] (.Tuple [a, b] k2 pt2) pos.line X.env = pure false := by rfl) :
    PS X (.Assign [.Tuple [.Name x px, .Name y py] kt pt] (.Tuple [a, b] k2 pt2) pos) (tPar i j ta) := by
  intro pins s σ H D I h
  rw [exec_Assign_arm]
  refine wpAny_bind (wpAny_standAt ?_)
  rw [hs]
  refine wpAny_bind (wpAny_pure ?_)
  rw [if_neg (by decide)]
  refine wpAny_bind (Tuple_ (thn (ha _ pins s σ H _ I h) fun us s1 ⟨vs, H1, I1, r1, q1⟩ => ?_))
  obtain ⟨v, w, e1, q1⟩ := q1
  subst e1
  obtain ⟨u1, u2, rfl, rv, rw'⟩ : ∃ u1 u2, us = [u1, u2] ∧ RelV v u1 ∧ RelV w u2 := by
    cases r1 with
    | cons p q =>
      cases q with
      | cons p' q' =>
        cases q'
        exact ⟨_, _, rfl, p, p'⟩
  refine wpAny_newObj_type ?_ (by show 2 ≤ sizeLine; decide)
  have I2 : Inv X pins σ H1 { s1 with heap := s1.heap.push { cls := .type "tuple", data := .seq [u1, u2].toArray } } := I1.kept (t' := s1.toks) fun b o e => Heap.get?_push_of_some _ e
  rw [hw]
  refine wpAny_bind (wpAny_pure ?_)
  show wpAny (model X.prog X.w) X.A (do rule "assign.swapped-stores"; let items ← unpackItems (.ref s1.heap.objs.size) 2 none; assignInOrder [fun v => bindName X.env y v, fun v => bindName X.env x v] items.reverse; pure Flow.next) _ _ _
  refine wpAny_bind (wpAny_rule (wpAny_bind (unpackItems_tuple (items := #[u1, u2]) (I.ok.hd hc) (IsTup.new s1.heap _) fun h' hx' => ?_)))
  have I3 := I2.kept (h' := h') (t' := s1.toks) fun b o e => hx' b o (Nat.ne_of_lt (Heap.lt_size e)) e
  show wpAny _ _ (assignInOrder [fun v => bindName X.env y v, fun v => bindName X.env x v] [u2, u1] >>= fun _ => pure Flow.next) _ _ _
  refine wpAny_bind (assignInOrder_cons (wpAny_bindName (store_ok I3 hN hj (.inl hy) rw' (fun s2 I4 => ?_) (.inr hy))))
  refine assignInOrder_cons (wpAny_bindName (store_ok I4 hN hi (.inl hx) rv (fun s3 I5 => assignInOrder_nil (wpAny_pure ?_)) (.inr hx)))
  rw [List.set_comm _ _ (Ne.symm hij)] at I5
  exact ⟨_, H1, I5, q1⟩
end

section
variable {X : Cx} {pos : Pos}

noncomputable def tWhile (c : TT) (tb : TS) : TS := fun D σ H => ∃ W : Nat → St → Hp → Prop, (∃ m, W m σ H) ∧ ∀ m σ H, W m σ H →
  c σ H fun b H1 => if b = true then ∃ N : St → Hp → Prop, (∀ σ' H', N σ' H' → ∃ m', m' < m ∧ W m' σ' H') ∧ tb { D with nx := N, ct := N, bk := D.nx } σ H1 else D.nx σ H1
theorem ps_while {c : Expr} {body : List Stmt} {tc : TT} {tb : TS} (hp : PassesOwn (model X.prog X.w) X.A X.env X.xe) (hc : PT X c tc) (hb : PSs X body tb) : PS X (.While c body [] pos) (tWhile tc tb) := by
  intro pins s σ H D I h
  obtain ⟨W, ⟨m0, w0⟩, turn⟩ := h
  refine wpAny_While (codeAny_whileLoop (fun n s' => ∃ σ' H', Inv X pins σ' H' s' ∧ W n σ' H') ?_ m0 ⟨σ, H, I, w0⟩)
  rintro n s1 ⟨σ1, H1, I1, w1⟩
  refine wpAny_passesOwn hp (thn (hc pins s1 σ1 H1 _ I1 (turn n σ1 H1 w1)) fun b s2 ⟨H2, I2, q2⟩ => ?_)
  cases b with
  | true =>
    obtain ⟨N, hN, q2⟩ := q2
    rw [if_pos rfl]
    refine wpAny_passesOwn hp (thn (hb pins s2 σ1 H2 _ I2 q2) fun f s3 q3 => ?_)
    cases f with
    | next =>
      obtain ⟨σ3, H3, I3, n3⟩ := q3
      obtain ⟨m', hm, w3⟩ := hN σ3 H3 n3
      exact ⟨m', hm, σ3, H3, I3, w3⟩
    | cont =>
      obtain ⟨σ3, H3, I3, n3⟩ := q3
      obtain ⟨m', hm, w3⟩ := hN σ3 H3 n3
      exact ⟨m', hm, σ3, H3, I3, w3⟩
    | brk => exact q3
    | ret v => exact q3
  | false =>
    rw [if_neg Bool.false_ne_true]
    exact wpAny_execs_nil ⟨σ1, H2, I2, q2⟩
end

structure It where
  go : Nat → Hp → Prop
  yld : Nat → Hp → V → Hp → Prop
  stop : Nat → Hp → Prop

noncomputable def FpOk (X : Cx) (pins : List (Addr × Obj)) (H : Hp) (b : Addr) : Prop :=
  H b = none ∧ b ≠ X.env.locals ∧ b ∉ X.fs ∧ (b ∈ X.ex ∨ X.s₀.heap.objs.size ≤ b) ∧ (∀ x c, X.env.cells.lookup x = some c → c ≠ b) ∧ ∀ p ∈ X.pn ++ pins, p.1 ≠ b
theorem Inv.fpOk {X : Cx} {pins : List (Addr × Obj)} {σ : St} {H H' : Hp} {s : Shared} {b : Addr} (I : Inv X pins σ H s) (hb : s.heap.objs.size ≤ b) (hn : H' b = none) : FpOk X pins H' b := by
  refine ⟨hn, Nat.ne_of_gt (Nat.lt_of_lt_of_le I.lt hb), I.nofs hb, .inr (Nat.le_trans I.sz hb), fun x c e z => ?_, fun p hp z => ?_⟩
  · obtain ⟨v, q⟩ := I.cell x c e
    exact absurd (Nat.lt_of_lt_of_le q.lt (by rw [z]; exact hb)) (Nat.lt_irrefl _)
  · exact absurd (Nat.lt_of_lt_of_le (Heap.lt_size (I.pin p hp).1) (by rw [z]; exact hb)) (Nat.lt_irrefl _)
structure Turn (P : Program) (w : World) (K : PySem.W.Frag) (tg : Expr) (J : It) (fp : List Addr) (it : Addr) (tn : Nat → Heap → Prop) : Prop where
  mem : it ∈ fp
  obj : ∀ i h, tn i h → ∀ b ∈ fp, ∃ o, h.get? b = some o ∧ ∀ v, o.data ≠ .cell v
  keep : ∀ i h h', tn i h → (∀ b ∈ fp, ∀ o, h.get? b = some o → h'.get? b = some o) → tn i h'
  item : ∀ (X : Cx), X.prog = P → X.w = w → X.K = K → X.calm = true → ∀ (i : Nat) (pins : List (Addr × Obj)) (s : Shared) (σ : St) (H : Hp) (E : Value → Shared → Prop), Inv X pins σ H s → (∀ b ∈ fp, FpOk X pins H b) → tn i s.heap → J.go i H →
    wpAny (model P w) X.A (pyNext (.ref it)) (fun r s1 => ∃ u, r = some u ∧
      wpAny (model P w) X.A (letOwnedTupleGo tg (.ref it) u) (fun _ s2 => ∃ x H', Inv X pins σ H' s2 ∧ RelV x u ∧ J.yld i H x H' ∧ tn (i + 1) s2.heap ∧ ∀ b ∈ fp, H' b = none) E s1) E s
  done : ∀ (X : Cx), X.prog = P → X.w = w → X.K = K → X.calm = true → ∀ (i : Nat) (pins : List (Addr × Obj)) (s : Shared) (σ : St) (H : Hp) (E : Value → Shared → Prop), Inv X pins σ H s → (∀ b ∈ fp, FpOk X pins H b) → tn i s.heap → J.stop i H →
    wpAny (model P w) X.A (pyNext (.ref it)) (fun r s1 => r = none ∧ Inv X pins σ H s1) E s
  self : ∀ (A : Around) (i : Nat) (s : Shared) (Q : Value → Shared → Prop) (E : Value → Shared → Prop), tn i s.heap → Q (.ref it) s → wpAny (model P w) A (pyIter (.ref it)) Q E s
noncomputable abbrev TI := St → Hp → (It → Hp → Prop) → Prop

noncomputable def PIE (X : Cx) (pins : List (Addr × Obj)) (σ : St) (tg : Expr) (R : It → Hp → Prop) (itv : Value) (s2 : Shared) : Prop :=
  ∃ (it : Addr) (fp : List Addr) (tn : Nat → Heap → Prop) (J : It) (H' : Hp), itv = .ref it ∧ Inv X pins σ H' s2 ∧ Turn X.prog X.w X.K tg J fp it tn ∧ tn 0 s2.heap ∧ (∀ b ∈ fp, FpOk X pins H' b) ∧ R J H'
noncomputable def PI (X : Cx) (tg iter : Expr) (wi : TI) : Prop :=
  ∀ (pins : List (Addr × Obj)) (s : Shared) (σ : St) (H : Hp) (R : It → Hp → Prop), Inv X pins σ H s → wi σ H R →
    wpAny (model X.prog X.w) X.A (eval iter X.env) (fun v s1 => wpAny (model X.prog X.w) X.A (pyIter v) (PIE X pins σ tg R) X.xe s1) X.xe s

theorem go_of {M : Model} {A : Around} {E : Value → Shared → Prop} {s : Shared} {tg : Expr} {it : Addr} {u : Value} {o : Obj} {n : String} {vs : Array Value} {Q : Unit → Shared → Prop} (ho : s.heap.get? it = some o) (hc : o.cls = .type n) (hd : o.data = .fields vs)
    (hn : ["enumerate", "zip", "dict_itemiterator", "dict_reverseitemiterator", "odict_iterator", "itertools.zip_longest", "itertools.pairwise"].contains n = false) (hQ : Q () s) : wpAny M A (letOwnedTupleGo tg (.ref it) u) Q E s := by
  unfold letOwnedTupleGo
  cases tg <;> first
    | exact wpAny_pure hQ
    | (cases u <;> first
        | exact wpAny_pure hQ
        | (refine wpAny_bind (wpAny_load ho ?_)
           rw [hc, hd]
           show wpAny M A (if (["enumerate", "zip", "dict_itemiterator", "dict_reverseitemiterator", "odict_iterator", "itertools.zip_longest", "itertools.pairwise"].contains n && vs[0]? == some (rawInt _)) = true then _ else _) Q E s
           rw [if_neg (by intro h; rw [hn, Bool.false_and] at h; cases h)]
           exact wpAny_pure hQ))

noncomputable def Itl (K : PySem.W.Frag) (a : Addr) : It :=
  ⟨fun i H => ∃ xs x, SqL K H a xs ∧ xs[i]? = some x, fun i H x H' => H' = H ∧ ∀ xs, SqL K H a xs → xs[i]? = some x, fun i H => ∃ xs, SqL K H a xs ∧ xs.length ≤ i⟩

noncomputable def Itr (lo : Int) (n : Nat) : It := ⟨fun i _ => i < n, fun i H x H' => H' = H ∧ x = .int (lo + i), fun i _ => n ≤ i⟩
theorem turn_list {P : Program} {w : World} {K : PySem.W.Frag} {tg : Expr} (a it : Addr) : Turn P w K tg (Itl K a) [it] it (fun i h => h.IsListIter it a i) where
  mem := by simp
  obj := fun i h st b hb => by
    have e : b = it := by simpa using hb
    subst e
    obtain ⟨o, e, c, d⟩ := st
    exact ⟨o, e, fun v z => by rw [d] at z; cases z⟩
  keep := fun i h h' st k => st.at fun o e => k it (by simp) o e
  item := by
    intro X hP hw hK hc i pins s σ H E I hf st hg
    subst hP hw hK
    obtain ⟨xs, x, hq, hx⟩ := hg
    obtain ⟨its, rv, p, hz⟩ := I.list hq
    obtain ⟨u, hu, ru⟩ := rv.get hx
    obtain ⟨f0, f1, f2, f3, f4, f5⟩ := hf it (by simp)
    refine wpAny_pyNext_list_item st p.isList (x := u) (by simpa using hu) fun h' st' sb => ?_
    have I1 : Inv X pins σ H { s with heap := h' } := I.turned (t' := s.toks) (fun b o hb e => (sb.2 b hb).trans e) f0 f1 f3 f4 f5
    obtain ⟨o, e, c, d⟩ := id st'
    exact ⟨u, rfl, go_of (s := { s with heap := h' }) e c d (by decide) ⟨x, H, I1, ru, ⟨rfl, fun ys hy => by rw [I.list_inj hy hq]; exact hx⟩, st', fun b hb => (hf b hb).1⟩⟩
  done := by
    intro X hP hw hK hc i pins s σ H E I hf st hg
    subst hP hw hK
    obtain ⟨xs, hq, hx⟩ := hg
    obtain ⟨its, rv, p, hz⟩ := I.list hq
    obtain ⟨f0, f1, f2, f3, f4, f5⟩ := hf it (by simp)
    have hl := rv.length
    exact wpAny_pyNext_list_end (I.ok.hd hc) st p.isList (by simp; omega) fun h' eb => ⟨rfl, I.turned (t' := s.toks) (fun b o hb e => eb b o hb e) f0 f1 f3 f4 f5⟩
  self := fun _ _ _ _ _ st h => wpAny_pyIter_listiter st h
theorem turn_range {P : Program} {w : World} {K : PySem.W.Frag} {tg : Expr} (it : Addr) (lo : Int) (n : Nat) : Turn P w K tg (Itr lo n) [it] it (fun i h => IsRangeIter h it (lo + (i : Nat) * 1) ((n : Int) - (i : Nat)) 1) where
  mem := by simp
  obj := fun i h st b hb => by
    have e : b = it := by simpa using hb
    subst e
    exact ⟨_, st, fun v z => by
      have z' : Data.fields _ = Data.cell v := z
      cases z'⟩
  keep := fun i h h' st k => k it (by simp) _ st
  item := by
    intro X hP hw hK hc i pins s σ H E I hf st hg
    subst hP hw hK
    obtain ⟨f0, f1, f2, f3, f4, f5⟩ := hf it (by simp)
    have W := Walks.range (prog := X.prog) (w := X.w) (I.ok.hd hc) it lo 1 n
    refine W.item i s _ _ hg st fun v h' tk hv st' kk => ?_
    obtain ⟨t, rfl⟩ := hv
    have I1 : Inv X pins σ H { s with heap := h', toks := tk } := I.turned (fun b o hb e => kk b o (by simpa using hb) e) f0 f1 f3 f4 f5
    refine ⟨_, rfl, go_of (s := { s with heap := h', toks := tk }) (n := "range_iterator") st' rfl rfl (by decide) ⟨.int (lo + i), H, I1, ⟨t, ?_⟩, ⟨rfl, rfl⟩, st', fun b hb => (hf b hb).1⟩⟩
    rw [Int.mul_one]
  done := by
    intro X hP hw hK hc i pins s σ H E I hf st hg
    subst hP hw hK
    obtain ⟨f0, f1, f2, f3, f4, f5⟩ := hf it (by simp)
    exact wpAny_pyNext_range_end (I.ok.hd hc) st (by have : n ≤ i := hg; omega) fun h' eb => ⟨rfl, I.turned (t' := s.toks) (fun b o hb e => eb b o hb e) f0 f1 f3 f4 f5⟩
  self := fun _ _ _ _ _ st h => wpAny_pyIter_rangeiter st h
end L2

namespace L2
open PySem PySem.Spec PyProof.Rows
section
variable {X : Cx} {tg : Expr}
inductive XItl (K : PySem.W.Frag) (x : V) (H : Hp) (R : It → Hp → Prop) : Prop
  | mk (a : Addr) (e : x = .ref a) (s : ∃ xs, SqL K H a xs) (q : R (Itl K a) H) : XItl K x H R
noncomputable def iList (K : PySem.W.Frag) (tl : TE) : TI := fun σ H R => tl σ H fun x H1 => XItl K x H1 R
theorem pi_list {l : Expr} {tl : TE} (hl : PE X l tl) : PI X tg l (iList X.K tl) := by
  intro pins s σ H R I h
  refine thn (hl pins s σ H _ I h) fun v s1 ⟨x, H1, I1, r1, q1⟩ => ?_
  obtain ⟨a, e, ⟨xs, hq⟩, q⟩ := q1
  subst e
  cases r1
  obtain ⟨its, rv, p, hz⟩ := I1.list hq
  refine wpAny_pyIter_list p.isList ?_
  refine ⟨s1.heap.objs.size, [s1.heap.objs.size], _, _, H1, rfl, I1.kept (t' := s1.toks) fun b o e => Heap.get?_push_of_some _ e, turn_list a _, ⟨_, Heap.get?_push_size _ rfl, rfl, rfl⟩, fun b hb => ?_, q⟩
  have e : b = s1.heap.objs.size := by simpa using hb
  subst e
  exact I1.fpOk (Nat.le_refl _) (I1.hok.fresh (Nat.le_refl _))

theorem range_it {pins : List (Addr × Obj)} {σ : St} {H : Hp} {s : Shared} {R : It → Hp → Prop} {E : Value → Shared → Prop} {lo hi : Int} {t u v : Tok} {tk : Nat} (I : Inv X pins σ H s) (h1 : -(2 ^ 62) ≤ lo) (h2 : lo < 2 ^ 62) (h3 : -(2 ^ 62) ≤ hi) (h4 : hi < 2 ^ 62)
    (q : R (Itr lo (hi - lo).toNat) H) : wpAny (model X.prog X.w) X.A (pyIter (.ref s.heap.objs.size)) (PIE X pins σ tg R) E { s with heap := s.heap.push { cls := .type "range", data := .fields #[.int lo t, .int hi u, .int 1 v] }, toks := tk } := by
  refine wpAny_pyIter_range (IsRange.new ..) (small_one h1 h2 h3 h4) ?_
  have I1 : Inv X pins σ H { s with heap := s.heap.push { cls := .type "range", data := .fields #[.int lo t, .int hi u, .int 1 v] }, toks := tk } := I.kept fun b o e => Heap.get?_push_of_some _ e
  refine ⟨(s.heap.push { cls := .type "range", data := .fields #[.int lo t, .int hi u, .int 1 v] }).objs.size, [(s.heap.push { cls := .type "range", data := .fields #[.int lo t, .int hi u, .int 1 v] }).objs.size], _, _, H, rfl,
    I1.kept (t' := tk) fun b o e => Heap.get?_push_of_some _ e, turn_range _ lo (hi - lo).toNat, ?_, fun b hb => ?_, q⟩
  · have e1 : lo + ((0 : Nat) : Int) * 1 = lo := by simp
    have e2 : (((hi - lo).toNat : Nat) : Int) - ((0 : Nat) : Int) = Builtin.Range.rangeSize lo hi 1 := by rw [rangeSize_one]; split <;> omega
    show IsRangeIter _ _ (lo + ((0 : Nat) : Int) * 1) ((((hi - lo).toNat : Nat) : Int) - ((0 : Nat) : Int)) 1
    rw [e1, e2]
    exact Heap.get?_push_size _ rfl
  · have e : b = (s.heap.push { cls := .type "range", data := .fields #[.int lo t, .int hi u, .int 1 v] }).objs.size := by simpa using hb
    subst e
    exact I1.fpOk (Nat.le_refl _) (I1.hok.fresh (Nat.le_refl _))
inductive XRng1 (vs : List V) (H : Hp) (R : It → Hp → Prop) : Prop
  | mk (j : Int) (e : vs = [.int j]) (l : -(2 ^ 62) ≤ j) (m : j < 2 ^ 62) (q : R (Itr 0 j.toNat) H) : XRng1 vs H R
noncomputable def iRng1 (ta : TA) : TI := fun σ H R => ta σ H fun vs H1 => XRng1 vs H1 R
inductive XRng2 (vs : List V) (H : Hp) (R : It → Hp → Prop) : Prop
  | mk (i j : Int) (e : vs = [.int i, .int j]) (l : -(2 ^ 62) ≤ i ∧ i < 2 ^ 62 ∧ -(2 ^ 62) ≤ j ∧ j < 2 ^ 62) (q : R (Itr i (j - i).toNat) H) : XRng2 vs H R
noncomputable def iRng2 (ta : TA) : TI := fun σ H R => ta σ H fun vs H1 => XRng2 vs H1 R
theorem pi_range1 {a : Expr} {ta : TA} {p pos : Pos} (hg : Gl X "range") (hm : X.mg "range" = none) (ha : PA X [a] ta) (hs : starEach [a] X.env = [(false, eval a X.env)] := by rfl) : PI X tg (.Call (.Name "range" p) [a] [] pos) (iRng1 ta) := by
  intro pins s σ H R I h
  refine Call_ (ld_blt I hg hm boot_range (PyProof.Rows.callWith_type1 (thn (ha pos pins s σ H _ I h) fun us s1 ⟨vs, H1, I1, r1, q1⟩ => ?_) hs rfl))
  obtain ⟨j, e, q1, q2, q⟩ := q1
  subst e
  cases r1 with
  | cons r rr =>
    cases rr
    obtain ⟨t, rfl⟩ := r
    exact call_range_1 (range_it I1 (by omega) (by omega) q1 q2 (by simpa using q))
theorem pi_range2 {a b : Expr} {ta : TA} {p pos : Pos} (hg : Gl X "range") (hm : X.mg "range" = none) (ha : PA X [a, b] ta) (hs : starEach [a, b] X.env = [(false, eval a X.env), (false, eval b X.env)] := by rfl) (hs2 : starEach [b] X.env = [(false, eval b X.env)] := by rfl) :
    PI X tg (.Call (.Name "range" p) [a, b] [] pos) (iRng2 ta) := by
  intro pins s σ H R I h
  refine Call_ (ld_blt I hg hm boot_range (PyProof.Rows.callWith_type1 (thn (ha pos pins s σ H _ I h) fun us s1 ⟨vs, H1, I1, r1, q1⟩ => ?_) (by rw [hs, hs2]) (by rw [hs2]; rfl)))
  obtain ⟨i, j, e, ⟨q1, q2, q3, q4⟩, q⟩ := q1
  subst e
  cases r1 with
  | cons r rr =>
    cases rr with
    | cons r' rr =>
      cases rr
      obtain ⟨t, rfl⟩ := r
      obtain ⟨t', rfl⟩ := r'
      exact call_range_2 (range_it I1 q1 q2 q3 q4 q)

noncomputable def tFor (wi : TI) (g : TG) (tb : TS) : TS := fun D σ H => wi σ H fun J H1 => ∃ W : Nat → Nat → St → Hp → Prop, (∃ m, W 0 m σ H1) ∧ ∀ i m σ H, W i m σ H →
  (J.stop i H ∧ D.nx σ H) ∨ (J.go i H ∧ ∃ N : St → Hp → Prop, (∀ σ' H', N σ' H' → ∃ m', m' < m ∧ W (i + 1) m' σ' H') ∧ ∀ x H', J.yld i H x H' → g x σ H' fun σ2 H2 => tb { D with nx := N, ct := N, bk := D.nx } σ2 H2)

noncomputable def pinsAt (fp : List Addr) (h : Heap) : List (Addr × Obj) := fp.filterMap fun b => (h.get? b).map fun o => (b, o)
theorem mem_pinsAt {fp : List Addr} {h : Heap} {b : Addr} {o : Obj} (hb : b ∈ fp) (e : h.get? b = some o) : (b, o) ∈ pinsAt fp h := List.mem_filterMap.mpr ⟨b, hb, by rw [e]; rfl⟩
theorem of_pinsAt {fp : List Addr} {h : Heap} {p : Addr × Obj} (hp : p ∈ pinsAt fp h) : p.1 ∈ fp ∧ h.get? p.1 = some p.2 := by
  obtain ⟨b, hb, e⟩ := List.mem_filterMap.mp hp
  cases q : h.get? b with
  | none => rw [q] at e; cases e
  | some o =>
    rw [q] at e
    have e' : (b, o) = p := Option.some.inj e
    subst e'
    exact ⟨hb, q⟩
theorem Inv.pinned {pins : List (Addr × Obj)} {σ : St} {H : Hp} {s : Shared} {fp : List Addr} (I : Inv X pins σ H s) (hf : ∀ b ∈ fp, FpOk X pins H b) (ho : ∀ b ∈ fp, ∃ o, s.heap.get? b = some o ∧ ∀ v, o.data ≠ .cell v) : Inv X (pins ++ pinsAt fp s.heap) σ H s :=
  I.pins_of fun p hp => (List.mem_append.mp hp).elim (fun z => I.pin p (List.mem_append_right _ z)) fun z => by
    obtain ⟨hb, e⟩ := of_pinsAt z
    obtain ⟨f0, f1, f2, _⟩ := hf p.1 hb
    obtain ⟨o, e', d⟩ := ho p.1 hb
    rw [e] at e'; cases e'
    exact ⟨e, f0, f1, f2, d⟩
theorem Inv.unpinned {pins pl : List (Addr × Obj)} {σ : St} {H : Hp} {s : Shared} (I : Inv X (pins ++ pl) σ H s) : Inv X pins σ H s := I.pins_of fun p hp => I.pin p (List.mem_append_right _ (List.mem_append_left _ hp))
theorem ps_for {iter : Expr} {body : List Stmt} {wi : TI} {g : TG} {tb : TS} {pos : Pos} (hp : PassesOwn (model X.prog X.w) X.A X.env X.xe) (hc : X.calm = true) (hi : PI X tg iter wi) (hg : PG X tg g) (hb : PSs X body tb)
    (hs : ∀ x, foldedSetIterable iter X.env x = pure x := by intro _; rfl) : PS X (.For tg iter body [] pos) (tFor wi g tb) := by
  intro pins s σ H D I h
  refine wpAny_For (thn (hi pins s σ H _ I h) fun v s1 h1 => thn h1 fun itv s2 h2 => ?_) hs
  obtain ⟨it, fp, tn, J, H2, e, I2, T, st2, f2, W, ⟨m0, w0⟩, turn⟩ := h2
  subst e

  have stat : ∀ {H' : Hp}, (∀ b ∈ fp, H' b = none) → ∀ b ∈ fp, FpOk X pins H' b := fun hn b hb => ⟨hn b hb, (f2 b hb).2⟩
  refine codeAny_forLoop_any (fun n s' => ∃ i σ' H', Inv X pins σ' H' s' ∧ tn i s'.heap ∧ (∀ b ∈ fp, H' b = none) ∧ W i n σ' H') ?_ m0 ⟨0, σ, H2, I2, st2, fun b hb => (f2 b hb).1, w0⟩
  rintro n s3 ⟨i, σ3, H3, I3, st3, fr3, w3⟩
  rcases turn i n σ3 H3 w3 with ⟨stop, qn⟩ | ⟨go, N, hN, step⟩
  · refine wpAny_passesOwn hp (thn (T.done X rfl rfl rfl hc i pins s3 σ3 H3 X.xe I3 (stat fr3) st3 stop) fun r s4 ⟨hr, I4⟩ => ?_)
    subst hr
    exact wpAny_execs_nil ⟨σ3, H3, I4, qn⟩
  · refine wpAny_passesOwn hp (thn (T.item X rfl rfl rfl hc i pins s3 σ3 H3 X.xe I3 (stat fr3) st3 go) fun r s4 ⟨u, hr, h4⟩ => ?_)
    subst hr
    refine wpAny_passesOwn hp (thn h4 fun _ s5 ⟨x, H5, I5, r5, y5, st5, fr5⟩ => ?_)
    have I5' := I5.pinned (stat fr5) (T.obj _ _ st5)
    refine wpAny_passesOwn hp (thn (hg _ s5 σ3 H5 x u _ I5' r5 (step x H5 y5)) fun _ s6 ⟨σ6, H6, I6, q6⟩ => ?_)
    refine wpAny_passesOwn hp (thn (hb _ s6 σ6 H6 _ I6 q6) fun f s7 q7 => ?_)
    have again : ∀ {σ7 : St} {H7 : Hp}, Inv X (pins ++ pinsAt fp s5.heap) σ7 H7 s7 → N σ7 H7 → ∃ m, m < n ∧ ∃ i σ' H', Inv X pins σ' H' s7 ∧ tn i s7.heap ∧ (∀ b ∈ fp, H' b = none) ∧ W i m σ' H' := fun {σ7 H7} I7 n7 => by
      obtain ⟨m', hm, w7⟩ := hN σ7 H7 n7
      refine ⟨m', hm, i + 1, σ7, H7, I7.unpinned, T.keep _ _ _ st5 fun b hb o e => (I7.pin (b, o) (List.mem_append_right _ (List.mem_append_right _ (mem_pinsAt hb e)))).1, fun b hb => ?_, w7⟩
      obtain ⟨o, e, d⟩ := T.obj _ _ st5 b hb
      exact (I7.pin (b, o) (List.mem_append_right _ (List.mem_append_right _ (mem_pinsAt hb e)))).2.1
    cases f with
    | next => obtain ⟨σ7, H7, I7, n7⟩ := q7; exact again I7 n7
    | cont => obtain ⟨σ7, H7, I7, n7⟩ := q7; exact again I7 n7
    | brk => obtain ⟨σ7, H7, I7, q7⟩ := q7; exact ⟨σ7, H7, I7.unpinned, q7⟩
    | ret v => obtain ⟨x7, σ7, H7, I7, r7, q7⟩ := q7; exact ⟨x7, σ7, H7, I7.unpinned, r7, q7⟩
end

theorem for_list {K : PySem.W.Frag} {a : Addr} {xs : List V} {g : TG} {tb : TS} {D : Ends} {σ : St} {H : Hp} (Pv : Nat → St → Hp → Prop) (h0 : Pv 0 σ H) (hl : ∀ i σ H, i ≤ xs.length → Pv i σ H → SqL K H a xs)
    (hs : ∀ i x σ H, xs[i]? = some x → Pv i σ H → g x σ H fun σ2 H2 => tb { D with nx := Pv (i + 1), ct := Pv (i + 1), bk := D.nx } σ2 H2) (hd : ∀ σ H, Pv xs.length σ H → D.nx σ H) :
    ∃ W : Nat → Nat → St → Hp → Prop, (∃ m, W 0 m σ H) ∧ ∀ i m σ H, W i m σ H →
      ((Itl K a).stop i H ∧ D.nx σ H) ∨ ((Itl K a).go i H ∧ ∃ N : St → Hp → Prop, (∀ σ' H', N σ' H' → ∃ m', m' < m ∧ W (i + 1) m' σ' H') ∧ ∀ x H', (Itl K a).yld i H x H' → g x σ H' fun σ2 H2 => tb { D with nx := N, ct := N, bk := D.nx } σ2 H2) := by
  refine ⟨fun i m σ H => m = xs.length - i ∧ i ≤ xs.length ∧ Pv i σ H, ⟨xs.length, by simp, Nat.zero_le _, h0⟩, ?_⟩
  rintro i m σ H ⟨rfl, hi, p⟩
  have q := hl i σ H hi p
  by_cases hlt : i < xs.length
  · refine .inr ⟨⟨xs, xs[i], q, by simp [hlt]⟩, Pv (i + 1), fun σ' H' p' => ⟨xs.length - (i + 1), by omega, rfl, hlt, p'⟩, fun x H' y => ?_⟩
    obtain ⟨e, y⟩ := y
    subst e
    exact hs i x σ _ (y xs q) p
  · have e : i = xs.length := by omega
    subst e
    exact .inl ⟨⟨xs, q, Nat.le_refl _⟩, hd σ H p⟩
theorem for_range {lo : Int} {n : Nat} {g : TG} {tb : TS} {D : Ends} {σ : St} {H : Hp} (Pv : Nat → St → Hp → Prop) (h0 : Pv 0 σ H)
    (hs : ∀ i σ H, i < n → Pv i σ H → g (.int (lo + i)) σ H fun σ2 H2 => tb { D with nx := Pv (i + 1), ct := Pv (i + 1), bk := D.nx } σ2 H2) (hd : ∀ σ H, Pv n σ H → D.nx σ H) :
    ∃ W : Nat → Nat → St → Hp → Prop, (∃ m, W 0 m σ H) ∧ ∀ i m σ H, W i m σ H →
      ((Itr lo n).stop i H ∧ D.nx σ H) ∨ ((Itr lo n).go i H ∧ ∃ N : St → Hp → Prop, (∀ σ' H', N σ' H' → ∃ m', m' < m ∧ W (i + 1) m' σ' H') ∧ ∀ x H', (Itr lo n).yld i H x H' → g x σ H' fun σ2 H2 => tb { D with nx := N, ct := N, bk := D.nx } σ2 H2) := by
  refine ⟨fun i m σ H => m = n - i ∧ i ≤ n ∧ Pv i σ H, ⟨n, by simp, Nat.zero_le _, h0⟩, ?_⟩
  rintro i m σ H ⟨rfl, hi, p⟩
  by_cases hlt : i < n
  · refine .inr ⟨hlt, Pv (i + 1), fun σ' H' p' => ⟨n - (i + 1), by omega, rfl, hlt, p'⟩, fun x H' y => ?_⟩
    obtain ⟨e, y⟩ := y
    subst e y
    exact hs i σ _ hlt p
  · have e : i = n := by omega
    subst e
    exact .inl ⟨Nat.le_refl _, hd σ H p⟩

theorem while_by {c : TT} {tb : TS} {D : Ends} {σ : St} {H : Hp} (Pv : St → Hp → Prop) (μ : St → Hp → Nat) (h0 : Pv σ H)
    (hs : ∀ σ H, Pv σ H → c σ H fun b H1 => if b = true then tb { D with nx := fun σ' H' => Pv σ' H' ∧ μ σ' H' < μ σ H, ct := fun σ' H' => Pv σ' H' ∧ μ σ' H' < μ σ H, bk := D.nx } σ H1 else D.nx σ H1)
    (mono : ∀ σ H Q Q', (∀ b H1, Q b H1 → Q' b H1) → c σ H Q → c σ H Q') : tWhile c tb D σ H := by
  refine ⟨fun m σ H => m = μ σ H ∧ Pv σ H, ⟨_, rfl, h0⟩, ?_⟩
  rintro m σ H ⟨rfl, p⟩
  refine mono σ H _ _ (fun b H1 q => ?_) (hs σ H p)
  cases b with
  | true => exact ⟨_, fun σ' H' ⟨p', l⟩ => ⟨_, l, rfl, p'⟩, q⟩
  | false => exact q
end L2

namespace L2
open PySem PySem.Spec PyProof.Rows

noncomputable abbrev R2 := V → V → Hp → VK → Prop

noncomputable def OpR (X : Cx) (f : Value → Value → Sem Value) (r : R2) : Prop :=
  ∀ (pins : List (Addr × Obj)) (s : Shared) (σ : St) (H : Hp) (x y : V) (v u : Value) (Q : VK), Inv X pins σ H s → RelV x v → RelV y u → r x y H Q →
    wpAny (model X.prog X.w) X.A (f v u) (EP X pins σ Q) X.xe s

noncomputable def UnR (X : Cx) (f : Value → Sem Value) (r : V → Hp → VK → Prop) : Prop :=
  ∀ (pins : List (Addr × Obj)) (s : Shared) (σ : St) (H : Hp) (x : V) (v : Value) (Q : VK), Inv X pins σ H s → RelV x v → r x H Q →
    wpAny (model X.prog X.w) X.A (f v) (EP X pins σ Q) X.xe s

noncomputable def CallR (X : Cx) (f : Value) (r : List V → Hp → VK → Prop) : Prop :=
  ∀ (pins : List (Addr × Obj)) (s : Shared) (σ : St) (H : Hp) (xs : List V) (us : List Value) (Q : VK), Inv X pins σ H s → Vals xs us → r xs H Q →
    wpAny (model X.prog X.w) X.A (call f us) (EP X pins σ Q) X.xe s

noncomputable def tOp (r : R2) (ta tb : TE) : TE := fun σ H Q => ta σ H fun x H1 => tb σ H1 fun y H2 => r x y H2 Q
noncomputable def tUn (r : V → Hp → VK → Prop) (ta : TE) : TE := fun σ H Q => ta σ H fun x H1 => r x H1 Q

inductive XI (C : Int → Int → Prop) (g : Int → Int → V) (x y : V) (H : Hp) (Q : VK) : Prop
  | mk (i j : Int) (e : x = .int i) (e2 : y = .int j) (c : C i j) (q : Q (g i j) H) : XI C g x y H Q
noncomputable def rI (C : Int → Int → Prop) (g : Int → Int → V) : R2 := fun x y H Q => XI C g x y H Q
inductive XI0 (g : Int → Int → V) (x y : V) (H : Hp) (Q : VK) : Prop
  | mk (i j : Int) (e : x = .int i) (e2 : y = .int j) (q : Q (g i j) H) : XI0 g x y H Q
noncomputable def rI0 (g : Int → Int → V) : R2 := fun x y H Q => XI0 g x y H Q
inductive XU (g : Int → V) (x : V) (H : Hp) (Q : VK) : Prop
  | mk (i : Int) (e : x = .int i) (q : Q (g i) H) : XU g x H Q
noncomputable def rU (g : Int → V) : V → Hp → VK → Prop := fun x H Q => XU g x H Q

section
variable {X : Cx} {a b c : Expr} {ta tb tc : TE} {pos : Pos}

theorem binT (ha : PE X a ta) (hb : PE X b tb) {pins : List (Addr × Obj)} {s : Shared} {σ : St} {H : Hp} {R : V → V → Hp → Prop} (I : Inv X pins σ H s)
    (h : ta σ H fun x H1 => tb σ H1 fun y H2 => R x y H2) {Q : Value → Shared → Prop} {f : Value → Value → Sem Value}
    (hf : ∀ v u s2 x y H2, Inv X pins σ H2 s2 → RelV x v → RelV y u → R x y H2 → wpAny (model X.prog X.w) X.A (f v u) Q X.xe s2) :
    wpAny (model X.prog X.w) X.A (eval a X.env) (fun v s₁ => wpAny (model X.prog X.w) X.A (eval b X.env) (fun u s₂ => wpAny (model X.prog X.w) X.A (f v u) Q X.xe s₂) X.xe s₁) X.xe s := by
  refine thn (ha pins s σ H _ I h) fun v s1 ⟨x, H1, I1, r1, q1⟩ => ?_
  refine thn (hb pins s1 σ H1 _ I1 q1) fun u s2 ⟨y, H2, I2, r2, q2⟩ => ?_
  exact hf v u s2 x y H2 I2 r1 r2 q2

theorem pe_op {op : Operator} {r : R2} (ho : OpR X (binaryOp op) r) (ha : PE X a ta) (hb : PE X b tb) : PE X (.BinOp a op b pos) (tOp r ta tb) := by
  intro pins s σ H Q I h
  exact wpAny_BinOp (binT ha hb I h fun v u s2 x y H2 I2 rx ry q => ho pins s2 σ H2 x y v u Q I2 rx ry q)
theorem pe_un {op : UnaryOp} {r : V → Hp → VK → Prop} (ho : UnR X (unaryOp op) r) (ha : PE X a ta) : PE X (.UnaryOp op a pos) (tUn r ta) := by
  intro pins s σ H Q I h
  exact UnaryOp_ (thn (ha pins s σ H _ I h) fun v s1 ⟨x, H1, I1, r1, q1⟩ => ho pins s1 σ H1 x v Q I1 r1 q1)

theorem opI {f : Value → Value → Sem Value} {C : Int → Int → Prop} {g : Int → Int → Int}
    (rule : ∀ (i j : Int) (t u : Tok) (s : Shared) (Q : Value → Shared → Prop) (E : Value → Shared → Prop), C i j → Q (.int (g i j) s.toks) { s with toks := s.toks + 1 } → wpAny (model X.prog X.w) X.A (f (.int i t) (.int j u)) Q E s) :
    OpR X f (rI C fun i j => .int (g i j)) := by
  intro pins s σ H x y v u Q I rx ry h
  obtain ⟨i, j, rfl, rfl, hc, q⟩ := h
  obtain ⟨t, rfl⟩ := rx
  obtain ⟨t', rfl⟩ := ry
  exact rule i j t t' s _ _ hc ⟨.int (g i j), H, I.tok _, ⟨_, rfl⟩, q⟩
theorem opI0 {f : Value → Value → Sem Value} {g : Int → Int → Int}
    (rule : ∀ (i j : Int) (t u : Tok) (s : Shared) (Q : Value → Shared → Prop) (E : Value → Shared → Prop), Q (.int (g i j) s.toks) { s with toks := s.toks + 1 } → wpAny (model X.prog X.w) X.A (f (.int i t) (.int j u)) Q E s) :
    OpR X f (rI0 fun i j => .int (g i j)) := by
  intro pins s σ H x y v u Q I rx ry h
  obtain ⟨i, j, rfl, rfl, q⟩ := h
  obtain ⟨t, rfl⟩ := rx
  obtain ⟨t', rfl⟩ := ry
  exact rule i j t t' s _ _ ⟨.int (g i j), H, I.tok _, ⟨_, rfl⟩, q⟩
theorem opB0 {f : Value → Value → Sem Value} {g : Int → Int → Bool}
    (rule : ∀ (i j : Int) (t u : Tok) (s : Shared) (Q : Value → Shared → Prop) (E : Value → Shared → Prop), Q (.bool (g i j)) s → wpAny (model X.prog X.w) X.A (f (.int i t) (.int j u)) Q E s) :
    OpR X f (rI0 fun i j => .bl (g i j)) := by
  intro pins s σ H x y v u Q I rx ry h
  obtain ⟨i, j, rfl, rfl, q⟩ := h
  obtain ⟨t, rfl⟩ := rx
  obtain ⟨t', rfl⟩ := ry
  exact rule i j t t' s _ _ ⟨.bl (g i j), H, I, rfl, q⟩

noncomputable def CPow (i j : Int) : Prop := 0 ≤ j ∧ j ≤ 1000000 ∧ i.natAbs < 2 ^ 64

theorem op_add : OpR X (binaryOp .Add) (rI0 fun i j => .int (i + j)) := opI0 fun _ _ _ _ _ _ _ q => add_int q
theorem op_sub : OpR X (binaryOp .Sub) (rI0 fun i j => .int (i - j)) := opI0 fun _ _ _ _ _ _ _ q => sub_int q

theorem op_mod : OpR X (binaryOp .Mod) (rI (fun _ j => 0 < j) fun i j => .int (i % j)) := opI fun i j _ _ _ _ _ hc q => by
  have h1 : (0 : Int) < j := hc
  exact mod_int' (by omega) (by rw [Int.fmod_eq_emod_of_nonneg i (by omega)]; exact q)
theorem op_pow : OpR X (binaryOp .Pow) (rI CPow fun i j => .int (i ^ j.toNat)) := opI fun _ _ _ _ _ _ _ hc q => pow_int_small hc.1 hc.2.1 hc.2.2 q

theorem unI {f : Value → Sem Value} {g : Int → Int}
    (rule : ∀ (i : Int) (t : Tok) (s : Shared) (Q : Value → Shared → Prop) (E : Value → Shared → Prop), Q (.int (g i) s.toks) { s with toks := s.toks + 1 } → wpAny (model X.prog X.w) X.A (f (.int i t)) Q E s) :
    UnR X f (rU fun i => .int (g i)) := by
  intro pins s σ H x v Q I rx h
  obtain ⟨i, rfl, q⟩ := h
  obtain ⟨t, rfl⟩ := rx
  exact rule i t s _ _ ⟨.int (g i), H, I.tok _, ⟨_, rfl⟩, q⟩
theorem un_neg : UnR X (unaryOp .USub) (rU fun i => .int (-i)) := unI fun _ _ _ _ _ q => neg_int q

end

noncomputable def scal : V → V → Bool
  | .non, .non => true | .non, .int _ => true | .int _, .non => true | .non, .bl _ => true | .bl _, .non => true | .non, .str _ => true | .str _, .non => true
  | .int _, .int _ => true | .bl _, .bl _ => true | .str _, .str _ => true | .byt _, .byt _ => true
  | .int _, .str _ => true | .str _, .int _ => true | .bl _, .str _ => true | .str _, .bl _ => true
  | _, _ => false
noncomputable def rEq : R2 := fun x y H Q => scal x y = true ∧ Q (.bl (decide (x = y))) H
noncomputable def rNe : R2 := fun x y H Q => scal x y = true ∧ Q (.bl (!decide (x = y))) H

theorem dec_int {i j : Int} : decide (V.int i = V.int j) = (i == j) := by
  rw [Bool.eq_iff_iff]
  simp
theorem dec_bl {i j : Bool} : decide (V.bl i = V.bl j) = (i == j) := by
  rw [Bool.eq_iff_iff]
  simp
theorem dec_str {i j : Str} : decide (V.str i = V.str j) = (i == j) := by
  rw [Bool.eq_iff_iff]
  simp
theorem dec_byt {i j : Array UInt8} : decide (V.byt i = V.byt j) = (i.toList == j.toList) := by
  rw [Bool.eq_iff_iff]
  cases i
  cases j
  simp

section
variable {X : Cx} {a b c : Expr} {ta tb tc : TE} {pos : Pos}
theorem fin_bl {pins : List (Addr × Obj)} {σ : St} {H : Hp} {s : Shared} {Q : VK} {k k' : Bool} (I : Inv X pins σ H s) (q : Q (.bl k) H) (e : k = k') : EP X pins σ Q (.bool k') s := by
  subst e
  exact ⟨.bl k, H, I, rfl, q⟩
theorem op_eq : OpR X (compareOp .Eq) rEq := by
  intro pins s σ H x y v u Q I rx ry h
  obtain ⟨hs, q⟩ := h
  cases x with
  | non =>
    cases rx
    cases y with
    | non => cases ry; exact PySem.EqNone.eq_none_none (fin_bl I q (by simp))
    | bl j => cases ry; exact PySem.EqNone.eq_none_bool (fin_bl I q (by simp))
    | int j => obtain ⟨t', rfl⟩ := ry; exact PySem.EqNone.eq_none_int (fin_bl I q (by simp))
    | str j => obtain ⟨t', rfl⟩ := ry; exact PySem.EqNone.eq_none_str (fin_bl I q (by simp))
    | _ => exact absurd (show false = true from hs) Bool.false_ne_true
  | bl i =>
    cases rx
    cases y with
    | non => cases ry; exact PySem.EqNone.eq_bool_none (fin_bl I q (by simp))
    | bl j => cases ry; exact eq_bool (fin_bl I q dec_bl)
    | str j => obtain ⟨t', rfl⟩ := ry; exact PySem.EqMixed.eq_bool_str (fin_bl I q (by simp))
    | _ => exact absurd (show false = true from hs) Bool.false_ne_true
  | int i =>
    obtain ⟨t, rfl⟩ := rx
    cases y with
    | non => cases ry; exact PySem.EqNone.eq_int_none (fin_bl I q (by simp))
    | int j => obtain ⟨t', rfl⟩ := ry; exact eq_int (fin_bl I q dec_int)
    | str j => obtain ⟨t', rfl⟩ := ry; exact PySem.EqMixed.eq_int_str (fin_bl I q (by simp))
    | _ => exact absurd (show false = true from hs) Bool.false_ne_true
  | str i =>
    obtain ⟨t, rfl⟩ := rx
    cases y with
    | non => cases ry; exact PySem.EqNone.eq_str_none (fin_bl I q (by simp))
    | bl j => cases ry; exact PySem.EqMixed.eq_str_bool (fin_bl I q (by simp))
    | int j => obtain ⟨t', rfl⟩ := ry; exact PySem.EqMixed.eq_str_int (fin_bl I q (by simp))
    | str j => obtain ⟨t', rfl⟩ := ry; exact eq_str (fin_bl I q dec_str)
    | _ => exact absurd (show false = true from hs) Bool.false_ne_true
  | byt i =>
    obtain ⟨t, rfl⟩ := rx
    cases y with
    | byt j => obtain ⟨t', rfl⟩ := ry; exact PySem.W.eq_bytes (fin_bl I q dec_byt)
    | _ => exact absurd (show false = true from hs) Bool.false_ne_true
  | _ => cases y <;> exact absurd (show false = true from hs) Bool.false_ne_true
theorem op_ne : OpR X (compareOp .NotEq) rNe := by
  intro pins s σ H x y v u Q I rx ry h
  obtain ⟨hs, q⟩ := h
  cases x with
  | non =>
    cases rx
    cases y with
    | non => cases ry; exact PySem.EqNone.ne_none_none (fin_bl I q (by simp))
    | bl j => cases ry; exact PySem.EqNone.ne_none_bool (fin_bl I q (by simp))
    | int j => obtain ⟨t', rfl⟩ := ry; exact PySem.EqNone.ne_none_int (fin_bl I q (by simp))
    | str j => obtain ⟨t', rfl⟩ := ry; exact PySem.EqNone.ne_none_str (fin_bl I q (by simp))
    | _ => exact absurd (show false = true from hs) Bool.false_ne_true
  | bl i =>
    cases rx
    cases y with
    | non => cases ry; exact PySem.EqNone.ne_bool_none (fin_bl I q (by simp))
    | bl j => cases ry; exact ne_bool (fin_bl I q (congrArg not dec_bl))
    | str j => obtain ⟨t', rfl⟩ := ry; exact PySem.EqMixed.ne_bool_str (fin_bl I q (by simp))
    | _ => exact absurd (show false = true from hs) Bool.false_ne_true
  | int i =>
    obtain ⟨t, rfl⟩ := rx
    cases y with
    | non => cases ry; exact PySem.EqNone.ne_int_none (fin_bl I q (by simp))
    | int j => obtain ⟨t', rfl⟩ := ry; exact ne_int (fin_bl I q (congrArg not dec_int))
    | str j => obtain ⟨t', rfl⟩ := ry; exact PySem.EqMixed.ne_int_str (fin_bl I q (by simp))
    | _ => exact absurd (show false = true from hs) Bool.false_ne_true
  | str i =>
    obtain ⟨t, rfl⟩ := rx
    cases y with
    | non => cases ry; exact PySem.EqNone.ne_str_none (fin_bl I q (by simp))
    | bl j => cases ry; exact PySem.EqMixed.ne_str_bool (fin_bl I q (by simp))
    | int j => obtain ⟨t', rfl⟩ := ry; exact PySem.EqMixed.ne_str_int (fin_bl I q (by simp))
    | str j => obtain ⟨t', rfl⟩ := ry; exact ne_str (fin_bl I q (congrArg not dec_str))
    | _ => exact absurd (show false = true from hs) Bool.false_ne_true
  | byt i =>
    obtain ⟨t, rfl⟩ := rx
    cases y with
    | byt j => obtain ⟨t', rfl⟩ := ry; exact PySem.W.ne_bytes (fin_bl I q (congrArg not dec_byt))
    | _ => exact absurd (show false = true from hs) Bool.false_ne_true
  | _ => cases y <;> exact absurd (show false = true from hs) Bool.false_ne_true

theorem op_lt : OpR X (compareOp .Lt) (rI0 fun i j => .bl (decide (i < j))) := opB0 fun _ _ _ _ _ _ _ q => lt_int q
theorem op_le : OpR X (compareOp .LtE) (rI0 fun i j => .bl (decide (i ≤ j))) := opB0 fun _ _ _ _ _ _ _ q => le_int q
theorem op_gt : OpR X (compareOp .Gt) (rI0 fun i j => .bl (decide (j < i))) := opB0 fun _ _ _ _ _ _ _ q => gt_int q
theorem op_ge : OpR X (compareOp .GtE) (rI0 fun i j => .bl (decide (j ≤ i))) := opB0 fun _ _ _ _ _ _ _ q => ge_int q

theorem nomark (b : Expr) {op : CmpOp} (h : op ≠ .In := by decide) (h2 : op ≠ .NotIn := by decide) : behindInMarks op b = false := by
  have e1 : (op == CmpOp.In) = false := by cases op <;> first | rfl | exact absurd rfl h
  have e2 : (op == CmpOp.NotIn) = false := by cases op <;> first | rfl | exact absurd rfl h2
  cases b <;> simp [behindInMarks, e1, e2]

theorem pe_cmpR {op : CmpOp} {r : R2} (ho : OpR X (compareOp op) r) (ha : PE X a ta) (hb : PE X b tb) (hm : behindInMarks op b = false) : PE X (.Compare a [op] [b] pos) (tOp r ta tb) := by
  intro pins s σ H Q I h
  exact wpAny_Compare1 (binT ha hb I h fun v u s2 x y H2 I2 rx ry q => ho pins s2 σ H2 x y v u Q I2 rx ry q) hm

noncomputable def tTest (t : TE) : TT := fun σ H Q => t σ H fun x H' => XB x H' Q
theorem pt_cmpR {op : CmpOp} {r : R2} (ho : OpR X (compareOp op) r) (ha : PE X a ta) (hb : PE X b tb) (hm : behindInMarks op b = false) : PT X (.Compare a [op] [b] pos) (tTest (tOp r ta tb)) := by
  intro pins s σ H Q I h
  refine wpAny_isTrue_Compare1 (thn (ha pins s σ H _ I h) fun v s1 ⟨x, H1, I1, r1, q1⟩ => thn (hb pins s1 σ H1 _ I1 q1) fun u s2 ⟨y, H2, I2, r2, q2⟩ =>
    thn (ho pins s2 σ H2 x y v u _ I2 r1 r2 q2) fun c s3 ⟨z, H3, I3, r3, k, e, q3⟩ => ?_) hm
  subst e
  cases r3
  exact wpAny_truthy_bool ⟨H3, I3, q3⟩

theorem line63 : (sizeLine : Nat) < 2 ^ 63 := by rw [sizeLine_eq]; decide

theorem vals1 {x : V} {us : List Value} (r : Vals [x] us) : ∃ u, us = [u] ∧ RelV x u := by
  cases r with
  | cons r1 r2 => cases r2; exact ⟨_, rfl, r1⟩
theorem vals2 {x y : V} {us : List Value} (r : Vals [x, y] us) : ∃ u w', us = [u, w'] ∧ RelV x u ∧ RelV y w' := by
  cases r with
  | cons r1 r2 =>
    cases r2 with
    | cons r3 r4 => cases r4; exact ⟨_, _, rfl, r1, r3⟩
inductive XAbs (xs : List V) (H : Hp) (Q : VK) : Prop
  | mk (i : Int) (e : xs = [.int i]) (q : Q (.int (if i < 0 then -i else i)) H) : XAbs xs H Q
theorem call_abs : CallR X (.builtin "abs") (fun xs H Q => XAbs xs H Q) := by
  intro pins s σ H xs us Q I r h
  obtain ⟨i, rfl, q⟩ := h
  obtain ⟨u, rfl, t, rfl⟩ := vals1 r
  exact call_abs_int fun u tk => ⟨.int (if i < 0 then -i else i), H, I.tok _, ⟨_, rfl⟩, q⟩
inductive XMax (xs : List V) (H : Hp) (Q : VK) : Prop
  | mk (i j : Int) (e : xs = [.int i, .int j]) (q : Q (.int (if j > i then j else i)) H) : XMax xs H Q
theorem call_max2 (hc : X.calm = true) : CallR X (.builtin "max") (fun xs H Q => XMax xs H Q) := by
  intro pins s σ H xs us Q I r h
  obtain ⟨i, j, rfl, q⟩ := h
  obtain ⟨u, w', rfl, ⟨t, rfl⟩, ⟨t', rfl⟩⟩ := vals2 r
  refine max_two_ints (I.ok.hd hc) fun h' tk k => ⟨_, H, I.kept k, ?_, q⟩
  by_cases hj : j > i
  · rw [if_pos hj, if_pos hj]; exact ⟨_, rfl⟩
  · rw [if_neg hj, if_neg hj]; exact ⟨_, rfl⟩
inductive XMin (xs : List V) (H : Hp) (Q : VK) : Prop
  | mk (i j : Int) (e : xs = [.int i, .int j]) (q : Q (.int (if j < i then j else i)) H) : XMin xs H Q
theorem call_min2 (hc : X.calm = true) : CallR X (.builtin "min") (fun xs H Q => XMin xs H Q) := by
  intro pins s σ H xs us Q I r h
  obtain ⟨i, j, rfl, q⟩ := h
  obtain ⟨u, w', rfl, ⟨t, rfl⟩, ⟨t', rfl⟩⟩ := vals2 r
  refine min_two_ints (I.ok.hd hc) fun h' tk k => ⟨_, H, I.kept k, ?_, q⟩
  by_cases hj : j < i
  · rw [if_pos hj, if_pos hj]; exact ⟨_, rfl⟩
  · rw [if_neg hj, if_neg hj]; exact ⟨_, rfl⟩
theorem call_int1 : CallR X (.type "int") (fun xs H Q => (∃ i, xs = [.int i] ∧ Q (.int i) H) ∨ ∃ k, xs = [.bl k] ∧ Q (.int (if k then 1 else 0)) H) := by
  intro pins s σ H xs us Q I r h
  rcases h with ⟨i, rfl, q⟩ | ⟨k, rfl, q⟩
  · obtain ⟨u, rfl, t, rfl⟩ := vals1 r
    exact call_int_int ⟨.int i, H, I, ⟨_, rfl⟩, q⟩
  · obtain ⟨u, rfl, r1⟩ := vals1 r
    cases r1
    exact call_int_bool ⟨.int (if k then 1 else 0), H, I.tok _, ⟨_, rfl⟩, q⟩
end
end L2

namespace L2
open PySem PySem.Spec PyProof.Rows

section
variable {prog : Program} {w : World} {A : Around} {E : Value → Shared → Prop} {s : Shared} {K : PySem.W.Frag} {x dx C f : Addr} {mA : Str → Option Value} {name : Str} {v : Value}

end

section
variable {P : Program} {w : World} {H H' : Hp} {h h' : Heap} {a C dx : Addr} {fs fs' : List (Str × V)}
end

structure Cls (K : PySem.W.Frag) (C : Addr) : Prop where
  pg : PySem.W.plainGet K C Str.empty = true
  hd : PySem.W.hasDictIn K C = true
  po : PySem.W.plainOver K C = true
  sa : PySem.W.findIn K (.ref C) "__setattr__" = some (some (.builtin "object.__setattr__"))

section
variable {X : Cx} {pins : List (Addr × Obj)} {σ : St} {H : Hp} {s : Shared} {a C dx : Addr} {fs : List (Str × V)} {f : Str} {v : V} {A : Around} {E : Value → Shared → Prop}

end

section
variable {X : Cx} {o e value : Expr} {f : Str} {pos pos' tpos : Pos} {ta tv : TE}

end

section
variable {X : Cx} {pins : List (Addr × Obj)} {σ : St} {H : Hp} {s : Shared} {A : Around} {E : Value → Shared → Prop} {Q : Value → Shared → Prop} {c : Value} {b : Bool}
end
end L2

namespace L2
open PySem PySem.Spec PyProof.Rows

structure Room (k : Nat) (A : Around) : Prop where
  hd : A.handled = none
  dp : A.depth + 3 * k + 5 < recursionLimit
  un : A.units + 16 * k + 200 < cLine
theorem Room.mono {j k : Nat} {A : Around} (r : Room k A) (h : j ≤ k) : Room j A := ⟨r.hd, by have := r.dp; omega, by have := r.un; omega⟩
theorem Room.deeper {k : Nat} {A : Around} (r : Room (k + 1) A) (env : Env) : Room k (A.deeper env) :=
  ⟨r.hd, by have := r.dp; show A.depth + 1 + 3 * k + 5 < _; omega, by have := r.un; show A.units + 3 + 16 * k + 200 < _; omega⟩
theorem Room.depth {k : Nat} {A : Around} (r : Room k A) : A.depth < recursionLimit := by have := r.dp; omega
theorem Room.units {k : Nat} {A : Around} (r : Room k A) : A.units + 64 < cLine := by have := r.un; omega
theorem Room.units0 {k : Nat} {A : Around} (r : Room k A) : A.units < cLine := by have := r.un; omega

noncomputable def tNil : TA := fun _ H Q => Q [] H
noncomputable def tCons (ta : TE) (tr : TA) : TA := fun σ H Q => ta σ H fun x H1 => tr σ H1 fun xs H2 => Q (x :: xs) H2
section
variable {X : Cx} {e : Expr} {es : List Expr} {te : TE} {t : TA} {pos : Pos}
theorem pa_nil : PA X [] tNil := fun _ _ _ _ H Q I h => Calls.spliced_nil ⟨[], H, I, .nil, h⟩
theorem pa_cons (ha : PE X e te) (hr : PA X es t) (hs : starEach (e :: es) X.env = (false, eval e X.env) :: starEach es X.env := by rfl) : PA X (e :: es) (tCons te t) := by
  intro pos pins s σ H Q I h
  rw [hs]
  show wpAny _ _ (spliced ((false, eval e X.env) :: backTo pos (starEach es X.env))) _ _ s
  refine Calls.spliced_cons (thn (ha pins s σ H _ I h) fun u s1 ⟨x, H1, I1, r1, q1⟩ => ?_)
  exact thn (hr pos pins s1 σ H1 _ I1 q1) fun us s2 ⟨xs, H2, I2, r2, q2⟩ => ⟨x :: xs, H2, I2, .cons r1 r2, q2⟩

noncomputable def tTup (t : TA) : TE := fun σ H Q => t σ H fun xs H1 => xs.length ≤ sizeLine ∧ ∀ p, H1 p = none → Q (.ref p) (upd H1 p (.tup xs))
noncomputable def tLst (t : TA) : TE := fun σ H Q => t σ H fun xs H1 => xs.length ≤ sizeLine ∧ ∀ p, H1 p = none → Q (.ref p) (upd H1 p (.lst xs))
theorem pe_tup {x1} (h : PA X es t) : PE X (.Tuple es x1 pos) (tTup t) := by
  intro pins s σ H Q I hq
  refine wpAny_Tuple_spliced (thn (h pos pins s σ H _ I hq) fun us s1 ⟨xs, H1, I1, r, z, q⟩ => ⟨by rw [← r.length]; exact z, ?_⟩)
  have hf : H1 s1.heap.objs.size = none := I1.hok.fresh (Nat.le_refl _)
  refine ⟨.ref s1.heap.objs.size, upd H1 s1.heap.objs.size (.tup xs), I1.laid (t' := s1.toks) (fun b u e => Heap.get?_push_of_some _ e) (Nat.le_refl _) ?_, rfl, q _ hf⟩
  exact ⟨z, us, r, ⟨_, Heap.get?_push_size _ rfl, rfl, _, rfl⟩⟩
theorem pe_lst (h : PA X es t) : PE X (.List es pos) (tLst t) := by
  intro pins s σ H Q I hq
  refine wpAny_List_spliced (thn (h pos pins s σ H _ I hq) fun us s1 ⟨xs, H1, I1, r, z, q⟩ => ⟨by rw [← r.length]; exact z, ?_⟩)
  have hf : H1 s1.heap.objs.size = none := I1.hok.fresh (Nat.le_refl _)
  refine ⟨.ref s1.heap.objs.size, upd H1 s1.heap.objs.size (.lst xs), I1.laid (t' := s1.toks) (fun b u e => Heap.get?_push_of_some _ e) (Nat.le_refl _) ?_, rfl, q _ hf⟩
  exact ⟨z, us, 0, r, Heap.get?_push_size _ rfl⟩
end

noncomputable abbrev Sp := List V → Hp → VK → XK → Prop

noncomputable abbrev CXT := List Env → Hp → Shared → XK → Value → Shared → Prop

structure Env0 (P : Program) (w : World) (K : PySem.W.Frag) (mg : Str → Option Value) (base : Heap) (A : Around) (outer : List Env) (s : Shared) (H : Hp) : Prop where
  frames : A.frames = some outer
  mod : Mod K mg base
  bs : ∀ b o, base.get? b = some o → s.heap.get? b = some o ∧ H b = none
  bsz : base.objs.size ≤ s.heap.objs.size
  funs : s.heap.FunFrames base outer
  frf : ∀ b ∈ frs outer, H b = none
  hok : HOk P w H s.heap
  bare : AllBare s.gens

noncomputable def CE (outer : List Env) (P : Program) (w : World) (H : Hp) (s : Shared) (Q : VK) (u : Value) (s' : Shared) : Prop :=
  ∃ v H', s'.os = s.os ∧ AllBare s'.gens ∧ Un (frs outer) [] H H' s.heap s'.heap ∧ HOk P w H' s'.heap ∧ RelV v u ∧ Q v H'
noncomputable def CR (CX : CXT) (outer : List Env) (P : Program) (w : World) (H : Hp) (s : Shared) (Q : VK) (E : XK) (r : Result) (s' : Shared) : Prop :=
  match r with
  | .ok (.ret u) => CE outer P w H s Q u s'
  | .ok _ => False
  | .error e => CX outer H s E e s'
structure FnOk (P : Program) (w : World) (K : PySem.W.Frag) (mg : Str → Option Value) (base : Heap) (CX : CXT) (k : Nat) (f : Addr) (fd : FuncData) (ps : List Str) (sp : Sp) : Prop where
  len : ∀ vs H Q E, sp vs H Q E → vs.length = ps.length
  run : ∀ (A : Around) (outer : List Env) (s : Shared) (H : Hp) (args : Args) (us : List Value) (vs : List V) (Q : VK) (E : XK), Room k A → Env0 P w K mg base A outer s H → BindsTo s fd args (ps.zip us) → Vals vs us → sp vs H Q E →
    codeAny (model P w) A (.call (.ref f) args) (CR CX outer P w H s Q E) s
theorem FnOk.mono {P : Program} {w : World} {K : PySem.W.Frag} {mg : Str → Option Value} {base : Heap} {CX : CXT} {j k : Nat} {f : Addr} {fd : FuncData} {ps : List Str} {sp : Sp} (F : FnOk P w K mg base CX j f fd ps sp) (h : j ≤ k) :
    FnOk P w K mg base CX k f fd ps sp := ⟨F.len, fun A outer s H args us vs Q E hr => F.run A outer s H args us vs Q E (hr.mono h)⟩

section
variable {X : Cx} {pins : List (Addr × Obj)} {σ : St} {H : Hp} {s s' : Shared}

theorem Inv.env0 (I : Inv X pins σ H s) : Env0 X.prog X.w X.K X.mg X.base X.A X.stack s H :=
  ⟨I.ok.frames, I.ok.mod, I.bs, Nat.le_trans I.ok.bsz I.sz, I.stack, I.stkFree, I.hok, I.bare⟩

theorem Inv.after {Q : VK} {u : Value} (I : Inv X pins σ H s) (h : CE X.stack X.prog X.w H s Q u s') : EP X pins σ Q u s' := by
  obtain ⟨v, H', os, bare, un, hok, r, q⟩ := h
  obtain ⟨hh, g, d, t, os'⟩ := s'
  obtain rfl : os' = s.os := os
  exact ⟨v, H', I.call (h' := hh) (g' := g) (d' := d) (t' := t) (ch := []) un hok bare (fun b z => absurd z (by simp)), r, q⟩
end

noncomputable def tCall (sp : Sp) (dvs : List V) (E : XK) (t : TA) : TE := fun σ H Q => t σ H fun vs H1 => sp (vs ++ dvs) H1 Q E

noncomputable def Binds (K : PySem.W.Frag) (fd : FuncData) (ps : List Str) (ds : List Value) : Prop :=
  ∀ (s : Shared) (us : List Value), K.In s.heap → (us ++ ds).length = ps.length → BindsTo s fd ⟨us, []⟩ (ps.zip (us ++ ds))

theorem Binds.all {K : PySem.W.Frag} {fd : FuncData} {ps : List Str} (h : ∀ us : List Value, us.length = ps.length → bindArgs fd ⟨us, []⟩ = pure (ps.zip us)) : Binds K fd ps [] := fun s us _ hl => by
  rw [List.append_nil] at hl ⊢
  exact .of_eq (h us hl)

noncomputable def Passes (CX : CXT) (X : Cx) (E : XK) : Prop := ∀ (pins : List (Addr × Obj)) (σ : St) (H : Hp) (s : Shared) (e : Value) (s' : Shared), Inv X pins σ H s → CX X.stack H s E e s' → X.xe e s'

section
variable {X : Cx} {CX : CXT} {k : Nat} {f C : Addr} {fd : FuncData} {ps : List Str} {sp : Sp} {dvs : List V} {ds : List Value} {E : XK} {x m : Str} {p pos apos : Pos} {e o : Expr} {es : List Expr} {ta : TE} {t : TA}

theorem run_fn {pins : List (Addr × Obj)} {σ : St} {H : Hp} {s : Shared} {Q : VK} {us : List Value} {vs : List V} (F : FnOk X.prog X.w X.K X.mg X.base CX k f fd ps sp) (hr : Room k X.A) (hb : Binds X.K fd ps ds) (hd : Vals dvs ds) (hx : Passes CX X E)
    (I : Inv X pins σ H s) (r : Vals vs us) (h : sp (vs ++ dvs) H Q E) : wpAny (model X.prog X.w) X.A (call (.ref f) us) (EP X pins σ Q) X.xe s := by
  have r2 : Vals (vs ++ dvs) (us ++ ds) := r.append hd
  have hl : (us ++ ds).length = ps.length := by rw [← r2.length]; exact F.len _ _ _ _ h
  refine wpAny_call (codeAny_mono (F.run X.A X.stack s H ⟨us, []⟩ (us ++ ds) (vs ++ dvs) Q E hr I.env0 (hb s us I.kIn hl) r2 h) fun r s' hq => ?_)
  cases r with
  | error e => exact hx pins σ H s e s' I hq
  | ok fl =>
    cases fl with
    | ret u => exact I.after hq
    | next => exact False.elim hq
    | brk => exact False.elim hq
    | cont => exact False.elim hq

theorem pe_call (F : FnOk X.prog X.w X.K X.mg X.base CX k f fd ps sp) (hr : Room k X.A) (hg : Gl X x) (hm : X.mg x = some (.ref f)) (hk : PySem.W.keepIn X.K (.ref f) = true) (hb : Binds X.K fd ps ds) (hd : Vals dvs ds) (hx : Passes CX X E)
    (ha : PA X (e :: es) t) (hdb : (x == ("__debug__" : Str)) = false := by decide) (he : starEach (e :: es) X.env = (false, eval e X.env) :: starEach es X.env := by rfl) (hpl : (backTo pos (starEach es X.env)).any (·.1) = false := by rfl) :
    PE X (.Call (.Name x p) (e :: es) [] pos) (tCall sp dvs E t) := by
  intro pins s σ H Q I h
  refine wpAny_Call_Name_kw (ld_glob I hg hm ?_ hdb)
  refine PySem.W.callWith_K (h₀ := X.base) I.ok.mod.kin hk (thn (ha pos pins s σ H _ I h) fun us s1 ⟨vs, H1, I1, r, q⟩ => ⟨I1.kIn, ?_⟩) he hpl
  exact run_fn F hr hb hd hx I1 r q

end

noncomputable def PK (X : Cx) (kws : List Keyword) (t : TA) : Prop :=
  ∀ (pos : Pos) (pins : List (Addr × Obj)) (s : Shared) (σ : St) (H : Hp) (Q : List V → Hp → Prop), Inv X pins σ H s → t σ H Q → wpAny (model X.prog X.w) X.A (evalAll ((backToKw pos (keywordEach kws X.env)).map (·.2))) (AP X pins σ Q) X.xe s
section
variable {X : Cx} {CX : CXT} {k : Nat} {f C : Addr} {fd : FuncData} {ps ks : List Str} {sp : Sp} {E : XK} {x m : Str} {p pos apos kpos : Pos} {e o : Expr} {es : List Expr} {kws : List Keyword} {te ta : TE} {t tk : TA} {nm : Option Str}
theorem pk_nil : PK X [] tNil := fun _ _ _ _ H Q I h => wpAny_evalAll_nil ⟨[], H, I, .nil, h⟩
theorem pk_cons (ha : PE X e te) (hr : PK X kws t) : PK X (⟨nm, e, kpos⟩ :: kws) (tCons te t) := by
  intro pos pins s σ H Q I h
  show wpAny _ _ (evalAll ((do let v ← eval e X.env; standAt pos; pure v) :: (backToKw pos (keywordEach kws X.env)).map (·.2))) _ _ s
  refine wpAny_evalAll_cons (wpAny_bind (thn (ha pins s σ H _ I h) fun u s1 ⟨x, H1, I1, r1, q1⟩ => wpAny_bind (wpAny_standAt (wpAny_pure ?_))))
  exact thn (hr pos pins s1 σ H1 _ I1 q1) fun us s2 ⟨xs, H2, I2, r2, q2⟩ => ⟨x :: xs, H2, I2, .cons r1 r2, q2⟩

variable {g : List Value → List Value → List Value} {gV : List V → List V → List V}
end

structure FnScope (N P : List Str) (sc : Scope) : Prop where
  kind : sc.kind = .function
  co : sc.isCoroutine = false
  gen : sc.isGenerator = false
  nd : N.Nodup
  pre : N.take P.length = P
  par : ∀ x ∈ P, sc.names.lookup x = some .local ∨ sc.names.lookup x = some .cell
  nofree : ∀ y ∈ sc.names, y.2 ≠ .free

theorem bindL_out {kindOf : Str → Option NameKind} {x : Str} : ∀ {binds : List (Str × Value)} {m : Str → Option Value}, (∀ v, (x, v) ∉ binds) → bindL kindOf binds m x = m x
  | [], _, _ => rfl
  | (n, v) :: r, m, h => by
    unfold bindL
    rw [bindL_out fun w hw => h w (List.mem_cons_of_mem _ hw)]
    split
    · have : x ≠ n := by rintro rfl; exact h v List.mem_cons_self
      simp [this]
    · rfl
theorem bindC_out {kindOf : Str → Option NameKind} {x : Str} : ∀ {binds : List (Str × Value)} {m : Str → Option Value}, (∀ v, (x, v) ∉ binds) → bindC kindOf binds m x = m x
  | [], _, _ => rfl
  | (n, v) :: r, m, h => by
    unfold bindC
    rw [bindC_out fun w hw => h w (List.mem_cons_of_mem _ hw)]
    split
    · rfl
    · have : x ≠ n := by rintro rfl; exact h v List.mem_cons_self
      simp [this]
theorem bindL_get {kindOf : Str → Option NameKind} {x : Str} {v : Value} : ∀ {P : List Str} {vs : List Value} {i : Nat} {m : Str → Option Value}, P.Nodup → P[i]? = some x → vs[i]? = some v → kindOf x = some .local →
    bindL kindOf (P.zip vs) m x = some v
  | [], _, _, _, _, h, _, _ => by simp at h
  | _ :: _, [], _, _, _, _, h, _ => by simp at h
  | p :: P, w :: vs, 0, m, nd, h1, h2, hk => by
    simp at h1 h2; subst h1; subst h2
    show bindL kindOf ((p, w) :: P.zip vs) m p = _
    unfold bindL
    rw [bindL_out fun v hv => (List.nodup_cons.mp nd).1 (List.of_mem_zip hv).1, if_pos hk]
    simp
  | p :: P, w :: vs, i + 1, m, nd, h1, h2, hk => by
    show bindL kindOf ((p, w) :: P.zip vs) m x = _
    unfold bindL
    exact bindL_get (i := i) (List.nodup_cons.mp nd).2 (by simpa using h1) (by simpa using h2) hk
theorem bindC_get {kindOf : Str → Option NameKind} {x : Str} {v : Value} : ∀ {P : List Str} {vs : List Value} {i : Nat} {m : Str → Option Value}, P.Nodup → P[i]? = some x → vs[i]? = some v → kindOf x ≠ some .local →
    bindC kindOf (P.zip vs) m x = some v
  | [], _, _, _, _, h, _, _ => by simp at h
  | _ :: _, [], _, _, _, _, h, _ => by simp at h
  | p :: P, w :: vs, 0, m, nd, h1, h2, hk => by
    simp at h1 h2; subst h1; subst h2
    show bindC kindOf ((p, w) :: P.zip vs) m p = _
    unfold bindC
    rw [bindC_out fun v hv => (List.nodup_cons.mp nd).1 (List.of_mem_zip hv).1, if_neg hk]
    simp
  | p :: P, w :: vs, i + 1, m, nd, h1, h2, hk => by
    show bindC kindOf ((p, w) :: P.zip vs) m x = _
    unfold bindC
    exact bindC_get (i := i) (List.nodup_cons.mp nd).2 (by simpa using h1) (by simpa using h2) hk

noncomputable def start (N : List Str) (vs : List V) : St := vs.map some ++ List.replicate (N.length - vs.length) none

noncomputable def cxOf (CX : CXT) (P : Program) (w : World) (K : PySem.W.Frag) (mg : Str → Option Value) (base : Heap) (N : List Str) (qual : Str) (scope : Scope) (f : Addr) (cd : Value) (A : Around) (outer : List Env) (s : Shared) (H : Hp) (E : XK) : Cx where
  prog := P
  w := w
  K := K
  mg := mg
  base := base
  A := A.deeper (envOfC qual scope s.heap.objs.size f cd)
  N := N
  s₀ := s
  H₀ := H
  env := envOfC qual scope s.heap.objs.size f cd
  outer := outer
  stack := envOfC qual scope s.heap.objs.size f cd :: outer
  ex := []
  calm := true
  fn := fun _ => true
  pn := []
  xe := fun e s' => wpAny (model P w) (A.deeper (envOfC qual scope s.heap.objs.size f cd)) (leaving (envOfC qual scope s.heap.objs.size f cd) e) (fun _ s'' => CX outer H s E e s'') (fun e' s'' => CX outer H s E e' s'') s'

theorem cell_has {sc : Scope} {n : Nat} {x : Str} (h : sc.names.lookup x = some .cell) : ∃ c, (cellsFrom n sc.names []).lookup x = some c := by
  have q := PySem.W.cellsFrom_some sc.names n [] (.inl h)
  exact Option.isSome_iff_exists.mp q

theorem inv_start {CX : CXT} {P : Program} {w : World} {K : PySem.W.Frag} {mg : Str → Option Value} {base : Heap} {N ps : List Str} {qual : Str} {scope : Scope} {f : Addr} {cd : Value} {A : Around} {outer : List Env} {s s1 : Shared} {H : Hp} {E : XK} {us : List Value} {vs : List V}
    (S : FnScope N ps scope) (hd : A.handled = none) (e0 : Env0 P w K mg base A outer s H) (hl : vs.length = ps.length) (r : Vals vs us)
    (x : InCallC s s.heap.objs.size (bindL (envOfC qual scope s.heap.objs.size f cd).kindOf (ps.zip us) fun _ => none) (cellsFrom (s.heap.objs.size + 1) scope.names []) (bindC (envOfC qual scope s.heap.objs.size f cd).kindOf (ps.zip us) fun _ => none) s1) :
    Inv (cxOf CX P w K mg base N qual scope f cd A outer s H E) [] (start N vs) H s1 := by
  have hpl : ps.length ≤ N.length := by have := congrArg List.length S.pre; rw [List.length_take] at this; omega
  obtain ⟨h1, tk, rfl, hk⟩ := x.done
  have noA : ∀ b : Addr, b ∉ (cxOf CX P w K mg base N qual scope f cd A outer s H E).ex := fun b z => absurd (show b ∈ ([] : List Addr) from z) (by simp)
  refine ⟨⟨e0.mod, S.kind, rfl, rfl, Nat.le_refl _, fun y z c h1 h2 => ?_, fun y hy => ?_, fun y c _ h => ?_, fun _ => hd, Around.frames_deeper e0.frames, .inr ⟨rfl, rfl⟩, fun b z => absurd z (noA b), e0.bs, e0.bsz, fun b _ _ => noA b, fun b z => absurd z (noA b), e0.funs, e0.frf⟩,
    rfl, e0.bare, Un.kept hk, ⟨_, x.toInCall.ns, fun i y v h1 h2 h3 => ?_⟩, fun y c h => ⟨_, x.cell y c h⟩, e0.hok.fresh (Nat.le_refl _), fun y c h => ?_, fun p hp => absurd (show p ∈ ([] : List (Addr × Obj)) from hp) (by simp), e0.hok.kept hk, ?_⟩
  · exact name_of_addr x.apart (PySem.mem_of_lookup h1) (PySem.mem_of_lookup h2)
  · have hy : scope.names.lookup y = some .cell ∨ scope.names.lookup y = some .free := hy
    rcases hy with hy | hy
    · exact cell_has hy
    · exact absurd rfl (S.nofree _ (PySem.mem_of_lookup hy))
  · exact Nat.le_of_lt (x.above y c (PySem.mem_of_lookup h))
  · have hi : i < vs.length := by
      unfold start at h2
      by_cases hi : i < vs.length
      · exact hi
      · rw [List.getElem?_append_right (by simpa using hi)] at h2
        rw [List.getElem?_replicate] at h2
        split at h2 <;> cases h2
    have ha : vs[i]? = some v := by
      unfold start at h2
      rw [List.getElem?_append_left (by simpa using hi), List.getElem?_map] at h2
      cases e : vs[i]? with
      | none => rw [e] at h2; cases h2
      | some a => rw [e] at h2; cases h2; rfl
    obtain ⟨u, hu, rv⟩ := r.get ha
    have hp : ps[i]? = some y := by
      rw [← S.pre, List.getElem?_take_of_lt (by omega)]; exact h1
    have ndP : ps.Nodup := by rw [← S.pre]; exact S.nd.sublist (List.take_sublist _ _)
    refine ⟨u, rv, ?_⟩
    rcases S.par y (List.mem_of_getElem? hp) with k | k
    · exact .inl ⟨k, bindL_get ndP hp hu k⟩
    · obtain ⟨c, e⟩ := cell_has (n := s.heap.objs.size + 1) k
      refine .inr ⟨.inl k, c, e, ?_⟩
      have q := x.cell y c e
      rw [bindC_get ndP hp hu (by show scope.names.lookup y ≠ _; rw [k]; decide)] at q
      exact q
  · exact e0.hok.fresh (Nat.le_of_lt (x.above y c (PySem.mem_of_lookup h)))
  · unfold start
    show _ = N.length
    rw [List.length_append, List.length_map, List.length_replicate]
    omega

theorem fn_of {CX : CXT} {P : Program} {w : World} {K : PySem.W.Frag} {mg : Str → Option Value} {base : Heap} {k : Nat} {f : Addr} {name qual : Str} {params : Arguments} {body : List Stmt} {scope : Scope} {dV kV doc pm cdv ct oc : Value} {an od : Option Addr}
    {osl : Array (Option Value)} {N ps : List Str} {sp : Sp} (lk : K.lookup f = some ⟨oc, od, .func (PySem.W.fnOf name qual params body scope dV kV doc pm an cdv ct), osl⟩) (hcd : PySem.W.codeIn K cdv qual = true) (S : FnScope N ps scope)
    (len : ∀ vs H Q E, sp vs H Q E → vs.length = ps.length)
    (hbody : ∀ (A : Around) (outer : List Env) (s : Shared) (H : Hp) (vs : List V) (Q : VK) (E : XK), Room k (A.deeper (envOfC qual scope s.heap.objs.size f cdv)) → sp vs H Q E →
      ∃ t, PSs (cxOf CX P w K mg base N qual scope f cdv A outer s H E) body t ∧ t { nx := fun _ H' => Q .non H', rt := Q } (start N vs) H) :
    FnOk P w K mg base CX (k + 1) f (PySem.W.fnOf name qual params body scope dV kV doc pm an cdv ct) ps sp := by
  refine ⟨len, fun A outer s H args us vs Q E hr e0 hb r hsp => ?_⟩
  have hl := len _ _ _ _ hsp
  have KX : K.In s.heap := e0.mod.kin.keeps fun b o e => (e0.bs b o e).1
  have lim : s.heap.NoLimit := e0.mod.nolimit.keeps fun b o e => (e0.bs b o e).1
  have hkind : ∀ y ∈ ps.zip us, scope.names.lookup y.1 = some .local ∨ (scope.names.lookup y.1 = some .cell ∧ ((cellsFrom (s.heap.objs.size + 1) scope.names []).lookup y.1).isSome = true) := fun ⟨n, v⟩ hy => by
    rcases S.par n (List.of_mem_zip hy).1 with q | q
    · exact .inl q
    · exact .inr ⟨q, PySem.W.cellsFrom_some _ _ _ (.inl q)⟩
  refine codeAny_call_function hr.depth (KX _ _ lk) rfl S.co S.gen rfl (PySem.W.codeRec_of KX hcd) (hb _ _ _ _ ?_)
  refine wpAny_newFunctionEnv_cells S.kind hkind fun env he s1 x => ?_
  subst he
  refine ⟨lim.keeps x.toInCall.keep, codeAny_func ?_⟩
  obtain ⟨t, ht, hq⟩ := hbody A outer s H vs Q E (hr.deeper _) hsp
  have I : Inv (cxOf CX P w K mg base N qual scope f cdv A outer s H E) [] (start N vs) H s1 := inv_start S hr.hd e0 hl r x
  refine wpAny_mono (ht [] s1 (start N vs) H _ I hq) (fun fl s' hs => ?_) fun e s' hs => hs
  have fin : ∀ {σ' : St} {H' : Hp} {v : V} {u : Value}, Inv (cxOf CX P w K mg base N qual scope f cdv A outer s H E) [] σ' H' s' → RelV v u → Q v H' → CE outer P w H s Q u s' :=
    fun {σ' H' v u} J rv q => ⟨v, H', J.os, J.bare, J.base, J.hok, rv, q⟩
  cases fl with
  | ret u =>
    obtain ⟨v, σ', H', J, rv, q⟩ := hs
    exact fin J rv q
  | next =>
    obtain ⟨σ', H', J, q⟩ := hs
    exact fin (v := V.non) (u := Value.none) J rfl q
  | brk =>
    obtain ⟨_, _, _, q⟩ := hs
    exact False.elim q
  | cont =>
    obtain ⟨_, _, _, q⟩ := hs
    exact False.elim q
end L2

namespace L2
open PySem PySem.Spec PyProof.Rows
section
variable {X : Cx} {x : Str} {p pos : Pos} {e : Expr} {es : List Expr} {t : TA} {id T : String} {r : List V → Hp → VK → Prop}

noncomputable def tCB (r : List V → Hp → VK → Prop) (t : TA) : TE := fun σ H Q => t σ H fun vs H1 => r vs H1 Q

theorem pe_callB (hc : CallR X (.builtin id) r) (hg : Gl X x) (hm : X.mg x = none) (hv : bootBuiltins x = some (.builtin id)) (ha : PA X (e :: es) t) (hn : x ≠ "__name__" := by decide) (hdb : (x == ("__debug__" : Str)) = false := by decide)
    (he : starEach (e :: es) X.env = (false, eval e X.env) :: starEach es X.env := by rfl) (hpl : (backTo pos (starEach es X.env)).any (·.1) = false := by rfl) : PE X (.Call (.Name x p) (e :: es) [] pos) (tCB r t) := by
  intro pins s σ H Q I h
  refine wpAny_Call_Name_kw (ld_blt I hg hm hv ?_ hn hdb)
  exact PyProof.Rows.callWith_builtin1 (thn (ha pos pins s σ H _ I h) fun us s1 ⟨vs, H1, I1, r1, q1⟩ => hc pins s1 σ H1 vs us Q I1 r1 q1) he hpl

theorem pe_callTy (hc : CallR X (.type T) r) (hg : Gl X x) (hm : X.mg x = none) (hv : bootBuiltins x = some (.type T)) (ha : PA X (e :: es) t) (hn : x ≠ "__name__" := by decide) (hdb : (x == ("__debug__" : Str)) = false := by decide)
    (he : starEach (e :: es) X.env = (false, eval e X.env) :: starEach es X.env := by rfl) (hpl : (backTo pos (starEach es X.env)).any (·.1) = false := by rfl) : PE X (.Call (.Name x p) (e :: es) [] pos) (tCB r t) := by
  intro pins s σ H Q I h
  refine wpAny_Call_Name_kw (ld_blt I hg hm hv ?_ hn hdb)
  exact PyProof.Rows.callWith_type1 (thn (ha pos pins s σ H _ I h) fun us s1 ⟨vs, H1, I1, r1, q1⟩ => hc pins s1 σ H1 vs us Q I1 r1 q1) he hpl
end
end L2

namespace HT
open PySem PyProof.Rows

section
open PySem.SeqAt
open PySem.AutoSeq1 (wpAny_loadPart')
open PySem.MeetsSeq PySem.MeetsSeq2 PySem.MeetsSeq3

end

section
variable {prog : Program} {w : World} {A : Around} {E : Value → Shared → Prop} {s : Shared}

noncomputable def sIx (n d : Nat) : Option Int → Nat
  | none => d
  | some v => if v < 0 then (v + (n : Int)).toNat else min v.toNat n
theorem sIx_none (n d : Nat) : sIx n d none = d := rfl
theorem sIx_nat (n d k : Nat) : sIx n d (some (k : Int)) = min k n := by
  show (if (k : Int) < 0 then ((k : Int) + (n : Int)).toNat else min (k : Int).toNat n) = min k n
  rw [if_neg (by omega), Int.toNat_natCast]

end
end HT

namespace L2
open PySem PySem.Spec PyProof.Rows

noncomputable abbrev TO := St → Hp → (Option Int → Hp → Prop) → Prop

noncomputable def PO (X : Cx) (e : Option Expr) (t : TO) : Prop :=
  ∀ (pins : List (Addr × Obj)) (s : Shared) (σ : St) (H : Hp) (Q : Option Int → Hp → Prop), Inv X pins σ H s → t σ H Q →
    wpAny (model X.prog X.w) X.A (evalPart e X.env) (fun u s' => ∃ o H', Inv X pins σ H' s' ∧ IsPart u o ∧ Q o H') X.xe s
noncomputable def tNoPart : TO := fun _ H Q => Q none H
inductive XPart (x : V) (H : Hp) (Q : Option Int → Hp → Prop) : Prop
  | mk (i : Int) (e : x = .int i) (q : Q (some i) H) : XPart x H Q
noncomputable def tPart (t : TE) : TO := fun σ H Q => t σ H fun x H1 => XPart x H1 Q

theorem intsAre_of {ns : List Int} : ∀ {us : List Value}, Vals (ns.map V.int) us → IntsAre us ns := by
  induction ns with
  | nil => intro us r; rw [List.map_nil] at r; cases r; exact .nil
  | cons n ns ih =>
    intro us r
    rw [List.map_cons] at r
    cases r with
    | cons r1 r2 =>
      obtain ⟨t, e⟩ := r1
      subst e
      exact .cons n t (ih r2)

section
variable {X : Cx} {e : Expr} {te : TE} {lo hi : Option Expr} {tl th : TO} {pos p2 : Pos}

theorem po_none : PO X none tNoPart := by
  intro pins s σ H Q I h
  rw [evalPart_none]
  exact wpAny_pure ⟨none, H, I, .none, h⟩
theorem po_some (h : PE X e te) : PO X (some e) (tPart te) := by
  intro pins s σ H Q I hw
  rw [evalPart_some]
  refine thn (h pins s σ H _ I hw) fun u s1 ⟨x, H1, I1, r1, q1⟩ => ?_
  obtain ⟨i, rfl, q⟩ := q1
  obtain ⟨t, rfl⟩ := r1
  exact ⟨some i, H1, I1, .int i t, q⟩

noncomputable def SlR (X : Cx) (r : V → Option Int → Option Int → Hp → VK → Prop) : Prop :=
  ∀ (pins : List (Addr × Obj)) (s : Shared) (σ : St) (H : Hp) (x : V) (v vl vu : Value) (lo hi : Option Int) (sl : Addr) (Q : VK), Inv X pins σ H s → RelV x v → s.heap.IsSliceOf sl vl vu .none → IsPart vl lo → IsPart vu hi → r x lo hi H Q →
    ∃ T id, typeLookup (.type T) "__getitem__" = pure (some (.builtin id)) ∧ s.TypeIs v T ∧ wpAny (model X.prog X.w) X.A (getItem v (.ref sl)) (EP X pins σ Q) X.xe s
noncomputable def tSl (r : V → Option Int → Option Int → Hp → VK → Prop) (te : TE) (tl th : TO) : TE := fun σ H Q => te σ H fun x H1 => tl σ H1 fun l H2 => th σ H2 fun u H3 => r x l u H3 Q

theorem pe_slice {r : V → Option Int → Option Int → Hp → VK → Prop} (hr : SlR X r) (he : PE X e te) (hl : PO X lo tl) (hu : PO X hi th) : PE X (.Subscript e (.Slice lo hi none p2) pos) (tSl r te tl th) := by
  intro pins s σ H Q I h
  refine Subscript_ (thn (he pins s σ H _ I h) fun v s1 ⟨x, H1, I1, r1, q1⟩ => ?_)
  refine wpAny_Slice (thn (hl pins s1 σ H1 _ I1 q1) fun vl s2 ⟨l, H2, I2, pl, q2⟩ => thn (hu pins s2 σ H2 _ I2 q2) fun vu s3 ⟨u, H3, I3, pu, q3⟩ => ?_)
  rw [evalPart_none]
  refine wpAny_pure ?_
  have I4 : Inv X pins σ H3 { s3 with heap := s3.heap.push { cls := .type "slice", data := .fields #[vl, vu, .none] } } := I3.kept (t' := s3.toks) fun b ob q => Heap.get?_push_of_some _ q
  obtain ⟨T, id, hT, ht, hg⟩ := hr pins { s3 with heap := s3.heap.push { cls := .type "slice", data := .fields #[vl, vu, .none] } } σ H3 x v vl vu l u s3.heap.objs.size Q I4 r1 (Heap.IsSliceOf.new ..) pl pu q3
  show wpAny (model X.prog X.w) X.A (subscriptTail e (.Slice lo hi none p2) v (.ref s3.heap.objs.size)) (EP X pins σ Q) X.xe { s3 with heap := s3.heap.push { cls := .type "slice", data := .fields #[vl, vu, .none] } }
  exact tail_any (ops := [.ref s3.heap.objs.size, v]) ht hT hg (by with_unfolding_all rfl)

noncomputable def cutV (xs : List V) (lo hi : Option Int) : List V := (xs.drop (HT.sIx xs.length 0 lo)).take (HT.sIx xs.length xs.length hi - HT.sIx xs.length 0 lo)
theorem cutV_length (xs : List V) (lo hi : Option Int) : (cutV xs lo hi).length ≤ xs.length := by
  unfold cutV
  rw [List.length_take, List.length_drop]
  omega

end
end L2

namespace L2
open PySem PySem.Spec PyProof.Rows

noncomputable def ixN (n : Nat) (i : Int) : Option Nat := if 0 ≤ i then (if i < n then some i.toNat else none) else if -(n : Int) ≤ i then some (i + n).toNat else none
noncomputable def atI {α : Type} (xs : List α) (i : Int) : Option α := (ixN xs.length i).bind fun j => xs[j]?
theorem ixN_seq {n : Nat} {i : Int} {j : Nat} (h : ixN n i = some j) : seqIndex? i n = some j ∧ j < n ∧ -(n : Int) ≤ i ∧ i < n := by
  unfold ixN at h
  by_cases h0 : 0 ≤ i
  · rw [if_pos h0] at h
    by_cases h1 : i < n
    · rw [if_pos h1] at h
      have e : i.toNat = j := Option.some.inj h
      exact ⟨by rw [seqIndex_of h0 h1, e], by omega, by omega, h1⟩
    · rw [if_neg h1] at h; cases h
  · rw [if_neg h0] at h
    by_cases h1 : -(n : Int) ≤ i
    · rw [if_pos h1] at h
      have e : (i + n).toNat = j := Option.some.inj h
      exact ⟨by rw [seqIndex_neg (by omega) h1, e], by omega, h1, by omega⟩
    · rw [if_neg h1] at h; cases h
theorem atI_get {α : Type} {xs : List α} {i : Int} {v : α} (h : atI xs i = some v) : ∃ j, seqIndex? i xs.length = some j ∧ xs[j]? = some v ∧ j < xs.length ∧ -(xs.length : Int) ≤ i ∧ i < xs.length := by
  unfold atI at h
  cases e : ixN xs.length i with
  | none => rw [e] at h; cases h
  | some j =>
    rw [e] at h
    obtain ⟨h1, h2, h3, h4⟩ := ixN_seq e
    exact ⟨j, h1, h, h2, h3, h4⟩
theorem atI_nat {α : Type} {xs : List α} {j : Nat} {v : α} (h : xs[j]? = some v) : atI xs (j : Int) = some v := by
  have hj : j < xs.length := (List.getElem?_eq_some_iff.mp h).1
  have e : ixN xs.length (j : Int) = some j := by
    unfold ixN
    rw [if_pos (by omega), if_pos (by omega)]; simp
  unfold atI; rw [e]; exact h
theorem atI_last {α : Type} (xs : List α) (v : α) : atI (xs ++ [v]) (-1) = some v := by
  have hl : (xs ++ [v]).length = xs.length + 1 := by simp
  have e : ixN (xs ++ [v]).length (-1) = some xs.length := by
    unfold ixN
    rw [hl, if_neg (by decide), if_pos (by omega)]
    congr 1
    omega
  unfold atI
  rw [e]
  show (xs ++ [v])[xs.length]? = some v
  simp

noncomputable def PlainIx (b : Expr) : Prop := ∀ o i, subscripted b false o i = operate [o, i] (getItem o i)

noncomputable def IxR (X : Cx) (r : R2) : Prop :=
  ∀ (value slice : Expr) (pins : List (Addr × Obj)) (s : Shared) (σ : St) (H : Hp) (x y : V) (v u : Value) (Q : VK), Inv X pins σ H s → RelV x v → RelV y u → r x y H Q →
    subscripted slice false v u = operate [v, u] (getItem v u) → wpAny (model X.prog X.w) X.A (subscriptTail value slice v u) (EP X pins σ Q) X.xe s

noncomputable def MtR (X : Cx) (id : String) (r : V → List V → Hp → VK → Prop) : Prop :=
  ∀ (pins : List (Addr × Obj)) (s : Shared) (σ : St) (H : Hp) (x : V) (xs : List V) (v : Value) (us : List Value) (Q : VK), Inv X pins σ H s → RelV x v → Vals xs us → r x xs H Q →
    wpAny (model X.prog X.w) X.A (call (.builtin id) (v :: us)) (EP X pins σ Q) X.xe s
section
variable {X : Cx} {a b : Expr} {ta tb : TE} {pos : Pos}

theorem pe_ix {r : R2} (hr : IxR X r) (ha : PE X a ta) (hb : PE X b tb) (hs : PlainIx b) : PE X (.Subscript a b pos) (tOp r ta tb) := by
  intro pins s σ H Q I h
  exact Subscript_ (binT ha hb I h fun v u s2 x y H2 I2 rx ry q => hr a b pins s2 σ H2 x y v u Q I2 rx ry q (hs _ _))

inductive XIxL (K : PySem.W.Frag) (x y : V) (H : Hp) (Q : VK) : Prop
  | mk (p : Addr) (xs : List V) (i : Int) (v : V) (e : x = .ref p) (e2 : y = .int i) (s : SqL K H p xs) (a : atI xs i = some v) (q : Q v H) : XIxL K x y H Q
noncomputable def rIxL (K : PySem.W.Frag) : R2 := fun x y H Q => XIxL K x y H Q
inductive XIxT (K : PySem.W.Frag) (x y : V) (H : Hp) (Q : VK) : Prop
  | mk (p : Addr) (xs : List V) (i : Int) (v : V) (e : x = .ref p) (e2 : y = .int i) (s : SqT K H p xs) (a : atI xs i = some v) (q : Q v H) : XIxT K x y H Q
noncomputable def rIxT (K : PySem.W.Frag) : R2 := fun x y H Q => XIxT K x y H Q
theorem ix_list : IxR X (rIxL X.K) := by
  intro value slice pins s σ H x y v u Q I rx ry h hs
  obtain ⟨p, xs, i, z, rfl, rfl, hq, he, q⟩ := h
  cases rx
  obtain ⟨t, rfl⟩ := ry
  obtain ⟨its, r, pl, hz⟩ := I.list hq
  obtain ⟨j, h1, h2, h3, h4, h5⟩ := atI_get he
  obtain ⟨w, ew, rw'⟩ := r.get h2
  have hl := r.length
  have hn := line63
  have fin : EP X pins σ Q w s := ⟨z, H, I, rw', q⟩
  by_cases h0 : 0 ≤ i
  · have hj : i.toNat = j := by
      rw [seqIndex_of h0 h5] at h1
      exact Option.some.inj h1
    exact item_listR pl.isList h0 (by omega) (by rw [hj]; simpa using ew) fin hs
  · have hj : (i + (its.toArray.size : Int)).toNat = j := by
      rw [seqIndex_neg (by omega) h4] at h1
      rw [List.size_toArray, ← hl]
      exact Option.some.inj h1
    exact subscriptTail_builtinR (x := w) pl.isList.typeIs slot_list_getitem.lookup
      (wpAny_getItem_list_neg (Q := fun r s' => r = w ∧ EP X pins σ Q r s') pl.isList (by omega) (by rw [List.size_toArray] <;> omega) (by omega) (by rw [hj]; simpa using ew) ⟨rfl, fin⟩) hs
theorem ix_tup : IxR X (rIxT X.K) := by
  intro value slice pins s σ H x y v u Q I rx ry h hs
  obtain ⟨p, xs, i, z, rfl, rfl, hq, he, q⟩ := h
  cases rx
  obtain ⟨t, rfl⟩ := ry
  obtain ⟨its, r, pl, hz⟩ := I.tuple hq
  obtain ⟨j, h1, h2, h3, h4, h5⟩ := atI_get he
  obtain ⟨w, ew, rw'⟩ := r.get h2
  have hl := r.length
  have hn := line63
  have fin : EP X pins σ Q w s := ⟨z, H, I, rw', q⟩
  exact subscriptTail_builtinR (x := w) pl.typeIs slot_tuple_getitem.lookup
    (getItem_tuple (j := j) (Q := fun r s' => r = w ∧ EP X pins σ Q r s') pl (by omega) (by omega) (by rw [List.size_toArray, ← hl]; exact h1) (by simpa using ew) ⟨rfl, fin⟩) hs

theorem mapSeq_set (its : List Value) (n j : Nat) (u : Value) : Obj.mapSeq (·.setIfInBounds j u) { cls := .type "list", data := .seq its.toArray n } = { cls := .type "list", data := .seq (its.set j u).toArray n } := by
  simp [Obj.mapSeq]
theorem Inv.lst {pins : List (Addr × Obj)} {σ : St} {H : Hp} {s : Shared} {p : Addr} {xs : List V} (I : Inv X pins σ H s) (h : H p = some (.lst xs)) :
    ∃ (its : List Value) (n : Nat), Vals xs its ∧ s.heap.get? p = some { cls := .type "list", data := .seq its.toArray n } ∧ xs.length ≤ sizeLine := by
  obtain ⟨z, its, n, r, e⟩ := I.hok p _ h
  exact ⟨its, n, r, e, z⟩

theorem Inv.lstUpd {pins : List (Addr × Obj)} {σ : St} {H : Hp} {s : Shared} {p : Addr} {xs ys : List V} {its its' : List Value} {n n' : Nat} {f : Obj → Obj} (I : Inv X pins σ H s) (h : H p = some (.lst xs))
    (ho : s.heap.get? p = some { cls := .type "list", data := .seq its.toArray n }) (hf : f { cls := .type "list", data := .seq its.toArray n } = { cls := .type "list", data := .seq its'.toArray n' }) (r : Vals ys its') (hz : ys.length ≤ sizeLine) (t : Nat) :
    Inv X pins σ (upd H p (.lst ys)) { s with heap := s.heap.update p f, toks := t } := by
  have e : (s.heap.update p f).get? p = some { cls := .type "list", data := .seq its'.toArray n' } := by
    rw [Heap.get?_update_self f ho (by rw [hf] <;> rfl), hf]
  refine I.write (x := p) (e := p) (by rw [h]; trivial) (.inl rfl) (fun b u hb q => (Heap.get?_update_other _ _ (Ne.symm hb)).trans q) ⟨_, e⟩ ?_
  exact ⟨hz, its', n', r, e⟩
inductive XSetL (o i v : V) (H : Hp) (Q : Hp → Prop) : Prop
  | mk (p : Addr) (xs : List V) (k : Int) (j : Nat) (e : o = .ref p) (e2 : i = .int k) (a : H p = some (.lst xs)) (b : ixN xs.length k = some j) (q : Q (upd H p (.lst (xs.set j v)))) : XSetL o i v H Q
noncomputable def rSetL : V → V → V → Hp → (Hp → Prop) → Prop := fun o i v H Q => XSetL o i v H Q
theorem set_list : PSet X rSetL := by
  intro pins s σ H o i v ov iv u Q I ro ri rv h
  obtain ⟨p, xs, k, j, rfl, rfl, hp, hj, q⟩ := h
  cases ro
  obtain ⟨t, rfl⟩ := ri
  obtain ⟨its, n, r, ho, hz⟩ := I.lst hp
  obtain ⟨h1, h2, h3, h4⟩ := ixN_seq hj
  have hl := r.length
  have hn := line63
  have I' : Inv X pins σ (upd H p (.lst (xs.set j v))) { s with heap := s.heap.update p (Obj.mapSeq (·.setIfInBounds j u)) } :=
    I.lstUpd hp ho (mapSeq_set its n j u) (r.set rv j) (by rw [List.length_set]; exact hz) s.toks
  by_cases h0 : 0 ≤ k
  · have hk : k.toNat = j := by
      rw [seqIndex_of h0 h4] at h1
      exact Option.some.inj h1
    exact PySem.W.ki_setAt ho h0 (by omega) (by rw [List.size_toArray, ← hl]; exact h4) (by rw [hk]; exact ⟨_, I', q⟩)
  · have hk : (k + (its.toArray.size : Int)).toNat = j := by
      rw [seqIndex_neg (by omega) h3] at h1
      rw [List.size_toArray, ← hl]
      exact Option.some.inj h1
    exact PySem.W.ki_setBack ho (by omega) (by rw [List.size_toArray, ← hl]; exact h3) (by omega) (by rw [hk]; exact ⟨_, I', q⟩)

theorem slice_bounds (lo hi : Option Int) (n : Nat) : (sliceBounds lo hi none n).1 = ((HT.sIx n 0 lo : Nat) : Int) ∧ (sliceBounds lo hi none n).2.1 = ((HT.sIx n n hi : Nat) : Int) ∧ (sliceBounds lo hi none n).2.2 = 1 := by
  refine ⟨?_, ?_, rfl⟩
  · cases lo with
    | none => simp [sliceBounds, HT.sIx]
    | some i =>
      simp only [sliceBounds, HT.sIx, Option.getD_none, show (1 : Int) > 0 by decide, if_true]
      by_cases h : i < 0
      · simp only [h, if_true] <;> omega
      · simp only [h, if_false] <;> omega
  · cases hi with
    | none => simp [sliceBounds, HT.sIx]
    | some i =>
      simp only [sliceBounds, HT.sIx, Option.getD_none, show (1 : Int) > 0 by decide, if_true]
      by_cases h : i < 0
      · simp only [h, if_true] <;> omega
      · simp only [h, if_false] <;> omega
theorem slicePick_cut (its : List Value) (lo hi : Option Int) : slicePick its.toArray lo hi none = ((its.drop (HT.sIx its.length 0 lo)).take (HT.sIx its.length its.length hi - HT.sIx its.length 0 lo)).toArray := by
  obtain ⟨h1, h2, h3⟩ := slice_bounds lo hi its.toArray.size
  unfold slicePick
  rw [h1, h2, h3]
  simp only [sliceRange_one, pick_run, List.size_toArray] <;> rfl

inductive XSlL (K : PySem.W.Frag) (x : V) (lo hi : Option Int) (H : Hp) (Q : VK) : Prop
  | mk (a : Addr) (xs : List V) (e : x = .ref a) (s : SqL K H a xs) (q : ∀ p, H p = none → Q (.ref p) (upd H p (.lst (cutV xs lo hi)))) : XSlL K x lo hi H Q
noncomputable def rSlL (K : PySem.W.Frag) : V → Option Int → Option Int → Hp → VK → Prop := fun x lo hi H Q => XSlL K x lo hi H Q
theorem sl_list : SlR X (rSlL X.K) := by
  intro pins s σ H x v vl vu lo hi sl Q I rx hs pl pu h
  obtain ⟨a, xs, rfl, hx, q⟩ := h
  cases rx
  obtain ⟨its, r, ht, hz⟩ := I.list hx
  have hlen := r.length
  refine ⟨"list", _, slot_list_getitem.lookup, ht.isList.typeIs, ?_⟩
  refine wpAny_getItem_list_slice ht.isList hs pl pu .none (by simp) ?_ (by rw [List.size_toArray] <;> omega)
  rw [slicePick_cut, ← hlen]
  refine ⟨.ref s.heap.objs.size, _, I.laid (t' := s.toks) (o := .lst (cutV xs lo hi)) (fun b ob q => Heap.get?_push_of_some _ q) (Nat.le_refl _) ?_, rfl, q _ (I.hok.fresh (Nat.le_refl _))⟩
  exact ⟨Nat.le_trans (cutV_length xs lo hi) hz, _, 0, (r.drop (HT.sIx xs.length 0 lo)).take (HT.sIx xs.length xs.length hi - HT.sIx xs.length 0 lo), Heap.get?_push_size _ rfl⟩

inductive XLen (K : PySem.W.Frag) (xs : List V) (H : Hp) (Q : VK) : Prop
  | mk (p : Addr) (ys : List V) (e : xs = [.ref p]) (s : SqL K H p ys ∨ SqT K H p ys) (q : Q (.int ys.length) H) : XLen K xs H Q
theorem call_len_seq : CallR X (.builtin "len") (fun xs H Q => XLen X.K xs H Q) := by
  intro pins s σ H xs us Q I r h
  obtain ⟨p, ys, rfl, hq, q⟩ := h
  obtain ⟨u, rfl, rx⟩ := vals1 r
  cases rx
  have hn := line63
  rcases hq with hq | hq
  · obtain ⟨its, r', pl, hz⟩ := I.list hq
    have hlen := r'.length
    exact Calls.call_len_list pl.isList (by simp only [List.size_toArray] <;> omega) ⟨.int ys.length, H, I.tok _, ⟨s.toks + 1, by rw [List.size_toArray, hlen]⟩, q⟩
  · obtain ⟨its, r', pl, hz⟩ := I.tuple hq
    have hlen := r'.length
    exact len_tuple pl (by simp only [List.size_toArray] <;> omega) ⟨.int ys.length, H, I.tok _, ⟨s.toks + 1, by rw [List.size_toArray, hlen]⟩, q⟩
inductive XLst (K : PySem.W.Frag) (xs : List V) (H : Hp) (Q : VK) : Prop
  | mk (p : Addr) (ys : List V) (e : xs = [.ref p]) (s : SqL K H p ys ∨ SqT K H p ys) (q : ∀ l, H l = none → Q (.ref l) (upd H l (.lst ys))) : XLst K xs H Q
theorem call_list_of : CallR X (.type "list") (fun xs H Q => XLst X.K xs H Q) := by
  intro pins s σ H xs us Q I r h
  obtain ⟨p, ys, rfl, hq, q⟩ := h
  obtain ⟨u, rfl, rx⟩ := vals1 r
  cases rx
  have fin : ∀ (its : List Value), Vals ys its → ys.length ≤ sizeLine → ∀ (h' : Heap) (c' : Nat), (∀ b o', s.heap.get? b = some o' → h'.get? b = some o') →
      h'.get? s.heap.objs.size = some { cls := .type "list", dict := none, data := .seq its.toArray c', slots := #[] } → EP X pins σ Q (.ref s.heap.objs.size) { s with heap := h' } := fun its r' hz h' c' kp e =>
    ⟨.ref s.heap.objs.size, _, I.laid (t' := s.toks) kp (Nat.le_refl _) (show ObjOk X.prog X.w _ h' _ (.lst ys) from ⟨hz, its, c', r', e⟩), rfl, q _ (I.hok.fresh (Nat.le_refl _))⟩
  rcases hq with hq | hq
  · obtain ⟨its, r', pl, hz⟩ := I.list hq
    have hlen := r'.length
    obtain ⟨o, ho, hc, n, hd⟩ := pl.isList
    exact call_list_seq p (.inl rfl) ho hc hd (fun h' c' kp e => fin its r' hz h' c' kp e) (by simp only [List.size_toArray] <;> omega)
  · obtain ⟨its, r', pl, hz⟩ := I.tuple hq
    have hlen := r'.length
    obtain ⟨o, ho, hc, n, hd⟩ := pl
    exact call_list_seq p (.inr rfl) ho hc hd (fun h' c' kp e => fin its r' hz h' c' kp e) (by simp only [List.size_toArray] <;> omega)

noncomputable def tyV (K : PySem.W.Frag) (T : String) (x : V) (H : Hp) : Prop := match x with
  | .str _ => T = "str"
  | .int _ => T = "int"
  | .ref p => (T = "list" ∧ ∃ xs, SqL K H p xs) ∨ (T = "tuple" ∧ ∃ o, K.lookup p = some o ∧ o.cls = .type "tuple" ∧ o.dict = none) ∨
      (T = "dict" ∧ ((∃ kvs, H p = some (.dK kvs)) ∨ ∃ kvs, H p = some (.dT kvs))) ∨ (T = "set" ∧ ∃ S n, H p = some (.set S n))
  | _ => False
theorem tyV_is {pins : List (Addr × Obj)} {σ : St} {H : Hp} {s : Shared} {T : String} {x : V} {v : Value} (I : Inv X pins σ H s) (r : RelV x v) (ty : tyV X.K T x H) :
    s.TypeIs v T ∧ ∀ a, v = .ref a → ∃ ob, s.heap.get? a = some ob ∧ ob.dict = none := by
  cases x with
  | str z =>
    obtain ⟨t, rfl⟩ := r
    cases (show T = "str" from ty)
    exact ⟨typeIs_str s z t, fun _ e => nomatch e⟩
  | int i =>
    obtain ⟨t, rfl⟩ := r
    cases (show T = "int" from ty)
    exact ⟨typeIs_int s i t, fun _ e => nomatch e⟩
  | ref p =>
    cases r
    rcases ty with ⟨rfl, xs, hq⟩ | ⟨rfl, o, hk, hc, hd⟩ | ⟨rfl, hk⟩ | ⟨rfl, S, n, hk⟩
    · obtain ⟨its, _, pl, _⟩ := I.list hq
      refine ⟨pl.isList.typeIs, fun a e => ?_⟩
      cases e
      obtain ⟨o, n, e, c, hd, _⟩ := pl
      exact ⟨o, e, hd⟩
    · refine ⟨⟨o, I.kIn p o hk, hc⟩, fun a e => ?_⟩
      cases e
      exact ⟨o, I.kIn _ o hk, hd⟩
    · have z : ∃ o, s.heap.get? p = some o ∧ o.ExactDict := by
        rcases hk with ⟨kvs, hk⟩ | ⟨kvs, hk⟩
        · obtain ⟨_, _, _, _, o, _, _, e, ex, _⟩ := I.hok p _ hk
          exact ⟨o, e, ex⟩
        · obtain ⟨_, _, _, _, o, _, _, e, ex, _⟩ := I.hok p _ hk
          exact ⟨o, e, ex⟩
      obtain ⟨o, e, ex⟩ := z
      refine ⟨⟨o, e, ex.1⟩, fun a e2 => ?_⟩
      cases e2
      exact ⟨o, e, ex.2.1⟩
    · obtain ⟨o, _, _, _, e, ex, _⟩ := I.hok p _ hk
      refine ⟨⟨o, e, ex.1⟩, fun a e2 => ?_⟩
      cases e2
      exact ⟨o, e, ex.2.1⟩
  | _ => exact False.elim ty
noncomputable def tBM0 (K : PySem.W.Frag) (T : String) (r : V → List V → Hp → VK → Prop) (to : TE) : TE := fun σ H Q => to σ H fun x H1 => tyV K T x H1 ∧ r x [] H1 Q
noncomputable def tBM (K : PySem.W.Frag) (T : String) (r : V → List V → Hp → VK → Prop) (to : TE) (t : TA) : TE := fun σ H Q => to σ H fun x H1 => tyV K T x H1 ∧ t σ H1 fun xs H2 => r x xs H2 Q
variable {o e : Expr} {es : List Expr} {to : TE} {t : TA} {name : Str} {apos cpos : Pos} {T id : String} {r : V → List V → Hp → VK → Prop}
theorem pe_bm0 (pa : PlainAttrs T) (slot : Slot T name id) (hty : typeOf (.builtin id) = pure (.type "method_descriptor")) (hm : MtR X id r) (ho : PE X o to)
    (hbase : attributeBase o name X.env (eval o X.env) = eval o X.env := by rfl) (hline : (apos.endLine == cpos.line) = true := by rfl) : PE X (.Call (.Attribute o name apos) [] [] cpos) (tBM0 X.K T r to) := by
  intro pins s σ H Q I h
  refine wpAny_Call_method0_late hbase hline (thn (ho pins s σ H _ I h) fun v s1 ⟨x, H1, I1, r1, ty, q1⟩ => ?_)
  obtain ⟨h1, h2⟩ := tyV_is I1 r1 ty
  exact ⟨T, id, pa, slot, hty, h1, h2, Calls.callWith_builtin rfl (PySem.evalArgs_none (hm pins s1 σ H1 x [] v [] Q I1 r1 .nil q1))⟩
theorem pe_bm (pa : PlainAttrs T) (slot : Slot T name id) (hty : typeOf (.builtin id) = pure (.type "method_descriptor")) (hm : MtR X id r) (ho : PE X o to) (ha : PA X (e :: es) t)
    (hbase : attributeBase o name X.env (eval o X.env) = eval o X.env := by rfl)
    (hfew : ((backTo cpos (starEach (e :: es) X.env)).all (fun x => !x.1) && (backToKw cpos (keywordEach [] X.env)).all (fun x => x.1.isSome)
      && decide ((e :: es).length + ([] : List Keyword).length + (if ([] : List Keyword).isEmpty then 0 else 1) < 30)) = true := by rfl)
    (hline : (apos.endLine == cpos.line) = true := by rfl) (hs : starEach (e :: es) X.env = (false, eval e X.env) :: starEach es X.env := by rfl) (hplain : (backTo cpos (starEach es X.env)).any (·.1) = false := by rfl) :
    PE X (.Call (.Attribute o name apos) (e :: es) [] cpos) (tBM X.K T r to t) := by
  intro pins s σ H Q I h
  refine wpAny_Call_method_late hbase hfew hline rfl (thn (ho pins s σ H _ I h) fun v s1 ⟨x, H1, I1, r1, ty, q1⟩ => ?_)
  obtain ⟨h1, h2⟩ := tyV_is I1 r1 ty
  refine ⟨T, id, pa, slot, hty, h1, h2, ?_⟩
  have hA := ha cpos pins s1 σ H1 _ I1 q1
  rw [hs] at hA ⊢
  refine Calls.callWith_builtin (by show (false || (backTo cpos (starEach es X.env)).any (·.1)) = false; rw [hplain] <;> rfl) (Calls.evalArgs_plain ?_)
  exact thn hA fun us s2 ⟨vs, H2, I2, r2, q2⟩ => hm pins s2 σ H2 x vs v us Q I2 r1 r2 q2

end
end L2

namespace L2
open PySem PySem.Spec PyProof.Rows

noncomputable def MtM (X : Cx) (id : String) (r : V → List V → Hp → VK → Prop) : Prop :=
  ∀ (pins : List (Addr × Obj)) (s : Shared) (σ : St) (H : Hp) (x : V) (xs : List V) (v : Value) (us : List Value) (Q : VK), Inv X pins σ H s → RelV x v → Vals xs us → r x xs H Q →
    wpAny (model X.prog X.w) X.A (call (.builtin id) (v :: us)) (EP X pins σ Q) X.xe s

theorem Vals.one : ∀ {x : V} {us : List Value}, Vals [x] us → ∃ u, us = [u] ∧ RelV x u
  | _, _, .cons r .nil => ⟨_, rfl, r⟩
theorem Vals.zero : ∀ {us : List Value}, Vals [] us → us = []
  | _, .nil => rfl
theorem Vals.dropLast {xs : List V} {us : List Value} (h : Vals xs us) : Vals xs.dropLast us.dropLast := by
  induction h with
  | nil => exact .nil
  | cons r t ih =>
    cases t with
    | nil => exact .nil
    | cons q t' => exact .cons r ih
theorem Vals.eraseIdx : ∀ {xs : List V} {us : List Value} (i : Nat), Vals xs us → Vals (xs.eraseIdx i) (us.eraseIdx i)
  | _, _, _, .nil => .nil
  | _, _, 0, .cons _ t => t
  | _, _, i + 1, .cons r t => .cons r (Vals.eraseIdx i t)
theorem Vals.reverse {xs : List V} {us : List Value} (h : Vals xs us) : Vals xs.reverse us.reverse := by
  induction h with
  | nil => exact .nil
  | cons r t ih => rw [List.reverse_cons, List.reverse_cons]; exact Vals.append ih (.cons r .nil)
theorem Vals.rep {xs : List V} {us : List Value} (h : Vals xs us) : ∀ k : Nat, Vals (List.replicate k xs).flatten (List.replicate k us).flatten
  | 0 => .nil
  | k + 1 => by
    rw [List.replicate_succ, List.replicate_succ, List.flatten_cons, List.flatten_cons]
    exact Vals.append h (Vals.rep h k)
theorem erase_last {α : Type} (l : List α) : l.eraseIdx (l.length - 1) = l.dropLast := by
  induction l with
  | nil => rfl
  | cons a r ih =>
    cases r with
    | nil => rfl
    | cons b r =>
      have e : (a :: b :: r).length - 1 = ((b :: r).length - 1) + 1 := by
        have h1 : (a :: b :: r).length = r.length + 2 := rfl
        have h2 : (b :: r).length = r.length + 1 := rfl
        omega
      rw [e, List.eraseIdx_cons_succ, ih]
      all_goals rfl
theorem foldl_rep (its : List Value) : ∀ (k : Nat) (acc : List Value),
    List.foldl (fun x1 x2 => x1 ++ x2) acc.toArray (List.replicate k its.toArray) = (acc ++ (List.replicate k its).flatten).toArray
  | 0, acc => by simp
  | k + 1, acc => by
    have e : acc.toArray ++ its.toArray = (acc ++ its).toArray := by simp
    have e2 : (acc ++ its) ++ (List.replicate k its).flatten = acc ++ (List.replicate (k + 1) its).flatten := by
      rw [List.replicate_succ, List.flatten_cons, List.append_assoc]
    rw [← e2, ← foldl_rep its k (acc ++ its), ← e, List.replicate_succ, List.foldl_cons]

section
variable {X : Cx} {pins : List (Addr × Obj)} {σ : St} {H : Hp} {s : Shared} {l b : Addr} {xs ys zs : List V}

theorem Inv.lset {its its' : List Value} {n : Nat} {f : Array Value → Array Value} {t' : Nat} (I : Inv X pins σ H s) (hH : H l = some (.lst xs))
    (e : s.heap.get? l = some { cls := .type "list", data := .seq its.toArray n }) (hf : f its.toArray = its'.toArray) (hv : Vals ys its') (hz : ys.length ≤ sizeLine) :
    Inv X pins σ (upd H l (.lst ys)) { s with heap := s.heap.update l (Obj.mapSeq f), toks := t' } := by
  have q := PySem.IsL.update e f
  rw [hf] at q
  refine I.write (x := l) (e := l) (by rw [hH]; exact trivial) (.inl rfl) (fun b' u hb hu => (Heap.get?_update_other s.heap (Obj.mapSeq f) (Ne.symm hb)).trans hu) ⟨_, q⟩ ?_
  exact ⟨hz, its', _, hv, q⟩
theorem Inv.lnew {its : List Value} {t' : Nat} (I : Inv X pins σ H s) (hv : Vals ys its) (hz : ys.length ≤ sizeLine) :
    Inv X pins σ (upd H s.heap.objs.size (.lst ys)) { s with heap := s.heap.push { cls := .type "list", data := .seq its.toArray }, toks := t' } :=
  I.laid (fun _ _ q => Heap.get?_push_of_some _ q) (Nat.le_refl _) ⟨hz, its, 0, hv, Heap.get?_push_size _ rfl⟩
theorem Inv.fresh (I : Inv X pins σ H s) : H s.heap.objs.size = none := I.hok.fresh (Nat.le_refl _)
theorem Inv.lstM (I : Inv X pins σ H s) (hH : H l = some (.lst xs)) : xs.length ≤ sizeLine ∧ ∃ (its : List Value) (n : Nat), Vals xs its ∧ xs.length = its.length ∧ s.heap.get? l = some { cls := .type "list", data := .seq its.toArray n } := by
  obtain ⟨z, its, n, r, e⟩ := I.hok l _ hH
  exact ⟨z, its, n, r, r.length, e⟩

theorem notLongL {n : Nat} (h : n ≤ sizeLine) : Builtin.List.listTooLong n = false := by
  unfold Builtin.List.listTooLong
  exact decide_eq_false (by omega)
end

section
variable {X : Cx}

inductive XApp (x : V) (vs : List V) (H : Hp) (Q : VK) : Prop
  | mk (l : Addr) (xs : List V) (y : V) (e : x = .ref l) (e2 : vs = [y]) (a : H l = some (.lst xs)) (b : xs.length < sizeLine) (q : Q .non (upd H l (.lst (xs ++ [y])))) : XApp x vs H Q
noncomputable def rAppend : V → List V → Hp → VK → Prop := fun x vs H Q => XApp x vs H Q
theorem mt_append : MtM X "list.append" rAppend := by
  intro pins s σ H x vs v us Q I rx rv h
  obtain ⟨l, xs, y, rfl, rfl, hH, hz, q⟩ := h
  cases rx
  obtain ⟨u, rfl, ru⟩ := rv.one
  obtain ⟨z, its, n, r, hl, e⟩ := I.lstM hH
  refine call_meets F.slot_list_append ⟨_, e, rfl⟩ F.entry_list_append (F.args_list_append_2 _ _) (PySem.list_append l its.toArray n u (by rw [List.size_toArray]; omega)) ⟨e, ?_⟩
  refine ⟨.non, _, I.lset (its' := its ++ [u]) hH e (by simp) (r.append (.cons ru .nil)) ?_, rfl, q⟩
  rw [List.length_append, List.length_singleton]
  omega

inductive XPop (x : V) (vs : List V) (H : Hp) (Q : VK) : Prop
  | mk (l : Addr) (xs : List V) (y : V) (e : x = .ref l) (e2 : vs = []) (a : H l = some (.lst xs)) (b : xs[xs.length - 1]? = some y) (q : Q y (upd H l (.lst xs.dropLast))) : XPop x vs H Q
noncomputable def rPop : V → List V → Hp → VK → Prop := fun x vs H Q => XPop x vs H Q
theorem mt_pop : MtM X "list.pop" rPop := by
  intro pins s σ H x vs v us Q I rx rv h
  obtain ⟨l, xs, y, rfl, rfl, hH, hy, q⟩ := h
  cases rx
  have hus := rv.zero
  subst hus
  obtain ⟨z, its, n, r, hl, e⟩ := I.lstM hH
  obtain ⟨u, hu, ru⟩ := r.get hy
  have hy' : its.toArray[its.toArray.size - 1]? = some u := by
    show its.toArray[its.length - 1]? = some u
    rw [← Array.getElem?_toList, ← hl]
    exact hu
  refine call_meets F.slot_list_pop ⟨_, e, rfl⟩ F.entry_list_pop (F.args_list_pop_1 _) (MeetsSeq.list_pop_last l its.toArray n u hy' (by rw [List.size_toArray]; omega)) ⟨e, ?_⟩
  refine ⟨y, _, I.lset (its' := its.dropLast) hH e ?_ r.dropLast ?_, ru, q⟩
  · show its.toArray.eraseIdxIfInBounds (its.toArray.size - 1) = its.dropLast.toArray
    rw [List.size_toArray, List.eraseIdxIfInBounds_toArray, erase_last]
  · rw [List.length_dropLast]
    omega

noncomputable def rRep : R2 := fun x y H Q => ∃ l k xs, x = .ref l ∧ y = .int k ∧ H l = some (.lst xs) ∧ -(2 ^ 63) ≤ k ∧ k < 2 ^ 63 ∧ xs.length * k.toNat ≤ sizeLine ∧
  ∀ p, H p = none → Q (.ref p) (upd H p (.lst (List.replicate k.toNat xs).flatten))
theorem len_rep {α : Type} (xs : List α) (k : Nat) : (List.replicate k xs).flatten.length = k * xs.length := by
  induction k with
  | zero => simp
  | succ k ih => rw [List.replicate_succ, List.flatten_cons, List.length_append, ih, Nat.succ_mul, Nat.add_comm]
theorem op_rep : OpR X (binaryOp .Mult) rRep := by
  intro pins s σ H x y v u Q I rx ry h
  obtain ⟨l, k, xs, rfl, rfl, hH, h1, h2, hz, q⟩ := h
  cases rx
  obtain ⟨t, rfl⟩ := ry
  obtain ⟨z, its, n, r, hl, e⟩ := I.lstM hH
  have hlen : its.toArray.size * k.toNat ≤ sizeLine := by rw [List.size_toArray, ← hl]; exact hz
  have hcap : ¬ its.toArray.size * k.toNat > (2 ^ 63 - 1) / 8 := by
    have : (sizeLine : Nat) ≤ (2 ^ 63 - 1) / 8 := by decide
    omega
  have hfit : ¬ (!Builtin.List.listFitsIndex k) = true := by
    rw [fitsIndex_both h1 h2]
    exact Bool.false_ne_true
  have hlong : ¬ Builtin.List.listTooLong (its.toArray.size * k.toNat) = true := by
    rw [notLongL hlen]
    exact Bool.false_ne_true
  have hnew : List.foldl (fun x1 x2 => x1 ++ x2) #[] (List.replicate (if its.toArray.isEmpty = true then 0 else k.toNat) its.toArray) = (List.replicate k.toNat its).flatten.toArray := by
    have f0 : ∀ m : Nat, List.foldl (fun x1 x2 => x1 ++ x2) #[] (List.replicate m its.toArray) = (List.replicate m its).flatten.toArray := fun m => by
      have := foldl_rep its m []
      rw [List.nil_append] at this
      exact this
    rw [f0]
    cases its with
    | nil => simp
    | cons a r' => rw [if_neg (by simp)]
  refine wpAny_binaryOp_repeat_ref (T := "list") (U := "int") (by decide) ⟨_, e, rfl⟩ (fun s' => typeIs_int s' k t) noFill_list_mul F.fills_int_mul F.slot_int_rmul repeat_list F.slot_int_index.lookup
    (call_meets F.slot_int_rmul (typeIs_int s k t) F.entry_int_rmul (F.args_int_rmul_2 _ _) (int___rmul___int_list k t l its.toArray n)
      ⟨e, rfl, ⟨_, e, rfl⟩, call_meets F.slot_list_mul ⟨_, e, rfl⟩ F.entry_list_mul (F.args_list_mul_2 _ _) (AutoListH.list___mul___list_int_3 l its.toArray n k t hfit hcap hlong) ⟨e, ?_⟩⟩)
  rw [hnew]
  exact ⟨.ref _, _, I.lnew (t' := s.toks) (r.rep k.toNat) (by rw [len_rep, Nat.mul_comm]; exact hz), rfl, q _ I.fresh⟩

end

section
variable {prog : Program} {w : World} {A : Around} {E : Value → Shared → Prop} {s : Shared}
set_option maxRecDepth 100000 in
end

section
variable {X : Cx}
end
end L2

namespace Att
open PySem PySem.W PySem.Calls PyProof.Rows

theorem ints_of_wellAll {P : Params} {h : Heap} : ∀ (ns : List Int) (vs : List Value), WellAll P h vs (ns.map WData.int) → IntsAre vs ns := by
  intro ns
  induction ns with
  | nil =>
    intro vs w
    rw [List.map_nil] at w
    cases w
    exact .nil
  | cons n ns ih =>
    intro vs w
    rw [List.map_cons] at w
    cases w with
    | cons a b =>
      cases a
      exact .cons _ _ (ih _ b)

theorem script_of {l : OpenLaw} {n : Nat} (hn : l.most = some n) {P : Params} {h : Heap} {args : List WData} {vals : List Value}
    (hpre : l.row.toRowW.claim.pre args = true) (hwl : WellAll P h vals args) :
    ∃ a vs ns, vals = [Value.ref a] ∧ args = [WData.list (ns.map WData.int)] ∧ h.get? a = some { cls := .type "list", data := .seq vs.toArray } ∧ IntsAre vs ns ∧ ns.length ≤ n := by
  have hsh : WShape.hasAll [] args [.list .int] = true := (pre_splitW hpre).1
  have hc : l.pre.holds [] { args := args } = true := (pre_splitW hpre).2
  obtain ⟨d, r, rfl, h1, h2⟩ := hasAllW_cons hsh
  obtain rfl := hasAllW_nil h2
  obtain ⟨xs, rfl, h3⟩ := hasW_list h1
  obtain ⟨ns, rfl⟩ := items_int h3
  have hlen : ns.length ≤ n := by
    unfold OpenLaw.pre at hc
    have h4 : (WTm.not (.lt (.lit (.int (n : Int))) (.len (.arg 0)))).holds [] { args := [.list (ns.map .int)] } = true := by
      have h4 := (holds_andW hc).1
      rw [hn] at h4
      exact h4
    have h5 := condW_of h4 (w_not (w_lt w_lit (w_len_list (w_arg rfl))))
    rw [List.length_map] at h5
    refine Nat.le_of_not_lt fun q => ?_
    have q' : (n : Int) < ((ns.length : Nat) : Int) := by omega
    first
      | (rw [decide_eq_true q'] at h5; exact absurd h5 (by decide))
      | (simp at h5; omega)
  cases hwl with
  | cons w1 w2 =>
    cases w2
    cases w1 with
    | list ho hall => exact ⟨_, _, ns, rfl, rfl, ho, ints_of_wellAll ns _ hall, hlen⟩

theorem post_true (l : OpenLaw) (args : List WData) : l.row.toRowW.claim.post args (.bool true) args = true :=
  postW_of (r := l.row.toRowW) (X := (true == true))
    (show WShape.has [] (.bool true) .bool = true by first | rfl | decide | simp [WShape.has, WShape.arms, WShape.armsAll])
    (show (WTm.eq .res (.lit (.bool true))).value [] { args := args, res := some (.bool true), after := args } = some (.bool (true == true)) from w_eq_bool (w_res rfl) w_lit) rfl

theorem attach_call {l : OpenLaw} {n : Nat} {q : Program} {loose : List Str} {XP : (Str → Option Value) → Heap → Prop} {YP : World → Heap → Prop} {d : DefRec}
    (hn : l.most = some n) (hdf : d.params.defaults = [])
    (call : ∀ (w : World) (s₀ s₁ : Shared) (mg mb : Str → Option Value) (fa : Addr) (o : Obj) (pm cd doc : Value) (a : Addr) (vs : List Value) (ns : List Int),
      Ground q loose [] XP w s₀ mg mb s₁.heap → YP w s₁.heap →
      s₁.heap.get? fa = some o → o.data = .func (docDef d.name d.params d.body d.scope pm cd doc) → s₁.heap.CodeRec cd d.name → mg d.name = some (.ref fa) →
      s₁.heap.get? a = some { cls := .type "list", data := .seq vs.toArray } → IntsAre vs ns → ns.length ≤ n → s₁.gens = #[] →
      codeAny (model l.prog w) callerA (.call (.ref fa) ⟨[.ref a], []⟩) (fun r s' => r = .ok (.ret (.bool true)) ∧ OldK s₁.heap s'.heap ∧ s'.os = s₁.os ∧ AllBare s'.gens) s₁) :
    WalkO q loose XP YP l.row.toRowW d [] (fun f vs => PySem.call f vs) := by
  intro w s₀ s₁ mg mb G Y fa o pm cd doc dV kV ho hd hcd hD hmg hg args vals as hpre hlay hrd hwl hlo
  obtain rfl : dV = .none := Dflts.none hD hdf
  obtain rfl : kV = .none := Dflts.noKw hD
  obtain ⟨a, vs, ns, rfl, rfl, hobj, hints, hlen⟩ := script_of hn hpre hwl
  refine enter_call (codeAny_mono (call w s₀ s₁ mg mb fa o pm cd doc a vs ns G Y ho (fd_plain hd) hcd hmg hobj hints hlen hg) fun r s' hq => ?_)
  obtain ⟨rfl, h2, h3, h4⟩ := hq
  exact ⟨.inl ⟨.bool true, .bool true, [], rfl, fun _ => rfl, .bool true, post_true l _, fun _ => ⟨List.Pairwise.nil, fun _ hm => (nomatch hm)⟩⟩, h2, h3, h4⟩

section
variable {prog : Program} {w : World} {A : Around} {E : Value → Shared → Prop} {s : Shared} {K : Frag}

end
end Att

namespace L2
open PySem PySem.Spec PyProof.Rows

theorem vals_ints : ∀ {vs : List Value} {ns : List Int}, IntsAre vs ns → Vals (ns.map V.int) vs
  | _, _, .nil => .nil
  | _, _, .cons n t h => .cons ⟨t, rfl⟩ (vals_ints h)

noncomputable def Only (H : Hp) : Prop := ∀ b, H b = none ∨ ∃ o xs, H b = some (.frz o (.lst xs))

end L2

namespace L2
open PySem PySem.Spec PyProof.Rows

end L2

namespace L2
open PySem PySem.Spec PyProof.Rows

noncomputable def defArgs (s : Stmt) : Arguments := match s with
  | .FunctionDef _ a _ _ _ _ _ _ _ _ => a
  | _ => { posonlyargs := [], args := [], vararg := none, kwonlyargs := [], kw_defaults := [], kwarg := none, defaults := [] }
noncomputable def defBody (s : Stmt) : List Stmt := match s with
  | .FunctionDef _ _ b _ _ _ _ _ _ _ => b
  | _ => []
noncomputable def defScope (s : Stmt) : Scope := match s with
  | .FunctionDef _ _ _ _ _ _ sc _ _ _ => sc
  | _ => { kind := .function, names := [], isGenerator := false, isCoroutine := false }

noncomputable abbrev CX0 : CXT := fun _ _ _ _ _ _ => False
noncomputable abbrev E0 : XK := fun _ _ _ => False
theorem pass0 {X : Cx} : Passes CX0 X E0 := fun _ _ _ _ _ _ _ h => h.elim

structure Fun (K : PySem.W.Frag) (x qual : Str) (st : Stmt) (f : Addr) (fd : FuncData) : Prop where
  ex : ∃ (oc : Value) (od : Option Addr) (kV doc pm : Value) (an : Option Addr) (cdv ct : Value) (osl : Array (Option Value)),
    fd = PySem.W.fnOf x qual (defArgs st) (defBody st) (defScope st) .none kV doc pm an cdv ct ∧ K.lookup f = some ⟨oc, od, .func fd, osl⟩ ∧ PySem.W.codeIn K cdv qual = true
  kp : PySem.W.keepIn K (.ref f) = true
section
variable {P : Program} {w : World} {K : PySem.W.Frag} {mg : Str → Option Value} {base : Heap}

theorem Fun.ok {x qual : Str} {st : Stmt} {f : Addr} {fd : FuncData} {N ps : List Str} {k : Nat} {sp : Sp} (F : Fun K x qual st f fd) (S : FnScope N ps (defScope st)) (len : ∀ vs H Q E, sp vs H Q E → vs.length = ps.length)
    (hbody : ∀ (cdv : Value) (A : Around) (outer : List Env) (s : Shared) (H : Hp) (vs : List V) (Q : VK) (E : XK), Room k (A.deeper (envOfC qual (defScope st) s.heap.objs.size f cdv)) → sp vs H Q E →
      ∃ t, PSs (cxOf CX0 P w K mg base N qual (defScope st) f cdv A outer s H E).nox (defBody st) t ∧ t { nx := fun _ H' => Q .non H', rt := Q } (start N vs) H) : FnOk P w K mg base CX0 (k + 1) f fd ps sp := by
  obtain ⟨oc, od, kV, doc, pm, an, cdv, ct, osl, rfl, lk, hcd⟩ := F.ex
  refine fn_of lk hcd S len fun A outer s H vs Q E hr hsp => ?_
  obtain ⟨t, h, q⟩ := hbody cdv A outer s H vs Q E hr hsp
  exact ⟨t, h.nox, q⟩

theorem Fun.binds {x qual : Str} {st : Stmt} {f : Addr} {fd : FuncData} {ps : List Str} (F : Fun K x qual st f fd)
    (h : ∀ (kV doc pm : Value) (an : Option Addr) (cdv ct : Value) (us : List Value), us.length = ps.length → bindArgs (PySem.W.fnOf x qual (defArgs st) (defBody st) (defScope st) .none kV doc pm an cdv ct) ⟨us, []⟩ = pure (ps.zip us)) : Binds K fd ps [] := by
  obtain ⟨oc, od, kV, doc, pm, an, cdv, ct, osl, rfl, lk, hcd⟩ := F.ex
  exact .all (h kV doc pm an cdv ct)
theorem fun_mk {x qual : Str} {st : Stmt} {f : Addr} {oc : Value} {od an : Option Addr} {osl : Array (Option Value)} {kV doc pm cdv ct : Value} (l : K.lookup f = some ⟨oc, od, .func (PySem.W.fnOf x qual (defArgs st) (defBody st) (defScope st) .none kV doc pm an cdv ct), osl⟩)
    (c : PySem.W.codeIn K cdv qual = true) (k : PySem.W.keepIn K (.ref f) = true) : Fun K x qual st f (PySem.W.fnOf x qual (defArgs st) (defBody st) (defScope st) .none kV doc pm an cdv ct) := ⟨⟨oc, od, kV, doc, pm, an, cdv, ct, osl, rfl, l, c⟩, k⟩
end
theorem small1000 {n : Nat} (h : n ≤ 1000) : n < sizeLine := Nat.lt_of_le_of_lt h (by decide)

section
variable {X : Cx}
theorem pv (i : Nat) {x : Str} {pos : Pos} (hN : X.N[i]? = some x := by rfl) (hv : Vis X.env.scope x := by first | exact Or.inl rfl | exact Or.inr (Or.inl rfl) | exact Or.inr (Or.inr rfl)) (hd : (x == ("__debug__" : Str)) = false := by decide)
    (hcd : (x == ("__classdict__" : Str)) = false := by decide) : PE X (.Name x pos) (tVar i) := pe_var hN hv hd hcd
end

theorem iteF {A B : Prop} (h : B) : if false = true then A else B := by
  rw [if_neg Bool.false_ne_true]
  exact h
theorem iteT {A B : Prop} (h : A) : if true = true then A else B := by
  rw [if_pos rfl]
  exact h
theorem ite2 {c A B : Prop} [Decidable c] (h1 : c → A) (h2 : ¬ c → B) : if c then A else B := by
  by_cases h : c
  · rw [if_pos h]
    exact h1 h
  · rw [if_neg h]
    exact h2 h
theorem iteNS {c A B : Prop} [Decidable c] (hc : c) (h : B) : if (!decide c) = true then A else B := by
  rw [decide_eq_true hc]
  exact iteF h

noncomputable def Same (H H' : Hp) : Prop := ∀ b o, H b = some o → H' b = some o
theorem Same.refl (H : Hp) : Same H H := fun _ _ h => h
theorem Same.trans {H H1 H2 : Hp} (a : Same H H1) (b : Same H1 H2) : Same H H2 := fun c o h => b c o (a c o h)
theorem Same.free {H H' : Hp} (e : Same H H') {l : Addr} (h : H' l = Option.none) : H l = Option.none := by
  cases q : H l with
  | none => rfl
  | some o =>
    rw [e l o q] at h
    cases h
theorem Same.seq {K : PySem.W.Frag} {H H' : Hp} {a : Addr} {xs : List V} (e : Same H H') (h : SqL K H a xs) : SqL K H' a xs := by
  rcases h with (h | ⟨o, h⟩) | h
  · exact .inl (.inl (e _ _ h))
  · exact .inl (.inr ⟨o, e _ _ h⟩)
  · exact .inr h

end L2


namespace Zf
open PySem
theorem Bd.bits {n : Nat} {x : Int} (h : Bd n x) : Builtin.Int.intBits x ≤ n := by
  unfold Builtin.Int.intBits
  split
  · exact Nat.zero_le _
  · rename_i hx
    have hp : x.natAbs ≠ 0 := by
      intro e
      apply hx
      have : x = 0 := by omega
      rw [this]
      rfl
    have : x.natAbs.log2 < n := (Nat.log2_lt hp).mpr h
    omega
theorem Bd.mulOk {m n : Nat} {x y : Int} (h : Bd m x) (k : Bd n y) (hm : m ≤ 1048576 := by omega) (hn : n ≤ 1048576 := by omega) : IntMulOk x y :=
  IntMulOk.of_bits (Nat.le_trans h.bits hm) (Nat.le_trans k.bits hn)
theorem Bd.log {n : Nat} {x : Int} (h : Bd n x) (h0 : x ≠ 0) (hn : n ≤ 9000 := by omega) : x.natAbs.log2 < 9000 :=
  Nat.lt_of_lt_of_le ((Nat.log2_lt (by omega)).mpr h) hn
end Zf
namespace L2
open PySem PySem.Spec PyProof.Rows
section
variable {X : Cx}
theorem op_mulK : OpR X (binaryOp .Mult) (rI IntMulOk fun i j => .int (i * j)) := opI fun _ _ _ _ _ _ _ hc q => mul_int q hc
noncomputable def CDivK (_ j : Int) : Prop := 0 < j ∧ j.natAbs.log2 < 9000
theorem op_fdivK : OpR X (binaryOp .FloorDiv) (rI CDivK fun i j => .int (i / j)) := opI fun i j _ _ _ _ _ hc q => by
  have h1 : (0 : Int) < j := hc.1
  exact floordiv_int (by omega) (by rw [Int.fdiv_eq_ediv_of_nonneg i (by omega)]; exact q) (.inl (PyProof.noPylong_of_log2 hc.2))

theorem intsAre_get : ∀ {us : List Value} {ns : List Int}, IntsAre us ns → ∀ (j : Nat) (h1 : j < us.length) (h2 : j < ns.length), ∃ t, us[j] = Value.int ns[j] t
  | _, _, .nil, _, h1, _ => absurd h1 (Nat.not_lt_zero _)
  | _, _, .cons n t _, 0, _, _ => ⟨t, rfl⟩
  | _, _, .cons n t r, j + 1, h1, h2 => intsAre_get r j (Nat.lt_of_succ_lt_succ h1) (Nat.lt_of_succ_lt_succ h2)
theorem all_eq : ∀ {ns ms : List Int}, ns.length = ms.length → ((List.range ns.length).all fun j => ns.getD j 0 == ms.getD j 0) = decide (ns = ms) := by
  intro ns ms hl
  rw [Bool.eq_iff_iff, List.all_eq_true, decide_eq_true_iff]
  constructor
  · intro h
    refine List.ext_getElem hl fun i h1 h2 => ?_
    have := h i (List.mem_range.mpr h1)
    rw [beq_iff_eq] at this
    simpa [List.getD_eq_getElem?_getD, h1, h2] using this
  · rintro rfl i _
    exact beq_self_eq_true _

noncomputable def rIsi (K : PySem.W.Frag) : List V → Hp → VK → Prop := fun xs H Q =>
  (∃ i, xs = [.int i, .ty "int"] ∧ Q (.bl true) H) ∨ (∃ i, xs = [.int i, .ty "bool"] ∧ Q (.bl false) H) ∨ (∃ p ys, xs = [.ref p, .ty "list"] ∧ SqL K H p ys ∧ Q (.bl true) H) ∨
  (∃ p ys, xs = [.ref p, .ty "tuple"] ∧ SqT K H p ys ∧ Q (.bl true) H) ∨ (∃ z, xs = [.str z, .ty "str"] ∧ Q (.bl true) H)
theorem call_isi : CallR X (.builtin "isinstance") (rIsi X.K) := by
  intro pins s σ H xs us Q I r h
  rcases h with ⟨i, rfl, q⟩ | ⟨i, rfl, q⟩ | ⟨p, ys, rfl, hq, q⟩ | ⟨p, ys, rfl, hq, q⟩ | ⟨z, rfl, q⟩
  · obtain ⟨u, w', rfl, ⟨t, rfl⟩, r2⟩ := vals2 r
    cases r2
    exact IsiPair.int_int ⟨.bl true, H, I, rfl, q⟩
  · obtain ⟨u, w', rfl, ⟨t, rfl⟩, r2⟩ := vals2 r
    cases r2
    exact IsiPair.int_bool ⟨.bl false, H, I.tok _, rfl, q⟩
  · obtain ⟨u, w', rfl, r1, r2⟩ := vals2 r
    cases r1
    cases r2
    obtain ⟨its, r', pl, hz⟩ := I.list hq
    obtain ⟨o, ho, hc, n, hd⟩ := pl.isList
    exact IsiPair.list_list ho hc ⟨.bl true, H, I, rfl, q⟩
  · obtain ⟨u, w', rfl, r1, r2⟩ := vals2 r
    cases r1
    cases r2
    obtain ⟨its, r', pl, hz⟩ := I.tuple hq
    obtain ⟨o, ho, hc, n, hd⟩ := pl
    exact IsiPair.tuple_tuple ho hc ⟨.bl true, H, I, rfl, q⟩
  · obtain ⟨u, w', rfl, ⟨t, rfl⟩, r2⟩ := vals2 r
    cases r2
    exact IsiPair.str_str ⟨.bl true, H, I, rfl, q⟩

noncomputable def Itd (hi : Int) (n : Nat) : It := ⟨fun i _ => i < n, fun i H x H' => H' = H ∧ x = .int (hi - i), fun i _ => n ≤ i⟩
theorem turn_down {P : Program} {w : World} {K : PySem.W.Frag} {tg : Expr} (it : Addr) (hi : Int) (n : Nat) : Turn P w K tg (Itd hi n) [it] it (fun i h => IsRangeIter h it (hi + (i : Nat) * (-1)) ((n : Int) - (i : Nat)) (-1)) where
  mem := by simp
  obj := fun i h st b hb => by
    have e : b = it := by simpa using hb
    subst e
    exact ⟨_, st, fun v z => by
      have z' : Data.fields _ = Data.cell v := z
      cases z'⟩
  keep := fun i h h' st k => k it (by simp) _ st
  item := by
    intro X hP hw hK hc i pins s σ H E I hf st hg
    subst hP hw hK
    obtain ⟨f0, f1, f2, f3, f4, f5⟩ := hf it (by simp)
    have W := Walks.range (prog := X.prog) (w := X.w) (I.ok.hd hc) it hi (-1) n
    refine W.item i s _ _ hg st fun v h' tk hv st' kk => ?_
    obtain ⟨t, rfl⟩ := hv
    have I1 : Inv X pins σ H { s with heap := h', toks := tk } := I.turned (fun b o hb e => kk b o (by simpa using hb) e) f0 f1 f3 f4 f5
    refine ⟨_, rfl, go_of (s := { s with heap := h', toks := tk }) (n := "range_iterator") st' rfl rfl (by decide) ⟨.int (hi - i), H, I1, ⟨t, ?_⟩, ⟨rfl, rfl⟩, st', fun b hb => (hf b hb).1⟩⟩
    rw [show hi + (i : Int) * -1 = hi - i by omega]
  done := by
    intro X hP hw hK hc i pins s σ H E I hf st hg
    subst hP hw hK
    obtain ⟨f0, f1, f2, f3, f4, f5⟩ := hf it (by simp)
    exact wpAny_pyNext_range_end (I.ok.hd hc) st (by have : n ≤ i := hg; omega) fun h' eb => ⟨rfl, I.turned (t' := s.toks) (fun b o hb e => eb b o hb e) f0 f1 f3 f4 f5⟩
  self := fun _ _ _ _ _ st h => wpAny_pyIter_rangeiter st h
theorem rangeSize_down (a b : Int) : Builtin.Range.rangeSize a b (-1) = if b < a then a - b else 0 := by
  unfold Builtin.Range.rangeSize
  rw [if_neg (by decide)]
  simp only [Int.neg_neg, Int.ediv_one, gt_iff_lt]
  split <;> omega
theorem small_down {a b : Int} (ha : -(2 ^ 62) ≤ a) (ha' : a < 2 ^ 62) (hb : -(2 ^ 62) ≤ b) (hb' : b < 2 ^ 62) : Builtin.Range.small a b (-1) = true := by
  unfold Builtin.Range.small
  rw [rangeSize_down]
  simp only [Builtin.Range.rangeFitsLong, Bool.and_eq_true, Bool.or_eq_true, decide_eq_true_eq, beq_iff_eq, show ¬ ((-1 : Int) > 0) by decide, if_false]
  split <;> omega
variable {tg : Expr}
theorem down_it {pins : List (Addr × Obj)} {σ : St} {H : Hp} {s : Shared} {R : It → Hp → Prop} {E : Value → Shared → Prop} {lo hi : Int} {t u v : Tok} {tk : Nat} (I : Inv X pins σ H s) (h1 : -(2 ^ 62) ≤ lo) (h2 : lo < 2 ^ 62) (h3 : -(2 ^ 62) ≤ hi) (h4 : hi < 2 ^ 62)
    (q : R (Itd hi (hi - lo).toNat) H) : wpAny (model X.prog X.w) X.A (pyIter (.ref s.heap.objs.size)) (PIE X pins σ tg R) E { s with heap := s.heap.push { cls := .type "range", data := .fields #[.int hi t, .int lo u, .int (-1) v] }, toks := tk } := by
  refine wpAny_pyIter_range (IsRange.new ..) (small_down h3 h4 h1 h2) ?_
  have I1 : Inv X pins σ H { s with heap := s.heap.push { cls := .type "range", data := .fields #[.int hi t, .int lo u, .int (-1) v] }, toks := tk } := I.kept fun b o e => Heap.get?_push_of_some _ e
  refine ⟨(s.heap.push { cls := .type "range", data := .fields #[.int hi t, .int lo u, .int (-1) v] }).objs.size, [(s.heap.push { cls := .type "range", data := .fields #[.int hi t, .int lo u, .int (-1) v] }).objs.size], _, _, H, rfl,
    I1.kept (t' := tk) fun b o e => Heap.get?_push_of_some _ e, turn_down _ hi (hi - lo).toNat, ?_, fun b hb => ?_, q⟩
  · have e1 : hi + ((0 : Nat) : Int) * (-1) = hi := by simp
    have e2 : (((hi - lo).toNat : Nat) : Int) - ((0 : Nat) : Int) = Builtin.Range.rangeSize hi lo (-1) := by rw [rangeSize_down]; split <;> omega
    show IsRangeIter _ _ (hi + ((0 : Nat) : Int) * (-1)) ((((hi - lo).toNat : Nat) : Int) - ((0 : Nat) : Int)) (-1)
    rw [e1, e2]
    exact Heap.get?_push_size _ rfl
  · have e : b = (s.heap.push { cls := .type "range", data := .fields #[.int hi t, .int lo u, .int (-1) v] }).objs.size := by simpa using hb
    subst e
    exact I1.fpOk (Nat.le_refl _) (I1.hok.fresh (Nat.le_refl _))

noncomputable def iRng3 (ta : TA) : TI := fun σ H R => ta σ H fun vs H1 => ∃ i j : Int, vs = [.int i, .int j, .int (-1)] ∧ (-(2 ^ 62) ≤ i ∧ i < 2 ^ 62 ∧ -(2 ^ 62) ≤ j ∧ j < 2 ^ 62) ∧ R (Itd i (i - j).toNat) H1
theorem pi_range3 {a b c : Expr} {ta : TA} {p pos : Pos} (hg : Gl X "range") (hm : X.mg "range" = none) (ha : PA X [a, b, c] ta) (hs : starEach [a, b, c] X.env = [(false, eval a X.env), (false, eval b X.env), (false, eval c X.env)] := by rfl)
    (hs2 : starEach [b, c] X.env = [(false, eval b X.env), (false, eval c X.env)] := by rfl) : PI X tg (.Call (.Name "range" p) [a, b, c] [] pos) (iRng3 ta) := by
  intro pins s σ H R I h
  refine Call_ (ld_blt I hg hm boot_range (PyProof.Rows.callWith_type1 (thn (ha pos pins s σ H _ I h) fun us s1 ⟨vs, H1, I1, r1, q1⟩ => ?_) (by rw [hs, hs2]) (by rw [hs2]; rfl)))
  obtain ⟨i, j, e, ⟨q1, q2, q3, q4⟩, q⟩ := q1
  subst e
  cases r1 with
  | cons r rr =>
    cases rr with
    | cons r' rr =>
      cases rr with
      | cons r'' rr =>
        cases rr
        obtain ⟨t, rfl⟩ := r
        obtain ⟨t', rfl⟩ := r'
        obtain ⟨t'', rfl⟩ := r''
        exact call_range_3 (by decide) (down_it I1 q3 q4 q1 q2 q) (.inl (PyProof.noPylong_small (by decide)))
theorem for_down {hi : Int} {n : Nat} {g : TG} {tb : TS} {D : Ends} {σ : St} {H : Hp} (Pv : Nat → St → Hp → Prop) (h0 : Pv 0 σ H)
    (hs : ∀ i σ H, i < n → Pv i σ H → g (.int (hi - i)) σ H fun σ2 H2 => tb { D with nx := Pv (i + 1), ct := Pv (i + 1), bk := D.nx } σ2 H2) (hd : ∀ σ H, Pv n σ H → D.nx σ H) :
    ∃ W : Nat → Nat → St → Hp → Prop, (∃ m, W 0 m σ H) ∧ ∀ i m σ H, W i m σ H →
      ((Itd hi n).stop i H ∧ D.nx σ H) ∨ ((Itd hi n).go i H ∧ ∃ N : St → Hp → Prop, (∀ σ' H', N σ' H' → ∃ m', m' < m ∧ W (i + 1) m' σ' H') ∧ ∀ x H', (Itd hi n).yld i H x H' → g x σ H' fun σ2 H2 => tb { D with nx := N, ct := N, bk := D.nx } σ2 H2) := by
  refine ⟨fun i m σ H => m = n - i ∧ i ≤ n ∧ Pv i σ H, ⟨n, by simp, Nat.zero_le _, h0⟩, ?_⟩
  rintro i m σ H ⟨rfl, hi, p⟩
  by_cases hlt : i < n
  · refine .inr ⟨hlt, Pv (i + 1), fun σ' H' p' => ⟨n - (i + 1), by omega, rfl, hlt, p'⟩, fun x H' y => ?_⟩
    obtain ⟨e, y⟩ := y
    subst e y
    exact hs i σ _ hlt p
  · have e : i = n := by omega
    subst e
    exact .inl ⟨Nat.le_refl _, hd σ H p⟩
end

noncomputable def FnAt (P : Program) (w : World) (K : PySem.W.Frag) (mg : Str → Option Value) (base : Heap) (k : Nat) (x : Str) (ps : List Str) (sp : Sp) : Prop :=
  ∃ (f : Addr) (fd : FuncData), FnOk P w K mg base CX0 k f fd ps sp ∧ Binds K fd ps [] ∧ PySem.W.keepIn K (.ref f) = true ∧ mg x = some (.ref f)
theorem pe_callF {X : Cx} {j k : Nat} {x : Str} {ps : List Str} {sp : Sp} {e : Expr} {es : List Expr} {p pos : Pos} {t : TA} (F : FnAt X.prog X.w X.K X.mg X.base j x ps sp) (hr : Room k X.A) (hg : Gl X x) (ha : PA X (e :: es) t) (hj : j ≤ k := by decide)
    (hdb : (x == ("__debug__" : Str)) = false := by decide) (he : starEach (e :: es) X.env = (false, eval e X.env) :: starEach es X.env := by rfl) (hpl : (backTo pos (starEach es X.env)).any (·.1) = false := by rfl) :
    PE X (.Call (.Name x p) (e :: es) [] pos) (tCall sp [] E0 t) := by
  obtain ⟨f, fd, G, b, kp, m⟩ := F
  exact pe_call G (hr.mono hj) hg m kp b .nil pass0 ha hdb he hpl

structure Bl (mg : Str → Option Value) : Prop where
  len_ : mg "len" = none
  abs_ : mg "abs" = none
  range_ : mg "range" = none
  list_ : mg "list" = none
  int_ : mg "int" = none
  bool_ : mg "bool" = none
  isinstance_ : mg "isinstance" = none
  sorted_ : mg "sorted" = none
  min_ : mg "min" = none
  enumerate_ : mg "enumerate" = none
theorem same_new {H : Hp} {p : Addr} (h : H p = none) (o : HO) : Same H (upd H p o) := fun b u q => by rw [upd_ne (ne_of_none q h)]; exact q
theorem Same.tup {K : PySem.W.Frag} {H H' : Hp} {a : Addr} {xs : List V} (e : Same H H') (h : SqT K H a xs) : SqT K H' a xs := by
  rcases h with h | h
  · rcases h with h | ⟨o, h⟩
    · exact .inl (.inl (e _ _ h))
    · exact .inl (.inr ⟨o, e _ _ h⟩)
  · exact .inr h

noncomputable abbrev IL (ns : List Int) : HO := .lst (ns.map V.int)
theorem atI_ints {ns : List Int} {k : Int} (h0 : 0 ≤ k) (h : k < (ns.length : Int)) : atI (ns.map V.int) k = some (.int (ns.getD k.toNat 0)) := by
  have hk : k.toNat < ns.length := by omega
  have ek : k = ((k.toNat : Nat) : Int) := by omega
  rw [ek]
  refine atI_nat ?_
  rw [List.getElem?_map, List.getD_eq_getElem?_getD, show ((k.toNat : Nat) : Int).toNat = k.toNat by omega, List.getElem?_eq_getElem hk]
  all_goals rfl
theorem atI_last_ints {ns : List Int} (h : ns ≠ []) : atI (ns.map V.int) (-1) = some (.int (ns.getD (ns.length - 1) 0)) := by
  have e : ns = ns.dropLast ++ [ns.getLast h] := (List.dropLast_concat_getLast h).symm
  have g : ns.getD (ns.length - 1) 0 = ns.getLast h := by
    rw [List.getLast_eq_getElem, List.getD_eq_getElem?_getD, List.getElem?_eq_getElem (by have := List.length_pos_iff.mpr h; omega)]
    rfl
  rw [g]
  conv => lhs; rw [e]
  rw [List.map_append]
  exact atI_last _ _
end L2
namespace L2
open PySem
theorem bt_len : bootBuiltins "len" = some (.builtin "len") := by decide +kernel
theorem bt_abs : bootBuiltins "abs" = some (.builtin "abs") := by decide +kernel
theorem bt_isinstance : bootBuiltins "isinstance" = some (.builtin "isinstance") := by decide +kernel
theorem bt_sorted : bootBuiltins "sorted" = some (.builtin "sorted") := by decide +kernel
theorem bt_min : bootBuiltins "min" = some (.builtin "min") := by decide +kernel
theorem bt_int : bootBuiltins "int" = some (.type "int") := by decide +kernel
theorem bt_bool : bootBuiltins "bool" = some (.type "bool") := by decide +kernel
theorem bt_list : bootBuiltins "list" = some (.type "list") := by decide +kernel
end L2


namespace L2
open PySem PySem.Spec PyProof.Rows

noncomputable def cxComp (X : Cx) (N : List Str) (scope : Scope) (cl : List (Str × Addr)) (C : Addr) (s₀ : Shared) (H₀ : Hp) (ex : List Addr) : Cx :=
  { X with N := N, env := compEnvC scope cl C X.env, outer := X.stack, s₀ := s₀, H₀ := H₀, ex := ex, fn := fun _ => false, pn := [], xe := fun _ _ => False }
noncomputable def tLC (wi : TI) (fr : List Nat) (te : TE) : TE := fun σ H Q => wi σ H fun J H1 => ∀ D, H1 D = none → ∃ W : Nat → Nat → St → List V → Hp → Prop, (∃ m, W 0 m (none :: fr.map fun i => σ.getD i none) [] (upd H1 D (.lst []))) ∧
  ∀ i m σc acc H2, W i m σc acc H2 → H2 D = some (.lst acc) ∧ ((J.stop i H2 ∧ Q (.ref D) H2) ∨ (J.go i H2 ∧ ∀ y H3, J.yld i H2 y H3 → te (σc.set 0 (some y)) H3 fun v H4 =>
    H4 D = some (.lst acc) ∧ acc.length < sizeLine ∧ ∃ m', m' < m ∧ W (i + 1) m' (σc.set 0 (some y)) (acc ++ [v]) (upd H4 D (.lst (acc ++ [v])))))

structure CompOk (X : Cx) (scope : Scope) (cl : List (Str × Addr)) (x : Str) (N : List Str) (fr : List Nat) : Prop where
  clos : closureFor scope X.env = pure cl
  cell : ∀ y ∈ scope.names, y.2 ≠ .cell
  kind : scope.kind = .function
  names : ∀ y ∈ scope.names, y.2 = .local → scope.names.lookup y.1 = some .local
  var : scope.names.lookup x = some .local
  nd : (x :: N).Nodup
  ins : ∀ p ∈ cl, X.env.cells.lookup p.1 = some p.2
  has : ∀ y, ((relabel scope X.env).names.lookup y = some .cell ∨ (relabel scope X.env).names.lookup y = some .free) → ∃ c, cl.lookup y = some c
  len : fr.length = N.length
  frs : ∀ (j : Nat) (y : Str), N[j]? = some y → ∃ i, fr[j]? = some i ∧ X.N[i]? = some y ∧ X.env.scope.names.lookup y = some .cell ∧ (relabel scope X.env).names.lookup y = some .cell
  calm : X.calm = true
  xe : X.xe = fun _ _ => False

noncomputable def FrOk (X : Cx) (sc : Scope) : List Str → List Nat → Prop
  | [], [] => True
  | y :: N, i :: fr => (X.N[i]? = some y ∧ X.env.scope.names.lookup y = some .cell ∧ sc.names.lookup y = some .cell) ∧ FrOk X sc N fr
  | _, _ => False
theorem FrOk.len {X : Cx} {sc : Scope} : ∀ {N : List Str} {fr : List Nat}, FrOk X sc N fr → fr.length = N.length
  | [], [], _ => rfl
  | _ :: _, _ :: _, h => by rw [List.length_cons, List.length_cons, FrOk.len h.2]
  | [], _ :: _, h => h.elim
  | _ :: _, [], h => h.elim
theorem FrOk.get {X : Cx} {sc : Scope} : ∀ {N : List Str} {fr : List Nat}, FrOk X sc N fr → ∀ (j : Nat) (y : Str), N[j]? = some y → ∃ i, fr[j]? = some i ∧ X.N[i]? = some y ∧ X.env.scope.names.lookup y = some .cell ∧ sc.names.lookup y = some .cell
  | [], [], _, j, y, e => by cases j <;> cases e
  | _ :: _, i :: _, h, 0, y, e => by cases e; exact ⟨i, rfl, h.1⟩
  | _ :: N, _ :: fr, h, j + 1, y, e => FrOk.get (N := N) (fr := fr) h.2 j y e
  | [], _ :: _, h, _, _, _ => h.elim
  | _ :: _, [], h, _, _, _ => h.elim
theorem all0 {α : Type} {P : α → Prop} : ∀ p ∈ ([] : List α), P p := fun _ h => nomatch h
theorem allC {α : Type} {P : α → Prop} {a : α} {l : List α} (h : P a) (k : ∀ p ∈ l, P p) : ∀ p ∈ a :: l, P p := fun p hp => by
  rcases List.mem_cons.mp hp with rfl | hp
  · exact h
  · exact k p hp
theorem compOk {X : Cx} {scope : Scope} {cl : List (Str × Addr)} {x : Str} {N : List Str} {fr : List Nat} (clos : closureFor scope X.env = pure cl) (cell : ∀ y ∈ scope.names, y.2 ≠ .cell) (kind : scope.kind = .function)
    (names : ∀ y ∈ scope.names, y.2 = .local → scope.names.lookup y.1 = some .local) (var : scope.names.lookup x = some .local) (nd : (x :: N).Nodup) (ins : ∀ p ∈ cl, X.env.cells.lookup p.1 = some p.2)
    (has : ((relabel scope X.env).names.all fun p => !(p.2 == .cell || p.2 == .free) || (cl.lookup p.1).isSome) = true) (fro : FrOk X (relabel scope X.env) N fr) (calm : X.calm = true) (xe : X.xe = fun _ _ => False) : CompOk X scope cl x N fr :=
  ⟨clos, cell, kind, names, var, nd, ins, fun y hy => by
    have key : ∀ k : NameKind, (k = .cell ∨ k = .free) → (relabel scope X.env).names.lookup y = some k → ∃ c, cl.lookup y = some c := fun k hk e => by
      have := List.all_eq_true.mp has _ (PySem.mem_of_lookup e)
      rcases hk with rfl | rfl
      · exact Option.isSome_iff_exists.mp (by simpa using this)
      · exact Option.isSome_iff_exists.mp (by simpa using this)
    rcases hy with hy | hy
    · exact key _ (.inl rfl) hy
    · exact key _ (.inr rfl) hy, fro.len, fro.get, calm, xe⟩

theorem compLoop_own {prog : Program} {w : World} {A : Around} {R : Result → Shared → Prop} {s : Shared} {elt target iter : Expr} {scope : Scope} {pos : Pos} {it acc : Value} {env : Env} (I : Nat → Shared → Prop)
    (turn : ∀ n s, I n s → wpAny (model prog w) A (pyNext it) (fun r s₁ => match r with
      | none => R (.ok .next) s₁
      | some v => wpAny (model prog w) A (letOwnedTupleGo target it v) (fun _ s₁' => wpAny (model prog w) A (assign target env v) (fun _ s₂ => wpAny (model prog w) A (eval elt env) (fun x s₃ =>
          wpAny (model prog w) A (call (.builtin "list.append") [acc, x]) (fun _ s₄ => ∃ m, m < n ∧ I m s₄) (fun _ _ => False) s₃)
          (fun _ _ => False) s₂) (fun _ _ => False) s₁') (fun _ _ => False) s₁) (fun _ _ => False) s)
    (n : Nat) (h : I n s) :
    codeAny (model prog w) A (.compLoop (.ListComp elt [⟨target, iter, [], 0⟩] scope pos) 0 it acc env) R s := by
  refine codeAny_loop rfl I (fun n s hI => ?_) n h
  show wpAny _ _ ((compTurn (.ListComp elt [⟨target, iter, [], 0⟩] scope pos) 0 it acc env).onRaise (fun x => do noteFrame x env; theTreesLotGoes x)) _ _ s
  refine wpAny_noted ?_
  rw [compTurn_list1]
  refine wpAny_bind (wpAny_standAt (wpAny_bind (wpAny_mono (turn n s hI) (fun r s₁ h₁ => ?_) fun _ _ h' => h'.elim)))
  cases r with
  | none => exact wpAny_pure h₁
  | some v =>
    refine wpAny_bind (wpAny_mono h₁ (fun _ s₁' h₁' => ?_) fun _ _ h' => h'.elim)
    exact wpAny_bind (wpAny_mono h₁' (fun _ s₂ h₂ => wpAny_bind (wpAny_bind (wpAny_mono h₂ (fun x s₃ h₃ => wpAny_bind (wpAny_mono h₃
      (fun _ s₄ h₄ => wpAny_pure (wpAny_pure ⟨rfl, h₄⟩)) fun _ _ h' => h'.elim)) fun _ _ h' => h'.elim))) fun _ _ h' => h'.elim)

section
variable {X : Cx} {scope : Scope} {cl : List (Str × Addr)} {x : Str} {N : List Str} {fr : List Nat}

theorem comp_start {pins : List (Addr × Obj)} {σ : St} {H : Hp} {s : Shared} {fp : List Addr} {h1 : Heap} {D C : Addr} {tk : Nat} (O : CompOk X scope cl x N fr) (I : Inv X pins σ H s) (hf : ∀ b ∈ fp, FpOk X pins H b) (hfl : ∀ b ∈ fp, b < s.heap.objs.size)
    (hD : s.heap.objs.size ≤ D) (hC : s.heap.objs.size ≤ C) (hDC : D ≠ C) (kp : ∀ b o, s.heap.get? b = some o → h1.get? b = some o) (hns : ∃ m, h1.Ns C m) (hd : ∃ n, h1.get? D = some { cls := .type "list", data := .seq #[] n }) :
    Inv (cxComp X (x :: N) scope cl C s H fp) [] (none :: fr.map fun i => σ.getD i none) (upd H D (.lst [])) { s with heap := h1, toks := tk } := by
  have hn : H D = none := I.hok.fresh hD
  have hu : Un (frs X.stack) fp H (upd H D (.lst [])) s.heap h1 := Un.laid kp hD hn
  have cellH : ∀ y c, cl.lookup y = some c → X.env.cells.lookup y = some c := fun y c e => O.ins _ (PySem.mem_of_lookup e)
  obtain ⟨m, hm⟩ := hns
  have okk : (cxComp X (x :: N) scope cl C s H fp).Ok := by
    refine ⟨I.ok.mod, ?_, I.ok.glob, I.ok.blt, hC, fun y z c e1 e2 => ?_, fun y hy => ?_, fun y c h _ => ?_, I.ok.hd, I.ok.frames, .inl rfl, fun b hb => ⟨?_, fun y c e => ?_⟩, I.bs, Nat.le_trans I.ok.bsz I.sz, fun b o e hb => ?_, fun b hb => ?_, I.stack, I.stkFree⟩
    · show (relabel scope X.env).kind = _
      exact O.kind
    · exact I.ok.inj y z c (cellH y c e1) (cellH z c e2)
    · exact O.has y hy
    · exact absurd h (by show ¬ (false = true); decide)
    · exact Nat.ne_of_lt (Nat.lt_of_lt_of_le (hfl b hb) hC)
    · exact (hf b hb).2.2.2.2.1 y c (cellH y c e)
    · obtain ⟨f0, f1, f2, f3, f4, f5⟩ := hf b hb
      rcases f3 with z | z
      · exact I.ok.noex b o e z
      · exact absurd (Nat.lt_of_lt_of_le (Heap.lt_size (I.ok.bs b o e).1) z) (Nat.lt_irrefl _)
    · obtain ⟨f0, f1, f2, f3, f4, f5⟩ := hf b hb
      intro z
      rcases List.mem_cons.mp (I.stkSub b z) with e | e
      · exact f1 e
      · exact f2 e
  refine ⟨okk, rfl, I.bare, hu, ⟨m, hm, fun j y v e1 e2 e3 => ?_⟩, fun y c e => ?_, ?_, fun y c e => ?_, fun p hp => absurd (show p ∈ ([] : List (Addr × Obj)) from hp) (by simp), ?_, ?_⟩
  · cases j with
    | zero => cases e2
    | succ j =>
      have e1' : N[j]? = some y := e1
      obtain ⟨i, g1, g2, g3, g4⟩ := O.frs j y e1'
      have e2' : (fr.map fun i => σ.getD i none)[j]? = some (some v) := e2
      rw [List.getElem?_map, g1] at e2'
      have e2'' : σ.getD i none = some v := Option.some.inj e2'
      have e4 : σ[i]? = some (some v) := by
        rw [List.getD_eq_getElem?_getD] at e2''
        cases q : σ[i]? with
        | none => rw [q] at e2''; cases e2''
        | some z => rw [q] at e2''; exact congrArg some e2''
      obtain ⟨m0, _, hl⟩ := I.loc
      obtain ⟨u, r, l⟩ := hl i y v g2 e4 (.inr (.inl g3))
      refine ⟨u, r, ?_⟩
      rcases l with ⟨k, _⟩ | ⟨k, c, e, z⟩
      · have k' : X.env.scope.names.lookup y = some .local := k
        rw [g3] at k'
        cases k'
      · obtain ⟨c', e'⟩ := O.has y (.inl g4)
        have := cellH y c' e'
        rw [e] at this
        cases this
        refine .inr ⟨.inl g4, c, e', ?_⟩
        obtain ⟨o, ho, hd'⟩ := z
        exact ⟨o, kp _ _ ho, hd'⟩
  · obtain ⟨v, o, ho, hd'⟩ := I.cell y c (cellH y c e)
    exact ⟨v, o, kp _ _ ho, hd'⟩
  · show upd H D (.lst []) C = none
    rw [upd_ne (Ne.symm hDC)]
    exact I.hok.fresh hC
  · obtain ⟨v, o, ho, hd'⟩ := I.cell y c (cellH y c e)
    rw [upd_ne (Nat.ne_of_lt (Nat.lt_of_lt_of_le (Heap.lt_size ho) hD))]
    exact I.freeC y c (cellH y c e)
  · obtain ⟨n, e⟩ := hd
    exact I.hok.laid kp hD ⟨Nat.zero_le _, [], n, .nil, e⟩
  · show (none :: fr.map fun i => σ.getD i none).length = (x :: N).length
    rw [List.length_cons, List.length_cons, List.length_map, O.len]

theorem comp_run {elt iter : Expr} {px pos : Pos} {te : TE} {pins : List (Addr × Obj)} {σ : St} {H : Hp} {s : Shared} {it : Addr} {fp : List Addr} {tn : Nat → Heap → Prop} {J : It} {Q : VK} {E : Value → Shared → Prop} {RR : Value → Addr → Result → Shared → Prop}
    (O : CompOk X scope cl x N fr) (he : ∀ cl C s₀ H₀ ex, PE (cxComp X (x :: N) scope cl C s₀ H₀ ex) elt te) (I : Inv X pins σ H s) (T : Turn X.prog X.w X.K (.Name x px) J fp it tn) (st : tn 0 s.heap) (hf : ∀ b ∈ fp, FpOk X pins H b)
    (h : ∀ D, H D = none → ∃ W : Nat → Nat → St → List V → Hp → Prop, (∃ m, W 0 m (none :: fr.map fun i => σ.getD i none) [] (upd H D (.lst []))) ∧
      ∀ i m σc acc H2, W i m σc acc H2 → H2 D = some (.lst acc) ∧ ((J.stop i H2 ∧ Q (.ref D) H2) ∨ (J.go i H2 ∧ ∀ y H3, J.yld i H2 y H3 → te (σc.set 0 (some y)) H3 fun v H4 =>
        H4 D = some (.lst acc) ∧ acc.length < sizeLine ∧ ∃ m', m' < m ∧ W (i + 1) m' (σc.set 0 (some y)) (acc ++ [v]) (upd H4 D (.lst (acc ++ [v]))))))
    (hR : ∀ D C H' s', D ≠ C → s.heap.objs.size ≤ C → (∃ m, s'.heap.Ns C m) → H' C = none → Inv X pins σ H' s' → Q (.ref D) H' → RR (.ref D) C (.ok .next) s') :
    wpAny (model X.prog X.w) X.A (newList []) (fun acc s₃ => wpAny (model X.prog X.w) X.A (newFunctionEnv scope X.env.globals cl [] X.env.qual none .none (some X.env)) (fun cenv s₄ =>
      codeAny (model X.prog X.w) X.A (.compStart (.ListComp elt [⟨.Name x px, iter, [], 0⟩] scope pos) 0 (.ref it) acc { cenv with scope := relabel scope X.env }) (RR acc cenv.locals) s₄) E s₃) E s := by
  refine wpAny_newObj_type (wpAny_newFunctionEnv O.cell (by intro y hy; simp at hy) (fun h₁ hns₁ hsb₁ => ?_) O.kind)
  dsimp only at hns₁ hsb₁ ⊢
  generalize hH2 : s.heap.push { cls := .type "list", dict := none, data := .seq ([] : List Value).toArray } = H2 at hns₁ hsb₁ ⊢
  have hC : H2.objs.size = s.heap.objs.size + 1 := by rw [← hH2, Heap.size_push]
  have hDC : s.heap.objs.size ≠ H2.objs.size := by rw [hC]; exact Nat.ne_of_lt (Nat.lt_succ_self _)
  have hCle : s.heap.objs.size ≤ H2.objs.size := by rw [hC]; exact Nat.le_succ _
  have below : ∀ b, b < s.heap.objs.size → b ≠ H2.objs.size ∧ b ≠ s.heap.objs.size := fun b hb => ⟨by rw [hC]; exact Nat.ne_of_lt (Nat.lt_succ_of_lt hb), Nat.ne_of_lt hb⟩
  have old : ∀ b o, s.heap.get? b = some o → h₁.get? b = some o := fun b o e => hsb₁.extBut b o (below b (Heap.lt_size e)).1 (Heap.get?_push_of_some _ (hH2 ▸ Heap.get?_push_of_some _ e))
  have hacc : ∃ n, h₁.get? s.heap.objs.size = some { cls := .type "list", data := .seq #[] n } := ⟨_, hsb₁.extBut _ _ hDC (Heap.get?_push_of_some _ (hH2 ▸ Heap.get?_push_size _ rfl))⟩
  have hfl : ∀ b ∈ fp, b < s.heap.objs.size := fun b hb => by
    obtain ⟨o, e, _⟩ := T.obj _ _ st b hb
    exact Heap.lt_size e
  obtain ⟨W, ⟨m0, w0⟩, turn⟩ := h s.heap.objs.size (I.hok.fresh (Nat.le_refl _))
  have st₁ : tn 0 h₁ := T.keep _ _ _ st fun b hb o e => old b o e
  have I0 := comp_start (tk := s.toks + ([] : List (Str × Value)).length) O I hf hfl (Nat.le_refl _) hCle hDC old ⟨_, hns₁⟩ hacc

  have loop : codeAny (model X.prog X.w) X.A (.compLoop (.ListComp elt [⟨.Name x px, iter, [], 0⟩] scope pos) 0 (.ref it) (.ref s.heap.objs.size) (compEnvC scope cl H2.objs.size X.env))
      (RR (.ref s.heap.objs.size) H2.objs.size) { s with heap := h₁, toks := s.toks + ([] : List (Str × Value)).length } := by
    have stat : ∀ {H' : Hp}, (∀ b ∈ fp, H' b = none) → ∀ b ∈ fp, FpOk (cxComp X (x :: N) scope cl H2.objs.size s H fp) [] H' b := fun {H'} hn b hb =>
      ⟨hn b hb, (I0.ok.exf b hb).1, I0.ok.exfs b hb, .inl hb, (I0.ok.exf b hb).2, fun p hp => absurd (show p ∈ ([] : List (Addr × Obj)) from hp) (by simp)⟩
    refine compLoop_own (fun n s' => ∃ i σc acc H', Inv (cxComp X (x :: N) scope cl H2.objs.size s H fp) [] σc H' s' ∧ tn i s'.heap ∧ (∀ b ∈ fp, H' b = none) ∧ W i n σc acc H') ?_ m0
      ⟨0, _, [], _, I0, st₁, fun b hb => by rw [upd_ne (below b (hfl b hb)).2]; exact (hf b hb).1, w0⟩
    rintro n s3 ⟨i, σ3, acc, H3, I3, st3, fr3, w3⟩
    obtain ⟨hD3, q⟩ := turn i n σ3 acc H3 w3
    rcases q with ⟨stop, qn⟩ | ⟨go, step⟩
    · refine thn (T.done (cxComp X (x :: N) scope cl H2.objs.size s H fp) rfl rfl rfl O.calm i [] s3 σ3 H3 _ I3 (stat fr3) st3 stop) fun r s4 ⟨hr, I4⟩ => ?_
      subst hr
      refine hR _ _ H3 s4 hDC hCle ?_ I4.free ?_ qn
      · obtain ⟨m, hn, _⟩ := I4.loc
        exact ⟨m, hn⟩
      · refine I.call' I4.os I4.base I4.hok I4.bare fun b hb => ?_
        obtain ⟨f0, f1, f2, f3, f4, f5⟩ := hf b hb
        exact ⟨f3, f1, f4, f5⟩
    · refine thn (T.item (cxComp X (x :: N) scope cl H2.objs.size s H fp) rfl rfl rfl O.calm i [] s3 σ3 H3 _ I3 (stat fr3) st3 go) fun r s4 ⟨u, hr, h4⟩ => ?_
      subst hr
      refine thn h4 fun _ s5 ⟨y, H5, I5, r5, y5, st5, fr5⟩ => ?_
      have I5' := I5.pinned (stat fr5) (T.obj _ _ st5)
      have hg : PG (cxComp X (x :: N) scope cl H2.objs.size s H fp) (.Name x px) (gName 0) := pg_name O.nd rfl (.inl (lookup_relabel_local O.var)) (.inr (lookup_relabel_local O.var))
      refine thn (hg _ s5 σ3 H5 y u (fun σ' H' => σ' = σ3.set 0 (some y) ∧ H' = H5) I5' r5 ⟨rfl, rfl⟩) fun _ s6 ⟨σ6, H6, I6, e6, e6'⟩ => ?_
      subst e6 e6'
      refine thn (he cl H2.objs.size s H fp _ s6 _ _ _ I6 (step y H6 y5)) fun v s7 ⟨z, H7, I7, r7, hD7, hz7, m', hm', w7⟩ => ?_
      refine thn (mt_append _ s7 _ H7 (.ref s.heap.objs.size) [z] _ [v] (fun _ H' => H' = upd H7 s.heap.objs.size (.lst (acc ++ [z]))) I7 rfl (.cons r7 .nil) ⟨_, acc, z, rfl, rfl, hD7, hz7, rfl⟩) fun _ s8 ⟨_, H8, I8, _, e8⟩ => ?_
      subst e8
      refine ⟨m', hm', i + 1, _, acc ++ [z], _, I8.unpinned, T.keep _ _ _ st5 fun b hb o e => (I8.pin (b, o) (List.mem_append_right _ (List.mem_append_right _ (mem_pinsAt hb e)))).1, fun b hb => ?_, w7⟩
      obtain ⟨o, e, d⟩ := T.obj _ _ st5 b hb
      exact (I8.pin (b, o) (List.mem_append_right _ (List.mem_append_right _ (mem_pinsAt hb e)))).2.1
  exact codeAny_compStart_list loop (T.self _ 0 _ _ _ st₁ loop)

theorem pe_lc {elt iter : Expr} {px pos : Pos} {wi : TI} {te : TE} (O : CompOk X scope cl x N fr) (hi : PI X (.Name x px) iter wi) (he : ∀ cl C s₀ H₀ ex, PE (cxComp X (x :: N) scope cl C s₀ H₀ ex) elt te)
    (hs : ∀ x, foldedSetIterable iter X.env x = pure x := by intro _; rfl) : PE X (.ListComp elt [⟨.Name x px, iter, [], 0⟩] scope pos) (tLC wi fr te) := by
  intro pins s σ H Q I h
  rw [eval_ListComp]
  refine wpAny_comprehension_free (use := none) rfl hs O.clos O.kind O.names (thn (hi pins s σ H _ I h) fun v s1 h1 => thn h1 fun itv s2 h2 => ?_)
  obtain ⟨it, fp, tn, J, H2, rfl, I2, T, st2, f2, q⟩ := h2
  refine comp_run (RR := fun acc C => compPost (model X.prog X.w) X.A X.xe none (EP X pins σ Q) acc C) O he I2 T st2 f2 q ?_
  intro D C H' s' hDC hC hns hCn I' q'
  obtain ⟨m, hn⟩ := hns
  refine ⟨m, hn, fun h'' hs'' => ⟨.ref D, H', ?_, rfl, q'⟩⟩
  obtain ⟨g0, g1, g2, g3, g4, g5⟩ := I2.fpOk hC hCn
  exact I'.turned (t' := s'.toks) (fun b o hb e => hs''.extBut b o hb e) g0 g1 g3 g4 g5

theorem ps_lc {elt iter : Expr} {y : Str} {py px pos spos : Pos} {i : Nat} {wi : TI} {te : TE} (O : CompOk X scope cl x N fr) (hN : X.N.Nodup) (hiN : X.N[i]? = some y) (hy : Loc X.env.scope y) (hi : PI X (.Name x px) iter wi) (he : ∀ cl C s₀ H₀ ex, PE (cxComp X (x :: N) scope cl C s₀ H₀ ex) elt te)
    (hsw : swapsWith (.ListComp elt [⟨.Name x px, iter, [], 0⟩] scope pos) (some (.Name y py)) spos.line X.env = pure true := by rfl) (hs : ∀ x, foldedSetIterable iter X.env x = pure x := by intro _; rfl)
    (hf : X.fn y = true ∨ X.env.scope.names.lookup y = some .local := by first | exact .inl rfl | exact .inr rfl | assumption) :
    PS X (.Assign [.Name y py] (.ListComp elt [⟨.Name x px, iter, [], 0⟩] scope pos) spos) (tAsg (tLC wi fr te) (gName i)) := by
  intro pins s σ H D I h
  rw [exec_Assign_Name_used _ _ _ _ hsw]
  refine wpAny_bind (wpAny_standAt (wpAny_bind ?_))
  show wpAny _ _ (do let _ ← comprehension (.ListComp elt [⟨.Name x px, iter, [], 0⟩] scope pos) scope X.env _ (newList []) false (eval iter X.env) (some (assign (.Name y py) X.env))) _ _ s
  refine wpAny_bind (wpAny_mono (wpAny_comprehension_free (use := some (assign (.Name y py) X.env)) (Q := fun _ s' => SP X pins D .next s') rfl hs O.clos O.kind O.names
    (thn (hi pins s σ H _ I h) fun v s1 h1 => thn h1 fun itv s2 h2 => ?_)) (fun _ s' hq => wpAny_pure (wpAny_pure hq)) fun _ _ e => e)
  obtain ⟨it, fp, tn, J, H2, rfl, I2, T, st2, f2, q⟩ := h2
  refine comp_run (RR := fun acc C => compPost (model X.prog X.w) X.A X.xe (some (assign (.Name y py) X.env)) (fun _ s' => SP X pins D .next s') acc C) (Q := fun v H1 => gName i v σ H1 D.nx) O he I2 T st2 f2 q ?_
  intro D' C H' s' hDC hC hns hCn I' q'
  obtain ⟨m, hn⟩ := hns
  obtain ⟨g0, g1, g2, g3, g4, g5⟩ := I2.fpOk hC hCn
  show wpAny _ _ (assign (.Name y py) X.env (.ref D')) _ _ _
  refine wpAny_assign_Name (store_ok2 I' hN hiN hy (v := .ref D') rfl (fun s3 I3 hch => ?_) hf)
  obtain ⟨a, sb, ha⟩ := hch
  have hCa : C ≠ a := by
    rcases ha with z | z
    · rw [z]; exact g1
    · exact fun e => g4 y a z e.symm
  refine ⟨m, hn.sameBut sb hCa, fun h'' hs'' => ⟨_, H', I3.turned (t' := s3.toks) (fun b o hb e => hs''.extBut b o hb e) g0 g1 g3 g4 g5, q'⟩⟩
end

theorem lc_list {K : PySem.W.Frag} {te : TE} {σc : List (Option V)} {a : Addr} {xs : List V} {H : Hp} {R : Addr → Hp → Prop} (f : V → V) (hS : SqL K H a xs) (hz : xs.length ≤ 1000)
    (ht : ∀ (y : V) (v0 : Option V) (H2 : Hp) (Q2 : VK), y ∈ xs → Same H H2 → Q2 (f y) H2 → te (some y :: σc) H2 Q2) (hq : ∀ (D : Addr) (H' : Hp), H D = none → Same H H' → H' D = some (.lst (xs.map f)) → R D H') :
    ∀ D, H D = none → ∃ W : Nat → Nat → St → List V → Hp → Prop, (∃ m, W 0 m (none :: σc) [] (upd H D (.lst []))) ∧
      ∀ i m σ2 acc H2, W i m σ2 acc H2 → H2 D = some (.lst acc) ∧ (((Itl K a).stop i H2 ∧ R D H2) ∨ ((Itl K a).go i H2 ∧ ∀ y H3, (Itl K a).yld i H2 y H3 → te (σ2.set 0 (some y)) H3 fun v H4 =>
        H4 D = some (.lst acc) ∧ acc.length < sizeLine ∧ ∃ m', m' < m ∧ W (i + 1) m' (σ2.set 0 (some y)) (acc ++ [v]) (upd H4 D (.lst (acc ++ [v]))))) := by
  intro D hD
  refine ⟨fun i m σ2 acc H2 => m = xs.length - i ∧ i ≤ xs.length ∧ (∃ v0, σ2 = v0 :: σc) ∧ acc = (xs.take i).map f ∧ Same H H2 ∧ H2 D = some (.lst acc), ⟨xs.length, by simp, Nat.zero_le _, ⟨none, rfl⟩, by simp, same_new hD _, upd_same⟩, ?_⟩
  rintro i m σ2 acc H2 ⟨rfl, hi, ⟨v0, rfl⟩, rfl, s2, hd⟩
  refine ⟨hd, ?_⟩
  have q := s2.seq hS
  by_cases hlt : i < xs.length
  · refine .inr ⟨⟨xs, xs[i], q, by simp [hlt]⟩, fun y H3 hy => ?_⟩
    obtain ⟨e, hy⟩ := hy
    subst e
    have hy' := hy xs q
    rw [List.getElem?_eq_getElem hlt] at hy'
    have hy2 : xs[i] = y := Option.some.inj hy'
    subst hy2
    refine ht xs[i] v0 H3 _ (List.getElem_mem hlt) s2 ⟨hd, ?_, xs.length - (i + 1), by omega, rfl, hlt, ⟨_, rfl⟩, ?_, fun b o e => ?_, upd_same⟩
    · rw [List.length_map, List.length_take]
      exact small1000 (by omega)
    · rw [List.take_succ_eq_append_getElem hlt, List.map_append]
      all_goals rfl
    · rw [upd_ne (ne_of_none e hD)]
      exact s2 _ _ e
  · have e : i = xs.length := by omega
    subst e
    refine .inl ⟨⟨xs, q, Nat.le_refl _⟩, ?_⟩
    rw [List.take_length] at hd
    exact hq D H2 hD s2 hd

theorem lc_range {te : TE} {σc : List (Option V)} {lo : Int} {n : Nat} {H : Hp} {R : Addr → Hp → Prop} (f : Nat → V) (hz : n ≤ 1000)
    (ht : ∀ (i : Nat) (v0 : Option V) (H2 : Hp) (Q2 : VK), i < n → Same H H2 → Q2 (f i) H2 → te (some (.int (lo + i)) :: σc) H2 Q2) (hq : ∀ (D : Addr) (H' : Hp), H D = none → Same H H' → H' D = some (.lst ((List.range n).map f)) → R D H') :
    ∀ D, H D = none → ∃ W : Nat → Nat → St → List V → Hp → Prop, (∃ m, W 0 m (none :: σc) [] (upd H D (.lst []))) ∧
      ∀ i m σ2 acc H2, W i m σ2 acc H2 → H2 D = some (.lst acc) ∧ (((Itr lo n).stop i H2 ∧ R D H2) ∨ ((Itr lo n).go i H2 ∧ ∀ y H3, (Itr lo n).yld i H2 y H3 → te (σ2.set 0 (some y)) H3 fun v H4 =>
        H4 D = some (.lst acc) ∧ acc.length < sizeLine ∧ ∃ m', m' < m ∧ W (i + 1) m' (σ2.set 0 (some y)) (acc ++ [v]) (upd H4 D (.lst (acc ++ [v]))))) := by
  intro D hD
  refine ⟨fun i m σ2 acc H2 => m = n - i ∧ i ≤ n ∧ (∃ v0, σ2 = v0 :: σc) ∧ acc = (List.range i).map f ∧ Same H H2 ∧ H2 D = some (.lst acc), ⟨n, by simp, Nat.zero_le _, ⟨none, rfl⟩, by simp, same_new hD _, upd_same⟩, ?_⟩
  rintro i m σ2 acc H2 ⟨rfl, hi, ⟨v0, rfl⟩, rfl, s2, hd⟩
  refine ⟨hd, ?_⟩
  by_cases hlt : i < n
  · refine .inr ⟨hlt, fun y H3 hy => ?_⟩
    obtain ⟨e, hy⟩ := hy
    subst e hy
    refine ht i v0 H3 _ hlt s2 ⟨hd, ?_, n - (i + 1), by omega, rfl, hlt, ⟨_, rfl⟩, ?_, fun b o e => ?_, upd_same⟩
    · rw [List.length_map, List.length_range]
      exact small1000 (by omega)
    · rw [List.range_succ, List.map_append]
      all_goals rfl
    · rw [upd_ne (ne_of_none e hD)]
      exact s2 _ _ e
  · have e : i = n := by omega
    subst e
    exact .inl ⟨Nat.le_refl _, hq D H2 hD s2 hd⟩
end L2
namespace L2
open PySem
end L2


namespace L2
open PySem PySem.Spec PyProof.Rows
theorem vals_of_ints : ∀ {us : List Value} {ns : List Int}, IntsAre us ns → Vals (ns.map V.int) us
  | _, _, .nil => .nil
  | _, _, .cons _ t r => .cons ⟨t, rfl⟩ (vals_of_ints r)
section
variable {X : Cx}
theorem call_sorted : CallR X (.builtin "sorted") (fun xs H Q => ∃ (p : Addr) (ns : List Int), xs = [.ref p] ∧ SqL X.K H p (ns.map V.int) ∧ ns.length < 64 ∧
    ∀ (l : Addr) (ms : List Int), H l = none → ms.Perm ns → ms.Pairwise (· ≤ ·) → Q (.ref l) (upd H l (IL ms))) := by
  intro pins s σ H xs us Q I r h
  obtain ⟨p, ns, rfl, hq, h64, q⟩ := h
  obtain ⟨u, rfl, rx⟩ := vals1 r
  cases rx
  obtain ⟨its, r', pl, hz⟩ := I.list hq
  have hl := r'.length
  rw [List.length_map] at hl
  refine sorted_ints pl.isList (intsAre_of r') (by omega) fun out ms a1 a2 a3 => ?_
  obtain ⟨e, he⟩ := sortedAll_at s.heap its out
  have hn : H (s.heap.objs.size + 1) = none := I.hok.fresh (Nat.le_succ _)
  have hm : (ms.map V.int).length ≤ sizeLine := by rw [List.length_map, a2.length_eq]; exact Nat.le_of_lt (small1000 (by omega))
  exact ⟨.ref (s.heap.objs.size + 1), _, I.laid (o := IL ms) (t' := s.toks) (fun _ _ => sortedAll_old) (Nat.le_succ _) (show ObjOk X.prog X.w _ _ _ (.lst (ms.map V.int)) from ⟨hm, out.toList, e, vals_of_ints a1, by simpa [seqObj] using he⟩), rfl, q _ ms hn a2 a3⟩

noncomputable def Ite (K : PySem.W.Frag) (a : Addr) : It :=
  ⟨fun i H => ∃ xs x, SqL K H a xs ∧ xs[i]? = some x, fun i H y H' => ∃ p, H p = none ∧ y = .ref p ∧ ∀ xs, SqL K H a xs → ∃ x, xs[i]? = some x ∧ H' = upd H p (.tup [.int i, x]), fun i H => ∃ xs, SqL K H a xs ∧ xs.length ≤ i⟩
theorem turn_enum {P : Program} {w : World} {K : PySem.W.Frag} {elts : List Expr} {x1 : Nat} {tpos : Pos} (a e it : Addr) (hne : e ≠ it) :
    Turn P w K (.Tuple elts x1 tpos) (Ite K a) [e, it] e (fun i h => (∃ old, IsEnum h e it i old) ∧ h.IsListIter it a i) where
  mem := by simp
  obj := fun i h st b hb => by
    obtain ⟨⟨old, s1⟩, o, e2, c, d⟩ := st
    rcases List.mem_cons.mp hb with rfl | hb
    · exact ⟨_, s1, fun v z => by
        have z' : Data.fields _ = Data.cell v := z
        cases z'⟩
    · have : b = it := by simpa using hb
      subst this
      exact ⟨o, e2, fun v z => by rw [d] at z; cases z⟩
  keep := fun i h h' st k => ⟨let ⟨old, s1⟩ := st.1; ⟨old, k e (by simp) _ s1⟩, st.2.at fun o q => k it (by simp) o q⟩
  item := by
    intro X hP hw hK hc i pins s σ H E I hf st hg
    subst hP hw hK
    obtain ⟨xs, x, hq, hx⟩ := hg
    obtain ⟨⟨old, se⟩, sl⟩ := st
    obtain ⟨its, rv, p, hz⟩ := I.list hq
    obtain ⟨u, hu, ru⟩ := rv.get hx
    obtain ⟨f0, f1, f2, f3, f4, f5⟩ := hf e (by simp)
    obtain ⟨g0, g1, g2, g3, g4, g5⟩ := hf it (by simp)
    refine wpAny_pyNext_enum_item se sl p.isList (x := u) (by simpa using hu) hne fun h' heo hit' ht' hsz kk => ⟨_, rfl, ?_⟩
    refine wpAny_letOwnedTupleGo_enum heo fun h2 he2 sb2 => ?_
    have hnp : H s.heap.objs.size = none := I.hok.fresh (Nat.le_refl _)
    have hpe : s.heap.objs.size ≠ e := Nat.ne_of_gt (Heap.lt_size se)
    have kk2 : ∀ b o, b ≠ e → b ≠ it → s.heap.get? b = some o → h2.get? b = some o := fun b o h1 h2' q => sb2.extBut b o h1 (kk b o h1 h2' q)
    have ht2 : h2.get? s.heap.objs.size = some { cls := .type "tuple", data := .seq #[.int i s.toks, u] } := sb2.extBut _ _ hpe ht'
    have nit : ∀ b v, H b = some v → b ≠ e ∧ b ≠ it ∧ b ≠ s.heap.objs.size := fun b v q => ⟨fun z => (by rw [z, f0] at q; cases q), fun z => (by rw [z, g0] at q; cases q), ne_of_none q hnp⟩
    have I1 : Inv X pins σ (upd H s.heap.objs.size (.tup [.int i, x])) { s with heap := h2, toks := s.toks + 1 } := by
      refine I.step (g' := s.gens) (d' := s.drawn) (ch := [e, it]) (fun b hb => ?_) (fun b o _ _ hcb q _ => kk2 b o (fun z => hcb (by simp [z])) (fun z => hcb (by simp [z])) q)
        (fun b o _ _ hcb q _ => ⟨o.slots, kk2 b o (fun z => hcb (by simp [z])) (fun z => hcb (by simp [z])) q⟩) (fun b o _ q n => by rw [upd_ne (Nat.ne_of_lt (Heap.lt_size q))]; exact n)
        (fun b o hcb q => ⟨o, kk2 b o (fun z => hcb (by simp [z])) (fun z => hcb (by simp [z])) q⟩) (fun b ys q => by rw [upd_ne (nit b _ q).2.2]; exact q) (fun b o' u' q => by rw [upd_ne (nit b _ q).2.2]; exact q)
        (fun b ps q => ⟨#[], by rw [upd_ne (nit b _ q).2.2, q]; simp⟩) (fun m hm => ?_) (fun b v q => ?_) I.bare
      · rcases List.mem_cons.mp hb with rfl | hb
        · exact ⟨f3, f1, f4, f5⟩
        · have : b = it := by simpa using hb
          subst this
          exact ⟨g3, g1, g4, g5⟩
      · obtain ⟨o, es, ep, ho, r⟩ := hm
        exact ⟨o, es, ep, kk2 _ o (Ne.symm f1) (Ne.symm g1) ho, r⟩
      · by_cases hb : b = s.heap.objs.size
        · subst hb
          rw [upd_same] at q
          cases q
          exact ⟨by show 2 ≤ sizeLine; decide, [.int i s.toks, u], .cons ⟨_, rfl⟩ (.cons ru .nil), ⟨_, ht2, rfl, _, rfl⟩⟩
        · rw [upd_ne hb] at q
          refine (I.hok b v q).stay (fun c v' hc2 q' => ?_) (fun c q' => by rw [upd_ne (nit c _ q').2.2]; exact q') fun c ys q' => by rw [upd_ne (nit c _ q').2.2]; exact q'
          rcases hc2 with z | z
          · subst z; exact kk2 _ _ (nit _ _ q).1 (nit _ _ q).2.1 q'
          · exact kk2 _ _ (nit _ _ z).1 (nit _ _ z).2.1 q'
    refine ⟨.ref s.heap.objs.size, _, I1, rfl, ⟨s.heap.objs.size, hnp, rfl, fun ys hy => ⟨x, by rw [I.list_inj hy hq]; exact hx, rfl⟩⟩, ⟨⟨u, by exact_mod_cast he2⟩, hit'.extBut sb2.extBut (Ne.symm hne)⟩, fun b hb => ?_⟩
    rw [upd_ne ?_]
    · exact (hf b hb).1
    · rcases List.mem_cons.mp hb with rfl | hb
      · exact Ne.symm hpe
      · have : b = it := by simpa using hb
        subst this
        obtain ⟨o, ho, _⟩ := sl
        exact Nat.ne_of_lt (Heap.lt_size ho)
  done := by
    intro X hP hw hK hc i pins s σ H E I hf st hg
    subst hP hw hK
    obtain ⟨xs, hq, hx⟩ := hg
    obtain ⟨⟨old, se⟩, sl⟩ := st
    obtain ⟨its, rv, p, hz⟩ := I.list hq
    obtain ⟨g0, g1, g2, g3, g4, g5⟩ := hf it (by simp)
    have hl := rv.length
    exact wpAny_pyNext_enum_end (I.ok.hd hc) se sl p.isList (by simp; omega) fun h' eb => ⟨rfl, I.turned (t' := s.toks) (fun b o hb q => eb b o hb q) g0 g1 g3 g4 g5⟩
  self := fun A i s Q E st h => by
    obtain ⟨⟨old, se⟩, sl⟩ := st
    exact wpAny_pyIter_enum se h
variable {elts : List Expr} {x1 : Nat} {tpos : Pos}
noncomputable def iEnum (K : PySem.W.Frag) (ta : TA) : TI := fun σ H R => ta σ H fun vs H1 => ∃ a, vs = [.ref a] ∧ (∃ xs, SqL K H1 a xs) ∧ R (Ite K a) H1
theorem pi_enum {l : Expr} {ta : TA} {p pos : Pos} (hg : Gl X "enumerate") (hm : X.mg "enumerate" = none) (ha : PA X [l] ta) (hs : starEach [l] X.env = [(false, eval l X.env)] := by rfl) :
    PI X (.Tuple elts x1 tpos) (.Call (.Name "enumerate" p) [l] [] pos) (iEnum X.K ta) := by
  intro pins s σ H R I h
  refine Call_ (ld_blt I hg hm boot_enumerate (PyProof.Rows.callWith_type1 (thn (ha pos pins s σ H _ I h) fun us s1 ⟨vs, H1, I1, r1, q1⟩ => ?_) hs rfl))
  obtain ⟨a, e, ⟨xs, hq⟩, q⟩ := q1
  subst e
  obtain ⟨u, rfl, rx⟩ := vals1 r1
  cases rx
  obtain ⟨its, rv, pl, hz⟩ := I1.list hq
  refine call_enumerate_list pl.isList fun h' he hit hsz kp => ?_
  refine wpAny_pyIter_enum he ?_
  refine ⟨s1.heap.objs.size + 1, [s1.heap.objs.size + 1, s1.heap.objs.size], _, _, H1, rfl, I1.kept (t' := s1.toks) kp, turn_enum a _ _ (Nat.ne_of_gt (Nat.lt_succ_self _)), ⟨⟨_, he⟩, hit⟩, fun b hb => ?_, q⟩
  rcases List.mem_cons.mp hb with rfl | hb
  · exact I1.fpOk (Nat.le_succ _) (I1.hok.fresh (Nat.le_succ _))
  · have : b = s1.heap.objs.size := by simpa using hb
    subst this
    exact I1.fpOk (Nat.le_refl _) (I1.hok.fresh (Nat.le_refl _))

theorem for_enum {K : PySem.W.Frag} {a : Addr} {xs : List V} {g : TG} {tb : TS} {D : Ends} {σ : St} {H : Hp} (Pv : Nat → St → Hp → Prop) (h0 : Pv 0 σ H) (hl : ∀ i σ H, i ≤ xs.length → Pv i σ H → SqL K H a xs)
    (hs : ∀ i x σ H p, xs[i]? = some x → Pv i σ H → H p = none → g (.ref p) σ (upd H p (.tup [.int i, x])) fun σ2 H2 => tb { D with nx := Pv (i + 1), ct := Pv (i + 1), bk := D.nx } σ2 H2) (hd : ∀ σ H, Pv xs.length σ H → D.nx σ H) :
    ∃ W : Nat → Nat → St → Hp → Prop, (∃ m, W 0 m σ H) ∧ ∀ i m σ H, W i m σ H →
      ((Ite K a).stop i H ∧ D.nx σ H) ∨ ((Ite K a).go i H ∧ ∃ N : St → Hp → Prop, (∀ σ' H', N σ' H' → ∃ m', m' < m ∧ W (i + 1) m' σ' H') ∧ ∀ x H', (Ite K a).yld i H x H' → g x σ H' fun σ2 H2 => tb { D with nx := N, ct := N, bk := D.nx } σ2 H2) := by
  refine ⟨fun i m σ H => m = xs.length - i ∧ i ≤ xs.length ∧ Pv i σ H, ⟨xs.length, by simp, Nat.zero_le _, h0⟩, ?_⟩
  rintro i m σ H ⟨rfl, hi, p⟩
  have q := hl i σ H hi p
  by_cases hlt : i < xs.length
  · refine .inr ⟨⟨xs, xs[i], q, by simp [hlt]⟩, Pv (i + 1), fun σ' H' p' => ⟨xs.length - (i + 1), by omega, rfl, hlt, p'⟩, fun y H' hy => ?_⟩
    obtain ⟨pp, hn, rfl, hy⟩ := hy
    obtain ⟨x, hx, rfl⟩ := hy xs q
    exact hs i x σ H pp hx p hn
  · have e : i = xs.length := by omega
    subst e
    exact .inl ⟨⟨xs, q, Nat.le_refl _⟩, hd σ H p⟩
end
end L2


namespace Zf
open PySem L2

noncomputable def Good (c : List Int) : Prop := c ≠ [] → c.getD (c.length - 1) 0 ≠ 0
inductive SpWhole (vs : List V) (H : Hp) (Q : VK) : Prop
  | mk (n : Int) (h0 : vs = [.int n]) (h1 : Q (.bl true) H) : SpWhole vs H Q
noncomputable def spWhole : Sp := fun vs H Q _ => SpWhole vs H Q
inductive SpAt (K : PySem.W.Frag) (vs : List V) (H : Hp) (Q : VK) : Prop
  | mk (a : Addr) (ns : List Int) (k : Int) (h0 : vs = [.ref a, .int k]) (h1 : SqL K H a (ns.map V.int)) (h2 : 0 ≤ k) (h3 : Q (.int (ns.getD k.toNat 0)) H) : SpAt K vs H Q
noncomputable def spAt (K : PySem.W.Frag) : Sp := fun vs H Q _ => SpAt K vs H Q
inductive SpAny (vs : List V) (H : Hp) (Q : VK) : Prop
  | mk (c : Int) (h0 : vs = [.int c]) (h1 : ∀ (H' : Hp) (v : Int), Same H H' → Bd 199 v → Q (.int v) H') : SpAny vs H Q
noncomputable def spAny : Sp := fun vs H Q _ => SpAny vs H Q
inductive SpPlace (vs : List V) (H : Hp) (Q : VK) : Prop
  | mk (a b : Int) (h0 : vs = [.int a, .int b]) (h1 : ∀ (r : Addr) (H' : Hp) (p q : Int), Same H H' → H r = none → H' r = some (.tup [.int p, .int q]) → Bd 200 p → Bd 200 q → 0 < q → Q (.ref r) H') : SpPlace vs H Q
noncomputable def spPlace : Sp := fun vs H Q _ => SpPlace vs H Q
inductive SpAre (K : PySem.W.Frag) (vs : List V) (H : Hp) (Q : VK) : Prop
  | mk (a d : Addr) (xs : List Int) (h0 : vs = [.ref a, .ref d]) (h1 : SqL K H a (xs.map V.int)) (h2 : SqL K H d (xs.map V.int)) (h3 : xs.length ≤ 1000) (h4 : Q (.bl true) H) : SpAre K vs H Q
noncomputable def spAre (K : PySem.W.Frag) : Sp := fun vs H Q _ => SpAre K vs H Q
inductive SpCheckCurve (K : PySem.W.Frag) (vs : List V) (H : Hp) (Q : VK) : Prop
  | mk (a : Addr) (c : List Int) (h0 : vs = [.ref a]) (h1 : SqL K H a (c.map V.int)) (h2 : Good c) (h3 : Q .non H) : SpCheckCurve K vs H Q
noncomputable def spCheckCurve (K : PySem.W.Frag) : Sp := fun vs H Q _ => SpCheckCurve K vs H Q
inductive SpCheckPlace (K : PySem.W.Frag) (vs : List V) (H : Hp) (Q : VK) : Prop
  | mk (d : Addr) (p q : Int) (h0 : vs = [.ref d]) (h1 : SqT K H d [.int p, .int q]) (h2 : 0 < q) (h3 : Q .non H) : SpCheckPlace K vs H Q
noncomputable def spCheckPlace (K : PySem.W.Frag) : Sp := fun vs H Q _ => SpCheckPlace K vs H Q
inductive SpSignOf (vs : List V) (H : Hp) (Q : VK) : Prop
  | mk (n : Int) (h0 : vs = [.int n]) (h1 : Q (.int (sgn n)) H) : SpSignOf vs H Q
noncomputable def spSignOf : Sp := fun vs H Q _ => SpSignOf vs H Q
inductive SpLaw (K : PySem.W.Frag) (vs : List V) (H : Hp) (Q : VK) : Prop
  | mk (a : Addr) (ns : List Int) (h0 : vs = [.ref a]) (h1 : SqL K H a (ns.map V.int)) (h2 : ns.length ≤ 63) (h3 : ∀ H', Q (.bl true) H') : SpLaw K vs H Q
noncomputable def spLaw (K : PySem.W.Frag) : Sp := fun vs H Q _ => SpLaw K vs H Q
theorem divLit {i j : Int} (h : 0 < j) (h2 : j < 1073741824) : CDivK i j := by
  refine ⟨h, Bd.log (n := 30) ?_ (by omega) (by decide)⟩
  unfold Bd
  omega
theorem small {n : Nat} (h : n ≤ 1000) : n ≤ sizeLine := Nat.le_of_lt (small1000 h)
theorem gmem {c : List Int} {i : Nat} (h : i < c.length) : c.getD i 0 ∈ c := by
  rw [List.getD_eq_getElem?_getD, List.getElem?_eq_getElem h]
  exact List.getElem_mem h
theorem getD_out {c : List Int} {i : Nat} (h : c.length ≤ i) : c.getD i 0 = 0 := by
  rw [List.getD_eq_getElem?_getD, List.getElem?_eq_none h]
  rfl
theorem map_snoc (c : List Int) (x : Int) : c.map V.int ++ [V.int x] = (c ++ [x]).map V.int := by rw [List.map_append]; rfl
theorem map_set (c : List Int) (i : Nat) (x : Int) : (c.map V.int).set i (V.int x) = (c.set i x).map V.int := by rw [List.map_set]
end Zf
namespace Zf
open PySem L2
theorem cut_ints (ns : List Int) {lo hi : Int} {m : Nat} (h0 : 0 ≤ lo) (h1 : lo ≤ hi) (h2 : hi - lo ≤ m) : ∃ cs : List Int, cutV (ns.map V.int) (some lo) (some hi) = cs.map V.int ∧ cs.length ≤ m := by
  obtain ⟨i, rfl⟩ : ∃ i : Nat, lo = i := ⟨lo.toNat, by omega⟩
  obtain ⟨j, rfl⟩ : ∃ j : Nat, hi = j := ⟨hi.toNat, by omega⟩
  unfold cutV
  rw [HT.sIx_nat, HT.sIx_nat, ← List.map_drop, ← List.map_take]
  exact ⟨_, rfl, by rw [List.length_take, List.length_drop, List.length_map]; omega⟩
end Zf


namespace Zf
open PySem L2
inductive SpGib (vs : List V) (H : Hp) (Q : VK) : Prop
  | mk (a b : Int) (h0 : vs = [.int a, .int b]) (h1 : Q (.int (Int.gcd a b)) H) : SpGib vs H Q
noncomputable def spGib : Sp := fun vs H Q _ => SpGib vs H Q
inductive SpInBoth (vs : List V) (H : Hp) (Q : VK) : Prop
  | mk (a b : Int) (h0 : vs = [.int a, .int b]) (h1 : ∀ H', Same H H' → Q (.int (Int.gcd a b)) H') : SpInBoth vs H Q
noncomputable def spInBoth : Sp := fun vs H Q _ => SpInBoth vs H Q
inductive SpSlope (K : PySem.W.Frag) (vs : List V) (H : Hp) (Q : VK) : Prop
  | mk (a : Addr) (c : List Int) (h0 : vs = [.ref a]) (h1 : SqL K H a (c.map V.int)) (h2 : Good c) (h3 : c.length ≤ 1000) (h4 : ∀ (r : Addr) (H' : Hp), H r = none → Same H H' → H' r = some (IL (slopeL c)) → Q (.ref r) H') : SpSlope K vs H Q
noncomputable def spSlope (K : PySem.W.Frag) : Sp := fun vs H Q _ => SpSlope K vs H Q
inductive SpProduct (K : PySem.W.Frag) (vs : List V) (H : Hp) (Q : VK) : Prop
  | mk (a b : Addr) (c o : List Int) (h0 : vs = [.ref a, .ref b]) (h1 : SqL K H a (c.map V.int)) (h2 : SqL K H b (o.map V.int)) (h3 : c ≠ []) (h4 : o ≠ []) (h5 : c.length + o.length ≤ 1000) (h6 : (∀ x ∈ c, Bd 8000 x)) (h7 : (∀ x ∈ o, Bd 8000 x)) (h8 : ∀ (r : Addr) (H' : Hp), H r = none → Same H H' → H' r = some (IL (mulL c o)) → Q (.ref r) H') : SpProduct K vs H Q
noncomputable def spProduct (K : PySem.W.Frag) : Sp := fun vs H Q _ => SpProduct K vs H Q
theorem abs_nn (a : Int) : 0 ≤ (if a < 0 then -a else a) := by split <;> omega
theorem gcd_abs (a b : Int) : Int.gcd (if a < 0 then -a else a) (if b < 0 then -b else b) = Int.gcd a b := by
  have e : ∀ x : Int, (if x < 0 then -x else x).natAbs = x.natAbs := fun x => by split <;> omega
  show Nat.gcd _ _ = Nat.gcd _ _
  rw [e, e]
theorem perm_two {x y u v : Int} (h : [x, y].Perm [u, v]) : (x = u ∧ y = v) ∨ (x = v ∧ y = u) := by
  have hx : x ∈ [u, v] := h.mem_iff.mp (by simp)
  rcases List.mem_cons.mp hx with rfl | hx
  · exact .inl ⟨rfl, by simpa using h.cons_inv⟩
  · have : x = v := by simpa using hx
    subst this
    have h2 : [x, y].Perm [x, u] := h.trans (List.Perm.swap x u [])
    exact .inr ⟨rfl, by simpa using h2.cons_inv⟩
theorem good_ct {c : List Int} (h : Good c) (hne : c ≠ []) : 0 < ct c := by
  have hl : c.length - 1 < c.length := by have := List.length_pos_iff.mpr hne; omega
  exact ct_pos (x := c.getD (c.length - 1) 0) (gmem hl) (h hne)

noncomputable def onInt (f : Int → Int) : V → V
  | .int n => .int (f n)
  | v => v
theorem map_onInt (f : Int → Int) (c : List Int) : (c.map V.int).map (onInt f) = (c.map f).map V.int := by
  rw [List.map_map, List.map_map]
  rfl
end Zf


namespace Zf
open PySem L2 PS
inductive SpCheckNN (K : PySem.W.Frag) (vs : List V) (H : Hp) (Q : VK) : Prop
  | mk (a : Addr) (c : List Int) (h0 : vs = [.ref a]) (h1 : SqL K H a (c.map V.int)) (h2 : c ≠ []) (h3 : Q .non H) : SpCheckNN K vs H Q
noncomputable def spCheckNN (K : PySem.W.Frag) : Sp := fun vs H Q _ => SpCheckNN K vs H Q
inductive SpTrimmed (K : PySem.W.Frag) (vs : List V) (H : Hp) (Q : VK) : Prop
  | mk (a : Addr) (xs : List Int) (h0 : vs = [.ref a]) (h1 : SqL K H a (xs.map V.int)) (h2 : xs.length ≤ 1000) (h3 : ∀ (r : Addr) (H' : Hp) (e : Nat), H r = none → Same H H' → Trim xs e → H' r = some (IL (xs.take e)) → Q (.ref r) H') : SpTrimmed K vs H Q
noncomputable def spTrimmed (K : PySem.W.Frag) : Sp := fun vs H Q _ => SpTrimmed K vs H Q

theorem last_off {c o : List Int} {l k : Int} (ho : o ≠ []) (hlen : o.length ≤ c.length) (h : l * c.getD (c.length - 1) 0 = k * o.getD (o.length - 1) 0) {e : Nat} (ht : Trim (offL (c.map (l * ·)) o k (c.length - o.length) o.length) e) : e < c.length := by
  have o1 := List.length_pos_iff.mpr ho
  have h1 := ht.1
  rw [off_length, List.length_map] at h1
  rcases Nat.lt_or_ge e c.length with z | z
  · exact z
  have e1 : e = c.length := by omega
  have h2 := ht.2.2 (by omega)
  rw [off_at _ _ _ _ _ _ (by rw [List.length_map]; omega), e1, if_pos ⟨by omega, by omega⟩] at h2
  have g1 : (c.map (l * ·)).getD (c.length - 1) 0 = l * c.getD (c.length - 1) 0 := by simp [List.getD_eq_getElem?_getD, show c.length - 1 < c.length by omega]
  rw [g1, show c.length - 1 - (c.length - o.length) = o.length - 1 by omega, h] at h2
  exact absurd (Int.sub_self _) h2
theorem bd_abs {n : Nat} {x : Int} (h : Bd n x) : Bd n (if x < 0 then -x else x) := by
  split
  · exact h.neg
  · exact h
theorem C_one : C 1 = (1 : PS) := rfl
theorem mul_bd' {m n : Nat} {l : Int} {c : List Int} (hl : Bd m l) (hc : ∀ x ∈ c, Bd n x) : ∀ x ∈ c.map (l * ·), Bd (m + n) x := by
  intro x hx
  obtain ⟨y, hy, rfl⟩ := List.mem_map.mp hx
  exact hl.mul (hc y hy)
theorem cut_take {xs : List Int} {e : Nat} (h : e ≤ xs.length) : cutV (xs.map V.int) none (some (e : Int)) = (xs.take e).map V.int := by
  unfold cutV
  rw [HT.sIx_nat, HT.sIx_none, List.drop_zero, List.map_take, List.length_map]
  congr 1
  omega
end Zf


namespace L2
open PySem PySem.Spec PyProof.Rows
theorem law_callS {P : Program} {w : World} {K : PySem.W.Frag} {mg mb : Str → Option Value} {CX : CXT} {k : Nat} {fa a : Addr} {fd : FuncData} {x : Str} {sp : Sp} {s₁ : Shared} {vs : List Value} {ns : List Int}
    (KX : K.In s₁.heap) (hns : s₁.heap.Ns mainGlobals mg) (hb : s₁.heap.Ns builtinsNs mb) (hbb : ∀ x : Str, x ≠ "__name__" → mb x = bootBuiltins x) (hlim : s₁.heap.NoLimit) (hsee : s₁.heap.NoSeer) (hg : s₁.gens = #[])
    (ha : s₁.heap.get? a = some { cls := .type "list", data := .seq vs.toArray }) (hi : IntsAre vs ns) (hl : ns.length ≤ sizeLine) (hr : Room k callerA)
    (F : ∀ base : Heap, K.In base → base.Ns mainGlobals mg → base.NoSeer → FnOk P w K mg base CX k fa fd [x] sp) (hbind : ∀ (s : Shared) (u : Value), BindsTo s fd ⟨[u], []⟩ [(x, u)])
    (hsp : ∀ H : Hp, Only H → SqL K H a (ns.map V.int) → sp [.ref a] H (fun v _ => v = .bl true) fun _ _ _ => False)
    (hCX : ∀ H e s', CX [] H s₁ (fun _ _ _ => False) e s' → False) :
    codeAny (model P w) callerA (.call (.ref fa) ⟨[.ref a], []⟩) (fun r s' => r = .ok (.ret (.bool true)) ∧ OldK s₁.heap s'.heap ∧ s'.os = s₁.os ∧ AllBare s'.gens) s₁ := by
  have rv := vals_ints hi
  have lenV := hi.length

  have core : ∀ H : Hp, Only H → SqL K H a (ns.map V.int) → HOk P w H s₁.heap → (∀ b, H b ≠ none → b = a) → (H a ≠ none → K.lookup a = none) →
      codeAny (model P w) callerA (.call (.ref fa) ⟨[.ref a], []⟩) (fun r s' => r = .ok (.ret (.bool true)) ∧ OldK s₁.heap s'.heap ∧ s'.os = s₁.os ∧ AllBare s'.gens) s₁ := by
    intro H hO hS hok hA hK
    have base_of : ∀ {b : Addr} {o : Obj}, s₁.heap.get? b = some o → H b = none → (hidT s₁.heap H).get? b = some o := fun e n => hidT_get e n
    have noA : ∀ {b : Addr} {o : Obj} {es : Array DictEntry} {ep : Nat}, s₁.heap.get? b = some o → o.data = .dict es ep → H b = none := fun {b o es ep} e d => by
      cases q : H b with
      | none => rfl
      | some u =>
        have e' : b = a := hA b (by rw [q]; simp)
        subst e'
        rw [ha] at e; cases e
        have d' : Data.seq vs.toArray _ = Data.dict es ep := d
        cases d'
    have nsK : ∀ {b : Addr} {m : Str → Option Value}, s₁.heap.Ns b m → (hidT s₁.heap H).Ns b m := fun {b m} ⟨o, es, ep, e, d, r⟩ => ⟨o, es, ep, base_of e (noA e d), d, r⟩
    have hKb : K.In (hidT s₁.heap H) := fun b o e => base_of (KX b o e) (by
      cases q : H b with
      | none => rfl
      | some u =>
        have e' : b = a := hA b (by rw [q]; simp)
        subst e'
        rw [hK (by rw [q]; simp)] at e; cases e)
    have hM : Mod K mg (hidT s₁.heap H) := ⟨hKb, nsK hns, ⟨mb, nsK hb, hbb⟩, let ⟨mc, h1, h2⟩ := hlim; ⟨mc, nsK h1, h2⟩⟩
    have e0 : Env0 P w K mg (hidT s₁.heap H) callerA [] s₁ H := ⟨rfl, hM, fun b o e => of_hidT e, Nat.le_of_eq (hidT_size _ _), trivial, fun b hb => absurd (show b ∈ ([] : List Addr) from hb) (by simp), hok, .of_eq hg⟩
    have hSee : (hidT s₁.heap H).NoSeer := ⟨let ⟨mc, x1, x2⟩ := hsee.statics; ⟨mc, nsK x1, x2⟩, let ⟨mc, x1, x2⟩ := hsee.mods; ⟨mc, nsK x1, x2⟩, let ⟨mc, x1, x2⟩ := hsee.imp; ⟨mc, nsK x1, x2⟩,
      let ⟨mg', bm, ob, x1, x2, x3, x4, x5⟩ := hsee.main; ⟨mg', bm, ob, nsK x1, x2, base_of x3 (by
        cases q : H bm with
        | none => rfl
        | some u =>
          have e' : bm = a := hA bm (by rw [q]; simp)
          subst e'
          rw [ha] at x3
          cases x3
          have x4' : Value.type "list" = Value.type "module" := x4
          exact absurd x4' (by decide)), x4, x5⟩⟩
    refine codeAny_mono ((F _ hKb (nsK hns) hSee).run callerA [] s₁ H ⟨[.ref a], []⟩ [.ref a] [.ref a] _ _ hr e0 (hbind s₁ (.ref a)) (.cons rfl .nil) (hsp H hO hS)) fun r s' h => ?_
    cases r with
    | error e => exact (hCX H e s' h).elim
    | ok fl =>
      cases fl with
      | next => exact False.elim h
      | brk => exact False.elim h
      | cont => exact False.elim h
      | ret u =>
        obtain ⟨v, H', os, bare, un, hok', r', q⟩ := h
        have q' : v = .bl true := q
        subst q'
        obtain rfl : u = Value.bool true := r'
        refine ⟨rfl, OldK.of_keep fun b o e => ?_, os, bare⟩
        cases q : H b with
        | none => exact un.keep b o e q (by intro z; exact absurd (show b ∈ ([] : List Addr) from z) (by simp)) (by simp)
        | some u =>
          rcases hO b with z | ⟨ob, xs, z⟩
          · rw [q] at z; cases z
          · have z2 := un.frzs b ob _ z
            obtain ⟨e1, _⟩ := hok b _ z
            obtain ⟨e2, _⟩ := hok' b _ z2
            rw [e] at e1; cases e1
            exact e2
  cases hk : K.lookup a with
  | some o =>

    have e := KX a o hk
    rw [ha] at e
    cases e
    refine core (fun _ => none) (fun _ => .inl rfl) (.inr ⟨_, vs.toArray, _, hk, rfl, rfl, rfl, by rw [List.size_toArray, lenV]; exact hl, by simpa using rv⟩) (fun b u z => by have z' : (none : Option HO) = some u := z; cases z') (fun b z => absurd rfl z) fun z => absurd rfl z
  | none =>
    refine core (fun b => if b = a then some (.frz { cls := .type "list", data := .seq vs.toArray } (.lst (ns.map V.int))) else none) (fun b => ?_) (.inl (.inr ⟨{ cls := .type "list", data := .seq vs.toArray }, if_pos rfl⟩)) (fun b u z => ?_) (fun b z => ?_) fun _ => hk
    · by_cases hb : b = a
      · exact .inr ⟨_, _, if_pos hb⟩
      · exact .inl (if_neg hb)
    · by_cases hb : b = a
      · have z' := (if_pos hb).symm.trans z
        cases z'
        subst hb
        exact ⟨ha, by rw [List.length_map]; exact hl, vs, _, rv, ha⟩
      · have z' := (if_neg hb).symm.trans z
        cases z'
    · by_cases hb : b = a
      · exact hb
      · exact absurd (if_neg hb) z
theorem walk_ofS {l : PySem.W.OpenLaw} {n k : Nat} {q : Program} {loose : List Str} {XP : (Str → Option Value) → Heap → Prop} {YP : World → Heap → Prop} {d : DefRec} {K : Params → PySem.W.Frag} {CX : World → CXT} {sp : World → Sp} {x : Str}
    (hn : l.most = some n) (hn2 : n ≤ sizeLine) (himp : importsNone q = true) (hdf : d.params.defaults = []) (hr : Room k callerA)
    (hY : ∀ (w : World) (h : Heap), YP w h → (K w.params).In h)
    (F : ∀ (w : World) (mg : Str → Option Value) (fa : Addr) (h : Heap), (K w.params).In h → h.Ns mainGlobals mg → mg d.name = some (.ref fa) →
      ∃ fd : FuncData, (∀ (s : Shared) (u : Value), BindsTo s fd ⟨[u], []⟩ [(x, u)]) ∧
        ∀ base : Heap, (K w.params).In base → base.Ns mainGlobals mg → base.NoSeer → FnOk l.prog w (K w.params) mg base (CX w) k fa fd [x] (sp w))
    (hsp : ∀ (w : World) (H : Hp) (a : Addr) (ns : List Int), ns.length ≤ n → Only H → SqL (K w.params) H a (ns.map V.int) → sp w [.ref a] H (fun v _ => v = .bl true) fun _ _ _ => False)
    (hCX : ∀ (w : World) (H : Hp) (s : Shared) (e : Value) (s' : Shared), CX w [] H s (fun _ _ _ => False) e s' → False) :
    PySem.W.WalkO q loose XP YP l.row.toRowW d [] (fun f vs => PySem.call f vs) := by
  refine Att.attach_call hn hdf fun w s₀ s₁ mg mb fa o pm cd doc a vs ns G Y ho hd hcd hmg hobj hints hlen hg => ?_
  have KX := hY w _ Y
  obtain ⟨fd, hb, hF⟩ := F w mg fa _ KX G.T.g hmg
  exact law_callS KX G.T.g G.T.b G.T.builtins G.T.nolimit (G.T.seer himp) hg hobj hints (Nat.le_trans hlen hn2) hr hF hb (fun H hO hS => hsp w H a ns hlen hO hS) fun H e s' => hCX w H s₁ e s'

theorem op_fdivS {X : Cx} {env : Env} {l : List Env} (hN : X.base.NoSeer) (ht : X.prog.given.tree = none) (hst : X.stack = env :: l) (hgen : env.scope.isGenerator = false) (hco : env.scope.isCoroutine = false) (hb : env.builtins = builtinsNs) (hg : env.globals = mainGlobals)
    (hd : X.A.depth + 100 < recursionLimit) : OpR X (binaryOp .FloorDiv) (rI (fun _ j => 0 < j) fun i j => .int (i / j)) := by
  intro pins s σ H x y v u Q I rx ry h
  obtain ⟨i, j, rfl, rfl, hj, q⟩ := h
  have hj' : (0 : Int) < j := hj
  obtain ⟨t, rfl⟩ := rx
  obtain ⟨t', rfl⟩ := ry
  have R : PylongRoom (model X.prog X.w) X.A s := PylongRoom.of I.nolimit hd (SeerAt.of (hN.keeps I.bk) ht (by rw [I.ok.frames, hst]) hgen hco hb hg)
  exact floordiv_int (by omega) ⟨.int (i / j), H, I.tok _, ⟨_, by rw [Int.fdiv_eq_ediv_of_nonneg i (by omega)]⟩, q⟩ (.inr R)
end L2
namespace Zf
open PySem
theorem Bd.mulOkS {m n : Nat} {x y : Int} (h : Bd m x) (k : Bd n y) (hm : m + n ≤ 134217728 := by omega) : IntMulOk x y := by
  have e : (2 : Nat) ^ 27 = 134217728 := by decide
  have h1 := h.bits
  have h2 := k.bits
  have h3 : Builtin.Int.intTooBig (Builtin.Int.intBits x + Builtin.Int.intBits y) = false := by
    unfold Builtin.Int.intTooBig bitsLine
    exact decide_eq_false (by omega)
  unfold IntMulOk
  rw [h3]
  simp
end Zf


namespace L2
open PySem PySem.Spec PyProof.Rows

noncomputable def Lists (K : PySem.W.Frag) (H : Hp) (vs : List V) (mss : List (List Int)) : Prop := vs.length = mss.length ∧ ∀ (i : Nat) (v : V) (ms : List Int), vs[i]? = some v → mss[i]? = some ms → ∃ b, v = .ref b ∧ SqL K H b (ms.map V.int)
theorem eqAt_lists {X : Cx} {pins : List (Addr × Obj)} {σ : St} {H : Hp} {s : Shared} {a b : Addr} {ns ms : List Int} {A : Around} (I : Inv X pins σ H s) (ha : SqL X.K H a (ns.map V.int)) (hb : SqL X.K H b (ms.map V.int)) (hu : A.units < cLine) : SeqAt.EqAt A s (.ref b) (.ref a) (decide (ms = ns)) := by
  by_cases hab : b = a
  · subst hab
    have e := I.list_inj ha hb
    have e2 : ns = ms := by
      have := congrArg (List.map fun v => match v with | V.int i => i | _ => 0) e
      simpa [List.map_map, Function.comp_def] using this
    rw [decide_eq_true e2.symm]
    exact SeqAt.EqAt.same _
  · obtain ⟨its, r1, p1, z1⟩ := I.list hb
    obtain ⟨jts, r2, p2, z2⟩ := I.list ha
    have i1 := intsAre_of r1
    have i2 := intsAre_of r2
    have l1 := r1.length
    have l2 := r2.length
    rw [List.length_map] at l1 l2
    refine SeqAt.EqAt.of_refs hab ?_
    by_cases hl : ms.length = ns.length
    · have key := SeqAt.RcAt.lists (A := A) (e := fun j => ms.getD j 0 == ns.getD j 0) p1.isList p2.isList (by simp only [List.size_toArray]; omega) hu (fun j h1 h2 => by
        simp only [List.size_toArray] at h1 h2
        obtain ⟨t1, e1⟩ := intsAre_get i1 j h1 (by omega)
        obtain ⟨t2, e2⟩ := intsAre_get i2 j h2 (by omega)
        simp only [List.getElem_toArray]
        rw [e1, e2]
        have g1 : ms.getD j 0 = ms[j]'(by omega) := by simp [List.getD_eq_getElem?_getD, show j < ms.length by omega]
        have g2 : ns.getD j 0 = ns[j]'(by omega) := by simp [List.getD_eq_getElem?_getD, show j < ns.length by omega]
        show SeqAt.EqAt _ _ _ _ (ms.getD j 0 == ns.getD j 0)
        rw [g1, g2]
        exact SeqAt.EqAt.int_int _ _ _ _)
      have e : ((List.range its.toArray.size).all fun j => ms.getD j 0 == ns.getD j 0) = decide (ms = ns) := by
        rw [List.size_toArray, ← l1]; exact all_eq hl
      rw [e] at key
      exact key
    · rw [decide_eq_false fun z => hl (by rw [z])]
      exact SeqAt.RcAt.lists_lengths p1.isList p2.isList (by simp only [List.size_toArray, bne_iff_ne]; omega) hu
open Classical in
theorem op_notInL {X : Cx} (hu : X.A.units + 1 < cLine) : OpR X (compareOp .NotIn) (fun x y H Q => ∃ (a p : Addr) (ns : List Int) (vs : List V) (mss : List (List Int)), x = .ref a ∧ y = .ref p ∧ SqL X.K H a (ns.map V.int) ∧ SqL X.K H p vs ∧ Lists X.K H vs mss ∧ Q (.bl (decide (ns ∉ mss))) H) := by
  intro pins s σ H x y v u Q I rx ry h
  obtain ⟨a, p, ns, vs, mss, rfl, rfl, ha, hp, hL, q⟩ := h
  cases rx
  cases ry
  obtain ⟨its, r, pl, hz⟩ := I.list hp
  have hlen := r.length

  have item : ∀ (i : Nat) (w : Value), its[i]? = some w → ∃ b ms, w = .ref b ∧ mss[i]? = some ms ∧ SqL X.K H b (ms.map V.int) := fun i w hw => by
    have hi : i < its.length := (List.getElem?_eq_some_iff.mp hw).1
    have hv : vs[i]? = some (vs[i]'(by omega)) := List.getElem?_eq_getElem (by omega)
    have hm : mss[i]? = some (mss[i]'(by have := hL.1; omega)) := List.getElem?_eq_getElem (by have := hL.1; omega)
    obtain ⟨b, e, hb⟩ := hL.2 i _ _ hv hm
    rw [e] at hv
    obtain ⟨w', hw', rw'⟩ := r.get hv
    rw [hw] at hw'
    cases hw'
    cases rw'
    exact ⟨b, _, rfl, hm, hb⟩
  refine SeqAt.notIn_listAt (fun w => decide (∃ b, w = Value.ref b ∧ SqL X.K H b (ns.map V.int))) pl.isList (fun w hw => ?_) ⟨.bl _, H, I, rfl, ?_⟩
  · obtain ⟨i, hi, e⟩ := List.mem_iff_getElem.mp (show w ∈ its by simpa using hw)
    obtain ⟨b, ms, e1, hm, hb⟩ := item i w (by rw [List.getElem?_eq_getElem hi, e])
    subst e1
    have key := eqAt_lists (A := X.A.in1) I ha hb (show X.A.units + 1 < cLine from hu)
    have e2 : decide (∃ b', Value.ref b = Value.ref b' ∧ SqL X.K H b' (ns.map V.int)) = decide (ms = ns) := by
      rw [Bool.eq_iff_iff, decide_eq_true_iff, decide_eq_true_iff]
      constructor
      · rintro ⟨b', e', h'⟩
        cases e'
        have := I.list_inj hb h'
        have e3 := congrArg (List.map fun v => match v with | V.int i => i | _ => 0) this
        simpa [List.map_map, Function.comp_def] using e3
      · rintro rfl
        exact ⟨b, rfl, hb⟩
    rw [e2]
    exact key
  · have e : its.toArray.any (fun w => decide (∃ b, w = Value.ref b ∧ SqL X.K H b (ns.map V.int))) = decide (ns ∈ mss) := by
      rw [show its.toArray.any (fun w => decide (∃ b, w = Value.ref b ∧ SqL X.K H b (ns.map V.int))) = its.any (fun w => decide (∃ b, w = Value.ref b ∧ SqL X.K H b (ns.map V.int))) by simp]
      rw [Bool.eq_iff_iff, List.any_eq_true, decide_eq_true_iff]
      constructor
      · rintro ⟨w, hw, h2⟩
        obtain ⟨b', e', h'⟩ := of_decide_eq_true h2
        obtain ⟨i, hi, e⟩ := List.mem_iff_getElem.mp hw
        obtain ⟨b, ms, e1, hm, hb⟩ := item i w (by rw [List.getElem?_eq_getElem hi, e])
        rw [e1] at e'
        cases e'
        have := I.list_inj hb h'
        have e3 := congrArg (List.map fun v => match v with | V.int i => i | _ => 0) this
        have e4 : ms = ns := by simpa [List.map_map, Function.comp_def] using e3
        rw [← e4]
        exact List.mem_of_getElem? hm
      · intro hm
        obtain ⟨i, hi, e⟩ := List.mem_iff_getElem.mp hm
        have hi2 : i < its.length := by have := hL.1; omega
        obtain ⟨b, ms, e1, hm2, hb⟩ := item i _ (List.getElem?_eq_getElem hi2)
        rw [List.getElem?_eq_getElem hi, e] at hm2
        cases hm2
        exact ⟨_, List.getElem_mem hi2, decide_eq_true ⟨b, e1, hb⟩⟩
    rw [e]
    have e5 : decide (ns ∉ mss) = !decide (ns ∈ mss) := by simp
    rw [e5] at q
    exact q
end L2


namespace Zf
open PySem L2 PS
inductive SpPlainS (K : PySem.W.Frag) (vs : List V) (H : Hp) (Q : VK) : Prop
  | mk (a : Addr) (c : List Int) (h0 : vs = [.ref a]) (h1 : SqL K H a (c.map V.int)) (h2 : Good c) (h3 : c.length ≤ 1000) (h4 : ∀ (r : Addr) (H' : Hp), H r = none → Same H H' → H' r = some (IL (plainL c)) → Q (.ref r) H') : SpPlainS K vs H Q
noncomputable def spPlainS (K : PySem.W.Frag) : Sp := fun vs H Q _ => SpPlainS K vs H Q
inductive SpTakenS (K : PySem.W.Frag) (vs : List V) (H : Hp) (Q : VK) : Prop
  | mk (a b : Addr) (num o : List Int) (k s : Int) (m n : Nat) (h0 : vs = [.ref a, .ref b, .int k, .int s]) (h1 : SqL K H a (num.map V.int)) (h2 : SqL K H b (o.map V.int)) (h3 : 0 ≤ s) (h4 : s.toNat + o.length ≤ num.length) (h5 : num.length ≤ 1000) (h6 : Bd m k) (h7 : (∀ x ∈ o, Bd n x)) (h8 : m + n ≤ 134217728) (h9 : ∀ (r : Addr) (H' : Hp), H r = none → Same H H' → H' r = some (IL (offL num o k s.toNat o.length)) → Q (.ref r) H') : SpTakenS K vs H Q
noncomputable def spTakenS (K : PySem.W.Frag) : Sp := fun vs H Q _ => SpTakenS K vs H Q
inductive SpWithoutS (K : PySem.W.Frag) (vs : List V) (H : Hp) (Q : VK) : Prop
  | mk (a b : Addr) (c o : List Int) (mc no : Nat) (h0 : vs = [.ref a, .ref b]) (h1 : SqL K H a (c.map V.int)) (h2 : SqL K H b (o.map V.int)) (h3 : o ≠ []) (h4 : o.length ≤ c.length) (h5 : c.length ≤ 1000) (h6 : Good o) (h7 : (∀ x ∈ c, Bd mc x)) (h8 : (∀ x ∈ o, Bd no x)) (h9 : mc + no ≤ 134217728) (h10 : ∀ (r : Addr) (H' : Hp) (l k : Int) (e : Nat), H r = none → Same H H' → 0 < l → (∀ n, (∀ x ∈ o, Bd n x) → Bd n l) → (∀ n, (∀ x ∈ c, Bd n x) → Bd n k) → e < c.length → Trim (offL (c.map (l * ·)) o k (c.length - o.length) o.length) e → H' r = some (IL ((offL (c.map (l * ·)) o k (c.length - o.length) o.length).take e)) → Q (.ref r) H') : SpWithoutS K vs H Q
noncomputable def spWithoutS (K : PySem.W.Frag) : Sp := fun vs H Q _ => SpWithoutS K vs H Q
inductive SpLeftS (K : PySem.W.Frag) (vs : List V) (H : Hp) (Q : VK) : Prop
  | mk (a b : Addr) (c o : List Int) (m n : Nat) (h0 : vs = [.ref a, .ref b]) (h1 : SqL K H a (c.map V.int)) (h2 : SqL K H b (o.map V.int)) (h3 : Good c) (h4 : Good o) (h5 : o ≠ []) (h6 : c.length ≤ 1000) (h7 : o.length ≤ 1000) (h8 : (∀ x ∈ c, Bd m x)) (h9 : (∀ x ∈ o, Bd n x)) (h10 : m + (n + 1) * c.length + n ≤ 134217728) (h11 : ∀ (r : Addr) (H' : Hp) (s : List Int), H r = none → Same H H' → Left c o s → s.length ≤ c.length → (∀ x ∈ s, Bd (m + (n + 1) * c.length) x) → H' r = some (IL (plainL s)) → Q (.ref r) H') : SpLeftS K vs H Q
noncomputable def spLeftS (K : PySem.W.Frag) : Sp := fun vs H Q _ => SpLeftS K vs H Q
end Zf


namespace Zf
open PySem L2 PS
inductive SpAbove (K : PySem.W.Frag) (vs : List V) (H : Hp) (Q : VK) : Prop
  | mk (a : Addr) (c : List Int) (h0 : vs = [.ref a]) (h1 : H a = some (IL c)) (h2 : c.length ≤ 1000) (h3 : ∀ (r : Addr) (H' : Hp), (r = a ∨ H r = none) → Same H H' → H' r = some (IL (aboveL c)) → Q (.ref r) H') : SpAbove K vs H Q
noncomputable def spAbove (K : PySem.W.Frag) : Sp := fun vs H Q _ => SpAbove K vs H Q
inductive SpTimesOver (vs : List V) (H : Hp) (Q : VK) : Prop
  | mk (c : Int) (h0 : vs = [.int c]) (h1 : ∀ (H' : Hp) (k : Int), Same H H' → k ≠ 0 → Bd 31 k → Q (.int k) H') : SpTimesOver vs H Q
noncomputable def spTimesOver : Sp := fun vs H Q _ => SpTimesOver vs H Q

noncomputable def RowAt (H : Hp) (v : V) (p : List Int × Nat) : Prop := ∃ t g : Addr, v = .ref t ∧ H t = some (.tup [.ref g, .int p.2]) ∧ H g = some (IL p.1)
noncomputable def RowsAt (H : Hp) (vs : List V) (rows : List (List Int × Nat)) : Prop := vs.length = rows.length ∧ ∀ (i : Nat) (v : V) (p : List Int × Nat), vs[i]? = some v → rows[i]? = some p → RowAt H v p
theorem RowAt.mono {H H' : Hp} {v : V} {p : List Int × Nat} (h : RowAt H v p) (s : Same H H') : RowAt H' v p := let ⟨t, g, a, b, c⟩ := h; ⟨t, g, a, s _ _ b, s _ _ c⟩
theorem RowsAt.mono {H H' : Hp} {vs : List V} {rows : List (List Int × Nat)} (h : RowsAt H vs rows) (s : Same H H') : RowsAt H' vs rows := ⟨h.1, fun i v p a b => (h.2 i v p a b).mono s⟩
theorem RowsAt.nil (H : Hp) : RowsAt H [] [] := ⟨rfl, fun i _ _ a => by cases i <;> cases a⟩
theorem RowsAt.snoc {H : Hp} {vs : List V} {rows : List (List Int × Nat)} {v : V} {p : List Int × Nat} (h : RowsAt H vs rows) (k : RowAt H v p) : RowsAt H (vs ++ [v]) (rows ++ [p]) := by
  refine ⟨by simp [h.1], fun i w q a b => ?_⟩
  by_cases hi : i < vs.length
  · rw [List.getElem?_append_left hi] at a
    rw [List.getElem?_append_left (by rw [← h.1]; exact hi)] at b
    exact h.2 i w q a b
  · have hi1 : i < (vs ++ [v]).length := (List.getElem?_eq_some_iff.mp a).1
    rw [List.length_append, List.length_singleton] at hi1
    have e : i = vs.length := by omega
    subst e
    rw [List.getElem?_append_right (Nat.le_refl _), Nat.sub_self] at a
    rw [h.1, List.getElem?_append_right (Nat.le_refl _), Nat.sub_self] at b
    cases a
    cases b
    exact k
theorem RowsAt.append {H : Hp} {vs ws : List V} {rows more : List (List Int × Nat)} (h : RowsAt H vs rows) (k : RowsAt H ws more) : RowsAt H (vs ++ ws) (rows ++ more) := by
  refine ⟨by simp [h.1, k.1], fun i w q a b => ?_⟩
  by_cases hi : i < vs.length
  · rw [List.getElem?_append_left hi] at a
    rw [List.getElem?_append_left (by rw [← h.1]; exact hi)] at b
    exact h.2 i w q a b
  · rw [List.getElem?_append_right (by omega)] at a
    rw [List.getElem?_append_right (by rw [← h.1]; omega), ← h.1] at b
    exact k.2 _ w q a b
theorem RowsAt.get {H : Hp} {vs : List V} {rows : List (List Int × Nat)} (h : RowsAt H vs rows) {i : Nat} {v : V} (a : vs[i]? = some v) : ∃ p, rows[i]? = some p ∧ RowAt H v p := by
  have hi : i < vs.length := (List.getElem?_eq_some_iff.mp a).1
  have hp : rows[i]? = some (rows[i]'(by rw [← h.1]; exact hi)) := List.getElem?_eq_getElem _
  exact ⟨_, hp, h.2 i v _ a hp⟩

noncomputable def RowsOk (most : Nat) (rows : List (List Int × Nat)) : Prop := (∀ p ∈ rows, Fac p.1 ∧ 1 ≤ p.2 ∧ p.2 ≤ most ∧ p.2 * (p.1.length - 1) ≤ most) ∧ (rows.map (·.1)).Nodup
inductive SpFactors (K : PySem.W.Frag) (vs : List V) (H : Hp) (Q : VK) : Prop
  | mk (a : Addr) (cells : List Int) (most : Nat) (h0 : vs = [.ref a, .int (most : Int)]) (h1 : SqL K H a (cells.map V.int)) (h2 : cells.length ≤ 63) (h3 : (most = 2 ∨ most = 3)) (h4 : ∀ (r : Addr) (H' : Hp) (ws : List V) (rows : List (List Int × Nat)), H r = none → Same H H' → H' r = some (.lst ws) → RowsAt H' ws rows → RowsOk most rows → rows.length ≤ cells.length → rows.length ≤ 3 → Q (.ref r) H') : SpFactors K vs H Q
noncomputable def spFactors (K : PySem.W.Frag) : Sp := fun vs H Q _ => SpFactors K vs H Q
inductive SpBuilt (K : PySem.W.Frag) (vs : List V) (H : Hp) (Q : VK) : Prop
  | mk (a : Addr) (ws : List V) (rows : List (List Int × Nat)) (scale : Int) (h0 : vs = [.ref a, .int scale]) (h1 : SqL K H a ws) (h2 : RowsAt H ws rows) (h3 : (∀ p ∈ rows, Fac p.1)) (h4 : scale ≠ 0) (h5 : Bd 31 scale) (h6 : totN rows ≤ 20) (h7 : degN rows ≤ 40) (h8 : ws.length ≤ 1000) (h9 : ∀ (r : Addr) (H' : Hp) (c : List Int), H r = none → Same H H' → H' r = some (IL c) → Made scale (rprod rows) (totN rows) (degN rows) c → Q (.ref r) H') : SpBuilt K vs H Q
noncomputable def spBuilt (K : PySem.W.Frag) : Sp := fun vs H Q _ => SpBuilt K vs H Q
theorem take_snoc {α : Type} {l : List α} {i : Nat} {x : α} (h : l[i]? = some x) : l.take (i + 1) = l.take i ++ [x] := by
  obtain ⟨hi, e⟩ := List.getElem?_eq_some_iff.mp h
  rw [List.take_succ_eq_append_getElem hi, e]
theorem totN_take {rows : List (List Int × Nat)} {i : Nat} {p : List Int × Nat} (h : rows[i]? = some p) : totN (rows.take i) + p.2 ≤ totN rows := by
  have e : rows = rows.take i ++ p :: rows.drop (i + 1) := by
    obtain ⟨hi, e⟩ := List.getElem?_eq_some_iff.mp h
    conv => lhs; rw [← List.take_append_drop i rows]
    rw [List.drop_eq_getElem_cons hi, e]
  conv => rhs; rw [e]
  rw [totN_append]
  show _ ≤ totN (rows.take i) + (p.2 + totN _)
  omega
theorem degN_take {rows : List (List Int × Nat)} {i : Nat} {p : List Int × Nat} (h : rows[i]? = some p) : degN (rows.take i) + p.2 * (p.1.length - 1) ≤ degN rows := by
  have e : rows = rows.take i ++ p :: rows.drop (i + 1) := by
    obtain ⟨hi, e⟩ := List.getElem?_eq_some_iff.mp h
    conv => lhs; rw [← List.take_append_drop i rows]
    rw [List.drop_eq_getElem_cons hi, e]
  conv => rhs; rw [e]
  rw [degN_append]
  show _ ≤ degN (rows.take i) + (p.2 * (p.1.length - 1) + degN _)
  omega
end Zf


namespace L2
open PySem
noncomputable def tJ (t : TS) : TS := fun D σ H => ∃ J : St → Hp → Prop, t { D with nx := J } σ H ∧ ∀ σ' H', J σ' H' → D.nx σ' H'
theorem SP.nx {X : Cx} {pins : List (Addr × Obj)} {D : Ends} {J : St → Hp → Prop} (h : ∀ σ' H', J σ' H' → D.nx σ' H') {f : Flow} {s : Shared} (q : SP X pins { D with nx := J } f s) : SP X pins D f s := by
  cases f with
  | next => obtain ⟨σ', H', I, j⟩ := q; exact ⟨σ', H', I, h _ _ j⟩
  | brk => exact q
  | cont => exact q
  | ret v => exact q
theorem ps_J {X : Cx} {st : Stmt} {t : TS} (h : PS X st t) : PS X st (tJ t) := by
  intro pins s σ H D I hw
  obtain ⟨J, h1, h2⟩ := hw
  exact thn (h pins s σ H _ I h1) fun f s' q => SP.nx h2 q
end L2


namespace L2
end L2

namespace L2
open PySem
@[elab_as_elim] theorem by1 {motive : List Value → Prop} {us : List Value} (hl : us.length = 1) (h : ∀ a, motive [a]) : motive us := by
  match us, hl with
  | [a], _ => exact h a
@[elab_as_elim] theorem by2 {motive : List Value → Prop} {us : List Value} (hl : us.length = 2) (h : ∀ a b, motive [a, b]) : motive us := by
  match us, hl with
  | [a, b], _ => exact h a b
@[elab_as_elim] theorem by3 {motive : List Value → Prop} {us : List Value} (hl : us.length = 3) (h : ∀ a b c, motive [a, b, c]) : motive us := by
  match us, hl with
  | [a, b, c], _ => exact h a b c
@[elab_as_elim] theorem by4 {motive : List Value → Prop} {us : List Value} (hl : us.length = 4) (h : ∀ a b c d, motive [a, b, c, d]) : motive us := by
  match us, hl with
  | [a, b, c, d], _ => exact h a b c d
end L2


namespace L2
open PySem PySem.Spec PyProof.Rows

noncomputable def tTrue : TT := fun _ H Q => Q true H
noncomputable def PTs (X : Cx) (ifs : List Expr) (t : TT) : Prop := (ifs = [] ∧ t = tTrue) ∨ ∃ c, ifs = [c] ∧ PT X c t
theorem pts0 {X : Cx} : PTs X [] tTrue := .inl ⟨rfl, rfl⟩
theorem pts1 {X : Cx} {c : Expr} {t : TT} (h : PT X c t) : PTs X [c] t := .inr ⟨c, rfl, h⟩
theorem pts_run {X : Cx} {ifs : List Expr} {t : TT} (h : PTs X ifs t) (pins : List (Addr × Obj)) (s : Shared) (σ : St) (H : Hp) (Q : Bool → Hp → Prop) (I : Inv X pins σ H s) (q : t σ H Q) :
    wpAny (model X.prog X.w) X.A (forIn ifs true fun c r => if r = true then do let ok ← isTrue c X.env (eval c X.env); pure (ForInStep.yield ok) else pure (ForInStep.yield r)) (TP X pins σ Q) X.xe s := by
  rcases h with ⟨e1, e2⟩ | ⟨c, e1, e2⟩
  · subst e1
    rw [e2] at q
    exact wpAny_tests_nil ⟨H, I, q⟩
  · subst e1
    exact wpAny_tests_one (e2 _ s σ H _ I q)
noncomputable def nones (xs : List Str) : St := xs.map fun _ => none
noncomputable def tLCG (wi : TI) (xs : List Str) (fr : List Nat) (g : TG) (tc : TT) (te : TE) : TE := fun σ H Q => wi σ H fun J H1 => ∀ D, H1 D = none → ∃ W : Nat → Nat → St → List V → Hp → Prop, (∃ m, W 0 m (nones xs ++ fr.map fun i => σ.getD i none) [] (upd H1 D (.lst []))) ∧
  ∀ i m σc acc H2, W i m σc acc H2 → H2 D = some (.lst acc) ∧ ((J.stop i H2 ∧ Q (.ref D) H2) ∨ (J.go i H2 ∧ ∀ y H3, J.yld i H2 y H3 → g y σc H3 fun σ' H' => tc σ' H' fun b H5 => if b = true then te σ' H5 fun v H4 =>
    H4 D = some (.lst acc) ∧ acc.length < sizeLine ∧ ∃ m', m' < m ∧ W (i + 1) m' σ' (acc ++ [v]) (upd H4 D (.lst (acc ++ [v]))) else ∃ m', m' < m ∧ W (i + 1) m' σ' acc H5))
structure CompOkG (X : Cx) (scope : Scope) (cl : List (Str × Addr)) (xs : List Str) (N : List Str) (fr : List Nat) : Prop where
  clos : closureFor scope X.env = pure cl
  cell : ∀ y ∈ scope.names, y.2 ≠ .cell
  kind : scope.kind = .function
  names : ∀ y ∈ scope.names, y.2 = .local → scope.names.lookup y.1 = some .local
  nd : (xs ++ N).Nodup
  ins : ∀ p ∈ cl, X.env.cells.lookup p.1 = some p.2
  has : ∀ y, ((relabel scope X.env).names.lookup y = some .cell ∨ (relabel scope X.env).names.lookup y = some .free) → ∃ c, cl.lookup y = some c
  len : fr.length = N.length
  frs : ∀ (j : Nat) (y : Str), N[j]? = some y → ∃ i, fr[j]? = some i ∧ X.N[i]? = some y ∧ X.env.scope.names.lookup y = some .cell ∧ (relabel scope X.env).names.lookup y = some .cell
  calm : X.calm = true
  xe : X.xe = fun _ _ => False
theorem compOkG {X : Cx} {scope : Scope} {cl : List (Str × Addr)} {xs : List Str} {N : List Str} {fr : List Nat} (clos : closureFor scope X.env = pure cl) (cell : ∀ y ∈ scope.names, y.2 ≠ .cell) (kind : scope.kind = .function)
    (names : ∀ y ∈ scope.names, y.2 = .local → scope.names.lookup y.1 = some .local) (nd : (xs ++ N).Nodup) (ins : ∀ p ∈ cl, X.env.cells.lookup p.1 = some p.2)
    (has : ((relabel scope X.env).names.all fun p => !(p.2 == .cell || p.2 == .free) || (cl.lookup p.1).isSome) = true) (fro : FrOk X (relabel scope X.env) N fr) (calm : X.calm = true) (xe : X.xe = fun _ _ => False) : CompOkG X scope cl xs N fr :=
  ⟨clos, cell, kind, names, nd, ins, fun y hy => by
    have key : ∀ k : NameKind, (k = .cell ∨ k = .free) → (relabel scope X.env).names.lookup y = some k → ∃ c, cl.lookup y = some c := fun k hk e => by
      have := List.all_eq_true.mp has _ (PySem.mem_of_lookup e)
      rcases hk with rfl | rfl
      · exact Option.isSome_iff_exists.mp (by simpa using this)
      · exact Option.isSome_iff_exists.mp (by simpa using this)
    rcases hy with hy | hy
    · exact key _ (.inl rfl) hy
    · exact key _ (.inr rfl) hy, fro.len, fro.get, calm, xe⟩
theorem compLoop_ownG {prog : Program} {w : World} {A : Around} {R : Result → Shared → Prop} {s : Shared} {elt target iter : Expr} {ifs : List Expr} {scope : Scope} {pos : Pos} {it acc : Value} {env : Env} (I : Nat → Shared → Prop)
    (turn : ∀ n s, I n s → wpAny (model prog w) A (pyNext it) (fun r s₁ => match r with
      | none => R (.ok .next) s₁
      | some v => wpAny (model prog w) A (letOwnedTupleGo target it v) (fun _ s₁' => wpAny (model prog w) A (assign target env v) (fun _ s₂ =>
          wpAny (model prog w) A (forIn ifs true fun c r => if r = true then do let ok ← isTrue c env (eval c env); pure (ForInStep.yield ok) else pure (ForInStep.yield r)) (fun ok s₃ =>
          if ok = true then wpAny (model prog w) A (eval elt env) (fun x s₄ =>
            wpAny (model prog w) A (call (.builtin "list.append") [acc, x]) (fun _ s₅ => ∃ m, m < n ∧ I m s₅) (fun _ _ => False) s₄) (fun _ _ => False) s₃
          else ∃ m, m < n ∧ I m s₃) (fun _ _ => False) s₂)
          (fun _ _ => False) s₁') (fun _ _ => False) s₁) (fun _ _ => False) s)
    (n : Nat) (h : I n s) :
    codeAny (model prog w) A (.compLoop (.ListComp elt [⟨target, iter, ifs, 0⟩] scope pos) 0 it acc env) R s := by
  refine codeAny_loop rfl I (fun n s hI => ?_) n h
  show wpAny _ _ ((compTurn (.ListComp elt [⟨target, iter, ifs, 0⟩] scope pos) 0 it acc env).onRaise (fun x => do noteFrame x env; theTreesLotGoes x)) _ _ s
  refine wpAny_noted ?_
  rw [compTurn_list]
  refine wpAny_bind (wpAny_standAt (wpAny_bind (wpAny_mono (turn n s hI) (fun r s₁ h₁ => ?_) fun _ _ h' => h'.elim)))
  cases r with
  | none => exact wpAny_pure h₁
  | some v =>
    refine wpAny_bind (wpAny_mono h₁ (fun _ s₁' h₁' => ?_) fun _ _ h' => h'.elim)
    refine wpAny_bind (wpAny_mono h₁' (fun _ s₂ h₂ => wpAny_bind (wpAny_mono h₂ (fun ok s₃ h₃ => ?_) fun _ _ h' => h'.elim)) fun _ _ h' => h'.elim)
    cases ok with
    | false => exact wpAny_pure ⟨rfl, h₃⟩
    | true =>
      exact wpAny_bind (wpAny_bind (wpAny_mono h₃ (fun x s₄ h₄ => wpAny_bind (wpAny_mono h₄ (fun _ s₅ h₅ => wpAny_pure (wpAny_pure ⟨rfl, h₅⟩)) fun _ _ h' => h'.elim)) fun _ _ h' => h'.elim))
section
variable {X : Cx} {scope : Scope} {cl : List (Str × Addr)} {xs : List Str} {N : List Str} {fr : List Nat}

theorem comp_startG {pins : List (Addr × Obj)} {σ : St} {H : Hp} {s : Shared} {fp : List Addr} {h1 : Heap} {D C : Addr} {tk : Nat} (O : CompOkG X scope cl xs N fr) (I : Inv X pins σ H s) (hf : ∀ b ∈ fp, FpOk X pins H b) (hfl : ∀ b ∈ fp, b < s.heap.objs.size)
    (hD : s.heap.objs.size ≤ D) (hC : s.heap.objs.size ≤ C) (hDC : D ≠ C) (kp : ∀ b o, s.heap.get? b = some o → h1.get? b = some o) (hns : ∃ m, h1.Ns C m) (hd : ∃ n, h1.get? D = some { cls := .type "list", data := .seq #[] n }) :
    Inv (cxComp X (xs ++ N) scope cl C s H fp) [] (nones xs ++ fr.map fun i => σ.getD i none) (upd H D (.lst [])) { s with heap := h1, toks := tk } := by
  have hn : H D = none := I.hok.fresh hD
  have hu : Un (frs X.stack) fp H (upd H D (.lst [])) s.heap h1 := Un.laid kp hD hn
  have cellH : ∀ y c, cl.lookup y = some c → X.env.cells.lookup y = some c := fun y c e => O.ins _ (PySem.mem_of_lookup e)
  obtain ⟨m, hm⟩ := hns
  have okk : (cxComp X (xs ++ N) scope cl C s H fp).Ok := by
    refine ⟨I.ok.mod, ?_, I.ok.glob, I.ok.blt, hC, fun y z c e1 e2 => ?_, fun y hy => ?_, fun y c h _ => ?_, I.ok.hd, I.ok.frames, .inl rfl, fun b hb => ⟨?_, fun y c e => ?_⟩, I.bs, Nat.le_trans I.ok.bsz I.sz, fun b o e hb => ?_, fun b hb => ?_, I.stack, I.stkFree⟩
    · show (relabel scope X.env).kind = _
      exact O.kind
    · exact I.ok.inj y z c (cellH y c e1) (cellH z c e2)
    · exact O.has y hy
    · exact absurd h (by show ¬ (false = true); decide)
    · exact Nat.ne_of_lt (Nat.lt_of_lt_of_le (hfl b hb) hC)
    · exact (hf b hb).2.2.2.2.1 y c (cellH y c e)
    · obtain ⟨f0, f1, f2, f3, f4, f5⟩ := hf b hb
      rcases f3 with z | z
      · exact I.ok.noex b o e z
      · exact absurd (Nat.lt_of_lt_of_le (Heap.lt_size (I.ok.bs b o e).1) z) (Nat.lt_irrefl _)
    · obtain ⟨f0, f1, f2, f3, f4, f5⟩ := hf b hb
      intro z
      rcases List.mem_cons.mp (I.stkSub b z) with e | e
      · exact f1 e
      · exact f2 e
  refine ⟨okk, rfl, I.bare, hu, ⟨m, hm, fun j y v e1 e2 e3 => ?_⟩, fun y c e => ?_, ?_, fun y c e => ?_, fun p hp => absurd (show p ∈ ([] : List (Addr × Obj)) from hp) (by simp), ?_, ?_⟩
  · have hnl : (nones xs).length = xs.length := List.length_map _
    by_cases hj : j < xs.length
    · have e2' : (nones xs)[j]? = some (some v) := by rw [← List.getElem?_append_left (by rw [hnl]; exact hj)]; exact e2
      rw [nones, List.getElem?_map, List.getElem?_eq_getElem hj] at e2'
      cases e2'
    · have e1a : (xs ++ N)[j]? = some y := e1
      have e1' : N[j - xs.length]? = some y := by rwa [List.getElem?_append_right (by omega)] at e1a
      have e2a : (nones xs ++ fr.map fun i => σ.getD i none)[j]? = some (some v) := e2
      rw [List.getElem?_append_right (by rw [hnl]; omega), hnl] at e2a
      generalize j - xs.length = j at e1' e2a
      obtain ⟨i, g1, g2, g3, g4⟩ := O.frs j y e1'
      have e2' := e2a
      rw [List.getElem?_map, g1] at e2'
      have e2'' : σ.getD i none = some v := Option.some.inj e2'
      have e4 : σ[i]? = some (some v) := by
        rw [List.getD_eq_getElem?_getD] at e2''
        cases q : σ[i]? with
        | none => rw [q] at e2''; cases e2''
        | some z => rw [q] at e2''; exact congrArg some e2''
      obtain ⟨m0, _, hl⟩ := I.loc
      obtain ⟨u, r, l⟩ := hl i y v g2 e4 (.inr (.inl g3))
      refine ⟨u, r, ?_⟩
      rcases l with ⟨k, _⟩ | ⟨k, c, e, z⟩
      · have k' : X.env.scope.names.lookup y = some .local := k
        rw [g3] at k'
        cases k'
      · obtain ⟨c', e'⟩ := O.has y (.inl g4)
        have := cellH y c' e'
        rw [e] at this
        cases this
        refine .inr ⟨.inl g4, c, e', ?_⟩
        obtain ⟨o, ho, hd'⟩ := z
        exact ⟨o, kp _ _ ho, hd'⟩
  · obtain ⟨v, o, ho, hd'⟩ := I.cell y c (cellH y c e)
    exact ⟨v, o, kp _ _ ho, hd'⟩
  · show upd H D (.lst []) C = none
    rw [upd_ne (Ne.symm hDC)]
    exact I.hok.fresh hC
  · obtain ⟨v, o, ho, hd'⟩ := I.cell y c (cellH y c e)
    rw [upd_ne (Nat.ne_of_lt (Nat.lt_of_lt_of_le (Heap.lt_size ho) hD))]
    exact I.freeC y c (cellH y c e)
  · obtain ⟨n, e⟩ := hd
    exact I.hok.laid kp hD ⟨Nat.zero_le _, [], n, .nil, e⟩
  · show (nones xs ++ fr.map fun i => σ.getD i none).length = (xs ++ N).length
    rw [List.length_append, List.length_append, List.length_map, O.len]
    congr 1
    exact List.length_map _

theorem comp_runG {elt target iter : Expr} {ifs : List Expr} {pos : Pos} {g : TG} {tc : TT} {te : TE} {pins : List (Addr × Obj)} {σ : St} {H : Hp} {s : Shared} {it : Addr} {fp : List Addr} {tn : Nat → Heap → Prop} {J : It} {Q : VK} {E : Value → Shared → Prop} {RR : Value → Addr → Result → Shared → Prop}
    (O : CompOkG X scope cl xs N fr) (hg : ∀ cl C s₀ H₀ ex, PG (cxComp X (xs ++ N) scope cl C s₀ H₀ ex) target g) (hc : ∀ cl C s₀ H₀ ex, PTs (cxComp X (xs ++ N) scope cl C s₀ H₀ ex) ifs tc) (he : ∀ cl C s₀ H₀ ex, PE (cxComp X (xs ++ N) scope cl C s₀ H₀ ex) elt te) (I : Inv X pins σ H s) (T : Turn X.prog X.w X.K target J fp it tn) (st : tn 0 s.heap) (hf : ∀ b ∈ fp, FpOk X pins H b)
    (h : ∀ D, H D = none → ∃ W : Nat → Nat → St → List V → Hp → Prop, (∃ m, W 0 m (nones xs ++ fr.map fun i => σ.getD i none) [] (upd H D (.lst []))) ∧
      ∀ i m σc acc H2, W i m σc acc H2 → H2 D = some (.lst acc) ∧ ((J.stop i H2 ∧ Q (.ref D) H2) ∨ (J.go i H2 ∧ ∀ y H3, J.yld i H2 y H3 → g y σc H3 fun σ' H' => tc σ' H' fun b H5 => if b = true then te σ' H5 fun v H4 =>
        H4 D = some (.lst acc) ∧ acc.length < sizeLine ∧ ∃ m', m' < m ∧ W (i + 1) m' σ' (acc ++ [v]) (upd H4 D (.lst (acc ++ [v]))) else ∃ m', m' < m ∧ W (i + 1) m' σ' acc H5)))
    (hR : ∀ D C H' s', D ≠ C → s.heap.objs.size ≤ C → (∃ m, s'.heap.Ns C m) → H' C = none → Inv X pins σ H' s' → Q (.ref D) H' → RR (.ref D) C (.ok .next) s') :
    wpAny (model X.prog X.w) X.A (newList []) (fun acc s₃ => wpAny (model X.prog X.w) X.A (newFunctionEnv scope X.env.globals cl [] X.env.qual none .none (some X.env)) (fun cenv s₄ =>
      codeAny (model X.prog X.w) X.A (.compStart (.ListComp elt [⟨target, iter, ifs, 0⟩] scope pos) 0 (.ref it) acc { cenv with scope := relabel scope X.env }) (RR acc cenv.locals) s₄) E s₃) E s := by
  refine wpAny_newObj_type (wpAny_newFunctionEnv O.cell (by intro y hy; simp at hy) (fun h₁ hns₁ hsb₁ => ?_) O.kind)
  dsimp only at hns₁ hsb₁ ⊢
  generalize hH2 : s.heap.push { cls := .type "list", dict := none, data := .seq ([] : List Value).toArray } = H2 at hns₁ hsb₁ ⊢
  have hC : H2.objs.size = s.heap.objs.size + 1 := by rw [← hH2, Heap.size_push]
  have hDC : s.heap.objs.size ≠ H2.objs.size := by rw [hC]; exact Nat.ne_of_lt (Nat.lt_succ_self _)
  have hCle : s.heap.objs.size ≤ H2.objs.size := by rw [hC]; exact Nat.le_succ _
  have below : ∀ b, b < s.heap.objs.size → b ≠ H2.objs.size ∧ b ≠ s.heap.objs.size := fun b hb => ⟨by rw [hC]; exact Nat.ne_of_lt (Nat.lt_succ_of_lt hb), Nat.ne_of_lt hb⟩
  have old : ∀ b o, s.heap.get? b = some o → h₁.get? b = some o := fun b o e => hsb₁.extBut b o (below b (Heap.lt_size e)).1 (Heap.get?_push_of_some _ (hH2 ▸ Heap.get?_push_of_some _ e))
  have hacc : ∃ n, h₁.get? s.heap.objs.size = some { cls := .type "list", data := .seq #[] n } := ⟨_, hsb₁.extBut _ _ hDC (Heap.get?_push_of_some _ (hH2 ▸ Heap.get?_push_size _ rfl))⟩
  have hfl : ∀ b ∈ fp, b < s.heap.objs.size := fun b hb => by
    obtain ⟨o, e, _⟩ := T.obj _ _ st b hb
    exact Heap.lt_size e
  obtain ⟨W, ⟨m0, w0⟩, turn⟩ := h s.heap.objs.size (I.hok.fresh (Nat.le_refl _))
  have st₁ : tn 0 h₁ := T.keep _ _ _ st fun b hb o e => old b o e
  have I0 := comp_startG (tk := s.toks + ([] : List (Str × Value)).length) O I hf hfl (Nat.le_refl _) hCle hDC old ⟨_, hns₁⟩ hacc

  have loop : codeAny (model X.prog X.w) X.A (.compLoop (.ListComp elt [⟨target, iter, ifs, 0⟩] scope pos) 0 (.ref it) (.ref s.heap.objs.size) (compEnvC scope cl H2.objs.size X.env))
      (RR (.ref s.heap.objs.size) H2.objs.size) { s with heap := h₁, toks := s.toks + ([] : List (Str × Value)).length } := by
    have stat : ∀ {H' : Hp}, (∀ b ∈ fp, H' b = none) → ∀ b ∈ fp, FpOk (cxComp X (xs ++ N) scope cl H2.objs.size s H fp) [] H' b := fun {H'} hn b hb =>
      ⟨hn b hb, (I0.ok.exf b hb).1, I0.ok.exfs b hb, .inl hb, (I0.ok.exf b hb).2, fun p hp => absurd (show p ∈ ([] : List (Addr × Obj)) from hp) (by simp)⟩
    refine compLoop_ownG (fun n s' => ∃ i σc acc H', Inv (cxComp X (xs ++ N) scope cl H2.objs.size s H fp) [] σc H' s' ∧ tn i s'.heap ∧ (∀ b ∈ fp, H' b = none) ∧ W i n σc acc H') ?_ m0
      ⟨0, _, [], _, I0, st₁, fun b hb => by rw [upd_ne (below b (hfl b hb)).2]; exact (hf b hb).1, w0⟩
    rintro n s3 ⟨i, σ3, acc, H3, I3, st3, fr3, w3⟩
    obtain ⟨hD3, q⟩ := turn i n σ3 acc H3 w3
    rcases q with ⟨stop, qn⟩ | ⟨go, step⟩
    · refine thn (T.done (cxComp X (xs ++ N) scope cl H2.objs.size s H fp) rfl rfl rfl O.calm i [] s3 σ3 H3 _ I3 (stat fr3) st3 stop) fun r s4 ⟨hr, I4⟩ => ?_
      subst hr
      refine hR _ _ H3 s4 hDC hCle ?_ I4.free ?_ qn
      · obtain ⟨m, hn, _⟩ := I4.loc
        exact ⟨m, hn⟩
      · refine I.call' I4.os I4.base I4.hok I4.bare fun b hb => ?_
        obtain ⟨f0, f1, f2, f3, f4, f5⟩ := hf b hb
        exact ⟨f3, f1, f4, f5⟩
    · refine thn (T.item (cxComp X (xs ++ N) scope cl H2.objs.size s H fp) rfl rfl rfl O.calm i [] s3 σ3 H3 _ I3 (stat fr3) st3 go) fun r s4 ⟨u, hr, h4⟩ => ?_
      subst hr
      refine thn h4 fun _ s5 ⟨y, H5, I5, r5, y5, st5, fr5⟩ => ?_
      obtain ⟨pins5, hp5, I5'⟩ : ∃ pins5, (∀ b ∈ fp, ∀ o, s5.heap.get? b = some o → (b, o) ∈ pins5) ∧ Inv (cxComp X (xs ++ N) scope cl H2.objs.size s H fp) pins5 σ3 H5 s5 := ⟨_, fun b hb o e => List.mem_append_right _ (mem_pinsAt hb e), I5.pinned (stat fr5) (T.obj _ _ st5)⟩
      refine thn (hg cl H2.objs.size s H fp _ s5 σ3 H5 y u _ I5' r5 (step y H5 y5)) fun _ s6 ⟨σ6, H6, I6, q6⟩ => ?_
      refine thn (pts_run (hc cl H2.objs.size s H fp) _ s6 σ6 H6 _ I6 q6) fun b s6b ⟨H6b, I6b, q6b⟩ => ?_
      have gone : ∀ {σ7 : St} {H7 : Hp} {s7 : Shared} {acc' : List V} {m' : Nat}, m' < n → Inv (cxComp X (xs ++ N) scope cl H2.objs.size s H fp) pins5 σ7 H7 s7 → W (i + 1) m' σ7 acc' H7 → ∃ m, m < n ∧ ∃ i σc acc H', Inv (cxComp X (xs ++ N) scope cl H2.objs.size s H fp) [] σc H' s7 ∧ tn i s7.heap ∧ (∀ b ∈ fp, H' b = none) ∧ W i m σc acc H' := by
        intro σ7 H7 s7 acc' m' hm' I8 w7
        refine ⟨m', hm', i + 1, σ7, acc', H7, I8.unpinned, T.keep _ _ _ st5 fun b hb o e => (I8.pin (b, o) (List.mem_append_right _ (hp5 b hb o e))).1, fun b hb => ?_, w7⟩
        obtain ⟨o, e, d⟩ := T.obj _ _ st5 b hb
        exact (I8.pin (b, o) (List.mem_append_right _ (hp5 b hb o e))).2.1
      cases b with
      | false =>
        obtain ⟨m', hm', w7⟩ := q6b
        exact gone hm' I6b w7
      | true =>
        refine thn (he cl H2.objs.size s H fp _ s6b _ _ _ I6b q6b) fun v s7 ⟨z, H7, I7, r7, hD7, hz7, m', hm', w7⟩ => ?_
        refine thn (mt_append _ s7 _ H7 (.ref s.heap.objs.size) [z] _ [v] (fun _ H' => H' = upd H7 s.heap.objs.size (.lst (acc ++ [z]))) I7 rfl (.cons r7 .nil) ⟨_, acc, z, rfl, rfl, hD7, hz7, rfl⟩) fun _ s8 ⟨_, H8, I8, _, e8⟩ => ?_
        subst e8
        exact gone hm' I8 w7
  exact codeAny_compStart_list loop (T.self _ 0 _ _ _ st₁ loop)

theorem pe_lcg {elt target iter : Expr} {ifs : List Expr} {pos : Pos} {wi : TI} {g : TG} {tc : TT} {te : TE} (O : CompOkG X scope cl xs N fr) (hi : PI X target iter wi) (hg : ∀ cl C s₀ H₀ ex, PG (cxComp X (xs ++ N) scope cl C s₀ H₀ ex) target g) (hc : ∀ cl C s₀ H₀ ex, PTs (cxComp X (xs ++ N) scope cl C s₀ H₀ ex) ifs tc) (he : ∀ cl C s₀ H₀ ex, PE (cxComp X (xs ++ N) scope cl C s₀ H₀ ex) elt te)
    (hs : ∀ z, foldedSetIterable iter X.env z = pure z := by intro _; rfl) : PE X (.ListComp elt [⟨target, iter, ifs, 0⟩] scope pos) (tLCG wi xs fr g tc te) := by
  intro pins s σ H Q I h
  rw [eval_ListComp]
  refine wpAny_comprehension_free (use := none) rfl hs O.clos O.kind O.names (thn (hi pins s σ H _ I h) fun v s1 h1 => thn h1 fun itv s2 h2 => ?_)
  obtain ⟨it, fp, tn, J, H2, rfl, I2, T, st2, f2, q⟩ := h2
  refine comp_runG (RR := fun acc C => compPost (model X.prog X.w) X.A X.xe none (EP X pins σ Q) acc C) O hg hc he I2 T st2 f2 q ?_
  intro D C H' s' hDC hC hns hCn I' q'
  obtain ⟨m, hn⟩ := hns
  refine ⟨m, hn, fun h'' hs'' => ⟨.ref D, H', ?_, rfl, q'⟩⟩
  obtain ⟨g0, g1, g2, g3, g4, g5⟩ := I2.fpOk hC hCn
  exact I'.turned (t' := s'.toks) (fun b o hb e => hs''.extBut b o hb e) g0 g1 g3 g4 g5

end
end L2
namespace L2
open PySem
theorem Same.of_upd {H H2 : Hp} {D : Addr} {o : HO} (h : Same H H2) (hD : H D = none) : Same H (upd H2 D o) := fun b u e => by
  rw [upd_ne (ne_of_none e hD)]
  exact h _ _ e

theorem lcg_all {K : PySem.W.Frag} {g : TG} {tc : TT} {te : TE} {xs : List Str} {σc : List (Option V)} {a : Addr} {ws : List V} {H : Hp} {R : Addr → Hp → Prop} (p : Nat → Bool) (Rel : Addr → Nat → V → Hp → Prop) (τ : Nat → St) (hS : SqL K H a ws) (hz : ws.length ≤ 1000)
    (mono : ∀ D i v H1 H2, (∀ b o, b ≠ D → H1 b = some o → H2 b = some o) → Rel D i v H1 → Rel D i v H2) (hτ : ∀ i, (τ i).length = (nones xs).length)
    (hg : ∀ (i : Nat) (y : V) (σ0 : St) (H2 : Hp) (Q2 : St → Hp → Prop), ws[i]? = some y → Same H H2 → σ0.length = (nones xs).length → Q2 (τ i ++ σc) H2 → g y (σ0 ++ σc) H2 Q2)
    (hc : ∀ (i : Nat) (y : V) (H2 : Hp) (Q2 : Bool → Hp → Prop), ws[i]? = some y → Same H H2 → (∀ H5, Same H2 H5 → Q2 (p i) H5) → tc (τ i ++ σc) H2 Q2)
    (ht : ∀ (D : Addr) (acc : List V) (i : Nat) (y : V) (H2 : Hp) (Q2 : VK), H D = none → H2 D = some (.lst acc) → ws[i]? = some y → p i = true → Same H H2 → (∀ v H4, Same H2 H4 → Rel D i v H4 → Q2 v H4) → te (τ i ++ σc) H2 Q2)
    (hq : ∀ (D : Addr) (H' : Hp) (vs : List V), H D = none → Same H H' → H' D = some (.lst vs) → vs.length = ((List.range ws.length).filter p).length → (∀ (j : Nat) (v : V) (k : Nat), vs[j]? = some v → ((List.range ws.length).filter p)[j]? = some k → Rel D k v H') → R D H') :
    ∀ D, H D = none → ∃ W : Nat → Nat → St → List V → Hp → Prop, (∃ m, W 0 m (nones xs ++ σc) [] (upd H D (.lst []))) ∧
      ∀ i m σ2 acc H2, W i m σ2 acc H2 → H2 D = some (.lst acc) ∧ (((Itl K a).stop i H2 ∧ R D H2) ∨ ((Itl K a).go i H2 ∧ ∀ y H3, (Itl K a).yld i H2 y H3 → g y σ2 H3 fun σ' H' => tc σ' H' fun b H5 => if b = true then te σ' H5 fun v H4 =>
        H4 D = some (.lst acc) ∧ acc.length < sizeLine ∧ ∃ m', m' < m ∧ W (i + 1) m' σ' (acc ++ [v]) (upd H4 D (.lst (acc ++ [v]))) else ∃ m', m' < m ∧ W (i + 1) m' σ' acc H5)) := by
  intro D hD
  refine ⟨fun i m σ2 acc H2 => m = ws.length - i ∧ i ≤ ws.length ∧ (∃ σ0, σ0.length = (nones xs).length ∧ σ2 = σ0 ++ σc) ∧ Same H H2 ∧ H2 D = some (.lst acc) ∧ acc.length = ((List.range i).filter p).length ∧ (∀ (j : Nat) (v : V) (k : Nat), acc[j]? = some v → ((List.range i).filter p)[j]? = some k → Rel D k v H2),
    ⟨ws.length, by simp, Nat.zero_le _, ⟨nones xs, rfl, rfl⟩, same_new hD _, upd_same, rfl, fun j v k e => by simp at e⟩, ?_⟩
  rintro i m σ2 acc H2 ⟨rfl, hi, ⟨σ0, h0, rfl⟩, s2, hd, hal, hr⟩
  refine ⟨hd, ?_⟩
  have q := s2.seq hS
  by_cases hlt : i < ws.length
  · refine .inr ⟨⟨ws, ws[i], q, by simp [hlt]⟩, fun y H3 hy => ?_⟩
    obtain ⟨e, hy⟩ := hy
    subst e
    have hy' := hy ws q
    refine hg i y σ0 H3 _ hy' s2 h0 ?_
    have rs : List.range (i + 1) = List.range i ++ [i] := List.range_succ
    have fl : ((List.range i).filter p).length ≤ i := Nat.le_trans (List.length_filter_le _ _) (by simp)
    refine hc i y H3 _ hy' s2 fun H5 s5 => ?_
    cases hp : p i with
    | false =>
      refine ⟨ws.length - (i + 1), by omega, rfl, hlt, ⟨_, hτ i, rfl⟩, s2.trans s5, s5 _ _ hd, ?_, fun j v k e1 e2 => ?_⟩
      · rw [rs, List.filter_append, List.filter_cons_of_neg (by simp [hp])]
        simpa using hal
      · rw [rs, List.filter_append, List.filter_cons_of_neg (by simp [hp]), List.filter_nil, List.append_nil] at e2
        exact mono _ _ _ _ _ (fun b o _ e => s5 b o e) (hr j v k e1 e2)
    | true =>
      refine ht D acc i y H5 _ hD (s5 _ _ hd) hy' hp (s2.trans s5) fun v H4 s4 hv => ⟨s4 _ _ (s5 _ _ hd), by rw [hal]; exact small1000 (by omega), ws.length - (i + 1), by omega, rfl, hlt, ⟨_, hτ i, rfl⟩, ((s2.trans s5).trans s4).of_upd hD, upd_same, ?_, fun j v' k e1 e2 => ?_⟩
      · rw [rs, List.filter_append, List.filter_cons_of_pos (by simp [hp])]
        simp [hal]
      · have su : ∀ b o, b ≠ D → H4 b = some o → upd H4 D (.lst (acc ++ [v])) b = some o := fun b o nb e => by rw [upd_ne nb]; exact e
        rw [rs, List.filter_append, List.filter_cons_of_pos (by simp [hp]), List.filter_nil] at e2
        by_cases hj : j < acc.length
        · rw [List.getElem?_append_left hj] at e1
          rw [List.getElem?_append_left (by rw [← hal]; exact hj)] at e2
          exact mono _ _ _ _ _ (fun b o nb e => su b o nb (s4 _ _ (s5 _ _ e))) (hr j v' k e1 e2)
        · have hj1 : j < (acc ++ [v]).length := (List.getElem?_eq_some_iff.mp e1).1
          rw [List.length_append, List.length_singleton] at hj1
          have ej : j = acc.length := by omega
          subst ej
          rw [List.getElem?_append_right (Nat.le_refl _), Nat.sub_self] at e1
          rw [hal, List.getElem?_append_right (Nat.le_refl _), Nat.sub_self] at e2
          cases e1
          cases e2
          exact mono _ _ _ _ _ su hv
  · have e : i = ws.length := by omega
    subst e
    exact .inl ⟨⟨ws, q, Nat.le_refl _⟩, hq D H2 acc hD s2 hd hal hr⟩
end L2


namespace Zf
open PySem L2 PS

noncomputable def ListsAt (H : Hp) (vs : List V) (ls : List (List Int)) : Prop := vs.length = ls.length ∧ ∀ (i : Nat) (v : V) (l : List Int), vs[i]? = some v → ls[i]? = some l → ∃ g, v = .ref g ∧ H g = some (IL l)
theorem ListsAt.mono {H H' : Hp} {vs : List V} {ls : List (List Int)} (h : ListsAt H vs ls) (s : Same H H') : ListsAt H' vs ls := ⟨h.1, fun i v l a b => let ⟨g, e, k⟩ := h.2 i v l a b; ⟨g, e, s _ _ k⟩⟩
theorem ListsAt.nil (H : Hp) : ListsAt H [] [] := ⟨rfl, fun i _ _ a => by cases i <;> cases a⟩
theorem ListsAt.snoc {H : Hp} {vs : List V} {ls : List (List Int)} {g : Addr} {l : List Int} (h : ListsAt H vs ls) (k : H g = some (IL l)) : ListsAt H (vs ++ [.ref g]) (ls ++ [l]) := by
  refine ⟨by simp [h.1], fun i w q a b => ?_⟩
  by_cases hi : i < vs.length
  · rw [List.getElem?_append_left hi] at a
    rw [List.getElem?_append_left (by rw [← h.1]; exact hi)] at b
    exact h.2 i w q a b
  · have hi1 : i < (vs ++ [V.ref g]).length := (List.getElem?_eq_some_iff.mp a).1
    rw [List.length_append, List.length_singleton] at hi1
    have e : i = vs.length := by omega
    subst e
    rw [List.getElem?_append_right (Nat.le_refl _), Nat.sub_self] at a
    rw [h.1, List.getElem?_append_right (Nat.le_refl _), Nat.sub_self] at b
    cases a
    cases b
    exact ⟨g, rfl, k⟩
theorem ListsAt.get {H : Hp} {vs : List V} {ls : List (List Int)} (h : ListsAt H vs ls) {i : Nat} {v : V} (a : vs[i]? = some v) : ∃ l g, ls[i]? = some l ∧ v = .ref g ∧ H g = some (IL l) := by
  have hi : i < vs.length := (List.getElem?_eq_some_iff.mp a).1
  have hp : ls[i]? = some (ls[i]'(by rw [← h.1]; exact hi)) := List.getElem?_eq_getElem _
  obtain ⟨g, e, k⟩ := h.2 i v _ a hp
  exact ⟨_, g, hp, e, k⟩
theorem above_bd {n : Nat} {c : List Int} (h : ∀ x ∈ c, Bd n x) : ∀ x ∈ aboveL c, Bd n x := by
  unfold aboveL
  split
  · intro x hx
    obtain ⟨y, hy, rfl⟩ := List.mem_map.mp hx
    exact (h y hy).neg
  · exact h
inductive SpSharedZ (K : PySem.W.Frag) (vs : List V) (H : Hp) (Q : VK) : Prop
  | mk (a b : Addr) (c o : List Int) (La l p q : Nat) (h0 : vs = [.ref a, .ref b]) (h1 : SqL K H a (c.map V.int)) (h2 : SqL K H b (o.map V.int)) (h3 : Good c) (h4 : Good o) (h5 : c.length ≤ La) (h6 : o.length ≤ l) (h7 : La ≤ 1000) (h8 : l ≤ 1000) (h9 : (∀ x ∈ c, Bd p x)) (h10 : (∀ x ∈ o, Bd q x)) (h11 : gb l La l p q ≤ 134217728) (h12 : ∀ (r : Addr) (H' : Hp) (s : List Int), H r = none → Same H H' → Shared c o s → (∀ x ∈ s, Bd (gb l La l p q) x) → H' r = some (IL s) → Q (.ref r) H') : SpSharedZ K vs H Q
noncomputable def spSharedZ (K : PySem.W.Frag) : Sp := fun vs H Q _ => SpSharedZ K vs H Q
inductive SpDivided (K : PySem.W.Frag) (vs : List V) (H : Hp) (Q : VK) : Prop
  | mk (a b : Addr) (c o : List Int) (S : PS) (p G : Nat) (h0 : vs = [.ref a, .ref b]) (h1 : SqL K H a (c.map V.int)) (h2 : SqL K H b (o.map V.int)) (h3 : Good o) (h4 : o ≠ []) (h5 : 0 < o.getD (o.length - 1) 0) (h6 : o.length ≤ c.length) (h7 : c.length ≤ 1000) (h8 : Dg (c.length + 1 - o.length) S) (h9 : co c = S * co o) (h10 : (∀ x ∈ c, Bd p x)) (h11 : (∀ x ∈ o, Bd G x)) (h12 : p + (G + 1) * c.length + G ≤ 134217728) (h13 : ∀ (r : Addr) (H' : Hp), H r = none → Same H H' → H' r = some (IL (upto S (c.length + 1 - o.length))) → (∀ x ∈ upto S (c.length + 1 - o.length), Bd (p + (G + 1) * c.length) x) → Q (.ref r) H') : SpDivided K vs H Q
noncomputable def spDivided (K : PySem.W.Frag) : Sp := fun vs H Q _ => SpDivided K vs H Q

noncomputable def simG (p L : Nat) : Nat := gb (L - 1) L (L - 1) p (p + 5)
inductive SpSimple (K : PySem.W.Frag) (vs : List V) (H : Hp) (Q : VK) : Prop
  | mk (a : Addr) (c : List Int) (p L : Nat) (h0 : vs = [.ref a]) (h1 : SqL K H a (c.map V.int)) (h2 : Good c) (h3 : c ≠ []) (h4 : c.length ≤ L) (h5 : L ≤ 30) (h6 : (∀ x ∈ c, Bd p x)) (h7 : p + (simG p L + 1) * L + simG p L ≤ 134217728) (h8 : ∀ (r : Addr) (H' : Hp) (s : List Int), H r = none → Same H H' → Simple c s → H' r = some (IL s) → (∀ x ∈ s, Bd (p + (simG p L + 1) * L) x) → Q (.ref r) H') : SpSimple K vs H Q
noncomputable def spSimple (K : PySem.W.Frag) : Sp := fun vs H Q _ => SpSimple K vs H Q

noncomputable def cb : Nat → Nat → Nat → Nat → Nat
  | 0, _, p, q => p + q
  | l + 1, La, p, q => cb l (l + 1) q (p + (q + 1) * La)
theorem cb_ge : ∀ (l La p q : Nat), p + q ≤ cb l La p q ∨ La = 0
  | 0, _, _, _ => .inl (Nat.le_refl _)
  | l + 1, La, p, q => by
    by_cases hL : La = 0
    · exact .inr hL
    left
    unfold cb
    have h1 : (q + 1) * 1 ≤ (q + 1) * La := Nat.mul_le_mul_left _ (by omega)
    rcases cb_ge l (l + 1) q (p + (q + 1) * La) with h | h
    · omega
    · omega
inductive SpChain (K : PySem.W.Frag) (vs : List V) (H : Hp) (Q : VK) : Prop
  | mk (a : Addr) (c : List Int) (p L ps Ls : Nat) (h0 : vs = [.ref a]) (h1 : SqL K H a (c.map V.int)) (h2 : Good c) (h3 : c ≠ []) (h4 : c.length ≤ L) (h5 : L ≤ 30) (h6 : (∀ x ∈ c, Bd p x)) (h7 : p + (simG p L + 1) * L + simG p L ≤ 134217728) (h8 : (∀ s, Simple c s → (∀ x ∈ s, Bd (p + (simG p L + 1) * L) x) → s.length ≤ Ls ∧ ∀ x ∈ s, Bd ps x)) (h9 : Ls ≤ 30) (h10 : cb (Ls - 1) Ls ps (ps + 5) ≤ 134217728) (h11 : ∀ (r : Addr) (H' : Hp) (ws : List V) (ls : List (List Int)), H r = none → Same H H' → Chain c ls → H' r = some (.lst ws) → ListsAt H' ws ls → (∀ l ∈ ls, GoodL l ∧ l ≠ [] ∧ l.length ≤ Ls ∧ ∀ x ∈ l, Bd (cb (Ls - 1) Ls ps (ps + 5)) x) → ws.length ≤ Ls → Q (.ref r) H') : SpChain K vs H Q
noncomputable def spChain (K : PySem.W.Frag) : Sp := fun vs H Q _ => SpChain K vs H Q
inductive SpSignAtS (K : PySem.W.Frag) (vs : List V) (H : Hp) (Q : VK) : Prop
  | mk (a d : Addr) (c : List Int) (p q : Int) (B : Nat) (h0 : vs = [.ref a, .ref d]) (h1 : SqL K H a (c.map V.int)) (h2 : SqT K H d [.int p, .int q]) (h3 : c.length ≤ 64) (h4 : (∀ x ∈ c, Bd B x)) (h5 : Bd B p) (h6 : Bd B q) (h7 : B ≤ 1000000) (h8 : Good c) (h9 : 0 < q) (h10 : Q (.int (sgn (hv p q c))) H) : SpSignAtS K vs H Q
noncomputable def spSignAtS (K : PySem.W.Frag) : Sp := fun vs H Q _ => SpSignAtS K vs H Q
inductive SpAlong (K : PySem.W.Frag) (vs : List V) (H : Hp) (Q : VK) : Prop
  | mk (a d : Addr) (ws : List V) (ls : List (List Int)) (p q : Int) (B : Nat) (h0 : vs = [.ref a, .ref d]) (h1 : SqL K H a ws) (h2 : ListsAt H ws ls) (h3 : (∀ l ∈ ls, GoodL l ∧ l.length ≤ 64 ∧ ∀ x ∈ l, Bd B x)) (h4 : ws.length ≤ 1000) (h5 : SqT K H d [.int p, .int q]) (h6 : Bd B p) (h7 : Bd B q) (h8 : B ≤ 1000000) (h9 : 0 < q) (h10 : Q (.int (chg 0 (ls.map fun l => sgn (hv p q l)))) H) : SpAlong K vs H Q
noncomputable def spAlong (K : PySem.W.Frag) : Sp := fun vs H Q _ => SpAlong K vs H Q
end Zf


namespace L2
open PySem PySem.Spec PyProof.Rows
theorem keepsL {h h' : Heap} {l : Addr} {xs : Array Value} (hl : h.IsList l xs) (k : ∀ b o, h.get? b = some o → h'.get? b = some o) : h'.IsList l xs := let ⟨o, a, b⟩ := hl; ⟨o, k _ _ a, b⟩
theorem max_def_args (a v : Value) : argsOk "max" ⟨[a], [(Str.ofString "default", v)]⟩ := by unfold argsOk; kernel_rfl
section
variable {prog : Program} {w : World} {A : Around} {E : Value → Shared → Prop} {s : Shared} {l I S : Addr} {vs : List Value} {R : Result → Shared → Prop} {dv : Value}
theorem max_def_loop (f : Nat → Int) (hh : A.handled = none) (hll : s.heap.IsList l vs.toArray) (hlI : l ≠ I) (hSI : S ≠ I) (nI : s.heap.get? I = none) (nS : s.heap.get? S = none)
    (hf : ∀ (i : Nat) (v : Value), vs[i]? = some v → ∃ t, v = Value.int (f i) t)
    (hR : ∀ (i : Nat) (v : Value) (h' : Heap) (tk' : Nat), vs[i]? = some v → (∀ j, j < vs.length → f i ≥ f j) → (∀ b o, s.heap.get? b = some o → h'.get? b = some o) → R (.ok (.ret v)) { s with heap := h', toks := tk' }) :
    ∀ (r j i : Nat) (h : Heap) (tk : Nat) (tb : Tok) (c : Nat), vs.length - (j + 1) = r → j + 1 ≤ vs.length → (∀ b o, s.heap.get? b = some o → h.get? b = some o) →
      h.get? S = some (seqObj "list" #[.int (f i) tb, .int (f i) tb] c) → h.IsListIter I l (j + 1) → vs[i]? = some (.int (f i) tb) → (∀ j', j' ≤ j → f i ≥ f j') →
      codeAny (model prog w) A (.builtin "max.loop" ⟨[.ref I, .none, .ref S], [(Str.ofString "default", dv)]⟩) R { s with heap := h, toks := tk } := by
  have hname : (toString "max" ++ toString ".loop" : String) = "max.loop" := by decide
  have W := Walks.list (prog := prog) (w := w) (A := A.in1) hh I l hlI vs.toArray
  have hsz : vs.toArray.size = vs.length := List.size_toArray ..
  have keepN : ∀ {h h' : Heap}, (∀ b o, s.heap.get? b = some o → h.get? b = some o) → (∀ b o, b ∉ [I] → h.get? b = some o → h'.get? b = some o) → ∀ b o, s.heap.get? b = some o → h'.get? b = some o := fun k1 k2 b o e =>
    k2 b o (fun q => by rw [List.mem_singleton.mp q, nI] at e; cases e) (k1 b o e)
  have keepS : ∀ {h : Heap} {g : Obj → Obj}, (∀ b o, s.heap.get? b = some o → h.get? b = some o) → ∀ b o, s.heap.get? b = some o → (h.update S g).get? b = some o := fun {h g} k1 b o e => by
    have s1 := Heap.SameBut.update h S g
    have hb : b ≠ S := fun z => by rw [z, nS] at e; cases e
    exact s1.extBut b o hb (k1 b o e)
  intro r
  induction r with
  | zero =>
    intro j i h tk tb c hr hj K hS hit hvb hbest
    have hin : j + 1 = vs.length := by omega
    refine codeAny_builtin PySem.F.entry_max_loop ?_
    rw [Around.under_plainId PySem.F.plain_max_loop _]
    show wpAny _ A.in1 (seqItems? (.ref S) >>= _) _ _ _
    refine wpAny_bind (wpAny_seqItems hS rfl ?_)
    show wpAny _ A.in1 (tryCatch (pyNext (.ref I)) _ >>= _) _ _ _
    refine wpAny_bind (wpAny_tryCatch (W.done _ _ _ ⟨by rw [hsz, ← hin]; exact hit, keepsL hll K⟩ fun h' tk' hk' => ?_))
    have hS' := hk' S _ (by simpa using hSI) hS
    show wpAny _ A.in1 (updateSeq S (fun _ => #[]) >>= _) _ _ _
    refine wpAny_bind ?_
    refine wpAny_updateSeq hS' rfl (wpAny_bind (wpAny_letGo (wpAny_pure ?_)))
    exact hR i _ _ _ hvb (fun j' hj' => hbest j' (by omega)) (keepS (keepN K hk'))
  | succ r ih =>
    intro j i h tk tb c hr hj K hS hit hvb hbest
    have hlt : j + 1 < vs.length := by omega
    refine codeAny_builtin PySem.F.entry_max_loop ?_
    rw [Around.under_plainId PySem.F.plain_max_loop _]
    show wpAny _ A.in1 (seqItems? (.ref S) >>= _) _ _ _
    refine wpAny_bind (wpAny_seqItems hS rfl ?_)
    show wpAny _ A.in1 (tryCatch (pyNext (.ref I)) _ >>= _) _ _ _
    refine wpAny_bind (wpAny_tryCatch (W.item (j + 1) _ _ _ (by rw [hsz]; exact hlt) ⟨hit, keepsL hll K⟩ fun v h' tk' hP hst' hk' => ?_))
    have hv : vs[j + 1]? = some v := by simpa using hP
    obtain ⟨t2, rfl⟩ := hf (j + 1) v hv
    have K1 := keepN K hk'
    have hS1 := hk' S _ (by simpa using hSI) hS
    have hit1 := hst'.1
    refine wpAny_bind (wpAny_pure ?_)
    show wpAny _ A.in1 (tryCatch (holding [.int (f (j + 1)) t2, .int (f (j + 1)) t2] (richCompare .Gt (.int (f (j + 1)) t2) (.int (f i) tb) >>= _)) _ >>= _) _ _ _
    refine wpAny_bind (wpAny_tryCatch (wpAny_holding (wpAny_bind (CmpOf.ints_gt (prog := prog) (w := w) (A := A.in1) (P := fun i v => ∃ t, v = .int (f i) t) f (fun i v h => h) (j + 1) i _ _ _ _ _ ⟨t2, rfl⟩ ⟨tb, rfl⟩ ?_))))
    refine wpAny_bind (wpAny_holding (wpAny_truthy_bool ?_))
    refine wpAny_bind (wpAny_letGo (wpAny_pure ?_))
    by_cases hb' : f (j + 1) > f i
    · have s1 := Heap.SameBut.update h' S (Obj.mapSeq fun _ => #[.int (f (j + 1)) t2, .int (f (j + 1)) t2])
      obtain ⟨c2, hc2⟩ : ∃ c2, (h'.update S (Obj.mapSeq fun _ => #[.int (f (j + 1)) t2, .int (f (j + 1)) t2])).get? S = some (seqObj "list" #[.int (f (j + 1)) t2, .int (f (j + 1)) t2] c2) := ⟨_, get?_update_seq hS1 fun _ => #[.int (f (j + 1)) t2, .int (f (j + 1)) t2]⟩
      simp only [hb', decide_true, if_true]
      refine wpAny_bind ?_
      refine wpAny_updateSeq hS1 rfl (wpAny_bind (wpAny_letGo ?_))
      rw [hname]
      refine wpAny_pure ⟨plainId_quiet PySem.F.plain_max_loop _, ih (j + 1) (j + 1) _ _ t2 c2 (by omega) hlt (keepS K1) hc2 ?_ hv fun j' hj' => ?_⟩
      · obtain ⟨oI, a1, a2, a3⟩ := hit1
        exact ⟨oI, s1.extBut I oI hSI.symm a1, a2, a3⟩
      · by_cases e : j' = j + 1
        · subst e; omega
        · have := hbest j' (by omega); omega
    · simp only [hb', decide_false, Bool.false_eq_true, if_false]
      refine wpAny_bind (wpAny_letGo ?_)
      rw [hname]
      refine wpAny_pure ⟨plainId_quiet PySem.F.plain_max_loop _, ih (j + 1) i _ _ tb c (by omega) hlt K1 hS1 hit1 hvb fun j' hj' => ?_⟩
      by_cases e : j' = j + 1
      · subst e; omega
      · exact hbest j' (by omega)
theorem max_def {Q : Value → Shared → Prop} (f : Nat → Int) (hh : A.handled = none) (hll : s.heap.IsList l vs.toArray) (hf : ∀ (i : Nat) (v : Value), vs[i]? = some v → ∃ t, v = Value.int (f i) t)
    (h0 : vs = [] → ∀ h' tk', (∀ b o, s.heap.get? b = some o → h'.get? b = some o) → Q dv { s with heap := h', toks := tk' })
    (hQ : ∀ (i : Nat) (v : Value) (h' : Heap) (tk' : Nat), vs[i]? = some v → (∀ j, j < vs.length → f i ≥ f j) → (∀ b o, s.heap.get? b = some o → h'.get? b = some o) → Q v { s with heap := h', toks := tk' }) :
    wpAny (model prog w) A (call (.builtin "max") [.ref l] [(Str.ofString "default", dv)]) Q E s := by
  have hname : (toString "max" ++ toString ".loop" : String) = "max.loop" := by decide
  obtain ⟨ol, hol, _⟩ := id hll
  have hl1 : l < s.heap.objs.size := Heap.lt_size hol
  refine kmk_tree PySem.F.kind_max PySem.F.plain_max PySem.F.entry_max (max_def_args _ _) ?_
  show wpAny _ A.in1 (Builtin.Builtins.bindParams "max" ["key", "default"] 0 ⟨[], [(Str.ofString "default", dv)]⟩ >>= _) _ _ s
  refine wpAny_bind (wpAny_of_eq (show Builtin.Builtins.bindParams "max" ["key", "default"] 0 ⟨[], [(Str.ofString "default", dv)]⟩ = pure [none, some dv] from rfl) ?_)
  refine wpAny_bind (wpAny_pure ?_)
  refine wpAny_bind (wpAny_pyIter_list hll ?_)
  refine wpAny_bind (wpAny_newList ?_ (Nat.zero_le _))
  rw [hname]
  generalize hP : s.heap.push { cls := .type "list_iterator", data := .fields #[.ref l, .int 0 0] } = P1
  have hS : P1.objs.size = s.heap.objs.size + 1 := by rw [← hP]; exact size_push' ..
  have hlI : l ≠ s.heap.objs.size := Nat.ne_of_lt hl1
  have hSI : P1.objs.size ≠ s.heap.objs.size := by rw [hS]; exact Nat.ne_of_gt (Nat.lt_succ_self _)
  have nI : s.heap.get? s.heap.objs.size = none := Heap.get?_none_of_le (Nat.le_refl _)
  have nS : s.heap.get? P1.objs.size = none := Heap.get?_none_of_le (by rw [hS]; exact Nat.le_succ _)
  refine wpAny_pure ⟨plainId_quiet PySem.F.plain_max_loop _, ?_⟩
  have K : ∀ b o, s.heap.get? b = some o → (P1.push (seqObj "list" #[] 0)).get? b = some o := fun b o e => Heap.get?_push_of_some _ (by rw [← hP]; exact Heap.get?_push_of_some _ e)
  have gI : (P1.push (seqObj "list" #[] 0)).get? s.heap.objs.size = some { cls := .type "list_iterator", data := .fields #[.ref l, .int 0 0] } := Heap.get?_push_of_some _ (by rw [← hP]; exact Heap.get?_push_size _ rfl)
  have gS : (P1.push (seqObj "list" #[] 0)).get? P1.objs.size = some (seqObj "list" #[] 0) := Heap.get?_push_size _ rfl
  have W := Walks.list (prog := prog) (w := w) (A := A.in1) hh s.heap.objs.size l hlI vs.toArray
  have hsz : vs.toArray.size = vs.length := List.size_toArray ..
  have keepN : ∀ {h' : Heap}, (∀ b o, b ∉ [s.heap.objs.size] → (P1.push (seqObj "list" #[] 0)).get? b = some o → h'.get? b = some o) → ∀ b o, s.heap.get? b = some o → h'.get? b = some o := fun k2 b o e =>
    k2 b o (fun q => by rw [List.mem_singleton.mp q, nI] at e; cases e) (K b o e)
  refine codeAny_builtin PySem.F.entry_max_loop ?_
  rw [Around.under_plainId PySem.F.plain_max_loop _]
  show wpAny _ A.in1 (seqItems? (.ref _) >>= _) _ _ _
  refine wpAny_bind (wpAny_seqItems gS rfl ?_)
  show wpAny _ A.in1 (tryCatch (pyNext (.ref s.heap.objs.size)) _ >>= _) _ _ _
  by_cases hne : 0 < vs.length
  · refine wpAny_bind (wpAny_tryCatch (W.item 0 _ _ _ (by rw [hsz]; exact hne) ⟨⟨_, gI, rfl, rfl⟩, keepsL hll K⟩ fun v h' tk' hP' hst' hk' => ?_))
    have hv : vs[0]? = some v := by simpa using hP'
    obtain ⟨t2, rfl⟩ := hf 0 v hv
    have K1 := keepN hk'
    have hS1 := hk' P1.objs.size _ (by simpa using hSI) gS
    refine wpAny_bind (wpAny_pure ?_)
    show wpAny _ A.in1 (updateSeq P1.objs.size (fun _ => #[.int (f 0) t2, .int (f 0) t2]) >>= _) _ _ _
    have s1 := Heap.SameBut.update h' P1.objs.size (Obj.mapSeq fun _ => #[.int (f 0) t2, .int (f 0) t2])
    obtain ⟨c2, hc2⟩ : ∃ c2, (h'.update P1.objs.size (Obj.mapSeq fun _ => #[.int (f 0) t2, .int (f 0) t2])).get? P1.objs.size = some (seqObj "list" #[.int (f 0) t2, .int (f 0) t2] c2) := ⟨_, get?_update_seq hS1 fun _ => #[.int (f 0) t2, .int (f 0) t2]⟩
    refine wpAny_bind ?_
    refine wpAny_updateSeq hS1 rfl ?_
    rw [hname]
    refine wpAny_pure ⟨plainId_quiet PySem.F.plain_max_loop _, max_def_loop f hh hll hlI hSI nI nS hf hQ _ 0 0 _ _ t2 c2 rfl hne (fun b o e => s1.extBut b o (fun z => by rw [z, nS] at e; cases e) (K1 b o e)) hc2 ?_ hv fun j' hj' => ?_⟩
    · obtain ⟨oI, a1, a2, a3⟩ := hst'.1
      exact ⟨oI, s1.extBut _ oI hSI.symm a1, a2, a3⟩
    · rw [show j' = 0 by omega]; omega
  · have hv0 : vs = [] := List.eq_nil_of_length_eq_zero (by omega)
    refine wpAny_bind (wpAny_tryCatch (W.done _ _ _ ⟨?_, keepsL hll K⟩ fun h' tk' hk' => ?_))
    · rw [hsz, show vs.length = 0 by omega]
      exact ⟨_, gI, rfl, rfl⟩
    · refine wpAny_bind (wpAny_rule (wpAny_pure ?_))
      exact h0 hv0 _ _ (keepN hk')
end
noncomputable def tMaxD (K : PySem.W.Frag) (ta tk : TA) : TE := fun σ H Q => ta σ H fun vs H1 => tk σ H1 fun zs H2 => ∃ (a : Addr) (ns : List Int) (k : Int), vs = [.ref a] ∧ zs = [.int k] ∧ SqL K H2 a (ns.map V.int) ∧ ∀ m : Int, (ns = [] → m = k) → (ns ≠ [] → m ∈ ns ∧ ∀ z ∈ ns, z ≤ m) → Q (.int m) H2
theorem pe_maxD {X : Cx} {e d : Expr} {ta tk : TA} {p kp pos : Pos} (hc : X.calm = true) (hg : Gl X "max") (hm : X.mg "max" = none) (ha : PA X [e] ta) (hkw : PK X [⟨some "default", d, kp⟩] tk)
    (he' : starEach [e] X.env = (false, eval e X.env) :: starEach [] X.env := by rfl)
    (hplain : (backTo pos (starEach [e] X.env)).any (·.1) = false := by rfl) :
    PE X (.Call (.Name "max" p) [e] [⟨some "default", d, kp⟩] pos) (tMaxD X.K ta tk) := by
  intro pins s σ H Q I h
  refine wpAny_Call_Name_kw (ld_blt I hg hm boot_max ?_ (by decide) (by decide))
  refine callWith_builtin_kwB hplain rfl (evalArgs_kw2 rfl (thn (ha pos pins s σ H _ I h) fun us s1 ⟨vs, H1, I1, r1, q1⟩ => ?_) he')
  refine thn (hkw pos pins s1 σ H1 _ I1 q1) fun ws s2 ⟨zs, H2, I2, r2, a, ns, k, e1, e2, hS, q⟩ => ?_
  subst e1 e2
  obtain ⟨u, rfl, rx⟩ := vals1 r1
  cases rx
  obtain ⟨u2, rfl, t2, rfl⟩ := vals1 r2
  obtain ⟨its, r', pl, hz⟩ := I2.list hS
  have hl := r'.length
  rw [List.length_map] at hl
  have hi := intsAre_of r'
  have hf : ∀ (i : Nat) (v : Value), its[i]? = some v → ∃ t, v = Value.int (ns.getD i 0) t := fun i v hv => by
    obtain ⟨hi1, hv1⟩ := List.getElem?_eq_some_iff.mp hv
    obtain ⟨t, e⟩ := intsAre_get hi i hi1 (by omega)
    refine ⟨t, ?_⟩
    rw [← hv1, e, List.getD_eq_getElem?_getD, List.getElem?_eq_getElem (by omega)]
    rfl
  refine max_def (fun i => ns.getD i 0) (I2.ok.hd hc) pl.isList hf (fun h0 h' tk' kp' => ?_) (fun i v h' tk' hv hb kp' => ?_)
  · have n0 : ns = [] := List.eq_nil_of_length_eq_zero (by rw [hl, h0]; rfl)
    exact ⟨.int k, H2, I2.kept kp', ⟨t2, rfl⟩, q k (fun _ => rfl) fun z => absurd n0 z⟩
  · obtain ⟨t, rfl⟩ := hf i v hv
    have hi1 : i < ns.length := by rw [hl]; exact (List.getElem?_eq_some_iff.mp hv).1
    have mem : ns.getD i 0 ∈ ns := by
      rw [List.getD_eq_getElem?_getD, List.getElem?_eq_getElem hi1]
      exact List.getElem_mem hi1
    refine ⟨.int (ns.getD i 0), H2, I2.kept kp', ⟨t, rfl⟩, q _ (fun z => by rw [z] at hi1; simp at hi1) fun _ => ⟨mem, fun z hz' => ?_⟩⟩
    obtain ⟨j, hj, rfl⟩ := List.mem_iff_getElem.mp hz'
    have := hb j (by omega)
    simpa [List.getD_eq_getElem?_getD, hj] using this
end L2


namespace L2
open PySem PySem.Spec PyProof.Rows
section
variable {X : Cx}
end
end L2

namespace L2
open PySem PySem.Spec PyProof.Rows
theorem pe_lcg2 {X : Cx} {scope : Scope} {cl : List (Str × Addr)} {x y : Str} {N : List Str} {fr : List Nat} {elt iter : Expr} {ifs : List Expr} {pos px py pt : Pos} {k : Nat} {wi : TI} {tc : TT} {te : TE} (O : CompOkG X scope cl [x, y] N fr) (hx : scope.names.lookup x = some .local) (hy : scope.names.lookup y = some .local)
    (hi : PI X (.Tuple [.Name x px, .Name y py] k pt) iter wi) (hc : ∀ cl C s₀ H₀ ex, PTs (cxComp X ([x, y] ++ N) scope cl C s₀ H₀ ex) ifs tc) (he : ∀ cl C s₀ H₀ ex, PE (cxComp X ([x, y] ++ N) scope cl C s₀ H₀ ex) elt te)
    (hs : ∀ z, foldedSetIterable iter X.env z = pure z := by intro _; rfl) : PE X (.ListComp elt [⟨.Tuple [.Name x px, .Name y py] k pt, iter, ifs, 0⟩] scope pos) (tLCG wi [x, y] fr (gTup X.K 2 (gCons (gName 0) (gCons (gName 1) gNil))) tc te) := by
  refine pe_lcg O hi (fun cl C s₀ H₀ ex => ?_) hc he hs
  refine pg_tup (n := 2) O.calm ?_
  refine pgs_cons ?_ (pgs_cons ?_ pgs_nil)
  · exact pg_name O.nd rfl (.inl (lookup_relabel_local hx)) (.inr (lookup_relabel_local hx))
  · exact pg_name O.nd rfl (.inl (lookup_relabel_local hy)) (.inr (lookup_relabel_local hy))
end L2

namespace Zf
open PS

noncomputable def ev (x : Rat) : List Int → Rat
  | [] => 0
  | c :: cs => (c : Rat) + x * ev x cs
noncomputable def addR : List Int → List Int → List Int
  | [], m => m
  | a :: l, [] => a :: l
  | a :: l, b :: m => (a + b) :: addR l m
noncomputable def mulR : List Int → List Int → List Int
  | [], _ => []
  | a :: l, m => addR (m.map (a * ·)) (0 :: mulR l m)
theorem ev_add (x : Rat) : ∀ l m : List Int, ev x (addR l m) = ev x l + ev x m
  | [], m => by show ev x m = 0 + ev x m; grind
  | a :: l, [] => by show ev x (a :: l) = ev x (a :: l) + 0; grind
  | a :: l, b :: m => by
    have ih := ev_add x l m
    show ((a + b : Int) : Rat) + x * ev x (addR l m) = ((a : Rat) + x * ev x l) + ((b : Rat) + x * ev x m)
    rw [ih, Rat.intCast_add]
    grind
theorem ev_smul (x : Rat) (a : Int) : ∀ l : List Int, ev x (l.map (a * ·)) = (a : Rat) * ev x l
  | [] => by show (0 : Rat) = (a : Rat) * 0; grind
  | b :: l => by
    show ((a * b : Int) : Rat) + x * ev x (l.map (a * ·)) = (a : Rat) * ((b : Rat) + x * ev x l)
    rw [ev_smul x a l, Rat.intCast_mul]
    grind
theorem ev_mul (x : Rat) : ∀ l m : List Int, ev x (mulR l m) = ev x l * ev x m
  | [], m => by show (0 : Rat) = 0 * ev x m; grind
  | a :: l, m => by
    show ev x (addR (m.map (a * ·)) (0 :: mulR l m)) = ((a : Rat) + x * ev x l) * ev x m
    rw [ev_add, ev_smul]
    show _ + (((0 : Int) : Rat) + x * ev x (mulR l m)) = _
    rw [ev_mul x l m, Rat.intCast_zero]
    grind
theorem co_add : ∀ l m : List Int, co (addR l m) = co l + co m
  | [], m => by show co m = co [] + co m; rw [co_nil]; grind
  | a :: l, [] => by show co (a :: l) = co (a :: l) + co []; rw [co_nil]; grind
  | a :: l, b :: m => by
    show co ((a + b) :: addR l m) = _
    rw [co_cons, co_cons, co_cons, co_add l m, C_add]
    grind
theorem co_smul (a : Int) (l : List Int) : co (l.map (a * ·)) = C a * co l := by
  ext t
  rw [C_mul, co_at, co_at]
  by_cases h : t < l.length
  · simp [List.getD_eq_getElem?_getD, h]
  · rw [getD_out' (by simp; omega), getD_out' (by omega), Int.mul_zero]
theorem co_mulR : ∀ l m : List Int, co (mulR l m) = co l * co m
  | [], m => by show co [] = co [] * co m; rw [co_nil]; grind
  | a :: l, m => by
    show co (addR (m.map (a * ·)) (0 :: mulR l m)) = _
    rw [co_add, co_smul, co_cons, co_cons, co_mulR l m, show C 0 = (0 : PS) from rfl]
    grind
theorem co_tail {a b : Int} {l m : List Int} (h : co (a :: l) = co (b :: m)) : a = b ∧ co l = co m := by
  refine ⟨congrFun h 0, ?_⟩
  ext t
  exact congrFun h (t + 1)
theorem ev_congr (x : Rat) : ∀ {l m : List Int}, co l = co m → ev x l = ev x m
  | [], [], _ => rfl
  | [], b :: m, h => by
    have h1 : co ((0 : Int) :: []) = co (b :: m) := by
      rw [← h, co_cons, co_nil, show C 0 = (0 : PS) from rfl]
      grind
    obtain ⟨h2, h3⟩ := co_tail h1
    show (0 : Rat) = (b : Rat) + x * ev x m
    rw [← ev_congr x h3, ← h2, Rat.intCast_zero]
    show (0 : Rat) = 0 + x * 0
    grind
  | a :: l, [], h => by
    have h1 : co (a :: l) = co ((0 : Int) :: []) := by
      rw [h, co_cons, co_nil, show C 0 = (0 : PS) from rfl]
      grind
    obtain ⟨h2, h3⟩ := co_tail h1
    show (a : Rat) + x * ev x l = (0 : Rat)
    rw [ev_congr x h3, h2, Rat.intCast_zero]
    show (0 : Rat) + x * 0 = 0
    grind
  | a :: l, b :: m, h => by
    obtain ⟨h2, h3⟩ := co_tail h
    show (a : Rat) + x * ev x l = (b : Rat) + x * ev x m
    rw [ev_congr x h3, h2]

noncomputable def Ev (x : Rat) (f : PS) (v : Rat) : Prop := ∃ l, co l = f ∧ ev x l = v
theorem Ev.co (x : Rat) (c : List Int) : Ev x (co c) (ev x c) := ⟨c, rfl, rfl⟩
theorem Ev.add {x v w : Rat} {f g : PS} (h : Ev x f v) (k : Ev x g w) : Ev x (f + g) (v + w) := by
  obtain ⟨l, rfl, rfl⟩ := h
  obtain ⟨m, rfl, rfl⟩ := k
  exact ⟨addR l m, co_add l m, ev_add x l m⟩
theorem Ev.mul {x v w : Rat} {f g : PS} (h : Ev x f v) (k : Ev x g w) : Ev x (f * g) (v * w) := by
  obtain ⟨l, rfl, rfl⟩ := h
  obtain ⟨m, rfl, rfl⟩ := k
  exact ⟨mulR l m, co_mulR l m, ev_mul x l m⟩
theorem Ev.C (x : Rat) (a : Int) : Ev x (C a) a := ⟨[a], by rw [co_cons, co_nil]; grind, by show (a : Rat) + x * 0 = a; grind⟩
theorem Ev.uniq {x v w : Rat} {f : PS} (h : Ev x f v) (k : Ev x f w) : v = w := by
  obtain ⟨l, h1, rfl⟩ := h
  obtain ⟨m, h2, rfl⟩ := k
  exact ev_congr x (h1.trans h2.symm)
theorem Po.list {f : PS} (h : Po f) : ∃ l, Zf.co l = f := let ⟨n, a⟩ := h; ⟨upto f n, upto_co a⟩

noncomputable def ed (x : Rat) : List Int → Rat
  | [] => 0
  | _ :: cs => ev x cs + x * ed x cs
noncomputable def dl : List Int → List Int
  | [] => []
  | _ :: cs => addR cs (0 :: dl cs)
theorem ed_dl (x : Rat) : ∀ c : List Int, ev x (dl c) = ed x c
  | [] => rfl
  | _ :: cs => by
    show ev x (addR cs (0 :: dl cs)) = ev x cs + x * ed x cs
    rw [ev_add]
    show _ + (((0 : Int) : Rat) + x * ev x (dl cs)) = _
    rw [ed_dl x cs, Rat.intCast_zero]
    grind
theorem dv_add (f g : PS) : dv (f + g) = dv f + dv g := by
  ext t
  rw [dv_at, add_at, add_at, dv_at, dv_at, Int.mul_add]
theorem dv_X1 : dv X1 = 1 := by
  ext t
  rw [dv_at]
  show ((t : Int) + 1) * (if t + 1 = 1 then 1 else 0) = if t = 0 then 1 else 0
  by_cases h : t = 0
  · subst h; rfl
  · rw [if_neg (by omega), if_neg h, Int.mul_zero]
theorem co_dl : ∀ c : List Int, co (dl c) = dv (co c)
  | [] => by show co [] = _; rw [co_nil]; exact (dv_C 0).symm
  | b :: cs => by
    show co (addR cs (0 :: dl cs)) = _
    rw [co_add, co_cons, co_cons, co_dl cs, dv_add, dv_mul, dv_X1, dv_C, show C 0 = (0 : PS) from rfl]
    grind
theorem ev_slope (x : Rat) (c : List Int) : ev x (slopeL c) = ed x c := by
  rw [← ed_dl]
  exact ev_congr x (by rw [co_slope, co_dl])

noncomputable def In (B x : Rat) : Prop := -B ≤ x ∧ x ≤ B
theorem In.mul {A B x y : Rat} (h : In A x) (k : In B y) : In (A * B) (x * y) := by
  obtain ⟨h1, h2⟩ := h
  obtain ⟨k1, k2⟩ := k
  have a1 : 0 ≤ (A - x) * (B - y) := Rat.mul_nonneg (by grind) (by grind)
  have a2 : 0 ≤ (A + x) * (B + y) := Rat.mul_nonneg (by grind) (by grind)
  have a3 : 0 ≤ (A - x) * (B + y) := Rat.mul_nonneg (by grind) (by grind)
  have a4 : 0 ≤ (A + x) * (B - y) := Rat.mul_nonneg (by grind) (by grind)
  constructor <;> grind
theorem In.add {A B x y : Rat} (h : In A x) (k : In B y) : In (A + B) (x + y) := by
  obtain ⟨h1, h2⟩ := h
  obtain ⟨k1, k2⟩ := k
  constructor <;> grind
theorem In.mono {A B x : Rat} (h : In A x) (l : A ≤ B) : In B x := by
  obtain ⟨h1, h2⟩ := h
  constructor <;> grind
theorem in_int (c : Int) : In (c.natAbs : Rat) (c : Rat) := by
  have h1 : ((-(c.natAbs : Int) : Int) : Rat) ≤ ((c : Int) : Rat) := Rat.intCast_le_intCast.mpr (by omega)
  have h2 : ((c : Int) : Rat) ≤ (((c.natAbs : Nat) : Int) : Rat) := Rat.intCast_le_intCast.mpr (by omega)
  constructor
  · rwa [Rat.intCast_neg] at h1
  · exact h2
noncomputable def eB (M : Rat) : List Int → Rat
  | [] => 0
  | c :: cs => (c.natAbs : Rat) + M * eB M cs
noncomputable def eL (M : Rat) : List Int → Rat
  | [] => 0
  | _ :: cs => eB M cs + M * eL M cs
noncomputable def eK (M : Rat) : List Int → Rat
  | [] => 0
  | _ :: cs => eL M cs + M * eK M cs
theorem ev_in {M x : Rat} (hx : In M x) : ∀ c : List Int, In (eB M c) (ev x c)
  | [] => by constructor <;> simp [eB, ev] <;> grind
  | c :: cs => (in_int c).add (hx.mul (ev_in hx cs))
theorem ev_lip {M x y : Rat} (hx : In M x) (hy : In M y) : ∀ c : List Int, ∃ g, In (eL M c) g ∧ ev y c - ev x c = (y - x) * g
  | [] => ⟨0, by constructor <;> simp [eL] <;> grind, by show (0 : Rat) - 0 = _; grind⟩
  | c :: cs => by
    obtain ⟨g, hg, e⟩ := ev_lip hx hy cs
    refine ⟨ev y cs + x * g, (ev_in hy cs).add (hx.mul hg), ?_⟩
    show ((c : Rat) + y * ev y cs) - ((c : Rat) + x * ev x cs) = _
    grind
theorem ev_tay {M x y : Rat} (hx : In M x) (hy : In M y) : ∀ c : List Int, ∃ k, In (eK M c) k ∧ ev y c - ev x c = (y - x) * (ed x c + (y - x) * k)
  | [] => ⟨0, by constructor <;> simp [eK] <;> grind, by show (0 : Rat) - 0 = (y - x) * (0 + _); grind⟩
  | c :: cs => by
    obtain ⟨g, hg, e⟩ := ev_lip hx hy cs
    obtain ⟨k, hk, e2⟩ := ev_tay hx hy cs
    refine ⟨g + x * k, hg.add (hx.mul hk), ?_⟩
    show ((c : Rat) + y * ev y cs) - ((c : Rat) + x * ev x cs) = (y - x) * (ev x cs + x * ed x cs + (y - x) * (g + x * k))
    have e3 : ev y cs = ev x cs + (y - x) * g := by grind
    have e4 : x * (ev y cs - ev x cs) = x * ((y - x) * (ed x cs + (y - x) * k)) := by rw [e2]
    grind
end Zf

namespace Zf
open PS

noncomputable def rs (v : Rat) : Int := if 0 < v then 1 else if v < 0 then -1 else 0
theorem rs_pos {v : Rat} (h : 0 < v) : rs v = 1 := if_pos h
theorem rs_neg {v : Rat} (h : v < 0) : rs v = -1 := by
  unfold rs
  rw [if_neg (by grind), if_pos h]
theorem rs_zero : rs 0 = 0 := by decide
theorem rs_cases (v : Rat) : (0 < v ∧ rs v = 1) ∨ (v = 0 ∧ rs v = 0) ∨ (v < 0 ∧ rs v = -1) := by
  by_cases h : 0 < v
  · exact .inl ⟨h, rs_pos h⟩
  · by_cases k : v < 0
    · exact .inr (.inr ⟨k, rs_neg k⟩)
    · have z : v = 0 := by grind
      exact .inr (.inl ⟨z, by rw [z]; rfl⟩)
theorem rdiv_pos {a b : Rat} (h : 0 < a) (k : 0 < b) : 0 < a / b := by rw [Rat.lt_div_iff k]; grind
theorem rs_sg (v : Rat) : Sg (rs v) := by
  rcases rs_cases v with ⟨_, h⟩ | ⟨_, h⟩ | ⟨_, h⟩
  · exact .inl h
  · exact .inr (.inl h)
  · exact .inr (.inr h)
theorem rs_one {v : Rat} (h : rs v = 1) : 0 < v := by
  rcases rs_cases v with ⟨k, q⟩ | ⟨_, q⟩ | ⟨_, q⟩
  · exact k
  · rw [h] at q; cases q
  · rw [h] at q; cases q
theorem rs_mone {v : Rat} (h : rs v = -1) : v < 0 := by
  rcases rs_cases v with ⟨_, q⟩ | ⟨_, q⟩ | ⟨k, q⟩
  · rw [h] at q; cases q
  · rw [h] at q; cases q
  · exact k

noncomputable def Near (M : Rat) (P : Rat → Rat → Prop) : Prop := ∃ δ : Rat, 0 < δ ∧ ∀ x y, In M x → In M y → x ≤ y → y - x ≤ δ → P x y
theorem Near.and {M : Rat} {P Q : Rat → Rat → Prop} (h : Near M P) (k : Near M Q) : Near M fun x y => P x y ∧ Q x y := by
  obtain ⟨d, d0, h⟩ := h
  obtain ⟨e, e0, k⟩ := k
  rcases (by grind : d ≤ e ∨ e ≤ d) with l | l
  · exact ⟨d, d0, fun x y a b c f => ⟨h x y a b c f, k x y a b c (by grind)⟩⟩
  · exact ⟨e, e0, fun x y a b c f => ⟨h x y a b c (by grind), k x y a b c f⟩⟩
theorem Near.mono {M : Rat} {P Q : Rat → Rat → Prop} (h : Near M P) (k : ∀ x y, In M x → In M y → x ≤ y → P x y → Q x y) : Near M Q := by
  obtain ⟨d, d0, h⟩ := h
  exact ⟨d, d0, fun x y a b c f => k x y a b c (h x y a b c f)⟩
theorem Near.triv {M : Rat} {P : Rat → Rat → Prop} (h : ∀ x y, P x y) : Near M P := ⟨1, by decide, fun x y _ _ _ _ => h x y⟩
theorem eB_nn {M : Rat} (h : 0 ≤ M) : ∀ c : List Int, 0 ≤ eB M c
  | [] => by show (0 : Rat) ≤ 0; grind
  | c :: cs => by
    have h1 : (0 : Rat) ≤ (c.natAbs : Rat) := Rat.intCast_nonneg.mpr (by omega : (0 : Int) ≤ (c.natAbs : Int))
    have h2 := Rat.mul_nonneg h (eB_nn h cs)
    show 0 ≤ (c.natAbs : Rat) + M * eB M cs
    grind
theorem eL_nn {M : Rat} (h : 0 ≤ M) : ∀ c : List Int, 0 ≤ eL M c
  | [] => by show (0 : Rat) ≤ 0; grind
  | c :: cs => by
    have h1 := eB_nn h cs
    have h2 := Rat.mul_nonneg h (eL_nn h cs)
    show 0 ≤ eB M cs + M * eL M cs
    grind
theorem eK_nn {M : Rat} (h : 0 ≤ M) : ∀ c : List Int, 0 ≤ eK M c
  | [] => by show (0 : Rat) ≤ 0; grind
  | c :: cs => by
    have h1 := eL_nn h cs
    have h2 := Rat.mul_nonneg h (eK_nn h cs)
    show 0 ≤ eL M cs + M * eK M cs
    grind
theorem near_mul {M L η : Rat} (hL : 0 ≤ L) (hη : 0 < η) : Near M fun x y => (y - x) * L < η := by
  refine ⟨η / (L + 1), ?_, fun x y _ _ h d => ?_⟩
  · exact rdiv_pos hη (by grind)
  · have h1 : (y - x) * (L + 1) ≤ η := by
      have := Rat.mul_le_mul_of_nonneg_right d (c := L + 1) (by grind)
      rwa [Rat.div_mul_cancel (by grind)] at this
    rcases (by grind : 0 < y - x ∨ y - x ≤ 0) with q | q
    · grind
    · have : y - x = 0 := by grind
      show (y - x) * L < η
      rw [this]
      grind
noncomputable def St (x y : Rat) (c : List Int) (p : Int) : Prop := rs (ev x c) = p ∧ rs (ev y c) = p ∧ (p = 1 ∨ p = -1)
theorem near_dich {M η : Rat} (hM : 0 ≤ M) (hη : 0 < η) (c : List Int) : Near M fun x y => (∃ p, St x y c p) ∨ In η (ev x c) := by
  refine (near_mul (eL_nn hM c) hη).mono fun x y hx hy h d => ?_
  obtain ⟨g, hg, e⟩ := ev_lip hx hy c
  have h1 : In (y - x) (y - x) := by constructor <;> grind
  have h2 := h1.mul hg
  rw [← e] at h2
  obtain ⟨a, b⟩ := h2
  by_cases c1 : η < ev x c
  · exact .inl ⟨1, rs_pos (by grind), rs_pos (by grind), .inl rfl⟩
  · by_cases c2 : ev x c < -η
    · exact .inl ⟨-1, rs_neg (by grind), rs_neg (by grind), .inr rfl⟩
    · exact .inr ⟨by grind, by grind⟩

inductive Al : Int → List Int → List Int → Prop
  | nil (p : Int) : Al p [] []
  | same (p s : Int) (ss ts : List Int) : (s = 1 ∨ s = -1) → Al s ss ts → Al p (s :: ss) (s :: ts)
  | skip (p s t : Int) (ss ts : List Int) : (p = 1 ∨ p = -1) → Sg s → Sg t → Al (-p) ss ts → Al p (s :: (-p) :: ss) (t :: (-p) :: ts)
theorem chg_skip {p s : Int} (hp : p = 1 ∨ p = -1) (hs : Sg s) (ss : List Int) : chg p (s :: (-p) :: ss) = 1 + chg (-p) ss := by
  show (if p * s = -1 then 1 else 0) + ((if (if s ≠ 0 then s else p) * -p = -1 then 1 else 0) + chg (if -p ≠ 0 then -p else _) ss) = 1 + chg (-p) ss
  rw [if_pos (c := -p ≠ 0) (by omega), ← Int.add_assoc]
  congr 1
  rcases hp with r | r <;> subst r <;> rcases hs with q | q | q <;> subst q <;> rfl
theorem Al.chg {p : Int} {ss ts : List Int} (h : Al p ss ts) : chg p ss = chg p ts := by
  induction h with
  | nil => rfl
  | same p s ss ts hs _ ih =>
    show _ + Zf.chg _ ss = _ + Zf.chg _ ts
    rw [if_pos (c := s ≠ 0) (by omega), ih]
  | skip p s t ss ts hp hs ht _ ih => rw [chg_skip hp hs, chg_skip hp ht, ih]
noncomputable def sgs (x : Rat) (ls : List (List Int)) : List Int := ls.map fun c => rs (ev x c)
theorem one_le_abs {k : Int} (h : k ≠ 0) : (1 : Rat) ≤ (k : Rat) ∨ (k : Rat) ≤ -1 := by
  rcases Int.lt_or_gt_of_ne h with q | q
  · right
    have : ((k : Int) : Rat) ≤ ((-1 : Int) : Rat) := Rat.intCast_le_intCast.mpr (by omega)
    simpa using this
  · left
    have : ((1 : Int) : Rat) ≤ ((k : Int) : Rat) := Rat.intCast_le_intCast.mpr (by omega)
    simpa using this
theorem one_le_cast {k : Int} (h : 0 < k) : (1 : Rat) ≤ (k : Rat) := by
  have : ((1 : Int) : Rat) ≤ ((k : Int) : Rat) := Rat.intCast_le_intCast.mpr (by omega)
  simpa using this

theorem turn_ev {a b r : List Int} (h : Left a b r) : ∃ (A : Int) (q : List Int), 0 < A ∧ C A * co a = co q * co b + co r ∧ ∀ x, (A : Rat) * ev x a = ev x q * ev x b + ev x r := by
  obtain ⟨_, _, A, d, q, hA, hq, e⟩ := h
  refine ⟨A, upto q d, hA, by rw [upto_co hq]; exact e, fun x => ?_⟩
  have e1 := (Ev.C x A).mul (Ev.co x a)
  have e2 := ((Ev.co x (upto q d)).mul (Ev.co x b)).add (Ev.co x r)
  rw [upto_co hq, ← e] at e2
  exact e1.uniq e2
theorem neg_plain_ev (x : Rat) (r : List Int) : ev x r = -((ct r : Int) : Rat) * ev x (negL (plainL r)) := by
  have e1 : Ev x (co r) (ev x r) := Ev.co x r
  have e2 : Ev x (C (- ct r) * co (negL (plainL r))) _ := (Ev.C x (- ct r)).mul (Ev.co x (negL (plainL r)))
  have e3 : C (- ct r) * co (negL (plainL r)) = co r := by
    unfold negL
    rw [co_neg, ← PS.mul_assoc, CC, show - ct r * -1 = ct r by omega, plain_mul]
  rw [e3] at e2
  have := e1.uniq e2
  rwa [Rat.intCast_neg] at this
theorem cop_ev {f g : List Int} (h : Cop (co f) (co g)) : ∃ (k : Int) (u v : List Int), k ≠ 0 ∧ ∀ x, (k : Rat) = ev x u * ev x f + ev x v * ev x g := by
  obtain ⟨k, u, v, hk, hu, hv, e⟩ := h
  obtain ⟨ul, hu⟩ := hu.list
  obtain ⟨vl, hv⟩ := hv.list
  refine ⟨k, ul, vl, hk, fun x => ?_⟩
  have e2 := ((Ev.co x ul).mul (Ev.co x f)).add ((Ev.co x vl).mul (Ev.co x g))
  rw [hu, hv, ← e] at e2
  exact (Ev.C x k).uniq e2
theorem cop_next {a b r : List Int} (h : Left a b r) (c : Cop (co a) (co b)) : Cop (co b) (co (negL (plainL r))) := by
  obtain ⟨_, _, A, d, q, hA, hq, e⟩ := h
  obtain ⟨k, u, v, hk, hu, hv, e2⟩ := c
  have e3 : C (- ct r) * co (negL (plainL r)) = co r := by
    unfold negL
    rw [co_neg, ← PS.mul_assoc, CC, show - ct r * -1 = ct r by omega, plain_mul]
  refine ⟨A * k, u * q + C A * v, u * C (- ct r), Int.mul_ne_zero (by omega) hk, (hu.mul ⟨d, hq⟩).add ((Po.C A).mul hv), hu.mul (Po.C _), ?_⟩
  rw [← CC, e2, PS.mul_assoc u, e3]
  have : C A * (u * co a + v * co b) = u * (C A * co a) + C A * v * co b := by grind
  rw [this, e]
  grind

theorem last_near {M : Rat} (hM : 0 ≤ M) {a b : List Int} (h : Left a b []) (c : Cop (co a) (co b)) : Near M fun x y => ∃ p, St x y b p := by
  obtain ⟨A, q, hA, _, e⟩ := turn_ev h
  obtain ⟨k, u, v, hk, e2⟩ := cop_ev c
  have hU := eB_nn hM u
  have hV := eB_nn hM v
  have hQ := eB_nn hM q
  have hA1 := one_le_cast hA
  have UQ := Rat.mul_nonneg hU hQ
  have AV : 0 ≤ (A : Rat) * eB M v := Rat.mul_nonneg (by grind) hV
  generalize hW : eB M u * eB M q + (A : Rat) * eB M v + 1 = W
  have hW1 : 0 < W := by grind
  refine (near_dich hM (η := 1 / W) (rdiv_pos (by decide) hW1) b).mono fun x y hx hy _ d => ?_
  rcases d with d | d
  · exact d
  · exfalso
    have i1 := ev_in hx u
    have i2 := ev_in hx v
    have i3 := ev_in hx q
    have e3 := e x
    have e4 := e2 x
    rw [show ev x [] = (0 : Rat) from rfl] at e3
    have z : (A : Rat) * (k : Rat) = (ev x u * ev x q + (A : Rat) * ev x v) * ev x b := by
      have : (A : Rat) * (k : Rat) = ev x u * ((A : Rat) * ev x a) + (A : Rat) * ev x v * ev x b := by rw [e4]; grind
      rw [this, e3]
      grind
    have iA : In (A : Rat) (A : Rat) := by constructor <;> grind
    have i4 := ((i1.mul i3).add (iA.mul i2)).mul d
    rw [← z] at i4
    have j : (eB M u * eB M q + (A : Rat) * eB M v) * (1 / W) < 1 := by
      have : W * (1 / W) = 1 := by grind
      have p : 0 < 1 / W := rdiv_pos (by decide) hW1
      have : (eB M u * eB M q + (A : Rat) * eB M v) * (1 / W) + 1 / W = 1 := by grind
      grind
    obtain ⟨j1, j2⟩ := i4
    rcases one_le_abs hk with q1 | q1
    · have := Rat.mul_le_mul_of_nonneg_left q1 (c := (A : Rat)) (by grind)
      grind
    · have := Rat.mul_le_mul_of_nonneg_left q1 (c := (A : Rat)) (by grind)
      grind

theorem mid_near {M : Rat} (hM : 0 ≤ M) {a b r : List Int} (h : Left a b r) (hr : r ≠ []) (cp : Cop (co b) (co (negL (plainL r)))) : Near M fun x y => (∃ p, St x y b p) ∨ ∃ p, St x y (negL (plainL r)) p ∧ (rs (ev x a) = 1 → p = -1) ∧ (rs (ev x a) = -1 → p = 1) := by
  obtain ⟨A, q, hA, _, e⟩ := turn_ev h
  obtain ⟨k, u, v, hk, e2⟩ := cop_ev cp
  have ctp : 0 < ct r := ct_ne_zero h.1 hr
  have nev := fun x => neg_plain_ev x r
  generalize negL (plainL r) = c at *
  have hU := eB_nn hM u
  have hV := eB_nn hM v
  have hQ := eB_nn hM q
  have hA1 := one_le_cast hA
  have ht1 := one_le_cast ctp
  have VQ := Rat.mul_nonneg hV hQ
  generalize hW : eB M u + eB M v + eB M v * eB M q + 1 = W
  have hW1 : 0 < W := by grind
  have p : 0 < 1 / W := rdiv_pos (by decide) hW1
  have w1 : W * (1 / W) = 1 := by grind
  refine ((near_dich hM p b).and (near_dich hM p c)).mono fun x y hx hy _ d => ?_
  have i1 := ev_in hx u
  have i2 := ev_in hx v
  have i3 := ev_in hx q
  have e3 := e x
  have e4 := e2 x
  rw [nev x] at e3
  generalize ev x u = U at *
  generalize ev x v = V at *
  generalize ev x q = Q at *
  generalize eB M u = BU at *
  generalize eB M v = BV at *
  generalize eB M q = BQ at *
  generalize hη : 1 / W = η at *
  have b1 : 0 ≤ BU * η := Rat.mul_nonneg hU (by grind)
  have b2 : 0 ≤ BV * η := Rat.mul_nonneg hV (by grind)
  have b3 : 0 ≤ BV * BQ * η := Rat.mul_nonneg VQ (by grind)
  have w2 : BU * η + BV * η + BV * BQ * η + η = 1 := by rw [← w1, ← hW]; grind
  rcases d.1 with s | s
  · exact .inl s
  right
  have ub := i1.mul s
  have qb := i3.mul s
  rcases d.2 with t | t
  · obtain ⟨p', t⟩ := t
    refine ⟨p', t, fun ha => ?_, fun ha => ?_⟩
    · rcases t.2.2 with t2 | t2
      · exfalso
        have c0 : 0 < ev x c := rs_one (t2 ▸ t.1)
        have a0 : 0 < ev x a := rs_one ha
        have m1 : ev x c ≤ (ct r : Rat) * ev x c := by
          have := Rat.mul_le_mul_of_nonneg_right ht1 (c := ev x c) (by grind)
          grind
        have m2 : 0 < (A : Rat) * ev x a := Rat.mul_pos (by grind) a0
        have m3 : ev x c ≤ BQ * η := by
          have := qb.2
          grind
        have ic : In (BQ * η) (ev x c) := ⟨by grind, m3⟩
        have vc := i2.mul ic
        have kk := ub.add vc
        rw [← e4] at kk
        obtain ⟨k1, k2⟩ := kk
        rcases one_le_abs hk with q1 | q1 <;> grind
      · exact t2
    · rcases t.2.2 with t2 | t2
      · exact t2
      · exfalso
        have c0 : ev x c < 0 := rs_mone (t2 ▸ t.1)
        have a0 : ev x a < 0 := rs_mone ha
        have m1 : (ct r : Rat) * ev x c ≤ ev x c := by
          have := Rat.mul_le_mul_of_nonneg_right ht1 (c := - ev x c) (by grind)
          grind
        have m2 : 0 < (A : Rat) * (- ev x a) := Rat.mul_pos (by grind) (by grind)
        have m3 : -(BQ * η) ≤ ev x c := by
          have := qb.1
          grind
        have ic : In (BQ * η) (ev x c) := ⟨m3, by grind⟩
        have vc := i2.mul ic
        have kk := ub.add vc
        rw [← e4] at kk
        obtain ⟨k1, k2⟩ := kk
        rcases one_le_abs hk with q1 | q1 <;> grind
  · exfalso
    have vc := i2.mul t
    have kk := ub.add vc
    rw [← e4] at kk
    obtain ⟨k1, k2⟩ := kk
    rcases one_le_abs hk with q1 | q1 <;> grind
theorem al_near {M : Rat} (hM : 0 ≤ M) : ∀ (n : Nat) (a b : List Int) (ls : List (List Int)), ls.length ≤ n → Steps a b ls → Cop (co a) (co b) → Near M fun x y => ∀ p, St x y a p → Al p (sgs x ls) (sgs y ls) := by
  intro n
  induction n using Nat.strongRecOn with
  | ind n IH =>
  intro a b ls hn h cp
  cases h with
  | stop => exact Near.triv fun x y p _ => Al.nil p
  | step _ _ r ls hne hl k =>
    have hn' : ls.length + 1 ≤ n := by simpa using hn
    have cp2 := cop_next hl cp
    by_cases hr : r = []
    · subst hr
      have ls0 : ls = [] := by
        cases k with
        | stop => rfl
        | step _ _ _ _ h => exact absurd rfl h
      subst ls0
      refine (last_near hM hl cp).mono fun x y _ _ _ ⟨q, hq⟩ p hp => ?_
      show Al p [rs (ev x b)] [rs (ev y b)]
      rw [hq.1, hq.2.1]
      exact Al.same p q [] [] hq.2.2 (Al.nil q)
    · have N1 := IH ls.length (by omega) b _ ls (Nat.le_refl _) k cp2
      have N2 := mid_near hM hl hr cp2
      have cne : negL (plainL r) ≠ [] := fun z => hr (List.eq_nil_of_length_eq_zero (by rw [← plain_length, ← neg_length, z]; rfl))
      generalize hc : negL (plainL r) = c at *
      cases k with
      | stop => exact absurd rfl cne
      | step _ _ r2 ls2 _ hl2 k2 =>
        have N3 := IH ls2.length (by simp at hn'; omega) c _ ls2 (Nat.le_refl _) k2 (cop_next hl2 cp2)
        refine ((N1.and N2).and N3).mono fun x y _ _ _ ⟨⟨d1, d2⟩, d3⟩ p hp => ?_
        rcases d2 with ⟨q, hq⟩ | ⟨q, hq, h1, h2⟩
        · have := d1 q hq
          show Al p (rs (ev x b) :: _) (rs (ev y b) :: _)
          rw [hq.1, hq.2.1]
          exact Al.same p q _ _ hq.2.2 this
        · have e : q = -p := by
            rcases hp.2.2 with r | r
            · rw [r, h1 (by rw [hp.1, r])]
            · rw [r, h2 (by rw [hp.1, r])]; rfl
          subst e
          have := d3 (-p) hq
          show Al p (rs (ev x b) :: rs (ev x c) :: _) (rs (ev y b) :: rs (ev y c) :: _)
          rw [hq.1, hq.2.1]
          exact Al.skip p _ _ _ _ hp.2.2 (rs_sg _) (rs_sg _) this

noncomputable def cross (s t : Int) : Int := if s ≠ 0 ∧ s ≠ t then 1 else 0
theorem ev_plain (x : Rat) (c : List Int) : ev x c = ((ct c : Int) : Rat) * ev x (plainL c) := by
  have e2 := (Ev.C x (ct c)).mul (Ev.co x (plainL c))
  rw [plain_mul] at e2
  exact (Ev.co x c).uniq e2
noncomputable def Vc (x : Rat) (ls : List (List Int)) : Int := chg 0 (sgs x ls)
theorem sturm_near {M : Rat} (hM : 0 ≤ M) {s : List Int} {ls : List (List Int)} (hs : GoodL s) (s0 : s ≠ []) (h : Steps s (plainL (slopeL s)) ls) (cp : Cop (co s) (co (plainL (slopeL s)))) : Near M fun x y => Vc x (s :: ls) - Vc y (s :: ls) = cross (rs (ev x s)) (rs (ev y s)) := by
  have N0 := al_near hM ls.length s _ ls (Nat.le_refl _) h cp
  have st : ∀ x y p, St x y s p → Al p (sgs x ls) (sgs y ls) → Vc x (s :: ls) - Vc y (s :: ls) = cross (rs (ev x s)) (rs (ev y s)) := by
    intro x y p hp al
    unfold Vc
    show chg 0 (rs (ev x s) :: sgs x ls) - chg 0 (rs (ev y s) :: sgs y ls) = _
    rw [hp.1, hp.2.1]
    unfold chg cross
    rw [if_pos (c := p ≠ 0) (by have := hp.2.2; omega), al.chg, if_neg (by simp)]
    omega
  generalize hb : plainL (slopeL s) = b0 at h cp
  cases h with
  | stop =>

    have hl : s.length = 1 := by
      have h1 : (plainL (slopeL s)).length = 0 := by rw [hb]; rfl
      rw [plain_length, slope_length] at h1
      have := List.length_pos_iff.mpr s0
      omega
    obtain ⟨a, rfl⟩ := List.length_eq_one_iff.mp hl
    have ha : a ≠ 0 := hs s0
    refine Near.triv fun x y => ?_
    have e : ∀ x, ev x [a] = (a : Rat) := fun x => by show (a : Rat) + x * 0 = a; grind
    have p : ∃ p, St x y [a] p := by
      unfold St
      rw [e, e]
      rcases one_le_abs ha with q | q
      · exact ⟨1, rs_pos (by grind), rs_pos (by grind), .inl rfl⟩
      · exact ⟨-1, rs_neg (by grind), rs_neg (by grind), .inr rfl⟩
    obtain ⟨p, hp⟩ := p
    exact st x y p hp (Al.nil p)
  | step _ _ r ls2 hne hl k =>
    have N1 := al_near hM ls2.length b0 _ ls2 (Nat.le_refl _) k (cop_next hl cp)
    obtain ⟨kk, u, v, hk, e2⟩ := cop_ev cp
    have hU := eB_nn hM u
    have hV := eB_nn hM v
    generalize hW : eB M u + eB M v + 1 = W
    have hW1 : 0 < W := by grind
    have p0 : 0 < 1 / W := rdiv_pos (by decide) hW1
    have w1 : W * (1 / W) = 1 := by grind
    have N2 := (near_dich hM p0 s).and (near_dich hM p0 b0)
    have N3 := near_mul (M := M) (eK_nn hM s) p0
    have cp1 : 0 < ct (slopeL s) := by
      refine ct_ne_zero (slope_good hs) fun z => hne ?_
      rw [← hb, z]; rfl
    have ct1 := one_le_cast cp1
    refine (((N0.and N1).and N2).and N3).mono fun x y hx hy hxy ⟨⟨⟨d0, d1⟩, ⟨d2, d3⟩⟩, d4⟩ => ?_
    rcases d2 with ⟨p, hp⟩ | d2
    · exact st x y p hp (d0 p hp)
    · have i1 := ev_in hx u
      have i2 := ev_in hx v
      have ub := i1.mul d2
      have e4 := e2 x

      have big : 1 / W < ev x b0 ∨ ev x b0 < -(1 / W) := by
        by_cases c1 : In (1 / W) (ev x b0)
        · exfalso
          have vc := i2.mul c1
          have kk' := ub.add vc
          rw [← e4] at kk'
          have w2 : eB M u * (1 / W) + eB M v * (1 / W) + 1 / W = 1 := by rw [← w1, ← hW]; grind
          obtain ⟨k1, k2⟩ := kk'
          rcases one_le_abs hk with q1 | q1 <;> grind
        · unfold In at c1
          grind
      have stb : ∃ p, St x y b0 p := by
        rcases d3 with q | q
        · exact q
        · obtain ⟨q1, q2⟩ := q
          grind
      obtain ⟨p, hp⟩ := stb
      have al := d1 p hp
      obtain ⟨t, ht, et⟩ := ev_tay hx hy s
      have es : ed x s = (ct (slopeL s) : Rat) * ev x b0 := by
        rw [← ev_slope, ev_plain, hb]
      have id : In (y - x) (y - x) := by constructor <;> grind
      have dt := id.mul ht
      unfold Vc
      show chg 0 (rs (ev x s) :: rs (ev x b0) :: sgs x ls2) - chg 0 (rs (ev y s) :: rs (ev y b0) :: sgs y ls2) = _
      rw [hp.1, hp.2.1]

      have mono : (p = 1 → ev x s ≤ ev y s) ∧ (p = -1 → ev y s ≤ ev x s) := by
        obtain ⟨dt1, dt2⟩ := dt
        refine ⟨fun q => ?_, fun q => ?_⟩
        · have b1 : 0 < ev x b0 := rs_one (q ▸ hp.1)
          have b2 : ev x b0 ≤ (ct (slopeL s) : Rat) * ev x b0 := by
            have := Rat.mul_le_mul_of_nonneg_right ct1 (c := ev x b0) (by grind)
            grind
          have b3 : 0 ≤ ed x s + (y - x) * t := by grind
          have b4 := Rat.mul_nonneg (a := y - x) (by grind) b3
          grind
        · have b1 : ev x b0 < 0 := rs_mone (q ▸ hp.1)
          have b2 : (ct (slopeL s) : Rat) * ev x b0 ≤ ev x b0 := by
            have := Rat.mul_le_mul_of_nonneg_right ct1 (c := - ev x b0) (by grind)
            grind
          have b3 : 0 ≤ - (ed x s + (y - x) * t) := by grind
          have b4 := Rat.mul_nonneg (a := y - x) (by grind) b3
          grind
      have c9 : ∀ z : Int, Sg z → ∀ ss, chg 0 (z :: p :: ss) = (if z = -p then 1 else 0) + chg p ss := by
        intro z hz ss
        show (if (0 : Int) * z = -1 then 1 else 0) + ((if (if z ≠ 0 then z else 0) * p = -1 then 1 else 0) + chg (if p ≠ 0 then p else _) ss) = _
        rw [if_neg (by omega), Int.zero_add, if_pos (c := p ≠ 0) (by have := hp.2.2; omega)]
        congr 1
        rcases hp.2.2 with r | r <;> subst r <;> rcases hz with q | q | q <;> subst q <;> rfl
      rw [c9 _ (rs_sg _), c9 _ (rs_sg _), al.chg]
      unfold cross
      rcases hp.2.2 with r | r
      · have m := mono.1 r
        subst r
        rcases rs_cases (ev x s) with ⟨a1, a2⟩ | ⟨a1, a2⟩ | ⟨a1, a2⟩ <;> rcases rs_cases (ev y s) with ⟨c1, c2⟩ | ⟨c1, c2⟩ | ⟨c1, c2⟩ <;> rw [a2, c2] <;> simp <;> first | omega | (exfalso; grind)
      · have m := mono.2 r
        subst r
        rcases rs_cases (ev x s) with ⟨a1, a2⟩ | ⟨a1, a2⟩ | ⟨a1, a2⟩ <;> rcases rs_cases (ev y s) with ⟨c1, c2⟩ | ⟨c1, c2⟩ | ⟨c1, c2⟩ <;> rw [a2, c2] <;> simp <;> first | omega | (exfalso; grind)
end Zf

namespace Zf
open PS

theorem arch (q : Rat) : ∃ n : Nat, q ≤ (n : Rat) := by
  refine ⟨q.ceil.toNat, ?_⟩
  have h1 := Rat.le_ceil (x := q)
  have h2 : ((q.ceil : Int) : Rat) ≤ (((q.ceil.toNat : Nat) : Int) : Rat) := Rat.intCast_le_intCast.mpr (by omega)
  have h3 : (((q.ceil.toNat : Nat) : Int) : Rat) = ((q.ceil.toNat : Nat) : Rat) := rfl
  rw [h3] at h2
  exact Rat.le_trans h1 h2
theorem all_of_near {F : Rat → Int} {R : Rat → Prop} (h : ∀ M, 0 ≤ M → Near M fun x y => R x → R y → F x = F y) {x y : Rat} (hxy : x ≤ y) (hR : ∀ z, x ≤ z → z ≤ y → R z) : F x = F y := by
  obtain ⟨M, hM, mx⟩ : ∃ M : Rat, 0 ≤ M ∧ ∀ z, x ≤ z → z ≤ y → In M z := by
    rcases (by grind : 0 ≤ x ∨ x ≤ 0) with a | a <;> rcases (by grind : 0 ≤ y ∨ y ≤ 0) with b | b
    · exact ⟨y, b, fun z _ _ => ⟨by grind, by grind⟩⟩
    · exact ⟨y - x, by grind, fun z _ _ => ⟨by grind, by grind⟩⟩
    · exact ⟨y - x, by grind, fun z _ _ => ⟨by grind, by grind⟩⟩
    · exact ⟨-x, by grind, fun z _ _ => ⟨by grind, by grind⟩⟩
  obtain ⟨δ, d0, hd⟩ := h M hM
  obtain ⟨n, hn⟩ := arch ((y - x) / δ)
  have hn' : y - x ≤ (n : Rat) * δ := by
    have := Rat.mul_le_mul_of_nonneg_right hn (c := δ) (by grind)
    rwa [Rat.div_mul_cancel (by grind)] at this
  have key : ∀ n : Nat, ∀ a, x ≤ a → a ≤ y → y - a ≤ (n : Rat) * δ → F a = F y := by
    intro n
    induction n with
    | zero =>
      intro a h1 h2 h3
      have e : a = y := by
        have : ((0 : Nat) : Rat) * δ = 0 := by simp
        grind
      rw [e]
    | succ n ih =>
      intro a h1 h2 h3
      have e : ((n + 1 : Nat) : Rat) = (n : Rat) + 1 := by simp
      rw [e] at h3
      by_cases c : y - a ≤ δ
      · exact hd a y (mx a h1 h2) (mx y hxy (by grind)) h2 c (hR a h1 h2) (hR y hxy (by grind))
      · rw [← ih (a + δ) (by grind) (by grind) (by grind)]
        exact hd a (a + δ) (mx a h1 h2) (mx _ (by grind) (by grind)) (by grind) (by grind) (hR a h1 h2) (hR _ (by grind) (by grind))
  exact key n x (by grind) hxy hn'

theorem cauchy_pos {σ m L : Int} {x : Rat} (hx : 0 ≤ x) (hL : 0 < σ * L) (hσ : σ = 1 ∨ σ = -1) (hm : (σ * L : Int) + (m : Rat) ≤ x * (σ * L : Int)) : ∀ (l : List Int), (∀ y ∈ l, -m ≤ y ∧ y ≤ m) → ((σ * L : Int) : Rat) ≤ (σ : Rat) * ev x (l ++ [L])
  | [], _ => by
    show ((σ * L : Int) : Rat) ≤ (σ : Rat) * ((L : Rat) + x * 0)
    rw [Rat.intCast_mul]
    grind
  | a :: l, h => by
    have ih := cauchy_pos hx hL hσ hm l fun y hy => h y (List.mem_cons_of_mem _ hy)
    obtain ⟨a1, a2⟩ := h a List.mem_cons_self
    show ((σ * L : Int) : Rat) ≤ (σ : Rat) * ((a : Rat) + x * ev x (l ++ [L]))
    have p := Rat.mul_le_mul_of_nonneg_left ih hx
    have a3 : (-(m : Rat)) ≤ (σ : Rat) * (a : Rat) := by
      rw [← Rat.intCast_mul, ← Rat.intCast_neg]
      refine Rat.intCast_le_intCast.mpr ?_
      rcases hσ with r | r <;> subst r <;> omega
    grind
theorem cauchy_neg {m L : Int} {x : Rat} (hx : 0 ≤ x) : ∀ (l : List Int) (σ : Int), (σ = 1 ∨ σ = -1) → 0 < σ * L → ((σ * L : Int) + (m : Rat) ≤ x * (σ * L : Int)) → (∀ y ∈ l, -m ≤ y ∧ y ≤ m) → ((σ * L : Int) : Rat) ≤ ((σ * (-1) ^ l.length : Int) : Rat) * ev (-x) (l ++ [L])
  | [], σ, _, _, _, _ => by
    show ((σ * L : Int) : Rat) ≤ ((σ * 1 : Int) : Rat) * ((L : Rat) + -x * 0)
    rw [Int.mul_one, Rat.intCast_mul]
    grind
  | a :: l, σ, hσ, hL, hm, h => by
    have ih := cauchy_neg (m := m) (L := L) hx l σ hσ hL hm fun y hy => h y (List.mem_cons_of_mem _ hy)
    obtain ⟨a1, a2⟩ := h a List.mem_cons_self
    show ((σ * L : Int) : Rat) ≤ ((σ * (-1) ^ (l.length + 1) : Int) : Rat) * ((a : Rat) + -x * ev (-x) (l ++ [L]))
    have p := Rat.mul_le_mul_of_nonneg_left ih hx
    have e : (σ * (-1) ^ (l.length + 1) : Int) = - (σ * (-1) ^ l.length) := by
      rw [Int.pow_succ]; grind
    have s : (σ * (-1) ^ l.length : Int) = 1 ∨ (σ * (-1) ^ l.length : Int) = -1 := by
      have : ((-1 : Int) ^ l.length = 1) ∨ ((-1 : Int) ^ l.length = -1) := by
        induction l.length with
        | zero => exact .inl rfl
        | succ n ih => rw [Int.pow_succ]; rcases ih with q | q <;> rw [q] <;> simp
      rcases this with q | q <;> rw [q] <;> rcases hσ with r | r <;> subst r <;> simp
    rw [e]
    generalize (σ * (-1) ^ l.length : Int) = τ at *
    have a3 : (-(m : Rat)) ≤ ((-τ : Int) : Rat) * (a : Rat) := by
      rw [← Rat.intCast_mul, ← Rat.intCast_neg]
      refine Rat.intCast_le_intCast.mpr ?_
      rcases s with r | r <;> subst r <;> omega
    rw [Rat.intCast_neg] at a3 ⊢
    grind

theorem hv_ev {p q : Int} (hq : 0 < q) : ∀ c : List Int, ((hv p q c : Int) : Rat) * (q : Rat) = ev ((p : Rat) / (q : Rat)) c * (q : Rat) ^ c.length
  | [] => by show ((0 : Int) : Rat) * _ = 0 * _; grind
  | c :: cs => by
    have ih := hv_ev (p := p) hq cs
    have q0 : (q : Rat) ≠ 0 := by have := one_le_cast hq; grind
    rw [hv_cons, Rat.intCast_add, Rat.intCast_mul, Rat.intCast_mul, Rat.intCast_pow]
    show _ = ((c : Rat) + (p : Rat) / (q : Rat) * ev ((p : Rat) / (q : Rat)) cs) * (q : Rat) ^ (cs.length + 1)
    rw [Rat.pow_succ]
    generalize hx : (p : Rat) / (q : Rat) = x at *
    have e : (p : Rat) = x * (q : Rat) := by rw [← hx, Rat.div_mul_cancel q0]
    generalize (q : Rat) ^ cs.length = Q at *
    rw [e]
    grind
theorem sgn_rs (z : Int) : sgn z = rs (z : Rat) := by
  unfold sgn
  rcases Int.lt_trichotomy z 0 with h | h | h
  · rw [if_neg (by omega), if_pos h, rs_neg]
    have : ((z : Int) : Rat) < ((0 : Int) : Rat) := Rat.intCast_lt_intCast.mpr h
    simpa using this
  · subst h; rfl
  · rw [if_pos h, rs_pos]
    have : ((0 : Int) : Rat) < ((z : Int) : Rat) := Rat.intCast_lt_intCast.mpr h
    simpa using this
theorem rs_mul_pos {v k : Rat} (hk : 0 < k) : rs (v * k) = rs v := by
  rcases rs_cases v with ⟨h, e⟩ | ⟨h, e⟩ | ⟨h, e⟩
  · rw [e, rs_pos (Rat.mul_pos h hk)]
  · rw [h]; simp
  · rw [e, rs_neg]
    have := Rat.mul_pos (a := -v) (by grind) hk
    grind
noncomputable def plc (p q : Int) : Rat := (p : Rat) / (q : Rat)
theorem sgn_hv {p q : Int} (hq : 0 < q) (c : List Int) : sgn (hv p q c) = rs (ev (plc p q) c) := by
  have h := hv_ev (p := p) hq c
  have q0 : (0 : Rat) < (q : Rat) := by have := one_le_cast hq; grind
  rw [sgn_rs, ← rs_mul_pos q0, h]
  exact rs_mul_pos (Rat.pow_pos q0)
theorem plc_le {p q r s : Int} (hq : 0 < q) (hs : 0 < s) : plc p q ≤ plc r s ↔ p * s ≤ r * q := by
  have q0 : (0 : Rat) < (q : Rat) := by have := one_le_cast hq; grind
  have s0 : (0 : Rat) < (s : Rat) := by have := one_le_cast hs; grind
  have e1 : (p : Rat) = plc p q * q := by unfold plc; rw [Rat.div_mul_cancel (by grind)]
  have e2 : (r : Rat) = plc r s * s := by unfold plc; rw [Rat.div_mul_cancel (by grind)]
  rw [← Rat.intCast_le_intCast, Rat.intCast_mul, Rat.intCast_mul, e1, e2]
  generalize plc p q = x
  generalize plc r s = y
  have qs := Rat.mul_pos q0 s0
  constructor
  · intro h
    have := Rat.mul_le_mul_of_nonneg_right h (c := (q : Rat) * s) (by grind)
    grind
  · intro h
    apply Classical.byContradiction
    intro n
    have := Rat.mul_lt_mul_of_pos_right (a := y) (b := x) (by grind) qs
    grind
end Zf

namespace Zf
open PS

theorem cop_near {M : Rat} (hM : 0 ≤ M) {f g : List Int} (cp : Cop (co f) (co g)) : Near M fun x y => (∃ p, St x y f p) ∨ ((∃ p, St x y g p)) := by
  obtain ⟨k, u, v, hk, e2⟩ := cop_ev cp
  have hU := eB_nn hM u
  have hV := eB_nn hM v
  generalize hW : eB M u + eB M v + 1 = W
  have hW1 : 0 < W := by grind
  have p0 : 0 < 1 / W := rdiv_pos (by decide) hW1
  have w1 : W * (1 / W) = 1 := by grind
  refine ((near_dich hM p0 f).and (near_dich hM p0 g)).mono fun x y hx hy _ ⟨d1, d2⟩ => ?_
  rcases d1 with d1 | d1
  · exact .inl d1
  rcases d2 with d2 | d2
  · exact .inr d2
  exfalso
  have kk := ((ev_in hx u).mul d1).add ((ev_in hx v).mul d2)
  rw [← e2 x] at kk
  have w2 : eB M u * (1 / W) + eB M v * (1 / W) + 1 / W = 1 := by rw [← w1, ← hW]; grind
  obtain ⟨k1, k2⟩ := kk
  rcases one_le_abs hk with q1 | q1 <;> grind
theorem rs_mul (u v : Rat) : rs (u * v) = rs u * rs v := by
  rcases rs_cases u with ⟨h, e⟩ | ⟨h, e⟩ | ⟨h, e⟩
  · rw [e, Int.one_mul]
    have := rs_mul_pos (v := v) h
    rwa [Rat.mul_comm] at this
  · rw [e, h]; simp [rs_zero]
  · rw [e]
    have h1 := rs_mul_pos (v := v) (k := -u) (by grind)
    have h2 : v * -u = -(u * v) := by grind
    rw [h2] at h1
    have h3 : rs (-(u * v)) = - rs (u * v) := by
      rcases rs_cases (u * v) with ⟨a, b⟩ | ⟨a, b⟩ | ⟨a, b⟩
      · rw [b, rs_neg (by grind)]
      · rw [b, a]; rfl
      · rw [b, rs_pos (by grind)]; rfl
    omega
theorem cross_mul {p s t : Int} (hp : p = 1 ∨ p = -1) : cross (p * s) (p * t) = cross s t := by
  unfold cross
  have e : (p * s ≠ 0 ∧ p * s ≠ p * t) ↔ (s ≠ 0 ∧ s ≠ t) := by
    rcases hp with r | r <;> subst r <;> omega
  by_cases c : s ≠ 0 ∧ s ≠ t
  · rw [if_pos c, if_pos (e.mpr c)]
  · rw [if_neg c, if_neg fun q => c (e.mp q)]
theorem cross_same (s : Int) : cross s s = 0 := by
  unfold cross
  rw [if_neg (by omega)]

noncomputable def leR (r : Bool × Int × Int) (x : Rat) : Bool :=
  match r with
  | (false, t, p) => decide ((t : Rat) ≤ x * (p : Rat))
  | (true, g, d) => if 0 < g then decide (0 < x ∧ (d : Rat) < x * x) else decide (0 ≤ x ∨ x * x < (d : Rat))
noncomputable def le01 (r : Bool × Int × Int) (x : Rat) : Int := if leR r x then 1 else 0
noncomputable def rootsF (f : List Int) : List (Bool × Int × Int) :=
  match f with
  | [b, a] => [(false, 0 - b, a)]
  | [q, _, _] => if q < 0 then [(true, -1, 0 - q), (true, 1, 0 - q)] else []
  | _ => []
noncomputable def facN (f : List Int) (x : Rat) : Int := ((rootsF f).map fun r => le01 r x).sum
theorem sq_le {a b : Rat} (h : 0 ≤ a) (k : a ≤ b) : a * a ≤ b * b := by
  have := Rat.mul_le_mul_of_nonneg_left k h
  have := Rat.mul_le_mul_of_nonneg_right k (c := b) (by grind)
  grind
theorem sq_le' {a b : Rat} (h : b ≤ 0) (k : a ≤ b) : b * b ≤ a * a := by
  have := sq_le (a := -b) (b := -a) (by grind) (by grind)
  grind
theorem sq_nn (x : Rat) : 0 ≤ x * x := by
  rcases (by grind : 0 ≤ x ∨ 0 ≤ -x) with h | h
  · exact Rat.mul_nonneg h h
  · have := Rat.mul_nonneg h h
    grind

noncomputable def RootOk (r : Bool × Int × Int) : Prop := match r with
  | (false, t, p) => 0 < p ∧ t.natAbs ≤ 1000
  | (true, g, d) => (g = 1 ∨ g = -1) ∧ 2 ≤ d ∧ d ≤ 8
theorem leR_mono {r : Bool × Int × Int} (h : RootOk r) {x y : Rat} (k : x ≤ y) (l : leR r x = true) : leR r y = true := by
  obtain ⟨b, t, p⟩ := r
  cases b with
  | false =>
    have l' : (t : Rat) ≤ x * (p : Rat) := of_decide_eq_true l
    refine decide_eq_true ?_
    have := one_le_cast h.1
    have := Rat.mul_le_mul_of_nonneg_right k (c := (p : Rat)) (by grind)
    grind
  | true =>
    rcases h.1 with r | r
    · subst r
      have l' : 0 < x ∧ (p : Rat) < x * x := of_decide_eq_true l
      have := sq_le (by grind) k
      show decide (0 < y ∧ (p : Rat) < y * y) = true
      exact decide_eq_true ⟨by grind, by grind⟩
    · subst r
      have l' : 0 ≤ x ∨ x * x < (p : Rat) := of_decide_eq_true l
      show decide (0 ≤ y ∨ y * y < (p : Rat)) = true
      refine decide_eq_true ?_
      by_cases c : 0 ≤ y
      · exact .inl c
      · have := sq_le' (a := x) (b := y) (by grind) k
        right
        grind
theorem no_sq {d : Int} (hd : d = 2 ∨ d = 3 ∨ d = 5 ∨ d = 7 ∨ d = 8) (x : Rat) : x * x ≠ (d : Rat) := by
  intro h
  have h1 : x ^ 2 = (d : Rat) := by
    rw [← h, Rat.pow_succ, Rat.pow_succ, Rat.pow_zero]
    grind
  have h2 : x.num ^ 2 = d := congrArg Rat.num h1
  have h3 : x.num.natAbs * x.num.natAbs = d.natAbs := by
    rw [← h2, Int.pow_succ, Int.pow_succ, Int.pow_zero, Int.one_mul, Int.natAbs_mul]
  have h7 : x.num.natAbs < 3 := by
    rcases Nat.lt_or_ge x.num.natAbs 3 with q | q
    · exact q
    · have := Nat.mul_le_mul q q
      omega
  generalize x.num.natAbs = n at *
  have : n = 0 ∨ n = 1 ∨ n = 2 := by omega
  rcases this with r | r | r <;> subst r <;> omega
theorem QL_m1 : ∀ p ∈ QL, p.1 ≠ -1 := by decide +kernel
theorem roots_ok {f : List Int} (h : Fac f) : ∀ r ∈ rootsF f, RootOk r := by
  rcases h with ⟨b, a, rfl, hl, hb⟩ | ⟨p, hp, rfl⟩
  · intro r hr
    have : r = (false, 0 - b, a) := List.mem_singleton.mp hr
    subst this
    exact ⟨by rcases hl with r | ⟨r, _⟩ | ⟨r, _⟩ <;> omega, by omega⟩
  · intro r hr
    obtain ⟨q1, q2, _, _⟩ := QL_range p hp
    unfold rootsF at hr
    dsimp only at hr
    split at hr
    · rename_i c
      have q3 := QL_m1 p hp
      rcases List.mem_cons.mp hr with e | e
      · subst e; exact ⟨.inr rfl, by omega, by omega⟩
      · have e := List.mem_singleton.mp e
        subst e; exact ⟨.inl rfl, by omega, by omega⟩
    · cases hr
theorem QL_neg : ∀ p ∈ QL, p.1 < 0 → p.2 = 0 ∧ (0 - p.1 = 2 ∨ 0 - p.1 = 3 ∨ 0 - p.1 = 5 ∨ 0 - p.1 = 7 ∨ 0 - p.1 = 8) := by decide +kernel
theorem QL_pos : ∀ p ∈ QL, ¬ p.1 < 0 → 0 < 4 * p.1 - p.2 * p.2 := by decide +kernel
theorem near_fac {M : Rat} {f : List Int} (h : Fac f) : Near M fun x y => cross (rs (ev x f)) (rs (ev y f)) = facN f y - facN f x := by
  refine ⟨1, by decide, fun x y _ _ hxy hd => ?_⟩
  rcases h with ⟨b, a, rfl, hl, hb⟩ | ⟨p, hp, rfl⟩
  · have ha : 0 < a := by rcases hl with r | ⟨r, _⟩ | ⟨r, _⟩ <;> omega
    have a1 := one_le_cast ha
    have e : ∀ x, ev x [b, a] = (b : Rat) + x * (a : Rat) := fun x => by
      show (b : Rat) + x * ((a : Rat) + x * 0) = _
      grind
    have m := Rat.mul_le_mul_of_nonneg_right hxy (c := (a : Rat)) (by grind)
    have fn : ∀ x, facN [b, a] x = if 0 ≤ ev x [b, a] then 1 else 0 := fun x => by
      show le01 (false, 0 - b, a) x + 0 = _
      rw [Int.add_zero, e]
      unfold le01 leR
      dsimp only
      have i : ((0 - b : Int) : Rat) ≤ x * (a : Rat) ↔ 0 ≤ (b : Rat) + x * (a : Rat) := by
        rw [show (0 - b : Int) = -b by omega, Rat.intCast_neg]
        constructor <;> intro <;> grind
      by_cases c : 0 ≤ (b : Rat) + x * (a : Rat)
      · rw [if_pos c, if_pos (decide_eq_true (i.mpr c))]
      · rw [if_neg c, if_neg (by rw [decide_eq_true_iff]; exact fun q => c (i.mp q))]
    have le : ev x [b, a] ≤ ev y [b, a] := by rw [e, e]; grind
    rw [fn, fn]
    unfold cross
    generalize ev x [b, a] = u at *
    generalize ev y [b, a] = v at *
    rcases rs_cases u with ⟨a1, a2⟩ | ⟨a1, a2⟩ | ⟨a1, a2⟩ <;> rcases rs_cases v with ⟨c1, c2⟩ | ⟨c1, c2⟩ | ⟨c1, c2⟩ <;> rw [a2, c2] <;> grind
  · by_cases c : p.1 < 0
    · obtain ⟨p2, hd'⟩ := QL_neg p hp c
      rw [p2]
      have e : ∀ x, ev x [p.1, 0, 1] = x * x - ((0 - p.1 : Int) : Rat) := fun x => by
        show (p.1 : Rat) + x * (((0 : Int) : Rat) + x * (((1 : Int) : Rat) + x * 0)) = _
        rw [show (0 - p.1 : Int) = -p.1 by omega, Rat.intCast_neg]
        simp
        grind
      have fn : ∀ x, facN [p.1, 0, 1] x = (if 0 ≤ x ∨ x * x < ((0 - p.1 : Int) : Rat) then 1 else 0) + (if 0 < x ∧ ((0 - p.1 : Int) : Rat) < x * x then 1 else 0) := fun x => by
        unfold facN rootsF
        dsimp only
        rw [if_pos c]
        show le01 (true, -1, 0 - p.1) x + (le01 (true, 1, 0 - p.1) x + 0) = _
        show (if decide (0 ≤ x ∨ x * x < ((0 - p.1 : Int) : Rat)) = true then (1 : Int) else 0) + ((if decide (0 < x ∧ ((0 - p.1 : Int) : Rat) < x * x) = true then (1 : Int) else 0) + 0) = _
        rw [Int.add_zero]
        simp only [decide_eq_true_iff]
      rw [fn, fn, e, e]
      have nx := no_sq hd' x
      have ny := no_sq hd' y
      have d2 : (2 : Rat) ≤ ((0 - p.1 : Int) : Rat) := by
        have : ((2 : Int) : Rat) ≤ ((0 - p.1 : Int) : Rat) := Rat.intCast_le_intCast.mpr (by omega)
        simpa using this
      generalize ((0 - p.1 : Int) : Rat) = d at *
      unfold cross
      have s1 : 0 ≤ x → x * x ≤ y * y := fun q => sq_le q hxy
      have s2 : y ≤ 0 → y * y ≤ x * x := fun q => sq_le' q hxy
      have s3 : x ≤ 0 → -1 ≤ x → x * x ≤ 1 := fun q1 q2 => by
        have := sq_le' (a := -1) (b := x) q1 q2
        grind
      have s4 : 0 ≤ y → y ≤ 1 → y * y ≤ 1 := fun q1 q2 => by
        have := sq_le (a := y) (b := 1) q1 q2
        grind
      rcases rs_cases (x * x - d) with ⟨a1, a2⟩ | ⟨a1, a2⟩ | ⟨a1, a2⟩ <;> rcases rs_cases (y * y - d) with ⟨c1, c2⟩ | ⟨c1, c2⟩ | ⟨c1, c2⟩ <;> rw [a2, c2] <;> grind
    · have hp' := QL_pos p hp c
      have fn : ∀ x, facN [p.1, p.2, 1] x = 0 := fun x => by
        unfold facN rootsF
        dsimp only
        rw [if_neg c]
        rfl
      have pos : ∀ x, rs (ev x [p.1, p.2, 1]) = 1 := fun x => by
        refine rs_pos ?_
        show 0 < (p.1 : Rat) + x * ((p.2 : Rat) + x * (((1 : Int) : Rat) + x * 0))
        have h1 := one_le_cast hp'
        have h2 : ((4 * p.1 - p.2 * p.2 : Int) : Rat) = 4 * (p.1 : Rat) - (p.2 : Rat) * (p.2 : Rat) := by
          rw [Rat.intCast_sub, Rat.intCast_mul, Rat.intCast_mul]; rfl
        rw [h2] at h1
        have h3 := sq_nn (2 * x + (p.2 : Rat))
        have h4 : (((1 : Int) : Rat)) = 1 := rfl
        rw [h4]
        grind
      rw [fn, fn, pos, pos]
      rfl
noncomputable def rowsN (rows : List (List Int × Nat)) (x : Rat) : Int := (rows.map fun p => facN p.1 x).sum
theorem near_rows {M : Rat} (hM : 0 ≤ M) : ∀ {rows : List (List Int × Nat)}, (∀ p ∈ rows, Fac p.1) → (rows.map (·.1)).Nodup → ∀ {l : List Int}, co l = rprod (once rows) → Near M fun x y => cross (rs (ev x l)) (rs (ev y l)) = rowsN rows y - rowsN rows x
  | [], _, _, l, e => Near.triv fun x y => by
    have h1 : ∀ x, ev x l = 1 := fun x => by
      have e1 := Ev.co x l
      rw [e] at e1
      have e2 := Ev.C x 1
      exact e1.uniq e2
    rw [h1, h1]
    rfl
  | p :: rows, hf, nd, l, e => by
    have nd' := List.nodup_cons.mp (by simpa using nd : (p.1 :: rows.map (·.1)).Nodup)
    obtain ⟨lr, hlr⟩ := (Po.rprod (once rows)).list
    have hf' : ∀ q ∈ rows, Fac q.1 := fun q hq => hf q (List.mem_cons_of_mem _ hq)
    have N1 := near_rows hM hf' nd'.2 hlr
    have N2 := near_fac (M := M) (hf p List.mem_cons_self)
    have cr : Cop (rprod (once rows)) (co p.1) := cop_once (Po.co _) fun q hq => fac_cop (hf' q hq) (hf p List.mem_cons_self) fun z => nd'.1 (by rw [← z]; exact List.mem_map.mpr ⟨q, hq, rfl⟩)
    rw [← hlr] at cr
    have N3 := cop_near hM cr
    have ee : ∀ x, ev x l = ev x p.1 * ev x lr := fun x => by
      have e1 := Ev.co x l
      have e2 := (Ev.co x p.1).mul (Ev.co x lr)
      have e3 : co p.1 * co lr = co l := by
        rw [e, hlr]
        show _ = co p.1 ^ 1 * rprod (once rows)
        rw [pow_one']
      rw [e3] at e2
      exact e1.uniq e2
    refine ((N1.and N2).and N3).mono fun x y _ _ _ ⟨⟨d1, d2⟩, d3⟩ => ?_
    show _ = (facN p.1 y + rowsN rows y) - (facN p.1 x + rowsN rows x)
    rw [ee, ee, rs_mul, rs_mul]
    rcases d3 with ⟨s, hs⟩ | ⟨s, hs⟩
    · rw [hs.1, hs.2.1] at d1 ⊢
      rw [cross_same] at d1
      rw [Int.mul_comm _ s, Int.mul_comm _ s, cross_mul hs.2.2, d2]
      omega
    · rw [hs.1, hs.2.1] at d2 ⊢
      rw [cross_same] at d2
      rw [cross_mul hs.2.2, d1]
      omega
end Zf

namespace Zf
open PS
theorem cop_scaled {f g f' : PS} {a b : Int} (hb : b ≠ 0) (e : C a * f' = C b * f) (h : Cop f g) : Cop f' g := by
  obtain ⟨k, u, v, hk, hu, hv, e2⟩ := h
  refine ⟨b * k, u * C a, C b * v, Int.mul_ne_zero hb hk, hu.mul (Po.C a), (Po.C b).mul hv, ?_⟩
  rw [← CC, e2]
  have : u * C a * f' = u * (C a * f') := by grind
  rw [this, e]
  grind
theorem once_once (rows : List (List Int × Nat)) : once (once rows) = once rows := by
  unfold once
  rw [List.map_map]
  rfl
theorem less_once (rows : List (List Int × Nat)) : rprod (less (once rows)) = 1 := by
  induction rows with
  | nil => rfl
  | cons p rows ih =>
    show co p.1 ^ 0 * rprod (less (once rows)) = 1
    rw [ih]
    have e : co p.1 ^ 0 = 1 := rfl
    rw [e]; grind
theorem once_map (rows : List (List Int × Nat)) : (once rows).map (·.1) = rows.map (·.1) := by
  unfold once
  rw [List.map_map]
  rfl
theorem ct_of_plain_scaled {o s : List Int} {sg : Int} {P : PS} (e1 : co o = C sg * P) (e2 : s = plainL o) : C (ct o) * co s = C sg * P := by rw [e2, plain_mul, e1]

theorem rows_count {rows : List (List Int × Nat)} (hr : ∀ p ∈ rows, Fac p.1 ∧ 1 ≤ p.2) (nd : (rows.map (·.1)).Nodup) {scale : Int} {n d : Nat} {c : List Int} (hs : scale ≠ 0) (m : Made scale (rprod rows) n d c) {ls : List (List Int)} (h : Chain c ls) {x y : Rat} (hxy : x ≤ y) : Vc x ls - Vc y ls = rowsN rows y - rowsN rows x := by
  have hf : ∀ p ∈ rows, Fac p.1 := fun p hp => (hr p hp).1
  have hfo : ∀ p ∈ once rows, Fac p.1 ∧ 1 ≤ p.2 := fun p hp => by
    obtain ⟨q, hq, rfl⟩ := List.mem_map.mp hp
    exact ⟨hf q hq, Nat.le_refl _⟩
  obtain ⟨sg, hsg⟩ : ∃ sg : Int, 0 < scale ∧ sg = 1 ∨ scale < 0 ∧ sg = -1 := by
    rcases Int.lt_or_gt_of_ne hs with q | q
    · exact ⟨-1, .inr ⟨q, rfl⟩⟩
    · exact ⟨1, .inl ⟨q, rfl⟩⟩
  have sg1 : sg = 1 ∨ sg = -1 := by rcases hsg with ⟨_, q⟩ | ⟨_, q⟩; exact .inl q; exact .inr q
  have sg0 : sg ≠ 0 := by omega
  obtain ⟨o, mo⟩ := made_rows (scale := sg) sg0 (by rcases sg1 with q | q <;> subst q <;> (unfold Bd; decide)) (rows := once rows) fun p hp => (hfo p hp).1
  obtain ⟨sim, _⟩ := rows_simple hr nd hs m hsg mo
  obtain ⟨s, l, s1, rfl, s2⟩ := h
  have es := simple_uniq m.ne s1 sim
  obtain ⟨lp, hlp⟩ := (Po.rprod (once rows)).list
  have e1 := ct_of_plain_scaled mo.eq es
  have ctp := ct_ne_zero mo.good mo.ne
  have cop1 : Cop (co s) (co (plainL (slopeL s))) := by
    obtain ⟨S, hS, e, cp⟩ := rows_dv hfo (by rw [once_map]; exact nd)
    rw [less_once, once_once] at *
    have e' : dv (rprod (once rows)) = S := by rw [e]; grind
    have c1 : Cop (co s) S := cop_scaled sg0 e1 cp
    have e3 : C (ct o) * dv (co s) = C sg * S := by rw [← dv_scale, e1, dv_scale, e']
    have e4 : C (ct o * ct (slopeL s)) * co (plainL (slopeL s)) = C sg * S := by rw [← CC, PS.mul_assoc, plain_mul, co_slope, e3]
    exact (cop_scaled sg0 e4 c1.symm).symm
  have rel : ∀ x, rs (ev x s) = sg * rs (ev x lp) := fun x => by
    have f1 := (Ev.C x (ct o)).mul (Ev.co x s)
    have f2 := (Ev.C x sg).mul (Ev.co x lp)
    rw [e1] at f1
    rw [hlp] at f2
    have f3 := f1.uniq f2
    have f4 := congrArg rs f3
    rw [rs_mul, rs_mul, ← sgn_rs, ← sgn_rs] at f4
    have g1 : sgn (ct o) = 1 := if_pos ctp
    have g2 : sgn sg = sg := by rcases sg1 with q | q <;> subst q <;> rfl
    rw [g1, g2, Int.one_mul] at f4
    exact f4
  have key : Vc x (s :: l) + rowsN rows x = Vc y (s :: l) + rowsN rows y := by
    refine all_of_near (F := fun x => Vc x (s :: l) + rowsN rows x) (R := fun _ => True) (fun M hM => ?_) hxy fun _ _ _ => trivial
    refine ((sturm_near hM s1.2.1 s1.1 s2 cop1).and (near_rows hM hf nd hlp)).mono fun x y _ _ _ ⟨d1, d2⟩ _ _ => ?_
    rw [rel, rel, cross_mul sg1, d2] at d1
    show Vc x (s :: l) + rowsN rows x = Vc y (s :: l) + rowsN rows y
    omega
  omega

theorem beyond_near {M : Rat} (hM : 0 ≤ M) {c s : List Int} (hc : c ≠ []) (hg : GoodL c) (h : Simple c s) : Near M fun x y => ∀ p q : Int, (p = 1 ∨ p = -1) → (q = 1 ∨ q = -1) → rs (ev x c) = p → rs (ev y c) = p → rs (ev x (slopeL c)) = q → rs (ev y (slopeL c)) = q → rs (ev x s) = rs (ev y s) := by
  obtain ⟨s0, s1, s2, g, sh, e⟩ := h
  rcases sh with ⟨z, _⟩ | ⟨g0, g1, g2, g3, g4⟩
  · exact absurd z hc
  have ctp := ct_ne_zero hg hc
  obtain ⟨a, t, ha, ht, et⟩ := g4.2.1
  obtain ⟨b, u, v, hb, hu, hv, eb⟩ := g4.2.2
  obtain ⟨tl, htl⟩ := ht.list
  have ec : co c = C (ct c) * (co s * co g) := by rw [← e, plain_mul]
  have cp : Cop (co s) (co tl) := by
    refine ⟨a * b, C a * u * C (ct c), v, Int.mul_ne_zero ha hb, ((Po.C a).mul hu).mul (Po.C _), hv, ?_⟩
    refine cancel (Po.C _) ((((Po.C a).mul hu).mul (Po.C _)).mul (Po.co s) |>.add (hv.mul (Po.co tl))) (Po.co g) (co_ne g1 g0) ?_
    rw [← CC, PS.mul_assoc, eb, htl]
    have : C a * (u * co c + v * co (slopeL c)) = C a * u * co c + v * (C a * co (slopeL c)) := by grind
    rw [this, et, ec]
    grind
  refine (cop_near hM cp).mono fun x y _ _ _ d p q hp hq h1 h2 h3 h4 => ?_
  have rel : ∀ x, rs (ev x c) = rs (ev x s) * rs (ev x g) ∧ sgn a * rs (ev x (slopeL c)) = rs (ev x tl) * rs (ev x g) := fun x => by
    constructor
    · have f1 := Ev.co x c
      have f2 := (Ev.C x (ct c)).mul ((Ev.co x s).mul (Ev.co x g))
      rw [← ec] at f2
      rw [f1.uniq f2, rs_mul, rs_mul, ← sgn_rs, show sgn (ct c) = 1 from if_pos ctp, Int.one_mul]
    · have f1 := (Ev.C x a).mul (Ev.co x (slopeL c))
      have f2 := (Ev.co x tl).mul (Ev.co x g)
      rw [htl, ← et] at f2
      have := congrArg rs (f1.uniq f2)
      rwa [rs_mul, rs_mul, ← sgn_rs] at this
  obtain ⟨x1, x2⟩ := rel x
  obtain ⟨y1, y2⟩ := rel y
  rw [h1] at x1
  rw [h2] at y1
  rw [h3] at x2
  rw [h4] at y2
  rcases d with ⟨k, hk⟩ | ⟨k, hk⟩
  · rw [hk.1, hk.2.1]
  · rw [hk.1] at x2
    rw [hk.2.1] at y2
    have := hk.2.2
    have a1 := rs_sg (ev x s)
    have a2 := rs_sg (ev y s)
    have a3 := rs_sg (ev x g)
    have a4 := rs_sg (ev y g)
    generalize rs (ev x s) = X at *
    generalize rs (ev y s) = Y at *
    generalize rs (ev x g) = G at *
    generalize rs (ev y g) = G' at *
    have gg : G = G' := by
      have := x2.symm.trans y2
      rcases hk.2.2 with r | r <;> subst r <;> omega
    subst gg
    have := x1.symm.trans y1
    rcases a3 with r | r | r <;> subst r <;> omega
noncomputable def mxL (l : List Int) : Int := l.foldl (fun a x => max a (x.natAbs : Int)) 0
theorem mx_aux : ∀ (l : List Int) (a : Int), a ≤ l.foldl (fun a x => max a (x.natAbs : Int)) a ∧ ∀ y ∈ l, (y.natAbs : Int) ≤ l.foldl (fun a x => max a (x.natAbs : Int)) a
  | [], a => ⟨Int.le_refl a, fun y h => nomatch h⟩
  | x :: l, a => by
    obtain ⟨h1, h2⟩ := mx_aux l (max a (x.natAbs : Int))
    refine ⟨Int.le_trans (Int.le_max_left _ _) h1, fun y hy => ?_⟩
    rcases List.mem_cons.mp hy with r | r
    · subst r
      exact Int.le_trans (Int.le_max_right _ _) h1
    · exact h2 y r
theorem mx_le {l : List Int} {y : Int} (h : y ∈ l) : -mxL l ≤ y ∧ y ≤ mxL l := by
  have := (mx_aux l 0).2 y h
  unfold mxL
  omega
theorem mx_nn (l : List Int) : 0 ≤ mxL l := (mx_aux l 0).1
noncomputable def reachL (c : List Int) : Int := 2 + mxL c.dropLast / ((c.getD (c.length - 1) 0).natAbs : Int)
theorem slope_split {l : List Int} {L : Int} (hl : l ≠ []) : ∃ l', slopeL (l ++ [L]) = l' ++ [(l.length : Int) * L] ∧ l'.length = l.length - 1 ∧ ∀ y ∈ l', -((l.length : Int) * mxL l) ≤ y ∧ y ≤ (l.length : Int) * mxL l := by
  have hl1 := List.length_pos_iff.mpr hl
  have len : (slopeL (l ++ [L])).length = l.length := by rw [slope_length, List.length_append]; simp
  refine ⟨(slopeL (l ++ [L])).take (l.length - 1), ?_, by rw [List.length_take, len]; omega, fun y hy => ?_⟩
  · have e : slopeL (l ++ [L]) = (slopeL (l ++ [L])).take (l.length - 1) ++ (slopeL (l ++ [L])).drop (l.length - 1) := (List.take_append_drop _ _).symm
    have e2 : (slopeL (l ++ [L])).drop (l.length - 1) = [(l.length : Int) * L] := by
      refine List.ext_getElem (by rw [List.length_drop, len]; simp; omega) fun i h1 h2 => ?_
      have i0 : i = 0 := by simp at h2; omega
      subst i0
      rw [List.getElem_drop]
      have := slope_at (l ++ [L]) (l.length - 1)
      rw [List.getD_eq_getElem?_getD, List.getElem?_eq_getElem (by rw [len]; omega)] at this
      have e3 : (l ++ [L]).getD (l.length - 1 + 1) 0 = L := by
        rw [show l.length - 1 + 1 = l.length by omega, List.getD_eq_getElem?_getD]
        simp
      rw [e3] at this
      have e4 : (((l.length - 1 : Nat) : Int) + 1) = (l.length : Int) := by omega
      rw [e4] at this
      simpa using this
    rw [e2] at e
    exact e
  · obtain ⟨i, hi, rfl⟩ := List.mem_iff_getElem.mp hy
    rw [List.length_take, len] at hi
    have := slope_at (l ++ [L]) i
    rw [List.getD_eq_getElem?_getD, List.getElem?_eq_getElem (by rw [len]; omega)] at this
    have e3 : (l ++ [L]).getD (i + 1) 0 = l[i + 1]'(by omega) := by
      rw [List.getD_eq_getElem?_getD, List.getElem?_append_left (by omega), List.getElem?_eq_getElem (by omega)]
      rfl
    rw [e3] at this
    have m := mx_le (List.getElem_mem (l := l) (n := i + 1) (by omega))
    rw [List.getElem_take]
    have e5 : (slopeL (l ++ [L]))[i]'(by rw [len]; omega) = ((i : Int) + 1) * l[i + 1]'(by omega) := this
    rw [e5]
    generalize l[i + 1]'(by omega) = z at m
    have nn := mx_nn l
    generalize mxL l = M at *
    have h1 : ((i : Int) + 1) * z ≤ ((i : Int) + 1) * M := Int.mul_le_mul_of_nonneg_left m.2 (by omega)
    have h2 : ((i : Int) + 1) * (-M) ≤ ((i : Int) + 1) * z := Int.mul_le_mul_of_nonneg_left m.1 (by omega)
    have h3 : ((i : Int) + 1) * M ≤ (l.length : Int) * M := Int.mul_le_mul_of_nonneg_right (by omega) nn
    rw [Int.mul_neg] at h2
    omega
theorem sgn_mul_pos {k L : Int} (hk : 0 < k) : sgn (k * L) = sgn L := by
  unfold sgn
  rcases Int.lt_trichotomy L 0 with h | h | h
  · have := Int.mul_neg_of_pos_of_neg hk h
    rw [if_neg (by omega), if_pos this, if_neg (by omega), if_pos h]
  · subst h; simp
  · have := Int.mul_pos hk h
    rw [if_pos this, if_pos h]
theorem rs_of_sig {σ : Int} {v w : Rat} (hσ : σ = 1 ∨ σ = -1) (h : 0 < w) (k : w ≤ (σ : Rat) * v) : rs v = σ := by
  rcases hσ with r | r
  · subst r
    refine rs_pos ?_
    have : ((1 : Int) : Rat) = 1 := rfl
    grind
  · subst r
    refine rs_neg ?_
    have : ((-1 : Int) : Rat) = -1 := rfl
    grind
theorem far_edge {l : List Int} {L : Int} {x : Rat} (hL : L ≠ 0) (hx : ((2 + mxL l / (L.natAbs : Int) : Int) : Rat) ≤ x) {k : Int} (hk : 0 < k) : (((sgn L) * (k * L) : Int) : Rat) + ((k * mxL l : Int) : Rat) ≤ x * (((sgn L) * (k * L) : Int) : Rat) ∧ 0 < (sgn L) * (k * L) ∧ 0 ≤ x := by
  have hs : sgn L * L = (L.natAbs : Int) := by
    unfold sgn
    rcases Int.lt_or_gt_of_ne hL with q | q
    · rw [if_neg (by omega), if_pos q]; omega
    · rw [if_pos q]; omega
  have h0 : 0 < (L.natAbs : Int) := by omega
  have e : sgn L * (k * L) = k * (L.natAbs : Int) := by rw [← hs]; grind
  rw [e]
  have nn := mx_nn l
  have dm : mxL l < (L.natAbs : Int) * (mxL l / (L.natAbs : Int)) + (L.natAbs : Int) := by
    have := Int.lt_ediv_add_one_mul_self (mxL l) h0
    rw [Int.add_mul, Int.one_mul, Int.mul_comm] at this
    exact this
  have dn : 0 ≤ mxL l / (L.natAbs : Int) := Int.ediv_nonneg nn (by omega)
  have kp : 0 < k * (L.natAbs : Int) := Int.mul_pos hk h0
  have x0 : (0 : Rat) ≤ x := by
    have : ((0 : Int) : Rat) ≤ ((2 + mxL l / (L.natAbs : Int) : Int) : Rat) := Rat.intCast_le_intCast.mpr (by omega)
    have z : ((0 : Int) : Rat) = 0 := rfl
    grind
  refine ⟨?_, kp, x0⟩
  have h1 := Rat.mul_le_mul_of_nonneg_right hx (c := ((k * (L.natAbs : Int) : Int) : Rat)) (by
    have : ((0 : Int) : Rat) ≤ ((k * (L.natAbs : Int) : Int) : Rat) := Rat.intCast_le_intCast.mpr (by omega)
    exact this)
  refine Rat.le_trans ?_ h1
  rw [← Rat.intCast_add, ← Rat.intCast_mul]
  refine Rat.intCast_le_intCast.mpr ?_
  generalize (L.natAbs : Int) = A at *
  generalize mxL l / A = D at *
  have h2 : k * mxL l ≤ k * (A * D + A) := Int.mul_le_mul_of_nonneg_left (by omega) (by omega)
  have h3 : (2 + D) * (k * A) = k * A + k * (A * D + A) := by grind
  omega
theorem pm_pow (n : Nat) : ((-1 : Int) ^ n = 1) ∨ ((-1 : Int) ^ n = -1) := by
  induction n with
  | zero => exact .inl rfl
  | succ n ih => rw [Int.pow_succ]; rcases ih with q | q <;> rw [q] <;> simp

theorem far_right {l : List Int} {L : Int} {x : Rat} (hL : L ≠ 0) (hx : ((2 + mxL l / (L.natAbs : Int) : Int) : Rat) ≤ x) : rs (ev x (l ++ [L])) = sgn L ∧ (l ≠ [] → rs (ev x (slopeL (l ++ [L]))) = sgn L) := by
  have hσ := sgn_pm hL
  constructor
  · obtain ⟨h1, h2, h3⟩ := far_edge hL hx (k := 1) (by decide)
    rw [Int.one_mul, Int.one_mul] at *
    have := cauchy_pos h3 h2 hσ h1 l fun y hy => mx_le hy
    exact rs_of_sig hσ (w := ((sgn L * L : Int) : Rat)) (by have : ((0 : Int) : Rat) < ((sgn L * L : Int) : Rat) := Rat.intCast_lt_intCast.mpr h2; exact this) this
  · intro hl
    have hl1 := List.length_pos_iff.mpr hl
    obtain ⟨l', e, _, hb⟩ := slope_split (L := L) hl
    obtain ⟨h1, h2, h3⟩ := far_edge hL hx (k := (l.length : Int)) (by omega)
    rw [e]
    have := cauchy_pos h3 h2 hσ h1 l' hb
    exact rs_of_sig hσ (w := ((sgn L * ((l.length : Int) * L) : Int) : Rat)) (by have : ((0 : Int) : Rat) < ((sgn L * ((l.length : Int) * L) : Int) : Rat) := Rat.intCast_lt_intCast.mpr h2; exact this) this

theorem far_left {l : List Int} {L : Int} {x : Rat} (hL : L ≠ 0) (hx : ((2 + mxL l / (L.natAbs : Int) : Int) : Rat) ≤ x) : rs (ev (-x) (l ++ [L])) = sgn L * (-1) ^ l.length ∧ (l ≠ [] → rs (ev (-x) (slopeL (l ++ [L]))) = sgn L * (-1) ^ (l.length - 1)) := by
  have hσ := sgn_pm hL
  have pm : ∀ n : Nat, sgn L * (-1) ^ n = 1 ∨ sgn L * (-1) ^ n = -1 := fun n => by
    rcases pm_pow n with q | q <;> rw [q] <;> rcases hσ with r | r <;> rw [r] <;> simp
  constructor
  · obtain ⟨h1, h2, h3⟩ := far_edge hL hx (k := 1) (by decide)
    rw [Int.one_mul, Int.one_mul] at *
    have := cauchy_neg (m := mxL l) h3 l (sgn L) hσ h2 h1 fun y hy => mx_le hy
    exact rs_of_sig (pm _) (w := ((sgn L * L : Int) : Rat)) (by have : ((0 : Int) : Rat) < ((sgn L * L : Int) : Rat) := Rat.intCast_lt_intCast.mpr h2; exact this) this
  · intro hl
    have hl1 := List.length_pos_iff.mpr hl
    obtain ⟨l', e, el, hb⟩ := slope_split (L := L) hl
    obtain ⟨h1, h2, h3⟩ := far_edge hL hx (k := (l.length : Int)) (by omega)
    rw [e, ← el]
    have := cauchy_neg (m := (l.length : Int) * mxL l) h3 l' (sgn L) hσ h2 h1 hb
    exact rs_of_sig (pm _) (w := ((sgn L * ((l.length : Int) * L) : Int) : Rat)) (by have : ((0 : Int) : Rat) < ((sgn L * ((l.length : Int) * L) : Int) : Rat) := Rat.intCast_lt_intCast.mpr h2; exact this) this
end Zf

namespace Zf
open PS
theorem simple_length {c s : List Int} (hc : c ≠ []) (hg : GoodL c) (h : Simple c s) : ∃ g, Shared c (slopeL c) g ∧ s.length + g.length = c.length + 1 ∧ co (plainL c) = co s * co g ∧ g ≠ [] := by
  obtain ⟨s0, s1, s2, g, sh, e⟩ := h
  have sh' := sh
  rcases sh with ⟨z, _⟩ | ⟨g0, g1, g2, g3, g4⟩
  · exact absurd z hc
  refine ⟨g, sh', ?_, e, g0⟩
  have e2 : plainL c = mulL s g := co_inj (plain_good hg) (good_mulL s1 g1 s0 g0) (by rw [co_mul, e])
  have := congrArg List.length e2
  rw [plain_length, mulL_length] at this
  have := List.length_pos_iff.mpr hc
  have := List.length_pos_iff.mpr s0
  have := List.length_pos_iff.mpr g0
  omega
theorem chg_one (z : Int) : chg 0 [z] = 0 := by
  show (if (0 : Int) * z = -1 then 1 else 0) + 0 = 0
  rw [if_neg (by omega)]
  rfl
theorem steps_one {s : List Int} {l : List (List Int)} (h : s.length ≤ 1) (k : Steps s (plainL (slopeL s)) l) : l = [] := by
  have e : plainL (slopeL s) = [] := List.eq_nil_of_length_eq_zero (by rw [plain_length, slope_length]; omega)
  rw [e] at k
  cases k with
  | stop => rfl
  | step _ _ _ _ h => exact absurd rfl h

theorem snoc_of {c : List Int} (h : c ≠ []) : c = c.dropLast ++ [c.getD (c.length - 1) 0] := by
  have hl := List.length_pos_iff.mpr h
  refine List.ext_getElem (by simp; omega) fun i h1 h2 => ?_
  by_cases hi : i < c.length - 1
  · rw [List.getElem_append_left (by simpa using hi)]
    simp
  · have e : i = c.length - 1 := by omega
    subst e
    rw [List.getElem_append_right (by simp)]
    simp only [List.getD_eq_getElem?_getD, List.getElem_singleton, List.getElem?_eq_getElem h1]
    rfl
theorem V_const {c s : List Int} {l : List (List Int)} {R : Rat → Prop} {p q : Int} (hc : c ≠ []) (hg : GoodL c) (h1 : Simple c s) (h2 : Steps s (plainL (slopeL s)) l) (cp : Cop (co s) (co (plainL (slopeL s)))) (hp : p = 1 ∨ p = -1) (hq : q = 1 ∨ q = -1) (hR : ∀ z, R z → rs (ev z c) = p ∧ rs (ev z (slopeL c)) = q) {x y : Rat} (hxy : x ≤ y) (hz : ∀ z, x ≤ z → z ≤ y → R z) : Vc x (s :: l) = Vc y (s :: l) := by
  refine all_of_near (F := fun x => Vc x (s :: l)) (R := R) (fun M hM => ?_) hxy hz
  refine ((sturm_near hM h1.2.1 h1.1 h2 cp).and (beyond_near hM hc hg h1)).mono fun x y _ _ _ ⟨d1, d2⟩ rx ry => ?_
  have := d2 p q hp hq (hR x rx).1 (hR y ry).1 (hR x rx).2 (hR y ry).2
  rw [this, cross_same] at d1
  show Vc x (s :: l) = Vc y (s :: l)
  omega
theorem V_right {c s : List Int} {l : List (List Int)} (hc : c ≠ []) (hg : GoodL c) (h1 : Simple c s) (h2 : Steps s (plainL (slopeL s)) l) (cp : Cop (co s) (co (plainL (slopeL s)))) {x y : Rat} (hx : ((reachL c : Int) : Rat) ≤ x) (hxy : x ≤ y) : Vc x (s :: l) = Vc y (s :: l) := by
  by_cases h : c.dropLast = []
  · have l1 : c.length ≤ 1 := by have := congrArg List.length h; simp at this; omega
    obtain ⟨g, _, e, _, g0⟩ := simple_length hc hg h1
    have := List.length_pos_iff.mpr g0
    have hl := steps_one (s := s) (by omega) h2
    subst hl
    unfold Vc sgs
    rw [List.map_singleton, List.map_singleton, chg_one, chg_one]
  · have hL := hg hc
    have hs := sgn_pm hL
    refine V_const hc hg h1 h2 cp (R := fun z => ((reachL c : Int) : Rat) ≤ z) hs hs (fun z hz => ?_) hxy fun z h1 _ => Rat.le_trans hx h1
    have := far_right hL hz
    rw [← snoc_of hc] at this
    exact ⟨this.1, this.2 h⟩
theorem V_left {c s : List Int} {l : List (List Int)} (hc : c ≠ []) (hg : GoodL c) (h1 : Simple c s) (h2 : Steps s (plainL (slopeL s)) l) (cp : Cop (co s) (co (plainL (slopeL s)))) {x y : Rat} (hy : y ≤ -((reachL c : Int) : Rat)) (hxy : x ≤ y) : Vc x (s :: l) = Vc y (s :: l) := by
  by_cases h : c.dropLast = []
  · have l1 : c.length ≤ 1 := by have := congrArg List.length h; simp at this; omega
    obtain ⟨g, _, e, _, g0⟩ := simple_length hc hg h1
    have := List.length_pos_iff.mpr g0
    have hl := steps_one (s := s) (by omega) h2
    subst hl
    unfold Vc sgs
    rw [List.map_singleton, List.map_singleton, chg_one, chg_one]
  · have hL := hg hc
    have pm : ∀ n : Nat, sgn (c.getD (c.length - 1) 0) * (-1) ^ n = 1 ∨ sgn (c.getD (c.length - 1) 0) * (-1) ^ n = -1 := fun n => by
      rcases pm_pow n with q | q <;> rw [q] <;> rcases sgn_pm hL with r | r <;> rw [r] <;> simp
    refine V_const hc hg h1 h2 cp (R := fun z => z ≤ -((reachL c : Int) : Rat)) (pm c.dropLast.length) (pm (c.dropLast.length - 1)) (fun z hz => ?_) hxy fun z _ h1 => Rat.le_trans h1 hy
    have hz' : ((2 + mxL c.dropLast / ((c.getD (c.length - 1) 0).natAbs : Int) : Int) : Rat) ≤ -z := by
      have : ((reachL c : Int) : Rat) ≤ -z := by grind
      exact this
    have := far_left hL hz'
    rw [← snoc_of hc, Rat.neg_neg] at this
    exact ⟨this.1, this.2 h⟩

theorem le_at {t p : Int} {top parts : Int} (hq : 0 < parts) : leR (false, t, p) (plc top parts) = decide (t * parts ≤ top * p) := by
  have q0 : (0 : Rat) < (parts : Rat) := by have := one_le_cast hq; grind
  have e1 : (top : Rat) = plc top parts * parts := by unfold plc; rw [Rat.div_mul_cancel (by grind)]
  show decide ((t : Rat) ≤ plc top parts * (p : Rat)) = _
  refine decide_eq_decide.mpr ?_
  rw [← Rat.intCast_le_intCast, Rat.intCast_mul, Rat.intCast_mul, e1]
  generalize plc top parts = x
  constructor
  · intro h
    have := Rat.mul_le_mul_of_nonneg_right h (c := (parts : Rat)) (by grind)
    grind
  · intro h
    apply Classical.byContradiction
    intro n
    have := Rat.mul_lt_mul_of_pos_right (a := x * (p : Rat)) (b := (t : Rat)) (by grind) q0
    grind
theorem plc_facts {top parts : Int} (hq : 0 < parts) (d : Int) : ((0 < plc top parts) ↔ 0 < top) ∧ ((0 ≤ plc top parts) ↔ 0 ≤ top) ∧ (((d : Rat) < plc top parts * plc top parts) ↔ top * top - d * parts * parts > 0) ∧ ((plc top parts * plc top parts < (d : Rat)) ↔ top * top - d * parts * parts < 0) := by
  have q0 : (0 : Rat) < (parts : Rat) := by have := one_le_cast hq; grind
  have e1 : (top : Rat) = plc top parts * parts := by unfold plc; rw [Rat.div_mul_cancel (by grind)]
  have qq := Rat.mul_pos q0 q0
  have i0 : ∀ z : Int, (0 < z ↔ (0 : Rat) < (z : Rat)) := fun z => by
    rw [← Rat.intCast_lt_intCast]; rfl
  have i1 : ∀ z : Int, (0 ≤ z ↔ (0 : Rat) ≤ (z : Rat)) := fun z => by
    rw [← Rat.intCast_le_intCast]; rfl
  have i2 : ∀ z : Int, (z < 0 ↔ (z : Rat) < (0 : Rat)) := fun z => by
    rw [← Rat.intCast_lt_intCast]; rfl
  have e2 : ((top * top - d * parts * parts : Int) : Rat) = (plc top parts * plc top parts - (d : Rat)) * ((parts : Rat) * (parts : Rat)) := by
    rw [Rat.intCast_sub, Rat.intCast_mul, Rat.intCast_mul, Rat.intCast_mul, e1]
    grind
  have s1 : ∀ {u k : Rat}, 0 < k → (0 < u * k ↔ 0 < u) := fun {u k} hk => by
    have := rs_mul_pos (v := u) hk
    constructor
    · intro h; rw [rs_pos h] at this; exact rs_one this.symm
    · intro h; exact Rat.mul_pos h hk
  have s2 : ∀ {u k : Rat}, 0 < k → (u * k < 0 ↔ u < 0) := fun {u k} hk => by
    have := rs_mul_pos (v := u) hk
    constructor
    · intro h; rw [rs_neg h] at this; exact rs_mone this.symm
    · intro h; have := Rat.mul_pos (a := -u) (by grind) hk; grind
  refine ⟨?_, ?_, ?_, ?_⟩
  · rw [i0, e1, s1 q0]
  · rw [i1, e1]
    have := s2 (u := plc top parts) q0
    grind
  · rw [gt_iff_lt, i0, e2, s1 qq]
    constructor <;> intro <;> grind
  · rw [i2, e2, s2 qq]
    constructor <;> intro <;> grind
theorem le_far_pos {d top parts : Int} (hq : 0 < parts) : leR (true, 1, d) (plc top parts) = decide (top > 0 ∧ top * top - d * parts * parts > 0) := by
  obtain ⟨h1, h2, h3, h4⟩ := plc_facts (top := top) hq d
  show decide (0 < plc top parts ∧ (d : Rat) < plc top parts * plc top parts) = _
  refine decide_eq_decide.mpr ?_
  rw [h1, h3]
theorem le_far_neg {d top parts : Int} (hq : 0 < parts) : leR (true, -1, d) (plc top parts) = decide (top ≥ 0 ∨ top * top - d * parts * parts < 0) := by
  obtain ⟨h1, h2, h3, h4⟩ := plc_facts (top := top) hq d
  show decide (0 ≤ plc top parts ∨ plc top parts * plc top parts < (d : Rat)) = _
  refine decide_eq_decide.mpr ?_
  rw [h2, h4]
theorem rows_cop {rows : List (List Int × Nat)} (hr : ∀ p ∈ rows, Fac p.1 ∧ 1 ≤ p.2) (nd : (rows.map (·.1)).Nodup) {scale : Int} {n d : Nat} {c s : List Int} (hs : scale ≠ 0) (m : Made scale (rprod rows) n d c) (h : Simple c s) : Cop (co s) (co (plainL (slopeL s))) ∧ ∀ {n' d' : Nat} {o : List Int}, Made (sgn scale) (rprod (once rows)) n' d' o → s = plainL o := by
  have hf : ∀ p ∈ rows, Fac p.1 := fun p hp => (hr p hp).1
  have hfo : ∀ p ∈ once rows, Fac p.1 ∧ 1 ≤ p.2 := fun p hp => by
    obtain ⟨q, hq, rfl⟩ := List.mem_map.mp hp
    exact ⟨hf q hq, Nat.le_refl _⟩
  have sg1 := sgn_pm hs
  have sg0 : sgn scale ≠ 0 := by omega
  have hsg : 0 < scale ∧ sgn scale = 1 ∨ scale < 0 ∧ sgn scale = -1 := by
    unfold sgn
    rcases Int.lt_or_gt_of_ne hs with q | q
    · right; rw [if_neg (by omega), if_pos q]; exact ⟨q, rfl⟩
    · left; rw [if_pos q]; exact ⟨q, rfl⟩
  have all : ∀ {n' d' : Nat} {o : List Int}, Made (sgn scale) (rprod (once rows)) n' d' o → s = plainL o := fun mo => by
    obtain ⟨sim, _⟩ := rows_simple hr nd hs m hsg mo
    exact simple_uniq m.ne h sim
  refine ⟨?_, all⟩
  obtain ⟨o, mo⟩ := made_rows (scale := sgn scale) sg0 (by rcases sg1 with q | q <;> rw [q] <;> (unfold Bd; decide)) (rows := once rows) fun p hp => (hfo p hp).1
  have e1 := ct_of_plain_scaled mo.eq (all mo)
  obtain ⟨S, hS, e, cp⟩ := rows_dv hfo (by rw [once_map]; exact nd)
  rw [less_once, once_once] at *
  have e' : dv (rprod (once rows)) = S := by rw [e]; grind
  have c1 : Cop (co s) S := cop_scaled sg0 e1 cp
  have e3 : C (ct o) * dv (co s) = C (sgn scale) * S := by rw [← dv_scale, e1, dv_scale, e']
  have e4 : C (ct o * ct (slopeL s)) * co (plainL (slopeL s)) = C (sgn scale) * S := by rw [← CC, PS.mul_assoc, plain_mul, co_slope, e3]
  exact (cop_scaled sg0 e4 c1.symm).symm
noncomputable def rootsAll (rows : List (List Int × Nat)) : List (Bool × Int × Int) := rows.flatMap fun p => rootsF p.1
theorem rowsN_eq (rows : List (List Int × Nat)) (x : Rat) : rowsN rows x = ((rootsAll rows).map fun r => le01 r x).sum := by
  unfold rowsN rootsAll facN
  induction rows with
  | nil => rfl
  | cons p rows ih => rw [List.map_cons, List.sum_cons, ih, List.flatMap_cons, List.map_append, List.sum_append]
theorem le01_far {r : Bool × Int × Int} (h : RootOk r) {x : Rat} (hx : 1001 ≤ x) : le01 r x = 1 ∧ le01 r (-x) = 0 := by
  obtain ⟨b, t, p⟩ := r
  unfold le01
  cases b with
  | false =>
    have p1 := one_le_cast h.1
    have h2 : t.natAbs ≤ 1000 := h.2
    have t1 : (t : Rat) ≤ 1000 := by
      have : ((t : Int) : Rat) ≤ ((1000 : Int) : Rat) := Rat.intCast_le_intCast.mpr (by omega)
      exact this
    have t2 : -1000 ≤ (t : Rat) := by
      have : ((-1000 : Int) : Rat) ≤ ((t : Int) : Rat) := Rat.intCast_le_intCast.mpr (by omega)
      exact this
    have m := Rat.mul_le_mul_of_nonneg_left p1 (c := x) (by grind)
    constructor
    · rw [if_pos]
      exact decide_eq_true (by grind)
    · rw [if_neg]
      intro z
      have z' : (t : Rat) ≤ -x * (p : Rat) := of_decide_eq_true z
      grind
  | true =>
    have d8 : (p : Rat) ≤ 8 := by
      have : ((p : Int) : Rat) ≤ ((8 : Int) : Rat) := Rat.intCast_le_intCast.mpr h.2.2
      exact this
    have sq := sq_le (a := 1001) (b := x) (by decide) hx
    have sq2 : (1001 : Rat) * 1001 = 1002001 := by grind
    rcases h.1 with r | r
    · subst r
      constructor
      · rw [if_pos]
        show decide (0 < x ∧ (p : Rat) < x * x) = true
        exact decide_eq_true ⟨by grind, by grind⟩
      · rw [if_neg]
        intro z
        have z' : 0 < -x ∧ _ := of_decide_eq_true z
        grind
    · subst r
      constructor
      · rw [if_pos]
        show decide (0 ≤ x ∨ x * x < (p : Rat)) = true
        exact decide_eq_true (.inl (by grind))
      · rw [if_neg]
        intro z
        have z' : 0 ≤ -x ∨ -x * -x < (p : Rat) := of_decide_eq_true z
        have : -x * -x = x * x := by grind
        grind
theorem rootsAll_ok {rows : List (List Int × Nat)} (hf : ∀ p ∈ rows, Fac p.1) : ∀ r ∈ rootsAll rows, RootOk r := fun r hr => by
  obtain ⟨p, hp, h⟩ := List.mem_flatMap.mp hr
  exact roots_ok (hf p hp) r h
theorem sum_const {l : List (Bool × Int × Int)} {f : Bool × Int × Int → Int} {k : Int} (h : ∀ r ∈ l, f r = k) : (l.map f).sum = (l.length : Int) * k := by
  induction l with
  | nil => simp
  | cons a l ih =>
    rw [List.map_cons, List.sum_cons, h a List.mem_cons_self, ih fun r hr => h r (List.mem_cons_of_mem _ hr), List.length_cons]
    grind

theorem rows_all {rows : List (List Int × Nat)} (hr : ∀ p ∈ rows, Fac p.1 ∧ 1 ≤ p.2) (nd : (rows.map (·.1)).Nodup) {scale : Int} {n d : Nat} {c : List Int} (hs : scale ≠ 0) (m : Made scale (rprod rows) n d c) {ls : List (List Int)} (h : Chain c ls) : rowsN rows ((reachL c : Int) : Rat) = ((rootsAll rows).length : Int) ∧ rowsN rows (-((reachL c : Int) : Rat)) = 0 := by
  obtain ⟨s, l, h1, e, h2⟩ := h
  obtain ⟨cp, _⟩ := rows_cop hr nd hs m h1
  have ok := rootsAll_ok fun p hp => (hr p hp).1
  obtain ⟨y, hy1, hy2⟩ : ∃ y : Rat, ((reachL c : Int) : Rat) ≤ y ∧ 1001 ≤ y := by
    rcases (by grind : ((reachL c : Int) : Rat) ≤ 1001 ∨ 1001 ≤ ((reachL c : Int) : Rat)) with q | q
    · exact ⟨1001, q, by grind⟩
    · exact ⟨_, by grind, q⟩
  have v1 := V_right m.ne m.good h1 h2 cp (x := ((reachL c : Int) : Rat)) (y := y) (by grind) hy1
  have v2 := V_left m.ne m.good h1 h2 cp (x := -y) (y := -((reachL c : Int) : Rat)) (by grind) (by grind)
  have k1 := rows_count hr nd hs m ⟨s, l, h1, rfl, h2⟩ hy1
  have k2 := rows_count hr nd hs m ⟨s, l, h1, rfl, h2⟩ (x := -y) (y := -((reachL c : Int) : Rat)) (by grind)
  have t1 : rowsN rows y = ((rootsAll rows).length : Int) := by
    rw [rowsN_eq, sum_const fun r hr => (le01_far (ok r hr) hy2).1]; omega
  have t2 : rowsN rows (-y) = 0 := by
    rw [rowsN_eq, sum_const fun r hr => (le01_far (ok r hr) hy2).2]; omega
  constructor <;> omega
end Zf

namespace Zf
open PS

noncomputable def sp (s : List Int) (x : Rat) : Int := if rs (ev x s) = 0 then rs (ev x (plainL (slopeL s))) else rs (ev x s)
noncomputable def Loc2 (s : List Int) (ls : List (List Int)) (x y : Rat) : Prop := ((Vc x (s :: ls) = Vc y (s :: ls) ∧ sp s x = sp s y) ∨ (Vc x (s :: ls) = Vc y (s :: ls) + 1 ∧ sp s x = - sp s y)) ∧ (x < y → rs (ev y s) = 0 → Vc x (s :: ls) = Vc y (s :: ls) + 1)
theorem sturm_near2 {M : Rat} (hM : 0 ≤ M) {s : List Int} {ls : List (List Int)} (hs : GoodL s) (s0 : s ≠ []) (h : Steps s (plainL (slopeL s)) ls) (cp : Cop (co s) (co (plainL (slopeL s)))) : Near M fun x y => Loc2 s ls x y := by
  have N0 := al_near hM ls.length s _ ls (Nat.le_refl _) h cp
  have st : ∀ x y p, St x y s p → Al p (sgs x ls) (sgs y ls) → Loc2 s ls x y := by
    intro x y p hp al
    have p0 : p ≠ 0 := by have := hp.2.2; omega
    have v : Vc x (s :: ls) = Vc y (s :: ls) := by
      unfold Vc
      show chg 0 (rs (ev x s) :: sgs x ls) = chg 0 (rs (ev y s) :: sgs y ls)
      rw [hp.1, hp.2.1]
      unfold chg
      rw [if_pos (c := p ≠ 0) p0, al.chg]
    refine ⟨.inl ⟨v, ?_⟩, fun _ z => ?_⟩
    · unfold sp
      rw [hp.1, hp.2.1, if_neg p0, if_neg p0]
    · rw [hp.2.1] at z
      exact absurd z p0
  generalize hb : plainL (slopeL s) = b0 at h cp
  cases h with
  | stop =>

    have hl : s.length = 1 := by
      have h1 : (plainL (slopeL s)).length = 0 := by rw [hb]; rfl
      rw [plain_length, slope_length] at h1
      have := List.length_pos_iff.mpr s0
      omega
    obtain ⟨a, rfl⟩ := List.length_eq_one_iff.mp hl
    have ha : a ≠ 0 := hs s0
    refine Near.triv fun x y => ?_
    have e : ∀ x, ev x [a] = (a : Rat) := fun x => by show (a : Rat) + x * 0 = a; grind
    have p : ∃ p, St x y [a] p := by
      unfold St
      rw [e, e]
      rcases one_le_abs ha with q | q
      · exact ⟨1, rs_pos (by grind), rs_pos (by grind), .inl rfl⟩
      · exact ⟨-1, rs_neg (by grind), rs_neg (by grind), .inr rfl⟩
    obtain ⟨p, hp⟩ := p
    exact st x y p hp (Al.nil p)
  | step _ _ r ls2 hne hl k =>
    have N1 := al_near hM ls2.length b0 _ ls2 (Nat.le_refl _) k (cop_next hl cp)
    obtain ⟨kk, u, v, hk, e2⟩ := cop_ev cp
    have hU := eB_nn hM u
    have hV := eB_nn hM v
    generalize hW : eB M u + eB M v + 1 = W
    have hW1 : 0 < W := by grind
    have p0 : 0 < 1 / W := rdiv_pos (by decide) hW1
    have w1 : W * (1 / W) = 1 := by grind
    have N2 := (near_dich hM p0 s).and (near_dich hM p0 b0)
    have N3 := near_mul (M := M) (eK_nn hM s) p0
    have cp1 : 0 < ct (slopeL s) := by
      refine ct_ne_zero (slope_good hs) fun z => hne ?_
      rw [← hb, z]; rfl
    have ct1 := one_le_cast cp1
    refine (((N0.and N1).and N2).and N3).mono fun x y hx hy hxy ⟨⟨⟨d0, d1⟩, ⟨d2, d3⟩⟩, d4⟩ => ?_
    rcases d2 with ⟨p, hp⟩ | d2
    · exact st x y p hp (d0 p hp)
    · have i1 := ev_in hx u
      have i2 := ev_in hx v
      have ub := i1.mul d2
      have e4 := e2 x

      have big : 1 / W < ev x b0 ∨ ev x b0 < -(1 / W) := by
        by_cases c1 : In (1 / W) (ev x b0)
        · exfalso
          have vc := i2.mul c1
          have kk' := ub.add vc
          rw [← e4] at kk'
          have w2 : eB M u * (1 / W) + eB M v * (1 / W) + 1 / W = 1 := by rw [← w1, ← hW]; grind
          obtain ⟨k1, k2⟩ := kk'
          rcases one_le_abs hk with q1 | q1 <;> grind
        · unfold In at c1
          grind
      have stb : ∃ p, St x y b0 p := by
        rcases d3 with q | q
        · exact q
        · obtain ⟨q1, q2⟩ := q
          grind
      obtain ⟨p, hp⟩ := stb
      have al := d1 p hp
      obtain ⟨t, ht, et⟩ := ev_tay hx hy s
      have es : ed x s = (ct (slopeL s) : Rat) * ev x b0 := by
        rw [← ev_slope, ev_plain, hb]
      have id : In (y - x) (y - x) := by constructor <;> grind
      have dt := id.mul ht

      have mono : x < y → (p = 1 → ev x s < ev y s) ∧ (p = -1 → ev y s < ev x s) := by
        intro hlt
        obtain ⟨dt1, dt2⟩ := dt
        refine ⟨fun q => ?_, fun q => ?_⟩
        · have b1 : 0 < ev x b0 := rs_one (q ▸ hp.1)
          have b2 : ev x b0 ≤ (ct (slopeL s) : Rat) * ev x b0 := by
            have := Rat.mul_le_mul_of_nonneg_right ct1 (c := ev x b0) (by grind)
            grind
          have b3 : 0 < ed x s + (y - x) * t := by grind
          have b4 := Rat.mul_pos (a := y - x) (by grind) b3
          grind
        · have b1 : ev x b0 < 0 := rs_mone (q ▸ hp.1)
          have b2 : (ct (slopeL s) : Rat) * ev x b0 ≤ ev x b0 := by
            have := Rat.mul_le_mul_of_nonneg_right ct1 (c := - ev x b0) (by grind)
            grind
          have b3 : 0 < - (ed x s + (y - x) * t) := by grind
          have b4 := Rat.mul_pos (a := y - x) (by grind) b3
          grind
      have c9 : ∀ z : Int, Sg z → ∀ ss, chg 0 (z :: p :: ss) = (if z = -p then 1 else 0) + chg p ss := by
        intro z hz ss
        show (if (0 : Int) * z = -1 then 1 else 0) + ((if (if z ≠ 0 then z else 0) * p = -1 then 1 else 0) + chg (if p ≠ 0 then p else _) ss) = _
        rw [if_neg (by omega), Int.zero_add, if_pos (c := p ≠ 0) (by have := hp.2.2; omega)]
        congr 1
        rcases hp.2.2 with r | r <;> subst r <;> rcases hz with q | q | q <;> subst q <;> rfl
      have vx : Vc x (s :: b0 :: ls2) = (if rs (ev x s) = -p then 1 else 0) + chg p (sgs x ls2) := by
        unfold Vc
        show chg 0 (rs (ev x s) :: rs (ev x b0) :: sgs x ls2) = _
        rw [hp.1, c9 _ (rs_sg _)]
      have vy : Vc y (s :: b0 :: ls2) = (if rs (ev y s) = -p then 1 else 0) + chg p (sgs x ls2) := by
        unfold Vc
        show chg 0 (rs (ev y s) :: rs (ev y b0) :: sgs y ls2) = _
        rw [hp.2.1, c9 _ (rs_sg _), al.chg]
      have sx : sp s x = if rs (ev x s) = 0 then p else rs (ev x s) := by unfold sp; rw [hb, hp.1]
      have sy : sp s y = if rs (ev y s) = 0 then p else rs (ev y s) := by unfold sp; rw [hb, hp.2.1]
      unfold Loc2
      rw [vx, vy, sx, sy]
      by_cases hlt : x < y
      · rcases hp.2.2 with r | r
        · have m := (mono hlt).1 r
          subst r
          rcases rs_cases (ev x s) with ⟨a1, a2⟩ | ⟨a1, a2⟩ | ⟨a1, a2⟩ <;> rcases rs_cases (ev y s) with ⟨c1, c2⟩ | ⟨c1, c2⟩ | ⟨c1, c2⟩ <;> rw [a2, c2] <;> simp <;> first | omega | (exfalso; grind)
        · have m := (mono hlt).2 r
          subst r
          rcases rs_cases (ev x s) with ⟨a1, a2⟩ | ⟨a1, a2⟩ | ⟨a1, a2⟩ <;> rcases rs_cases (ev y s) with ⟨c1, c2⟩ | ⟨c1, c2⟩ | ⟨c1, c2⟩ <;> rw [a2, c2] <;> simp <;> first | omega | (exfalso; grind)
      · have exy : x = y := by grind
        subst exy
        exact ⟨.inl ⟨rfl, rfl⟩, fun h => absurd h hlt⟩

theorem all_le_of_near {F : Rat → Int} (h : ∀ M, 0 ≤ M → Near M fun x y => F y ≤ F x) {x y : Rat} (hxy : x ≤ y) : F y ≤ F x := by
  obtain ⟨M, hM, mx⟩ : ∃ M : Rat, 0 ≤ M ∧ ∀ z, x ≤ z → z ≤ y → In M z := by
    rcases (by grind : 0 ≤ x ∨ x ≤ 0) with a | a <;> rcases (by grind : 0 ≤ y ∨ y ≤ 0) with b | b
    · exact ⟨y, b, fun z _ _ => ⟨by grind, by grind⟩⟩
    · exact ⟨y - x, by grind, fun z _ _ => ⟨by grind, by grind⟩⟩
    · exact ⟨y - x, by grind, fun z _ _ => ⟨by grind, by grind⟩⟩
    · exact ⟨-x, by grind, fun z _ _ => ⟨by grind, by grind⟩⟩
  obtain ⟨δ, d0, hd⟩ := h M hM
  obtain ⟨n, hn⟩ := arch ((y - x) / δ)
  have hn' : y - x ≤ (n : Rat) * δ := by
    have := Rat.mul_le_mul_of_nonneg_right hn (c := δ) (by grind)
    rwa [Rat.div_mul_cancel (by grind)] at this
  have key : ∀ n : Nat, ∀ a, x ≤ a → a ≤ y → y - a ≤ (n : Rat) * δ → F y ≤ F a := by
    intro n
    induction n with
    | zero =>
      intro a h1 h2 h3
      have e : a = y := by
        have : ((0 : Nat) : Rat) * δ = 0 := by simp
        grind
      rw [e]
      exact Int.le_refl _
    | succ n ih =>
      intro a h1 h2 h3
      have e : ((n + 1 : Nat) : Rat) = (n : Rat) + 1 := by simp
      rw [e] at h3
      by_cases c : y - a ≤ δ
      · exact hd a y (mx a h1 h2) (mx y hxy (by grind)) h2 c
      · have h4 := ih (a + δ) (by grind) (by grind) (by grind)
        have h5 := hd a (a + δ) (mx a h1 h2) (mx _ (by grind) (by grind)) (by grind) (by grind)
        exact Int.le_trans h4 h5
  exact key n x (by grind) hxy hn'
section
variable {s : List Int} {ls : List (List Int)}
theorem V_mono (hs : GoodL s) (s0 : s ≠ []) (h : Steps s (plainL (slopeL s)) ls) (cp : Cop (co s) (co (plainL (slopeL s)))) {x y : Rat} (hxy : x ≤ y) : Vc y (s :: ls) ≤ Vc x (s :: ls) :=
  all_le_of_near (F := fun x => Vc x (s :: ls)) (fun M hM => (sturm_near2 hM hs s0 h cp).mono fun x y _ _ _ d => by rcases d.1 with ⟨e, _⟩ | ⟨e, _⟩ <;> (show Vc y (s :: ls) ≤ Vc x (s :: ls)) <;> omega) hxy
noncomputable def par (n : Int) : Int := if n % 2 = 0 then 1 else -1
theorem par_succ (n : Int) : par (n + 1) = - par n := by
  unfold par
  split <;> split <;> omega
theorem V_sp (hs : GoodL s) (s0 : s ≠ []) (h : Steps s (plainL (slopeL s)) ls) (cp : Cop (co s) (co (plainL (slopeL s)))) {x y : Rat} (hxy : x ≤ y) : sp s x * par (Vc x (s :: ls)) = sp s y * par (Vc y (s :: ls)) := by
  refine all_of_near (F := fun x => sp s x * par (Vc x (s :: ls))) (R := fun _ => True) (fun M hM => ?_) hxy fun _ _ _ => trivial
  refine (sturm_near2 hM hs s0 h cp).mono fun x y _ _ _ d _ _ => ?_
  show sp s x * par (Vc x (s :: ls)) = sp s y * par (Vc y (s :: ls))
  rcases d.1 with ⟨e, e2⟩ | ⟨e, e2⟩
  · rw [e, e2]
  · rw [e, e2, par_succ]
    grind

theorem V_zero (hs : GoodL s) (s0 : s ≠ []) (h : Steps s (plainL (slopeL s)) ls) (cp : Cop (co s) (co (plainL (slopeL s)))) {x z : Rat} (hxz : x < z) (hz : rs (ev z s) = 0) : Vc z (s :: ls) < Vc x (s :: ls) := by
  obtain ⟨M, hM, mx⟩ : ∃ M : Rat, 0 ≤ M ∧ ∀ y, x ≤ y → y ≤ z → In M y := by
    rcases (by grind : 0 ≤ x ∨ x ≤ 0) with a | a <;> rcases (by grind : 0 ≤ z ∨ z ≤ 0) with b | b
    · exact ⟨z, b, fun y _ _ => ⟨by grind, by grind⟩⟩
    · exact ⟨z - x, by grind, fun y _ _ => ⟨by grind, by grind⟩⟩
    · exact ⟨z - x, by grind, fun y _ _ => ⟨by grind, by grind⟩⟩
    · exact ⟨-x, by grind, fun y _ _ => ⟨by grind, by grind⟩⟩
  obtain ⟨δ, d0, hd⟩ := sturm_near2 hM hs s0 h cp
  by_cases c : z - x ≤ δ
  · have := (hd x z (mx x (by grind) (by grind)) (mx z (by grind) (by grind)) (by grind) c).2 hxz hz
    omega
  · have h1 := (hd (z - δ) z (mx _ (by grind) (by grind)) (mx z (by grind) (by grind)) (by grind) (by grind)).2 (by grind) hz
    have h2 := V_mono hs s0 h cp (x := x) (y := z - δ) (by grind)
    omega
theorem sp_of {x : Rat} (h : rs (ev x s) ≠ 0) : sp s x = rs (ev x s) := if_neg h

theorem half_sign (hs : GoodL s) (s0 : s ≠ []) (h : Steps s (plainL (slopeL s)) ls) (cp : Cop (co s) (co (plainL (slopeL s)))) {b z t : Rat} (h1 : b < z) (h2 : z < t) (one : Vc b (s :: ls) - Vc t (s :: ls) = 1) {e : Int} (he : e = rs (ev t s) ∨ ∃ t', t < t' ∧ Vc t (s :: ls) = Vc t' (s :: ls) ∧ e = rs (ev t' s)) :
    ((rs (ev z s) = 0 ∨ rs (ev z s) = e) → Vc b (s :: ls) - Vc z (s :: ls) = 1) ∧ (¬ (rs (ev z s) = 0 ∨ rs (ev z s) = e) → Vc z (s :: ls) - Vc t (s :: ls) = 1) := by
  have m1 := V_mono hs s0 h cp (x := b) (y := z) (by grind)
  have m2 := V_mono hs s0 h cp (x := z) (y := t) (by grind)
  have q2 := V_sp hs s0 h cp (x := z) (y := t) (by grind)
  by_cases c : Vc z (s :: ls) = Vc t (s :: ls)
  ·
    refine ⟨fun _ => by omega, fun k => absurd ?_ k⟩
    rw [c] at q2
    have pz : par (Vc t (s :: ls)) ≠ 0 := by unfold par; split <;> omega
    have q3 := Int.eq_of_mul_eq_mul_right pz q2
    by_cases zz : rs (ev z s) = 0
    · exact .inl zz
    · right
      have tz : rs (ev t s) ≠ 0 := fun k => by
        have := V_zero hs s0 h cp h2 k
        omega
      rw [sp_of zz, sp_of tz] at q3
      rcases he with r | ⟨t', r1, r2, r⟩
      · rw [q3, r]
      · have q4 := V_sp hs s0 h cp (x := t) (y := t') (by grind)
        rw [← r2] at q4
        have q5 := Int.eq_of_mul_eq_mul_right pz q4
        have tz' : rs (ev t' s) ≠ 0 := fun k => by
          have := V_zero hs s0 h cp r1 k
          omega
        rw [sp_of tz, sp_of tz'] at q5
        rw [q3, q5, r]
  · have cz : Vc z (s :: ls) = Vc b (s :: ls) := by omega
    refine ⟨fun k => ?_, fun _ => by omega⟩
    exfalso
    have zz : rs (ev z s) ≠ 0 := fun k => by
      have := V_zero hs s0 h cp h1 k
      omega
    have ct : Vc z (s :: ls) = Vc t (s :: ls) + 1 := by omega
    rw [ct, par_succ] at q2
    have pz : par (Vc t (s :: ls)) ≠ 0 := by unfold par; split <;> omega
    have q3 : sp s t = - sp s z := by
      have : (- sp s z) * par (Vc t (s :: ls)) = sp s t * par (Vc t (s :: ls)) := by rw [← q2]; grind
      exact (Int.eq_of_mul_eq_mul_right pz this).symm
    rw [sp_of zz] at q3
    rcases k with k | k
    · exact zz k
    · rcases he with r | ⟨t', r1, r2, r⟩
      · have tz : rs (ev t s) ≠ 0 := by rw [← r, ← k]; exact zz
        rw [sp_of tz, ← r, ← k] at q3
        omega
      · have q4 := V_sp hs s0 h cp (x := t) (y := t') (by grind)
        rw [← r2] at q4
        have q5 := Int.eq_of_mul_eq_mul_right pz q4
        have tz' : rs (ev t' s) ≠ 0 := by rw [← r, ← k]; exact zz
        rw [q3, sp_of tz', ← r, ← k] at q5
        omega
end
end Zf

namespace Zf
open PS

noncomputable def Hit (r : Bool × Int × Int) (x y : Rat) : Prop := leR r y = true ∧ ¬ leR r x = true
noncomputable def Apart (r s : Bool × Int × Int) : Prop := ∀ x y : Rat, x ≤ y → (y - x) * 100 < 1 → ¬ (Hit r x y ∧ Hit s x y)
theorem Apart.symm {r s : Bool × Int × Int} (h : Apart r s) : Apart s r := fun x y a b c => h x y a b ⟨c.2, c.1⟩
theorem hit_at {t p : Int} {x y : Rat} (h : Hit (false, t, p) x y) : (t : Rat) ≤ y * (p : Rat) ∧ x * (p : Rat) < (t : Rat) := by
  obtain ⟨h1, h2⟩ := h
  have a : (t : Rat) ≤ y * (p : Rat) := of_decide_eq_true h1
  have b : ¬ (t : Rat) ≤ x * (p : Rat) := fun z => h2 (decide_eq_true z)
  exact ⟨a, by grind⟩
theorem hit_pos {d : Int} {x y : Rat} (h : Hit (true, 1, d) x y) : (0 < y ∧ (d : Rat) < y * y) ∧ ¬ (0 < x ∧ (d : Rat) < x * x) := by
  obtain ⟨h1, h2⟩ := h
  have a : 0 < y ∧ (d : Rat) < y * y := of_decide_eq_true h1
  exact ⟨a, fun z => h2 (decide_eq_true z)⟩
theorem hit_neg {d : Int} {x y : Rat} (h : Hit (true, -1, d) x y) : (0 ≤ y ∨ y * y < (d : Rat)) ∧ ¬ (0 ≤ x ∨ x * x < (d : Rat)) := by
  obtain ⟨h1, h2⟩ := h
  have a : 0 ≤ y ∨ y * y < (d : Rat) := of_decide_eq_true h1
  exact ⟨a, fun z => h2 (decide_eq_true z)⟩
theorem cast_le {a b : Int} (h : a ≤ b) : (a : Rat) ≤ (b : Rat) := Rat.intCast_le_intCast.mpr h
theorem big_of_sq {x : Rat} (h : 2 ≤ x * x) (h0 : 0 < x) : 1 < x := by
  apply Classical.byContradiction
  intro n
  have := sq_le (a := x) (b := 1) (by grind) (by grind)
  grind
theorem small_of_sq {x : Rat} (h : x * x ≤ 8) : x < 3 := by
  apply Classical.byContradiction
  intro n
  have := sq_le (a := 3) (b := x) (by grind) (by grind)
  grind

theorem sq_close {x y : Rat} (h0 : 0 ≤ x) (hxy : x ≤ y) (h : (y - x) * 100 < 1) (h3 : x < 3) : y * y - x * x < 7 / 100 := by
  have e : y * y - x * x = (y - x) * (y + x) := by grind
  have h1 : (y - x) * (y + x) ≤ (y - x) * 7 := Rat.mul_le_mul_of_nonneg_left (by grind) (by grind)
  grind
theorem apart_pn {d e : Int} (hd : 2 ≤ d) (he : 2 ≤ e) : Apart (true, 1, d) (true, -1, e) := by
  intro x y hxy hs ⟨h1, h2⟩
  obtain ⟨⟨a1, a2⟩, a3⟩ := hit_pos h1
  obtain ⟨b1, b2⟩ := hit_neg h2
  have d2 : ((2 : Int) : Rat) ≤ (d : Rat) := cast_le hd
  have e2 : ((2 : Int) : Rat) ≤ (e : Rat) := cast_le he
  have t : ((2 : Int) : Rat) = 2 := rfl
  have := big_of_sq (x := y) (by grind) a1
  grind
theorem apart_pp {d e : Int} (hd : 2 ≤ d) (he : 2 ≤ e) (hd8 : d ≤ 8) (he8 : e ≤ 8) (hne : d ≠ e) : Apart (true, 1, d) (true, 1, e) := by
  have key : ∀ {d e : Int}, 2 ≤ d → d ≤ 8 → d < e → Apart (true, 1, d) (true, 1, e) := by
    intro d e hd hd8 hlt x y hxy hs ⟨h1, h2⟩
    obtain ⟨⟨a1, a2⟩, a3⟩ := hit_pos h1
    obtain ⟨⟨b1, b2⟩, b3⟩ := hit_pos h2
    have d2 : ((2 : Int) : Rat) ≤ (d : Rat) := cast_le hd
    have d8 : (d : Rat) ≤ ((8 : Int) : Rat) := cast_le hd8
    have t : ((2 : Int) : Rat) = 2 := rfl
    have t8 : ((8 : Int) : Rat) = 8 := rfl
    have de : ((d + 1 : Int) : Rat) ≤ (e : Rat) := cast_le (by omega)
    rw [Rat.intCast_add] at de
    have t1 : ((1 : Int) : Rat) = 1 := rfl
    have := big_of_sq (x := y) (by grind) a1
    by_cases x0 : 0 < x
    · have xx : x * x ≤ (d : Rat) := by grind
      have := sq_close (by grind) hxy hs (small_of_sq (by grind))
      grind
    · grind
  rcases Int.lt_or_gt_of_ne hne with h | h
  · exact key hd hd8 h
  · exact (key he he8 h).symm
theorem apart_nn {d e : Int} (hd : 2 ≤ d) (he : 2 ≤ e) (hd8 : d ≤ 8) (he8 : e ≤ 8) (hne : d ≠ e) : Apart (true, -1, d) (true, -1, e) := by
  have key : ∀ {d e : Int}, 2 ≤ d → d ≤ 8 → d < e → Apart (true, -1, d) (true, -1, e) := by
    intro d e hd hd8 hlt x y hxy hs ⟨h1, h2⟩
    obtain ⟨a1, a2⟩ := hit_neg h1
    obtain ⟨b1, b2⟩ := hit_neg h2
    have d2 : ((2 : Int) : Rat) ≤ (d : Rat) := cast_le hd
    have d8 : (d : Rat) ≤ ((8 : Int) : Rat) := cast_le hd8
    have t : ((2 : Int) : Rat) = 2 := rfl
    have t8 : ((8 : Int) : Rat) = 8 := rfl
    have de : ((d + 1 : Int) : Rat) ≤ (e : Rat) := cast_le (by omega)
    rw [Rat.intCast_add] at de
    have t1 : ((1 : Int) : Rat) = 1 := rfl
    have xx : (-x) * (-x) = x * x := by grind
    have yy : (-y) * (-y) = y * y := by grind
    have := big_of_sq (x := -x) (by grind) (by grind)
    by_cases y0 : 0 ≤ y
    · grind
    · have := sq_close (x := -y) (y := -x) (by grind) (by grind) (by grind) (small_of_sq (by grind))
      grind
  rcases Int.lt_or_gt_of_ne hne with h | h
  · exact key hd hd8 h
  · exact (key he he8 h).symm
theorem apart_aa {t p t' p' : Int} (hp : 0 < p) (hp' : 0 < p') (h3 : p ≤ 3) (h3' : p' ≤ 3) (hne : t * p' ≠ t' * p) : Apart (false, t, p) (false, t', p') := by
  intro x y hxy hs ⟨h1, h2⟩
  obtain ⟨a1, a2⟩ := hit_at h1
  obtain ⟨b1, b2⟩ := hit_at h2
  have p1 := one_le_cast hp
  have p2 := one_le_cast hp'
  have p3 : (p : Rat) ≤ ((3 : Int) : Rat) := cast_le h3
  have p4 : (p' : Rat) ≤ ((3 : Int) : Rat) := cast_le h3'
  have t3 : ((3 : Int) : Rat) = 3 := rfl
  have k := one_le_abs (k := t * p' - t' * p) (by omega)
  rw [Rat.intCast_sub, Rat.intCast_mul, Rat.intCast_mul] at k

  have m1 := Rat.mul_le_mul_of_nonneg_right a1 (c := (p' : Rat)) (by grind)
  have m2 := Rat.mul_le_mul_of_nonneg_right b1 (c := (p : Rat)) (by grind)
  have m3 := Rat.mul_lt_mul_of_pos_right a2 (c := (p' : Rat)) (by grind)
  have m4 := Rat.mul_lt_mul_of_pos_right b2 (c := (p : Rat)) (by grind)
  have pp : (p : Rat) * (p' : Rat) ≤ 9 := by
    have u1 := Rat.mul_le_mul_of_nonneg_right p3 (c := (p' : Rat)) (by grind)
    grind
  have q : (y - x) * ((p : Rat) * (p' : Rat)) ≤ (y - x) * 9 := Rat.mul_le_mul_of_nonneg_left pp (by grind)
  rcases k with k | k <;> grind
theorem sq_ne {t p d : Int} (hp : 0 < p) (hd : d = 2 ∨ d = 3 ∨ d = 5 ∨ d = 7 ∨ d = 8) : t * t - d * (p * p) ≠ 0 := by
  intro z
  have p0 : (p : Rat) ≠ 0 := by have := one_le_cast hp; grind
  refine no_sq hd ((t : Rat) / (p : Rat)) ?_
  have e : (t : Rat) = (t : Rat) / (p : Rat) * (p : Rat) := by rw [Rat.div_mul_cancel p0]
  generalize (t : Rat) / (p : Rat) = x at e ⊢
  have z' : ((t * t - d * (p * p) : Int) : Rat) = ((0 : Int) : Rat) := by rw [z]
  rw [Rat.intCast_sub, Rat.intCast_mul, Rat.intCast_mul, Rat.intCast_mul, e] at z'
  have z2 : (x * x - (d : Rat)) * ((p : Rat) * (p : Rat)) = 0 := by
    have : ((0 : Int) : Rat) = 0 := rfl
    grind
  rcases Rat.mul_eq_zero.mp z2 with h | h
  · grind
  · rcases Rat.mul_eq_zero.mp h with h | h <;> exact absurd h p0
theorem apart_ap {t p d : Int} (hp : 0 < p) (h3 : p ≤ 3) (hd : d = 2 ∨ d = 3 ∨ d = 5 ∨ d = 7 ∨ d = 8) : Apart (false, t, p) (true, 1, d) := by
  intro x y hxy hs ⟨h1, h2⟩
  obtain ⟨a1, a2⟩ := hit_at h1
  obtain ⟨⟨b1, b2⟩, b3⟩ := hit_pos h2
  have p1 := one_le_cast hp
  have p3 : (p : Rat) ≤ ((3 : Int) : Rat) := cast_le h3
  have t3 : ((3 : Int) : Rat) = 3 := rfl
  have d2 : ((2 : Int) : Rat) ≤ (d : Rat) := cast_le (by omega)
  have d8 : (d : Rat) ≤ ((8 : Int) : Rat) := cast_le (by omega)
  have t2 : ((2 : Int) : Rat) = 2 := rfl
  have t8 : ((8 : Int) : Rat) = 8 := rfl
  have k := one_le_abs (k := t * t - d * (p * p)) (sq_ne hp hd)
  rw [Rat.intCast_sub, Rat.intCast_mul, Rat.intCast_mul, Rat.intCast_mul] at k
  have := big_of_sq (x := y) (by grind) b1
  have x0 : 0 < x := by grind
  have xx : x * x ≤ (d : Rat) := by grind
  have cl := sq_close (by grind) hxy hs (small_of_sq (by grind))
  have xp : 0 ≤ x * (p : Rat) := Rat.mul_nonneg (by grind) (by grind)
  have s1 := sq_le (a := x * (p : Rat)) (b := (t : Rat)) xp (by grind)
  have s2 := sq_le (a := (t : Rat)) (b := y * (p : Rat)) (by grind) a1
  have pp9 : (p : Rat) * (p : Rat) ≤ 9 := by
    have := sq_le (a := (p : Rat)) (b := 3) (by grind) (by grind)
    grind
  have pp0 : 0 ≤ (p : Rat) * (p : Rat) := sq_nn _
  have m1 := Rat.mul_le_mul_of_nonneg_right xx pp0
  have m2 := Rat.mul_le_mul_of_nonneg_right (a := (d : Rat)) (b := y * y) (by grind) pp0
  have m3 : (y * y - x * x) * ((p : Rat) * (p : Rat)) ≤ (y * y - x * x) * 9 := Rat.mul_le_mul_of_nonneg_left pp9 (by grind)
  have e1 : x * (p : Rat) * (x * (p : Rat)) = x * x * ((p : Rat) * (p : Rat)) := by grind
  have e2 : y * (p : Rat) * (y * (p : Rat)) = y * y * ((p : Rat) * (p : Rat)) := by grind
  rw [e1] at s1
  rw [e2] at s2
  rcases k with k | k <;> grind
theorem apart_an {t p d : Int} (hp : 0 < p) (h3 : p ≤ 3) (hd : d = 2 ∨ d = 3 ∨ d = 5 ∨ d = 7 ∨ d = 8) : Apart (false, t, p) (true, -1, d) := by
  intro x y hxy hs ⟨h1, h2⟩
  obtain ⟨a1, a2⟩ := hit_at h1
  obtain ⟨b1, b2⟩ := hit_neg h2
  have p1 := one_le_cast hp
  have p3 : (p : Rat) ≤ ((3 : Int) : Rat) := cast_le h3
  have t3 : ((3 : Int) : Rat) = 3 := rfl
  have d2 : ((2 : Int) : Rat) ≤ (d : Rat) := cast_le (by omega)
  have d8 : (d : Rat) ≤ ((8 : Int) : Rat) := cast_le (by omega)
  have t2 : ((2 : Int) : Rat) = 2 := rfl
  have t8 : ((8 : Int) : Rat) = 8 := rfl
  have k := one_le_abs (k := t * t - d * (p * p)) (sq_ne hp hd)
  rw [Rat.intCast_sub, Rat.intCast_mul, Rat.intCast_mul, Rat.intCast_mul] at k
  have xx2 : (-x) * (-x) = x * x := by grind
  have yy2 : (-y) * (-y) = y * y := by grind
  have := big_of_sq (x := -x) (by grind) (by grind)
  have y0 : y < 0 := by grind
  have yy : y * y ≤ (d : Rat) := by grind
  have cl := sq_close (x := -y) (y := -x) (by grind) (by grind) (by grind) (small_of_sq (by grind))
  have yp : 0 ≤ -y * (p : Rat) := Rat.mul_nonneg (by grind) (by grind)
  have s1 := sq_le (a := -y * (p : Rat)) (b := -(t : Rat)) yp (by grind)
  have s2 := sq_le (a := -(t : Rat)) (b := -x * (p : Rat)) (by grind) (by grind)
  have pp9 : (p : Rat) * (p : Rat) ≤ 9 := by
    have := sq_le (a := (p : Rat)) (b := 3) (by grind) (by grind)
    grind
  have pp0 : 0 ≤ (p : Rat) * (p : Rat) := sq_nn _
  have m1 := Rat.mul_le_mul_of_nonneg_right yy pp0
  have m2 := Rat.mul_le_mul_of_nonneg_right (a := (d : Rat)) (b := x * x) (by grind) pp0
  have m3 : (x * x - y * y) * ((p : Rat) * (p : Rat)) ≤ (x * x - y * y) * 9 := Rat.mul_le_mul_of_nonneg_left pp9 (by grind)
  have e1 : -y * (p : Rat) * (-y * (p : Rat)) = y * y * ((p : Rat) * (p : Rat)) := by grind
  have e2 : -x * (p : Rat) * (-x * (p : Rat)) = x * x * ((p : Rat) * (p : Rat)) := by grind
  have e3 : -(t : Rat) * -(t : Rat) = (t : Rat) * (t : Rat) := by grind
  rw [e1, e3] at s1
  rw [e2, e3] at s2
  rcases k with k | k <;> grind
theorem fac_apart {f g : List Int} (hf : Fac f) (hg : Fac g) (hne : f ≠ g) : ∀ r ∈ rootsF f, ∀ s ∈ rootsF g, Apart r s := by
  have cp := fac_cop hf hg hne
  rcases hf with ⟨b, a, rfl, hl, hb⟩ | ⟨x, hx, rfl⟩
  · have la := lin_range hl
    have ha : 0 < a ∧ a ≤ 3 := by rcases hl with r | ⟨r, _⟩ | ⟨r, _⟩ <;> omega
    rcases hg with ⟨b', a', rfl, hl', hb'⟩ | ⟨y, hy, rfl⟩
    · have ha' : 0 < a' ∧ a' ≤ 3 := by rcases hl' with r | ⟨r, _⟩ | ⟨r, _⟩ <;> omega
      intro r hr s hs
      rw [List.mem_singleton.mp (show r ∈ [(false, 0 - b, a)] from hr), List.mem_singleton.mp (show s ∈ [(false, 0 - b', a')] from hs)]
      refine apart_aa ha.1 ha'.1 ha.2 ha'.2 fun z => ?_
      obtain ⟨k, u, v, hk, e⟩ := cop_ev cp
      have e' := e (((0 - b : Int) : Rat) / ((a : Int) : Rat))
      have a0 : ((a : Int) : Rat) ≠ 0 := by have := one_le_cast ha.1; grind
      have q1 : ((0 - b : Int) : Rat) = ((0 - b : Int) : Rat) / ((a : Int) : Rat) * ((a : Int) : Rat) := by rw [Rat.div_mul_cancel a0]
      generalize ((0 - b : Int) : Rat) / ((a : Int) : Rat) = X at e' q1
      have z' : (((0 - b) * a' : Int) : Rat) = (((0 - b') * a : Int) : Rat) := by rw [z]
      rw [Rat.intCast_mul, Rat.intCast_mul, q1] at z'
      have q2 : ((0 - b' : Int) : Rat) = X * (a' : Rat) := by
        have : ((0 - b' : Int) : Rat) * (a : Rat) = X * (a' : Rat) * (a : Rat) := by rw [← z']; grind
        have h0 : (((0 - b' : Int) : Rat) - X * (a' : Rat)) * (a : Rat) = 0 := by grind
        rcases Rat.mul_eq_zero.mp h0 with h | h
        · grind
        · exact absurd h a0
      have i1 : ((0 - b : Int) : Rat) = -(b : Rat) := by rw [show (0 - b : Int) = -b by omega, Rat.intCast_neg]
      have i2 : ((0 - b' : Int) : Rat) = -(b' : Rat) := by rw [show (0 - b' : Int) = -b' by omega, Rat.intCast_neg]
      have v1 : ev X [b, a] = 0 := by show (b : Rat) + X * ((a : Rat) + X * 0) = 0; grind
      have v2 : ev X [b', a'] = 0 := by show (b' : Rat) + X * ((a' : Rat) + X * 0) = 0; grind
      rw [v1, v2] at e'
      rcases one_le_abs hk with h | h <;> grind
    · intro r hr s hs
      rw [List.mem_singleton.mp (show r ∈ [(false, 0 - b, a)] from hr)]
      unfold rootsF at hs
      dsimp only at hs
      split at hs
      · rename_i c
        obtain ⟨_, hd⟩ := QL_neg y hy c
        rcases List.mem_cons.mp hs with e | e
        · subst e; exact apart_an ha.1 ha.2 hd
        · rw [List.mem_singleton.mp e]; exact apart_ap ha.1 ha.2 hd
      · cases hs
  · rcases hg with ⟨b', a', rfl, hl', hb'⟩ | ⟨y, hy, rfl⟩
    · have ha' : 0 < a' ∧ a' ≤ 3 := by rcases hl' with r | ⟨r, _⟩ | ⟨r, _⟩ <;> omega
      intro r hr s hs
      rw [List.mem_singleton.mp (show s ∈ [(false, 0 - b', a')] from hs)]
      refine Apart.symm ?_
      unfold rootsF at hr
      dsimp only at hr
      split at hr
      · rename_i c
        obtain ⟨_, hd⟩ := QL_neg x hx c
        rcases List.mem_cons.mp hr with e | e
        · subst e; exact apart_an ha'.1 ha'.2 hd
        · rw [List.mem_singleton.mp e]; exact apart_ap ha'.1 ha'.2 hd
      · cases hr
    · intro r hr s hs
      unfold rootsF at hr hs
      dsimp only at hr hs
      split at hr
      · rename_i c
        split at hs
        · rename_i c'
          obtain ⟨x2, hd⟩ := QL_neg x hx c
          obtain ⟨y2, hd'⟩ := QL_neg y hy c'
          have dn : 0 - x.1 ≠ 0 - y.1 := fun z => hne (by rw [x2, y2, show x.1 = y.1 by omega])
          rcases List.mem_cons.mp hr with e | e <;> rcases List.mem_cons.mp hs with e' | e'
          · subst e e'; exact apart_nn (by omega) (by omega) (by omega) (by omega) dn
          · subst e; rw [List.mem_singleton.mp e']; exact (apart_pn (by omega) (by omega)).symm
          · subst e'; rw [List.mem_singleton.mp e]; exact apart_pn (by omega) (by omega)
          · rw [List.mem_singleton.mp e, List.mem_singleton.mp e']; exact apart_pp (by omega) (by omega) (by omega) (by omega) dn
        · cases hs
      · cases hr
theorem fac_self {f : List Int} (hf : Fac f) : (rootsF f).Pairwise Apart := by
  rcases hf with ⟨b, a, rfl, hl, hb⟩ | ⟨x, hx, rfl⟩
  · exact List.pairwise_singleton _ _
  · unfold rootsF
    dsimp only
    split
    · rename_i c
      obtain ⟨_, hd⟩ := QL_neg x hx c
      refine List.pairwise_cons.mpr ⟨fun s hs => ?_, List.pairwise_singleton _ _⟩
      rw [List.mem_singleton.mp hs]
      exact (apart_pn (by omega) (by omega)).symm
    · exact List.Pairwise.nil
theorem rows_apart : ∀ {rows : List (List Int × Nat)}, (∀ p ∈ rows, Fac p.1) → (rows.map (·.1)).Nodup → (rootsAll rows).Pairwise Apart
  | [], _, _ => List.Pairwise.nil
  | p :: rows, hf, nd => by
    have nd' := List.nodup_cons.mp (by simpa using nd : (p.1 :: rows.map (·.1)).Nodup)
    have hf' : ∀ q ∈ rows, Fac q.1 := fun q hq => hf q (List.mem_cons_of_mem _ hq)
    show ((rootsF p.1) ++ rootsAll rows).Pairwise Apart
    refine List.pairwise_append.mpr ⟨fac_self (hf p List.mem_cons_self), rows_apart hf' nd'.2, fun r hr s hs => ?_⟩
    obtain ⟨q, hq, h⟩ := List.mem_flatMap.mp hs
    exact fac_apart (hf p List.mem_cons_self) (hf' q hq) (fun z => nd'.1 (by rw [z]; exact List.mem_map.mpr ⟨q, hq, rfl⟩)) r hr s h
theorem le01_diff {r : Bool × Int × Int} (h : RootOk r) {x y : Rat} (k : x ≤ y) : (Hit r x y ∧ le01 r y - le01 r x = 1) ∨ (¬ Hit r x y ∧ le01 r y - le01 r x = 0) := by
  unfold Hit le01
  by_cases c : leR r x = true
  · have := leR_mono h k c
    right
    rw [if_pos c, if_pos this]
    exact ⟨fun z => z.2 c, by omega⟩
  · by_cases d : leR r y = true
    · left
      rw [if_neg c, if_pos d]
      exact ⟨⟨d, c⟩, by omega⟩
    · right
      rw [if_neg c, if_neg d]
      exact ⟨fun z => d z.1, by omega⟩
theorem one_hit {x y : Rat} (hxy : x ≤ y) (hs : (y - x) * 100 < 1) : ∀ {l : List (Bool × Int × Int)}, (∀ r ∈ l, RootOk r) → l.Pairwise Apart → (l.map fun r => le01 r y).sum - (l.map fun r => le01 r x).sum ≤ 1 ∧ ((∀ r ∈ l, ¬ Hit r x y) → (l.map fun r => le01 r y).sum - (l.map fun r => le01 r x).sum = 0)
  | [], _, _ => ⟨by simp, fun _ => by simp⟩
  | r :: l, ok, pw => by
    obtain ⟨p1, p2⟩ := List.pairwise_cons.mp pw
    obtain ⟨h1, h2⟩ := one_hit hxy hs (fun s hs => ok s (List.mem_cons_of_mem _ hs)) p2
    simp only [List.map_cons, List.sum_cons]
    rcases le01_diff (ok r List.mem_cons_self) hxy with ⟨a, b⟩ | ⟨a, b⟩
    · have := h2 fun s hs' z => p1 s hs' x y hxy hs ⟨a, z⟩
      exact ⟨by omega, fun k => absurd a (k r List.mem_cons_self)⟩
    · exact ⟨by omega, fun k => by have := h2 fun s hs' => k s (List.mem_cons_of_mem _ hs'); omega⟩

theorem rows_sep {rows : List (List Int × Nat)} (hf : ∀ p ∈ rows, Fac p.1) (nd : (rows.map (·.1)).Nodup) {x y : Rat} (hxy : x ≤ y) (hs : (y - x) * 100 < 1) : rowsN rows y - rowsN rows x ≤ 1 := by
  rw [rowsN_eq, rowsN_eq]
  exact (one_hit hxy hs (rootsAll_ok hf) (rows_apart hf nd)).1
end Zf

namespace Zf
open PS

theorem Dv.self (d : PS) : Dv d d := ⟨1, 1, by decide, Po.one, by rw [show C 1 = (1 : PS) from rfl]⟩
theorem Dv.left {d q : PS} (hq : Po q) : Dv d (q * d) := ⟨1, q, by decide, hq, by rw [show C 1 = (1 : PS) from rfl]; grind⟩
end Zf


namespace Zf
open PySem L2 PS

structure Szs (c : List Int) (p L ps Ls B : Nat) : Prop where
  good : GoodL c
  ne : c ≠ []
  len : c.length ≤ L
  l30 : L ≤ 30
  bd : ∀ x ∈ c, Bd p x
  room : p + (simG p L + 1) * L + simG p L ≤ 134217728
  sim : ∀ s, Simple c s → (∀ x ∈ s, Bd (p + (simG p L + 1) * L) x) → s.length ≤ Ls ∧ ∀ x ∈ s, Bd ps x
  ls30 : Ls ≤ 30
  grow : cb (Ls - 1) Ls ps (ps + 5) ≤ B
  most : B ≤ 1000000
inductive SpCheckStretch (K : PySem.W.Frag) (vs : List V) (H : Hp) (Q : VK) : Prop
  | mk (d e : Addr) (p q r t : Int) (B : Nat) (h0 : vs = [.ref d, .ref e]) (h1 : SqT K H d [.int p, .int q]) (h2 : SqT K H e [.int r, .int t]) (h3 : 0 < q) (h4 : 0 < t) (h5 : Bd B p) (h6 : Bd B q) (h7 : Bd B r) (h8 : Bd B t) (h9 : B ≤ 1000000) (h10 : p * t ≤ r * q) (h11 : Q .non H) : SpCheckStretch K vs H Q
noncomputable def spCheckStretch (K : PySem.W.Frag) : Sp := fun vs H Q _ => SpCheckStretch K vs H Q
inductive SpRAlong (K : PySem.W.Frag) (vs : List V) (H : Hp) (Q : VK) : Prop
  | mk (a d e : Addr) (ws : List V) (ls : List (List Int)) (p q r t : Int) (B : Nat) (h0 : vs = [.ref a, .ref d, .ref e]) (h1 : SqL K H a ws) (h2 : ListsAt H ws ls) (h3 : (∀ l ∈ ls, GoodL l ∧ l.length ≤ 64 ∧ ∀ x ∈ l, Bd B x)) (h4 : ws.length ≤ 1000) (h5 : SqT K H d [.int p, .int q]) (h6 : SqT K H e [.int r, .int t]) (h7 : Bd B p) (h8 : Bd B q) (h9 : Bd B r) (h10 : Bd B t) (h11 : B ≤ 1000000) (h12 : 0 < q) (h13 : 0 < t) (h14 : Q (.int (Vc (plc p q) ls - Vc (plc r t) ls)) H) : SpRAlong K vs H Q
noncomputable def spRAlong (K : PySem.W.Frag) : Sp := fun vs H Q _ => SpRAlong K vs H Q
theorem chg_vc {p q : Int} (hq : 0 < q) (ls : List (List Int)) : chg 0 (ls.map fun l => sgn (hv p q l)) = Vc (plc p q) ls := by
  unfold Vc sgs
  congr 1
  exact List.map_congr_left fun l _ => sgn_hv hq l
inductive SpReach (K : PySem.W.Frag) (vs : List V) (H : Hp) (Q : VK) : Prop
  | mk (a : Addr) (c : List Int) (h0 : vs = [.ref a]) (h1 : SqL K H a (c.map V.int)) (h2 : GoodL c) (h3 : c ≠ []) (h4 : c.length ≤ 1000) (h5 : ∀ H' : Hp, Same H H' → Q (.int (reachL c)) H') : SpReach K vs H Q
noncomputable def spReach (K : PySem.W.Frag) : Sp := fun vs H Q _ => SpReach K vs H Q
theorem mx_mem : ∀ (l : List Int) (a : Int), l.foldl (fun a x => max a (x.natAbs : Int)) a = a ∨ l.foldl (fun a x => max a (x.natAbs : Int)) a ∈ l.map fun x => (x.natAbs : Int)
  | [], a => .inl rfl
  | x :: l, a => by
    rcases mx_mem l (max a (x.natAbs : Int)) with h | h
    · by_cases c : a ≤ (x.natAbs : Int)
      · right
        rw [List.foldl_cons, h, Int.max_eq_right c]
        exact List.mem_cons_self
      · left
        rw [List.foldl_cons, h, Int.max_eq_left (by omega)]
    · right
      rw [List.foldl_cons]
      exact List.mem_cons_of_mem _ h
theorem mx_is {l : List Int} {m : Int} (h0 : (l.map fun x => (x.natAbs : Int)) = [] → m = 0) (h1 : (l.map fun x => (x.natAbs : Int)) ≠ [] → m ∈ (l.map fun x => (x.natAbs : Int)) ∧ ∀ z ∈ (l.map fun x => (x.natAbs : Int)), z ≤ m) : m = mxL l := by
  by_cases c : l = []
  · subst c; exact h0 rfl
  · obtain ⟨a, b⟩ := h1 (by simpa using c)
    obtain ⟨x, hx, rfl⟩ := List.mem_map.mp a
    have u := (mx_aux l 0).2 x hx
    rcases mx_mem l 0 with h | h
    · unfold mxL
      rw [h] at u ⊢
      omega
    · have := b _ h
      unfold mxL
      omega
theorem mx_bd {n : Nat} {l : List Int} (h : ∀ x ∈ l, Bd n x) : Bd n (mxL l) := by
  rcases mx_mem l 0 with e | e
  · unfold mxL
    rw [e]
    exact Bd.zero n
  · obtain ⟨x, hx, e2⟩ := List.mem_map.mp e
    unfold mxL
    rw [← e2]
    have := h x hx
    unfold Bd at *
    omega
theorem reach_bd {n : Nat} {c : List Int} (hg : GoodL c) (hne : c ≠ []) (h : ∀ x ∈ c, Bd n x) : Bd (n + 2) (reachL c) ∧ 2 ≤ reachL c := by
  have b1 := mx_bd (n := n) (l := c.dropLast) fun x hx => h x ((List.dropLast_subset c) hx)
  have nn := mx_nn c.dropLast
  have l0 := hg hne
  have hd : 0 ≤ mxL c.dropLast / ((c.getD (c.length - 1) 0).natAbs : Int) := Int.ediv_nonneg nn (by omega)
  have hd2 : mxL c.dropLast / ((c.getD (c.length - 1) 0).natAbs : Int) ≤ mxL c.dropLast := Int.ediv_le_self _ nn
  unfold reachL
  generalize mxL c.dropLast / ((c.getD (c.length - 1) 0).natAbs : Int) = D at *
  refine ⟨?_, by omega⟩
  unfold Bd at *
  have : 1 ≤ 2 ^ n := Nat.one_le_two_pow
  rw [Nat.pow_add]
  omega
theorem cut_last {c : List Int} (h : c ≠ []) : cutV (c.map V.int) none (some (-1)) = c.dropLast.map V.int := by
  have hl := List.length_pos_iff.mpr h
  unfold cutV
  have e : HT.sIx (c.map V.int).length (c.map V.int).length (some (-1)) = c.length - 1 := by
    show (if (-1 : Int) < 0 then ((-1 : Int) + ((c.map V.int).length : Nat)).toNat else min (-1 : Int).toNat (c.map V.int).length) = _
    rw [if_pos (by decide), List.length_map]
    omega
  rw [e, HT.sIx_none, List.drop_zero, Nat.sub_zero, ← List.map_take, List.dropLast_eq_take]

noncomputable def rootsT (rows : List (List Int × Nat)) : List ((Bool × Int × Int) × Nat) := rows.flatMap fun p => (rootsF p.1).map fun r => (r, p.2)
noncomputable def kindS (b : Bool) : Str := if b then "far" else "at"
noncomputable def RootAt (H : Hp) (v : V) (r : (Bool × Int × Int) × Nat) : Prop := ∃ t : Addr, v = .ref t ∧ H t = some (.tup [.str (kindS r.1.1), .int r.1.2.1, .int r.1.2.2, .int (r.2 : Int)])
noncomputable def RootsAt (H : Hp) (vs : List V) (rs : List ((Bool × Int × Int) × Nat)) : Prop := vs.length = rs.length ∧ ∀ (i : Nat) (v : V) (r : (Bool × Int × Int) × Nat), vs[i]? = some v → rs[i]? = some r → RootAt H v r
theorem RootsAt.mono {H H' : Hp} {vs : List V} {rs : List ((Bool × Int × Int) × Nat)} (h : RootsAt H vs rs) (s : Same H H') : RootsAt H' vs rs := ⟨h.1, fun i v r a b => let ⟨t, e, k⟩ := h.2 i v r a b; ⟨t, e, s _ _ k⟩⟩
theorem RootsAt.nil (H : Hp) : RootsAt H [] [] := ⟨rfl, fun i _ _ a => by cases i <;> cases a⟩
theorem RootsAt.snoc {H : Hp} {vs : List V} {rs : List ((Bool × Int × Int) × Nat)} {v : V} {r : (Bool × Int × Int) × Nat} (h : RootsAt H vs rs) (k : RootAt H v r) : RootsAt H (vs ++ [v]) (rs ++ [r]) := by
  refine ⟨by simp [h.1], fun i w q a b => ?_⟩
  by_cases hi : i < vs.length
  · rw [List.getElem?_append_left hi] at a
    rw [List.getElem?_append_left (by rw [← h.1]; exact hi)] at b
    exact h.2 i w q a b
  · have hi1 : i < (vs ++ [v]).length := (List.getElem?_eq_some_iff.mp a).1
    rw [List.length_append, List.length_singleton] at hi1
    have e : i = vs.length := by omega
    subst e
    rw [List.getElem?_append_right (Nat.le_refl _), Nat.sub_self] at a
    rw [h.1, List.getElem?_append_right (Nat.le_refl _), Nat.sub_self] at b
    cases a
    cases b
    exact k
theorem RootsAt.get {H : Hp} {vs : List V} {rs : List ((Bool × Int × Int) × Nat)} (h : RootsAt H vs rs) {i : Nat} {v : V} (a : vs[i]? = some v) : ∃ r, rs[i]? = some r ∧ RootAt H v r := by
  have hi : i < vs.length := (List.getElem?_eq_some_iff.mp a).1
  have hp : rs[i]? = some (rs[i]'(by rw [← h.1]; exact hi)) := List.getElem?_eq_getElem _
  exact ⟨_, hp, h.2 i v _ a hp⟩
inductive SpKnown (K : PySem.W.Frag) (vs : List V) (H : Hp) (Q : VK) : Prop
  | mk (a : Addr) (ws : List V) (rows : List (List Int × Nat)) (h0 : vs = [.ref a]) (h1 : SqL K H a ws) (h2 : RowsAt H ws rows) (h3 : (∀ p ∈ rows, Fac p.1)) (h4 : ws.length ≤ 100) (h5 : ∀ (r : Addr) (H' : Hp) (zs : List V), H r = none → Same H H' → H' r = some (.lst zs) → RootsAt H' zs (rootsT rows) → Q (.ref r) H') : SpKnown K vs H Q
noncomputable def spKnown (K : PySem.W.Frag) : Sp := fun vs H Q _ => SpKnown K vs H Q

noncomputable def ltR (r : Bool × Int × Int) (p q : Int) : Bool := match r with
  | (false, t, u) => decide (t * q < p * u)
  | _ => leR r (plc p q)
inductive SpBefore (K : PySem.W.Frag) (vs : List V) (H : Hp) (Q : VK) : Prop
  | mk (t d : Addr) (r : Bool × Int × Int) (n : Int) (p q : Int) (B : Nat) (h0 : vs = [.ref t, .ref d]) (h1 : SqT K H t [.str (kindS r.1), .int r.2.1, .int r.2.2, .int n]) (h2 : SqT K H d [.int p, .int q]) (h3 : RootOk r) (h4 : r.2.2 ≤ 8) (h5 : 0 < q) (h6 : Bd B p) (h7 : Bd B q) (h8 : B ≤ 1000000) (h9 : Q (.bl (ltR r p q)) H) : SpBefore K vs H Q
noncomputable def spBefore (K : PySem.W.Frag) : Sp := fun vs H Q _ => SpBefore K vs H Q
inductive SpUpTo (K : PySem.W.Frag) (vs : List V) (H : Hp) (Q : VK) : Prop
  | mk (t d : Addr) (r : Bool × Int × Int) (n : Int) (p q : Int) (B : Nat) (h0 : vs = [.ref t, .ref d]) (h1 : SqT K H t [.str (kindS r.1), .int r.2.1, .int r.2.2, .int n]) (h2 : SqT K H d [.int p, .int q]) (h3 : RootOk r) (h4 : r.2.2 ≤ 8) (h5 : 0 < q) (h6 : Bd B p) (h7 : Bd B q) (h8 : B ≤ 1000000) (h9 : Q (.bl (leR r (plc p q))) H) : SpUpTo K vs H Q
noncomputable def spUpTo (K : PySem.W.Frag) : Sp := fun vs H Q _ => SpUpTo K vs H Q
theorem root_bd {r : Bool × Int × Int} (h : RootOk r) (h8 : r.2.2 ≤ 8) : Bd 20 r.2.1 ∧ Bd 20 r.2.2 ∧ 0 < r.2.2 := by
  obtain ⟨b, t, p⟩ := r
  cases b with
  | false =>
    have h1 : 0 < p := h.1
    have h2 : t.natAbs ≤ 1000 := h.2
    exact ⟨Bd.of_le 1000 h2 (by decide), Bd.of_le 8 (by show p.natAbs ≤ 8; have : p ≤ 8 := h8; omega) (by decide), h1⟩
  | true =>
    have h1 : t = 1 ∨ t = -1 := h.1
    have h2 : 2 ≤ p := h.2.1
    have h3 : p ≤ 8 := h.2.2
    exact ⟨Bd.of_le 1 (by show t.natAbs ≤ 1; omega) (by decide), Bd.of_le 8 (by show p.natAbs ≤ 8; omega) (by decide), by show 0 < p; omega⟩
end Zf

namespace Zf
open PS

noncomputable def Pr (F q : Int) : Prop := 0 < F ∧ ∃ k : Nat, q = F * 2 ^ k
theorem Pr.pos {F q : Int} (h : Pr F q) : 0 < q := by
  obtain ⟨h0, k, rfl⟩ := h
  exact Int.mul_pos h0 (Int.pow_pos (by decide))
theorem Pr.self {F : Int} (h : 0 < F) : Pr F F := ⟨h, 0, by simp⟩
theorem Pr.double {F q : Int} (h : Pr F q) : Pr F (2 * q) := by
  obtain ⟨h0, k, rfl⟩ := h
  exact ⟨h0, k + 1, by rw [Int.pow_succ]; grind⟩
theorem Pr.mx {F q r : Int} (h : Pr F q) (k : Pr F r) : Pr F (max q r) := by
  rcases (by omega : max q r = q ∨ max q r = r) with e | e <;> rw [e] <;> assumption
theorem Pr.dvd {F q r : Int} (h : Pr F q) (k : Pr F r) (l : q ≤ r) : q ∣ r := by
  obtain ⟨h0, i, rfl⟩ := h
  obtain ⟨_, j, rfl⟩ := k
  rcases Nat.le_total i j with c | c
  · exact ⟨2 ^ (j - i), by rw [Int.mul_assoc, ← Int.pow_add, show i + (j - i) = j by omega]⟩
  · obtain ⟨d, hd⟩ := Nat.exists_eq_add_of_le c
    subst hd
    have : (1 : Int) ≤ 2 ^ d := Int.pow_pos (by decide : (0 : Int) < 2)
    have hp : 0 < F * 2 ^ j := Int.mul_pos h0 (Int.pow_pos (by decide))
    have e : F * 2 ^ (j + d) = F * 2 ^ j * 2 ^ d := by rw [Int.pow_add]; grind
    rw [e] at l ⊢
    have : F * 2 ^ j * 1 ≤ F * 2 ^ j * 2 ^ d := Int.mul_le_mul_of_nonneg_left (by omega) (by omega)
    have e2 : F * 2 ^ j * 2 ^ d = F * 2 ^ j * 1 := by omega
    rw [e2, Int.mul_one]
    exact Int.dvd_refl _
noncomputable def inP (t q P : Int) : Int := t * (P / q)
theorem inP_plc {F t q P : Int} (h : Pr F q) (k : Pr F P) (l : q ≤ P) : plc (inP t q P) P = plc t q := by
  have q0 := h.pos
  have p0 := k.pos
  obtain ⟨m, hm⟩ := h.dvd k l
  have e : P / q = m := by rw [hm]; exact Int.mul_ediv_cancel_left _ (by omega)
  unfold inP
  rw [e]
  have m0 : 0 < m := by
    rcases Int.lt_or_le 0 m with c | c
    · exact c
    · have := Int.mul_nonpos_of_nonneg_of_nonpos (by omega : 0 ≤ q) c
      omega
  unfold plc
  have c1 : (q : Rat) ≠ 0 := by have := one_le_cast q0; grind
  have c2 : (m : Rat) ≠ 0 := by have := one_le_cast m0; grind
  rw [hm, Rat.intCast_mul, Rat.intCast_mul]
  have e1 : (t : Rat) / (q : Rat) * (q : Rat) = (t : Rat) := Rat.div_mul_cancel c1
  have c3 : (q : Rat) * (m : Rat) ≠ 0 := fun z => by
    rcases Rat.mul_eq_zero.mp z with z | z
    · exact c1 z
    · exact c2 z
  generalize (t : Rat) / (q : Rat) = x at *
  rw [← e1]
  have e2 : x * (q : Rat) * (m : Rat) = x * ((q : Rat) * (m : Rat)) := by grind
  rw [e2, Rat.div_def, Rat.mul_assoc, Rat.mul_inv_cancel _ c3, Rat.mul_one]
noncomputable def midP (lo hi : Int × Int) : Int × Int :=
  if inP hi.1 hi.2 (max lo.2 hi.2) - inP lo.1 lo.2 (max lo.2 hi.2) > 1 then ((inP lo.1 lo.2 (max lo.2 hi.2) + inP hi.1 hi.2 (max lo.2 hi.2)) / 2, max lo.2 hi.2)
  else (inP lo.1 lo.2 (max lo.2 hi.2) + inP hi.1 hi.2 (max lo.2 hi.2), 2 * max lo.2 hi.2)
noncomputable def pl (p : Int × Int) : Rat := plc p.1 p.2
theorem plc_mul {t q : Int} (hq : 0 < q) : plc t q * (q : Rat) = (t : Rat) := by
  unfold plc
  exact Rat.div_mul_cancel (by have := one_le_cast hq; grind)
theorem plc_lt {p q r s : Int} (hq : 0 < q) (hs : 0 < s) : plc p q < plc r s ↔ p * s < r * q := by
  have h := plc_le (p := r) (q := s) (r := p) (s := q) hs hq
  constructor
  · intro a
    apply Classical.byContradiction
    intro b
    have := h.mpr (by omega)
    grind
  · intro a
    apply Classical.byContradiction
    intro b
    have := h.mp (by grind)
    omega

theorem mid_ok {F : Int} {lo hi : Int × Int} (h1 : Pr F lo.2) (h2 : Pr F hi.2) (hlt : pl lo < pl hi) :
    pl lo < pl (midP lo hi) ∧ pl (midP lo hi) < pl hi ∧ Pr F (midP lo hi).2 ∧ (pl (midP lo hi) - pl lo) * 4 ≤ (pl hi - pl lo) * 3 ∧ (pl hi - pl (midP lo hi)) * 4 ≤ (pl hi - pl lo) * 3 ∧
    ((midP lo hi).2 = max lo.2 hi.2 ∨ ((midP lo hi).2 = 2 * max lo.2 hi.2 ∧ (pl hi - pl lo) * ((max lo.2 hi.2 : Int) : Rat) = 1)) := by
  have hP := h1.mx h2
  have e1 := inP_plc (t := lo.1) h1 hP (by omega)
  have e2 := inP_plc (t := hi.1) h2 hP (by omega)
  have l1 : pl lo = plc (inP lo.1 lo.2 (max lo.2 hi.2)) (max lo.2 hi.2) := e1.symm
  have l2 : pl hi = plc (inP hi.1 hi.2 (max lo.2 hi.2)) (max lo.2 hi.2) := e2.symm
  have p0 := hP.pos
  unfold midP
  generalize inP lo.1 lo.2 (max lo.2 hi.2) = a at *
  generalize inP hi.1 hi.2 (max lo.2 hi.2) = b at *
  generalize max lo.2 hi.2 = P at *
  rw [l1, l2] at hlt ⊢
  have ab : a < b := by
    have := (plc_lt p0 p0).mp hlt
    rcases Int.lt_or_le a b with c | c
    · exact c
    · have := Int.mul_le_mul_of_nonneg_right c (by omega : 0 ≤ P)
      omega
  have P1 := one_le_cast p0
  have ma := plc_mul (t := a) p0
  have mb := plc_mul (t := b) p0
  generalize hx : plc a P = x at *
  generalize hy : plc b P = y at *
  split
  · rename_i c
    have hm1 : 2 * ((a + b) / 2) ≤ a + b := by omega
    have hm2 : a + b ≤ 2 * ((a + b) / 2) + 1 := by omega
    generalize hm : (a + b) / 2 = m at *
    have mm := plc_mul (t := m) p0
    have i1 : ((2 * m : Int) : Rat) ≤ ((a + b : Int) : Rat) := cast_le hm1
    have i2 : ((a + b : Int) : Rat) ≤ ((2 * m + 1 : Int) : Rat) := cast_le hm2
    have i3 : ((a + 2 : Int) : Rat) ≤ (b : Rat) := cast_le (by omega)
    rw [Rat.intCast_mul, Rat.intCast_add] at i1
    rw [Rat.intCast_add, Rat.intCast_add, Rat.intCast_mul] at i2
    rw [Rat.intCast_add] at i3
    have t2 : ((2 : Int) : Rat) = 2 := rfl
    have t1 : ((1 : Int) : Rat) = 1 := rfl
    refine ⟨?_, ?_, hP, ?_, ?_, .inl rfl⟩
    · show x < plc m P
      rw [← hx]
      refine (plc_lt p0 p0).mpr (Int.mul_lt_mul_of_pos_right (by omega) p0)
    · show plc m P < y
      rw [← hy]
      refine (plc_lt p0 p0).mpr (Int.mul_lt_mul_of_pos_right (by omega) p0)
    · show (plc m P - x) * 4 ≤ (y - x) * 3
      generalize plc m P = z at *
      apply Classical.byContradiction
      intro n
      have := Rat.mul_lt_mul_of_pos_right (a := (y - x) * 3) (b := (z - x) * 4) (by grind) (c := (P : Rat)) (by grind)
      grind
    · show (y - plc m P) * 4 ≤ (y - x) * 3
      generalize plc m P = z at *
      apply Classical.byContradiction
      intro n
      have := Rat.mul_lt_mul_of_pos_right (a := (y - x) * 3) (b := (y - z) * 4) (by grind) (c := (P : Rat)) (by grind)
      grind
  · rename_i c
    have eb : b = a + 1 := by omega
    have d0 : 0 < 2 * P := by omega
    have mm := plc_mul (t := a + b) d0
    rw [Rat.intCast_mul, Rat.intCast_add] at mm
    have t2 : ((2 : Int) : Rat) = 2 := rfl
    have eh : plc (a + b) (2 * P) * 2 = x + y := by
      have : (plc (a + b) (2 * P) * 2 - (x + y)) * (P : Rat) = 0 := by grind
      rcases Rat.mul_eq_zero.mp this with h | h <;> grind
    have e1' : (b : Rat) = (a : Rat) + 1 := by rw [eb, Rat.intCast_add]; rfl
    refine ⟨?_, ?_, hP.double, ?_, ?_, .inr ⟨rfl, ?_⟩⟩
    · show x < plc (a + b) (2 * P); grind
    · show plc (a + b) (2 * P) < y; grind
    · show (plc (a + b) (2 * P) - x) * 4 ≤ (y - x) * 3; grind
    · show (y - plc (a + b) (2 * P)) * 4 ≤ (y - x) * 3; grind
    · show (y - x) * (P : Rat) = 1; grind

theorem longer_ok {F : Int} {lo hi : Int × Int} (h1 : Pr F lo.2) (h2 : Pr F hi.2) (fine : Int) : ((inP hi.1 hi.2 (max lo.2 hi.2) - inP lo.1 lo.2 (max lo.2 hi.2)) * fine > max lo.2 hi.2) ↔ 1 < (pl hi - pl lo) * (fine : Rat) := by
  have hP := h1.mx h2
  have e1 := inP_plc (t := lo.1) h1 hP (by omega)
  have e2 := inP_plc (t := hi.1) h2 hP (by omega)
  have l1 : pl lo = plc (inP lo.1 lo.2 (max lo.2 hi.2)) (max lo.2 hi.2) := e1.symm
  have l2 : pl hi = plc (inP hi.1 hi.2 (max lo.2 hi.2)) (max lo.2 hi.2) := e2.symm
  have p0 := hP.pos
  generalize inP lo.1 lo.2 (max lo.2 hi.2) = a at *
  generalize inP hi.1 hi.2 (max lo.2 hi.2) = b at *
  generalize max lo.2 hi.2 = P at *
  rw [l1, l2]
  have ma := plc_mul (t := a) p0
  have mb := plc_mul (t := b) p0
  have P1 := one_le_cast p0
  generalize plc a P = x at *
  generalize plc b P = y at *
  rw [gt_iff_lt, ← Rat.intCast_lt_intCast, Rat.intCast_mul, Rat.intCast_sub, ← ma, ← mb]
  constructor
  · intro h
    apply Classical.byContradiction
    intro n
    have := Rat.mul_le_mul_of_nonneg_right (a := (y - x) * (fine : Rat)) (b := 1) (by grind) (c := (P : Rat)) (by grind)
    grind
  · intro h
    have := Rat.mul_lt_mul_of_pos_right h (c := (P : Rat)) (by grind)
    grind
end Zf

namespace Zf
open PS

noncomputable def pw43 : Nat → Rat
  | 0 => 1
  | k + 1 => pw43 k * 4 / 3
theorem pw43_pos : ∀ k, 0 < pw43 k
  | 0 => by show (0 : Rat) < 1; decide
  | k + 1 => by
    have := pw43_pos k
    show 0 < pw43 k * 4 / 3
    exact rdiv_pos (by grind) (by decide)
theorem pw43_big : ∀ k : Nat, 1 + (k : Rat) / 3 ≤ pw43 k
  | 0 => by
    show 1 + ((0 : Nat) : Rat) / 3 ≤ 1
    have : ((0 : Nat) : Rat) = 0 := rfl
    rw [this]
    grind
  | k + 1 => by
    have h := pw43_big k
    have e : ((k + 1 : Nat) : Rat) = (k : Rat) + 1 := by simp
    have k0 : (0 : Rat) ≤ (k : Rat) := by
      have : ((0 : Int) : Rat) ≤ (((k : Nat) : Int) : Rat) := Rat.intCast_le_intCast.mpr (by omega)
      exact this
    rw [e]
    show 1 + ((k : Rat) + 1) / 3 ≤ pw43 k * 4 / 3
    grind
theorem pw43_ex (x : Rat) : ∃ k, x ≤ pw43 k := by
  obtain ⟨n, hn⟩ := arch (x * 3)
  refine ⟨n, ?_⟩
  have := pw43_big n
  grind

structure PlOk (F Pm E : Int) (p : Int × Int) : Prop where
  pr : Pr F p.2
  le : p.2 ≤ Pm
  lo : -(E : Rat) ≤ pl p
  hi : pl p ≤ (E : Rat)
theorem PlOk.bd {F Pm E : Int} {p : Int × Int} (h : PlOk F Pm E p) {bE bP : Nat} (hE : Bd bE E) (hP : Bd bP Pm) : Bd (bE + bP) p.1 ∧ Bd bP p.2 ∧ 0 < p.2 := by
  have p0 := h.pr.pos
  have l1 := h.le
  have m := plc_mul (t := p.1) p0
  have P1 := one_le_cast p0
  have h1 : (p.1 : Rat) ≤ (E : Rat) * (p.2 : Rat) := by
    rw [← m]
    exact Rat.mul_le_mul_of_nonneg_right h.hi (by grind)
  have h2 : -(E : Rat) * (p.2 : Rat) ≤ (p.1 : Rat) := by
    rw [← m]
    exact Rat.mul_le_mul_of_nonneg_right h.lo (by grind)
  rw [← Rat.intCast_mul] at h1
  rw [← Rat.intCast_neg, ← Rat.intCast_mul] at h2
  have i1 := Rat.intCast_le_intCast.mp h1
  have i2 := Rat.intCast_le_intCast.mp h2
  have b2 : Bd bP p.2 := by unfold Bd at *; omega
  have b3 := hE.mul b2
  refine ⟨?_, b2, p0⟩
  rw [Int.neg_mul] at i2
  unfold Bd at b3 ⊢
  omega
theorem mid_plok {F Pm E : Int} {lo hi : Int × Int} (h1 : PlOk F Pm E lo) (h2 : PlOk F Pm E hi) (hlt : pl lo < pl hi) (hp : (midP lo hi).2 ≤ Pm) : PlOk F Pm E (midP lo hi) := by
  obtain ⟨a, b, c, _⟩ := mid_ok h1.pr h2.pr hlt
  have := h1.lo
  have := h2.hi
  exact ⟨c, hp, by grind, by grind⟩
theorem Pr.ge {F q : Int} (h : Pr F q) : F ≤ q := by
  obtain ⟨h0, k, rfl⟩ := h
  have : (1 : Int) ≤ 2 ^ k := Int.pow_pos (by decide : (0 : Int) < 2)
  have := Int.mul_le_mul_of_nonneg_left this (by omega : 0 ≤ F)
  omega

theorem mid_narrow {F Pm E : Int} {lo hi : Int × Int} (h1 : PlOk F Pm E lo) (h2 : PlOk F Pm E hi) (hlt : pl lo < pl hi) (hl : 1 < (pl hi - pl lo) * (F : Rat)) : (midP lo hi).2 ≤ Pm := by
  obtain ⟨_, _, _, _, _, e⟩ := mid_ok h1.pr h2.pr hlt
  have := h1.le
  have := h2.le
  rcases e with e | ⟨_, e⟩
  · rw [e]; omega
  · exfalso
    have g := (h1.pr.mx h2.pr).ge
    have g' : (F : Rat) ≤ ((max lo.2 hi.2 : Int) : Rat) := cast_le g
    have := Rat.mul_le_mul_of_nonneg_left g' (c := pl hi - pl lo) (by grind)
    grind

theorem mid_apart {F Pm E S : Int} {lo hi : Int × Int} (h1 : PlOk F Pm E lo) (h2 : PlOk F Pm E hi) (hlt : pl lo < pl hi) (hS : 1 ≤ (pl hi - pl lo) * (S : Rat)) (hP : 2 * S ≤ Pm) : (midP lo hi).2 ≤ Pm := by
  obtain ⟨_, _, _, _, _, e⟩ := mid_ok h1.pr h2.pr hlt
  have := h1.le
  have := h2.le
  rcases e with e | ⟨e1, e⟩
  · rw [e]; omega
  · rw [e1]
    have : max lo.2 hi.2 ≤ S := by
      apply Classical.byContradiction
      intro n
      have c : ((S + 1 : Int) : Rat) ≤ ((max lo.2 hi.2 : Int) : Rat) := cast_le (by omega)
      rw [Rat.intCast_add] at c
      have t1 : ((1 : Int) : Rat) = 1 := rfl
      have := Rat.mul_le_mul_of_nonneg_left c (c := pl hi - pl lo) (by grind)
      grind
    omega

noncomputable def turns : Nat → Nat
  | 0 => 1
  | k + 1 => 2 * turns k + 1
theorem turns_pos : ∀ k, 0 < turns k
  | 0 => by decide
  | k + 1 => by show 0 < 2 * turns k + 1; omega

noncomputable def Gp (S : Int) : Rat → List (Int × Int) → List Nat → Prop
  | _, [], [] => True
  | x, e :: es, k :: ks => x < pl e ∧ (pl e - x) * (S : Rat) ≤ pw43 k ∧ Gp S (pl e) es ks
  | _, _, _ => False

noncomputable def Dep (k0 : Nat) : List Nat → Prop
  | [] => True
  | k :: ks => ks.length + 1 + k ≤ k0 + 1 ∧ Dep k0 ks
theorem pw43_pow : ∀ n : Nat, (2 : Rat) ^ n ≤ pw43 (3 * n)
  | 0 => by show (2 : Rat) ^ 0 ≤ 1; rw [Rat.pow_zero]; grind
  | n + 1 => by
    have h := pw43_pow n
    have p := pw43_pos (3 * n)
    rw [Rat.pow_succ, show 3 * (n + 1) = 3 * n + 1 + 1 + 1 by omega]
    show _ ≤ pw43 (3 * n) * 4 / 3 * 4 / 3 * 4 / 3
    grind
theorem gap_turns {F Pm E S : Int} {lo hi : Int × Int} (h1 : PlOk F Pm E lo) (h2 : PlOk F Pm E hi) (hlt : pl lo < pl hi) (S0 : 0 < S) (hS : 2 * S ≤ Pm) {bE bP : Nat} (hE : Bd bE E) (hP : Bd bP Pm) : (pl hi - pl lo) * (S : Rat) ≤ pw43 (3 * (bE + bP)) := by
  refine Rat.le_trans ?_ (pw43_pow _)
  have a1 := h1.lo
  have a2 := h2.hi
  have S1 := one_le_cast S0
  have E0 : (0 : Rat) < (E : Rat) := by grind
  have E0' : 0 < E := by
    have : ((0 : Int) : Rat) < (E : Rat) := E0
    exact Rat.intCast_lt_intCast.mp this
  have b1 : (pl hi - pl lo) * (S : Rat) ≤ (2 * (E : Rat)) * (S : Rat) := Rat.mul_le_mul_of_nonneg_right (by grind) (by grind)
  have b2 : E * (2 * S) ≤ E * Pm := Int.mul_le_mul_of_nonneg_left hS (by omega)
  have b3 : (E * Pm).natAbs < 2 ^ (bE + bP) := hE.mul hP
  have b4 : E * (2 * S) ≤ ((2 ^ (bE + bP) : Nat) : Int) := by omega
  have b5 := cast_le b4
  have e1 : ((E * (2 * S) : Int) : Rat) = 2 * (E : Rat) * (S : Rat) := by
    rw [Rat.intCast_mul, Rat.intCast_mul, show ((2 : Int) : Rat) = 2 from rfl]; grind
  have e2 : ((((2 ^ (bE + bP) : Nat) : Int)) : Rat) = (2 : Rat) ^ (bE + bP) := by
    have : (((2 ^ (bE + bP) : Nat) : Int)) = (2 : Int) ^ (bE + bP) := by simp
    rw [this, Rat.intCast_pow]
    rfl
  rw [e1, e2] at b5
  grind
end Zf

namespace Zf
open PS

noncomputable def ltR0 (r : Bool × Int × Int) (p q : Int) : Bool := match r with
  | (false, t, u) => decide (t * q < p * u)
  | _ => leR r (plc p q)
noncomputable def lessR (r s : Bool × Int × Int) : Bool := match r, s with
  | (false, t, p), (false, t', p') => decide (t * p' < t' * p)
  | (false, t, p), (true, g, d) => !leR (true, g, d) (plc t p)
  | (true, g, d), (false, t, p) => leR (true, g, d) (plc t p)
  | (true, g, d), (true, g', d') => decide (g * d < g' * d')

noncomputable def RootX (r : Bool × Int × Int) : Prop := match r with
  | (false, _, p) => 0 < p
  | (true, g, d) => (g = 1 ∨ g = -1) ∧ (d = 2 ∨ d = 3 ∨ d = 5 ∨ d = 7 ∨ d = 8)
theorem leA {t p : Int} {x : Rat} : leR (false, t, p) x = true ↔ (t : Rat) ≤ x * (p : Rat) := by
  show decide _ = true ↔ _
  exact decide_eq_true_iff
theorem leP {d : Int} {x : Rat} : leR (true, 1, d) x = true ↔ (0 < x ∧ (d : Rat) < x * x) := by
  show decide (0 < x ∧ (d : Rat) < x * x) = true ↔ _
  exact decide_eq_true_iff
theorem leN {d : Int} {x : Rat} : leR (true, -1, d) x = true ↔ (0 ≤ x ∨ x * x < (d : Rat)) := by
  show decide (0 ≤ x ∨ x * x < (d : Rat)) = true ↔ _
  exact decide_eq_true_iff
theorem newton_up {d y : Rat} (hd : 0 < d) (hy : 0 < y) (h : d < y * y) : ∃ x, 0 < x ∧ x < y ∧ d < x * x := by
  refine ⟨(y + d / y) / 2, ?_, ?_, ?_⟩
  · have := rdiv_pos hd hy
    grind
  · have e : d / y < y := by rw [Rat.div_lt_iff hy]; exact h
    grind
  · have e : d / y * y = d := Rat.div_mul_cancel (by grind)
    have e2 : d / y < y := by rw [Rat.div_lt_iff hy]; exact h
    generalize d / y = z at *
    have hpos : 0 < (y - z) * (y - z) := Rat.mul_pos (by grind) (by grind)
    grind
theorem newton_dn {d y : Rat} (hd : 0 < d) (hy : 0 < y) (h : y * y < d) : ∃ z, y < z ∧ z * z < d := by
  have s0 : 0 < y * y + d := by have := sq_nn y; grind
  refine ⟨2 * d * y / (y * y + d), ?_, ?_⟩
  · rw [Rat.lt_div_iff s0]
    have := Rat.mul_pos hy (show 0 < d - y * y by grind)
    grind
  · have e : 2 * d * y / (y * y + d) * (y * y + d) = 2 * d * y := Rat.div_mul_cancel (by grind)
    generalize 2 * d * y / (y * y + d) = z at *
    generalize hS : y * y + d = S at *
    have h1 : 0 < (d - y * y) * (d - y * y) := Rat.mul_pos (by grind) (by grind)
    apply Classical.byContradiction
    intro n
    have SS := Rat.mul_pos s0 s0
    have := Rat.mul_le_mul_of_nonneg_right (a := d) (b := z * z) (by grind) (c := S * S) (by grind)
    have e2 : z * z * (S * S) = (2 * d * y) * (2 * d * y) := by rw [← e]; grind
    have hd2 : 0 < d * ((d - y * y) * (d - y * y)) := Rat.mul_pos hd h1
    rw [e2] at this
    have e3 : d * (S * S) - 2 * d * y * (2 * d * y) = d * ((d - y * y) * (d - y * y)) := by rw [← hS]; grind
    grind
noncomputable def midR (p : Int) : Rat := if p = 2 then 3 / 2 else if p = 3 then 2 else if p = 5 then 5 / 2 else 11 / 4
theorem mids : ∀ p ∈ [(2 : Int), 3, 5, 7, 8], ∀ q ∈ [(2 : Int), 3, 5, 7, 8], p < q → leR (true, 1, p) (midR p) = true ∧ leR (true, 1, q) (midR p) = false ∧ leR (true, -1, q) (-(midR p)) = true ∧ leR (true, -1, p) (-(midR p)) = false := by decide +kernel
theorem m5 {p : Int} (h : p = 2 ∨ p = 3 ∨ p = 5 ∨ p = 7 ∨ p = 8) : p ∈ [(2 : Int), 3, 5, 7, 8] := by
  rcases h with h | h | h | h | h <;> rw [h] <;> decide

theorem less_sep {r s : Bool × Int × Int} (hr : RootX r) (hs : RootX s) (h : lessR r s = true) : ∃ x, leR r x = true ∧ ¬ leR s x = true := by
  obtain ⟨b, t, p⟩ := r
  obtain ⟨b', t', p'⟩ := s
  cases b with
  | false =>
    have hp : 0 < p := hr
    have mt := plc_mul (t := t) hp
    cases b' with
    | false =>
      have hp' : 0 < p' := hs
      have h' : t * p' < t' * p := of_decide_eq_true h
      refine ⟨plc t p, leA.mpr (by rw [mt]; grind), fun z => ?_⟩
      have z' := leA.mp z
      have q1 := one_le_cast hp
      have := Rat.mul_le_mul_of_nonneg_right z' (c := (p : Rat)) (by grind)
      have e : plc t p * (p' : Rat) * (p : Rat) = ((t * p' : Int) : Rat) := by rw [Rat.intCast_mul, ← mt]; grind
      rw [e, ← Rat.intCast_mul] at this
      have := Rat.intCast_le_intCast.mp this
      omega
    | true =>
      refine ⟨plc t p, leA.mpr (by rw [mt]; grind), fun z => ?_⟩
      have h' : (!leR (true, t', p') (plc t p)) = true := h
      rw [z] at h'
      cases h'
  | true =>
    cases b' with
    | false =>
      have hp' : 0 < p' := hs
      have h' : leR (true, t, p) (plc t' p') = true := h
      have q1 := one_le_cast hp'
      have mt := plc_mul (t := t') hp'
      have d2 : (2 : Rat) ≤ (p : Rat) := by
        have : ((2 : Int) : Rat) ≤ (p : Rat) := cast_le (by have := hr.2; omega)
        exact this
      generalize plc t' p' = y at *
      have notle : ∀ x, x < y → ¬ leR (false, t', p') x = true := fun x hx z => by
        have z' := leA.mp z
        have := Rat.mul_lt_mul_of_pos_right hx (c := (p' : Rat)) (by grind)
        grind
      rcases hr.1 with e | e
      · subst e
        obtain ⟨a1, a2⟩ := leP.mp h'
        obtain ⟨x, x1, x2, x3⟩ := newton_up (d := (p : Rat)) (by grind) a1 a2
        exact ⟨x, leP.mpr ⟨x1, x3⟩, notle x x2⟩
      · subst e
        rcases (by grind : 0 ≤ y ∨ y < 0) with c | c
        · exact ⟨-1, leN.mpr (.inr (by grind)), notle (-1) (by grind)⟩
        · have a2 : y * y < (p : Rat) := by rcases leN.mp h' with q | q <;> grind
          obtain ⟨z, z1, z2⟩ := newton_dn (d := (p : Rat)) (y := -y) (by grind) (by grind) (by grind)
          exact ⟨-z, leN.mpr (.inr (by grind)), notle (-z) (by grind)⟩
    | true =>
      have h' : t * p < t' * p' := of_decide_eq_true h
      have d2 : (2 : Rat) ≤ (p : Rat) := by
        have : ((2 : Int) : Rat) ≤ (p : Rat) := cast_le (by have := hr.2; omega)
        exact this
      have d2' : (2 : Rat) ≤ (p' : Rat) := by
        have : ((2 : Int) : Rat) ≤ (p' : Rat) := cast_le (by have := hs.2; omega)
        exact this
      rcases hr.1 with e | e <;> rcases hs.1 with e' | e' <;> subst e e'
      · exact ⟨midR p, (mids p (m5 hr.2) p' (m5 hs.2) (by omega)).1, fun z => by rw [(mids p (m5 hr.2) p' (m5 hs.2) (by omega)).2.1] at z; cases z⟩
      · exfalso
        have h1 : p = 2 ∨ p = 3 ∨ p = 5 ∨ p = 7 ∨ p = 8 := hr.2
        have h2 : p' = 2 ∨ p' = 3 ∨ p' = 5 ∨ p' = 7 ∨ p' = 8 := hs.2
        omega
      · refine ⟨0, leN.mpr (.inl (by grind)), fun z => ?_⟩
        have := leP.mp z
        grind
      · exact ⟨-(midR p'), (mids p' (m5 hs.2) p (m5 hr.2) (by omega)).2.2.1, fun z => by rw [(mids p' (m5 hs.2) p (m5 hr.2) (by omega)).2.2.2] at z; cases z⟩
theorem less_irr (r : Bool × Int × Int) : lessR r r = false := by
  obtain ⟨b, t, p⟩ := r
  cases b with
  | false => exact decide_eq_false (by omega)
  | true => exact decide_eq_false (by omega)

noncomputable def DiffR (r s : Bool × Int × Int) : Prop := match r, s with
  | (false, t, p), (false, t', p') => t * p' ≠ t' * p
  | (true, g, d), (true, g', d') => g * d ≠ g' * d'
  | _, _ => True
theorem less_total {r s : Bool × Int × Int} (h : DiffR r s) : lessR r s = true ∨ lessR s r = true := by
  obtain ⟨b, t, p⟩ := r
  obtain ⟨b', t', p'⟩ := s
  cases b with
  | false =>
    cases b' with
    | false =>
      have h' : t * p' ≠ t' * p := h
      rcases Int.lt_or_gt_of_ne h' with q | q
      · exact .inl (decide_eq_true q)
      · exact .inr (decide_eq_true q)
    | true =>
      show (!leR (true, t', p') (plc t p)) = true ∨ leR (true, t', p') (plc t p) = true
      cases leR (true, t', p') (plc t p) <;> simp
  | true =>
    cases b' with
    | false =>
      show leR (true, t, p) (plc t' p') = true ∨ (!leR (true, t, p) (plc t' p')) = true
      cases leR (true, t, p) (plc t' p') <;> simp
    | true =>
      have h' : t * p ≠ t' * p' := h
      rcases Int.lt_or_gt_of_ne h' with q | q
      · exact .inl (decide_eq_true q)
      · exact .inr (decide_eq_true q)
theorem rootX_ok {r : Bool × Int × Int} (h : RootX r) {x y : Rat} (k : x ≤ y) (l : leR r x = true) : leR r y = true := by
  obtain ⟨b, t, p⟩ := r
  cases b with
  | false =>
    have p0 : 0 < p := h
    have := one_le_cast p0
    have := Rat.mul_le_mul_of_nonneg_right k (c := (p : Rat)) (by grind)
    have l' := leA.mp l
    exact leA.mpr (by grind)
  | true => exact leR_mono (r := (true, t, p)) ⟨h.1, by have := h.2; omega, by have := h.2; omega⟩ k l

theorem less_le {r s : Bool × Int × Int} (hr : RootX r) (hs : RootX s) (h : lessR r s = true) {x : Rat} (l : leR s x = true) : leR r x = true := by
  obtain ⟨y, y1, y2⟩ := less_sep hr hs h
  rcases (by grind : y ≤ x ∨ x ≤ y) with c | c
  · exact rootX_ok hr c y1
  · exact absurd (rootX_ok hs c l) y2

noncomputable def spotR (rs : List (Bool × Int × Int)) (r : Bool × Int × Int) : Nat := (rs.filter fun o => lessR o r).length
noncomputable def numR (rs : List (Bool × Int × Int)) (x : Rat) : Nat := (rs.filter fun o => leR o x).length
theorem numR_sum (rs : List (Bool × Int × Int)) (x : Rat) : (rs.map fun r => le01 r x).sum = (numR rs x : Int) := by
  unfold numR
  induction rs with
  | nil => rfl
  | cons r rs ih =>
    rw [List.map_cons, List.sum_cons, ih]
    unfold le01
    cases c : leR r x
    · rw [if_neg (by decide), List.filter_cons_of_neg (by rw [c]; decide)]; omega
    · rw [if_pos rfl, List.filter_cons_of_pos (p := fun o => leR o x) c, List.length_cons]; omega
theorem filter_le {α : Type} {p q : α → Bool} : ∀ {l : List α}, (∀ a ∈ l, p a = true → q a = true) → (l.filter p).length ≤ (l.filter q).length
  | [], _ => Nat.le_refl _
  | a :: l, h => by
    have ih := filter_le (p := p) (q := q) (l := l) fun b hb => h b (List.mem_cons_of_mem _ hb)
    cases c : p a
    · rw [List.filter_cons_of_neg (by rw [c]; decide)]
      cases d : q a
      · rw [List.filter_cons_of_neg (by rw [d]; decide)]; exact ih
      · rw [List.filter_cons_of_pos d, List.length_cons]; omega
    · rw [List.filter_cons_of_pos c, List.filter_cons_of_pos (h a List.mem_cons_self c), List.length_cons, List.length_cons]
      omega
theorem filter_lt {α : Type} {p q : α → Bool} : ∀ {l : List α}, (∀ a ∈ l, p a = true → q a = true) → ∀ {x : α}, x ∈ l → p x = false → q x = true → (l.filter p).length < (l.filter q).length
  | [], _, _, hx, _, _ => nomatch hx
  | a :: l, h, x, hx, px, qx => by
    have le := filter_le (p := p) (q := q) (l := l) fun b hb => h b (List.mem_cons_of_mem _ hb)
    rcases List.mem_cons.mp hx with e | e
    · subst e
      rw [List.filter_cons_of_neg (by rw [px]; decide), List.filter_cons_of_pos qx, List.length_cons]
      omega
    · have ih := filter_lt (p := p) (q := q) (l := l) (fun b hb => h b (List.mem_cons_of_mem _ hb)) e px qx
      cases c : p a
      · rw [List.filter_cons_of_neg (by rw [c]; decide)]
        cases d : q a
        · rw [List.filter_cons_of_neg (by rw [d]; decide)]; exact ih
        · rw [List.filter_cons_of_pos d, List.length_cons]; omega
      · rw [List.filter_cons_of_pos c, List.filter_cons_of_pos (h a List.mem_cons_self c), List.length_cons, List.length_cons]
        omega

theorem spot_num {rs : List (Bool × Int × Int)} (hx : ∀ r ∈ rs, RootX r) (hd : rs.Pairwise DiffR) {r : Bool × Int × Int} (hr : r ∈ rs) {x : Rat} : (leR r x = true → spotR rs r + 1 ≤ numR rs x) ∧ (¬ leR r x = true → numR rs x ≤ spotR rs r) := by
  constructor
  · intro h
    exact filter_lt (fun a ha l => less_le (hx a ha) (hx r hr) l h) hr (less_irr r) h
  · intro h
    refine filter_le fun a ha l => ?_

    by_cases e : a = r
    · rw [e] at l; exact absurd l h
    · have dif : DiffR a r ∨ DiffR r a := by
        obtain ⟨i, hi, rfl⟩ := List.mem_iff_getElem.mp ha
        obtain ⟨j, hj, rfl⟩ := List.mem_iff_getElem.mp hr
        rcases Nat.lt_trichotomy i j with q | q | q
        · exact .inl (List.pairwise_iff_getElem.mp hd i j hi hj q)
        · subst q; exact absurd rfl e
        · exact .inr (List.pairwise_iff_getElem.mp hd j i hj hi q)
      rcases dif with q | q
      · rcases less_total q with w | w
        · exact w
        · exact absurd (less_le (hx r hr) (hx a ha) w l) h
      · rcases less_total q with w | w
        · exact absurd (less_le (hx r hr) (hx a ha) w l) h
        · exact w
theorem spot_lt {rs : List (Bool × Int × Int)} {r : Bool × Int × Int} (hr : r ∈ rs) : spotR rs r < rs.length := by
  have := filter_lt (p := fun o => lessR o r) (q := fun _ => true) (l := rs) (fun _ _ _ => rfl) hr (less_irr r) rfl
  have e : rs.filter (fun _ => true) = rs := List.filter_eq_self.mpr fun _ _ => rfl
  rw [e] at this
  exact this
theorem spot_inj {rs : List (Bool × Int × Int)} (hx : ∀ r ∈ rs, RootX r) (hd : rs.Pairwise DiffR) {i j : Nat} (hi : i < rs.length) (hj : j < rs.length) (h : spotR rs rs[i] = spotR rs rs[j]) : i = j := by
  have key : ∀ {r s : Bool × Int × Int}, r ∈ rs → s ∈ rs → lessR r s = true → spotR rs r < spotR rs s := fun {r s} hr hs l => by
    obtain ⟨x, x1, x2⟩ := less_sep (hx r hr) (hx s hs) l
    have a := (spot_num hx hd hr (x := x)).1 x1
    have b := (spot_num hx hd hs (x := x)).2 x2
    omega
  rcases Nat.lt_trichotomy i j with q | q | q
  · have dif := List.pairwise_iff_getElem.mp hd i j hi hj q
    rcases less_total dif with w | w
    · have := key (List.getElem_mem hi) (List.getElem_mem hj) w; omega
    · have := key (List.getElem_mem hj) (List.getElem_mem hi) w; omega
  · exact q
  · have dif := List.pairwise_iff_getElem.mp hd j i hj hi q
    rcases less_total dif with w | w
    · have := key (List.getElem_mem hj) (List.getElem_mem hi) w; omega
    · have := key (List.getElem_mem hi) (List.getElem_mem hj) w; omega

theorem fac_rootX {f : List Int} (h : Fac f) : ∀ r ∈ rootsF f, RootX r := by
  rcases h with ⟨b, a, rfl, hl, hb⟩ | ⟨p, hp, rfl⟩
  · intro r hr
    rw [List.mem_singleton.mp (show r ∈ [(false, 0 - b, a)] from hr)]
    show 0 < a
    rcases hl with r | ⟨r, _⟩ | ⟨r, _⟩ <;> omega
  · intro r hr
    unfold rootsF at hr
    dsimp only at hr
    split at hr
    · rename_i c
      obtain ⟨_, hd⟩ := QL_neg p hp c
      rcases List.mem_cons.mp hr with e | e
      · rw [e]; exact ⟨.inr rfl, hd⟩
      · rw [List.mem_singleton.mp e]; exact ⟨.inl rfl, hd⟩
    · cases hr
theorem rootsAll_x {rows : List (List Int × Nat)} (hf : ∀ p ∈ rows, Fac p.1) : ∀ r ∈ rootsAll rows, RootX r := fun r hr => by
  obtain ⟨p, hp, h⟩ := List.mem_flatMap.mp hr
  exact fac_rootX (hf p hp) r h
theorem fac_diff {f g : List Int} (hf : Fac f) (hg : Fac g) (hne : f ≠ g) : ∀ r ∈ rootsF f, ∀ s ∈ rootsF g, DiffR r s := by
  intro r hr s hs
  have ap := fac_apart hf hg hne r hr s hs
  have xr := fac_rootX hf r hr
  have xs := fac_rootX hg s hs
  obtain ⟨b, t, p⟩ := r
  obtain ⟨b', t', p'⟩ := s
  cases b with
  | false =>
    cases b' with
    | false =>
      intro z
      have hp : 0 < p := xr
      have hp' : 0 < p' := xs
      have q1 := one_le_cast hp
      have q2 := one_le_cast hp'
      have m := plc_mul (t := t) hp
      have m2 : plc t p * (p' : Rat) = (t' : Rat) := by
        have e : (t : Rat) * (p' : Rat) = (t' : Rat) * (p : Rat) := by rw [← Rat.intCast_mul, ← Rat.intCast_mul, z]
        have h0 : (plc t p * (p' : Rat) - (t' : Rat)) * (p : Rat) = 0 := by rw [← m] at e; grind
        rcases Rat.mul_eq_zero.mp h0 with h | h <;> grind
      refine ap (plc t p - 1 / 200) (plc t p) (by grind) (by grind) ⟨⟨leA.mpr (by rw [m]; grind), fun w => ?_⟩, leA.mpr (by rw [m2]; grind), fun w => ?_⟩
      · have := leA.mp w; grind
      · have := leA.mp w; grind
    | true => trivial
  | true =>
    cases b' with
    | false => trivial
    | true =>
      rcases hf with ⟨_, _, rfl, _, _⟩ | ⟨x, hx, rfl⟩
      · have := List.mem_singleton.mp (show (true, t, p) ∈ [(false, _, _)] from hr)
        cases this
      · rcases hg with ⟨_, _, rfl, _, _⟩ | ⟨y, hy, rfl⟩
        · have := List.mem_singleton.mp (show (true, t', p') ∈ [(false, _, _)] from hs)
          cases this
        · unfold rootsF at hr hs
          dsimp only at hr hs
          split at hr
          · rename_i c
            split at hs
            · rename_i c'
              obtain ⟨x2, _⟩ := QL_neg x hx c
              obtain ⟨y2, _⟩ := QL_neg y hy c'
              have dn : 0 - x.1 ≠ 0 - y.1 := fun z => hne (by rw [x2, y2, show x.1 = y.1 by omega])
              show t * p ≠ t' * p'
              rcases List.mem_cons.mp hr with e | e <;> rcases List.mem_cons.mp hs with e' | e'
              · injection e with _ e; injection e with e1 e2; injection e' with _ e'; injection e' with e3 e4; subst e1 e2 e3 e4; omega
              · injection e with _ e; injection e with e1 e2; have e' := List.mem_singleton.mp e'; injection e' with _ e'; injection e' with e3 e4; subst e1 e2 e3 e4; omega
              · have e := List.mem_singleton.mp e; injection e with _ e; injection e with e1 e2; injection e' with _ e'; injection e' with e3 e4; subst e1 e2 e3 e4; omega
              · have e := List.mem_singleton.mp e; injection e with _ e; injection e with e1 e2; have e' := List.mem_singleton.mp e'; injection e' with _ e'; injection e' with e3 e4; subst e1 e2 e3 e4; omega
            · cases hs
          · cases hr
theorem fac_diff_self {f : List Int} (hf : Fac f) : (rootsF f).Pairwise DiffR := by
  rcases hf with ⟨b, a, rfl, hl, hb⟩ | ⟨x, hx, rfl⟩
  · exact List.pairwise_singleton _ _
  · unfold rootsF
    dsimp only
    split
    · rename_i c
      refine List.pairwise_cons.mpr ⟨fun s hs => ?_, List.pairwise_singleton _ _⟩
      rw [List.mem_singleton.mp hs]
      show -1 * (0 - x.1) ≠ 1 * (0 - x.1)
      omega
    · exact List.Pairwise.nil
theorem rows_diff : ∀ {rows : List (List Int × Nat)}, (∀ p ∈ rows, Fac p.1) → (rows.map (·.1)).Nodup → (rootsAll rows).Pairwise DiffR
  | [], _, _ => List.Pairwise.nil
  | p :: rows, hf, nd => by
    have nd' := List.nodup_cons.mp (by simpa using nd : (p.1 :: rows.map (·.1)).Nodup)
    have hf' : ∀ q ∈ rows, Fac q.1 := fun q hq => hf q (List.mem_cons_of_mem _ hq)
    show ((rootsF p.1) ++ rootsAll rows).Pairwise DiffR
    refine List.pairwise_append.mpr ⟨fac_diff_self (hf p List.mem_cons_self), rows_diff hf' nd'.2, fun r hr s hs => ?_⟩
    obtain ⟨q, hq, h⟩ := List.mem_flatMap.mp hs
    exact fac_diff (hf p List.mem_cons_self) (hf' q hq) (fun z => nd'.1 (by rw [z]; exact List.mem_map.mpr ⟨q, hq, rfl⟩)) r hr s h
end Zf


namespace Zf
open PySem L2 PS
noncomputable def TP2 (p : Int × Int) : HO := .tup [.int p.1, .int p.2]
inductive SpInParts (K : PySem.W.Frag) (vs : List V) (H : Hp) (Q : VK) : Prop
  | mk (d : Addr) (t q P : Int) (B : Nat) (h0 : vs = [.ref d, .int P]) (h1 : SqT K H d [.int t, .int q]) (h2 : 0 < q) (h3 : 0 ≤ P) (h4 : Bd B t) (h5 : Bd B P) (h6 : B ≤ 1000000) (h7 : Q (.int (inP t q P)) H) : SpInParts K vs H Q
noncomputable def spInParts (K : PySem.W.Frag) : Sp := fun vs H Q _ => SpInParts K vs H Q
inductive SpMiddle (K : PySem.W.Frag) (vs : List V) (H : Hp) (Q : VK) : Prop
  | mk (d e : Addr) (lo hi : Int × Int) (B : Nat) (h0 : vs = [.ref d, .ref e]) (h1 : SqT K H d [.int lo.1, .int lo.2]) (h2 : SqT K H e [.int hi.1, .int hi.2]) (h3 : 0 < lo.2) (h4 : 0 < hi.2) (h5 : Bd B lo.1) (h6 : Bd B lo.2) (h7 : Bd B hi.1) (h8 : Bd B hi.2) (h9 : B ≤ 1000000) (h10 : ∀ (r : Addr) (H' : Hp), H r = none → Same H H' → H' r = some (TP2 (midP lo hi)) → Q (.ref r) H') : SpMiddle K vs H Q
noncomputable def spMiddle (K : PySem.W.Frag) : Sp := fun vs H Q _ => SpMiddle K vs H Q
inductive SpLonger (K : PySem.W.Frag) (vs : List V) (H : Hp) (Q : VK) : Prop
  | mk (d e : Addr) (lo hi : Int × Int) (fine : Int) (B : Nat) (h0 : vs = [.ref d, .ref e, .int fine]) (h1 : SqT K H d [.int lo.1, .int lo.2]) (h2 : SqT K H e [.int hi.1, .int hi.2]) (h3 : 0 < lo.2) (h4 : 0 < hi.2) (h5 : Bd B lo.1) (h6 : Bd B lo.2) (h7 : Bd B hi.1) (h8 : Bd B hi.2) (h9 : Bd B fine) (h10 : B ≤ 1000000) (h11 : Q (.bl (decide ((inP hi.1 hi.2 (max lo.2 hi.2) - inP lo.1 lo.2 (max lo.2 hi.2)) * fine > max lo.2 hi.2))) H) : SpLonger K vs H Q
noncomputable def spLonger (K : PySem.W.Frag) : Sp := fun vs H Q _ => SpLonger K vs H Q

structure Stm (s : List Int) (l : List (List Int)) : Prop where
  good : GoodL s
  ne : s ≠ []
  st : Steps s (plainL (slopeL s)) l
  cop : Cop (co s) (co (plainL (slopeL s)))

structure Fen (s : List Int) (l : List (List Int)) (F Pm E : Int) (lo hi b t : Int × Int) : Prop where
  ok1 : PlOk F Pm E b
  ok2 : PlOk F Pm E t
  h1 : pl lo ≤ pl b
  h2 : pl b < pl t
  h3 : pl t ≤ pl hi
  v1 : Vc (pl b) (s :: l) = Vc (pl lo) (s :: l)
  v2 : Vc (pl t) (s :: l) = Vc (pl hi) (s :: l)
inductive SpNarrowed (K : PySem.W.Frag) (vs : List V) (H : Hp) (Q : VK) : Prop
  | mk (a d e : Addr) (s : List Int) (l : List (List Int)) (F Pm E : Int) (lo hi : Int × Int) (bE bP B : Nat) (h0 : vs = [.ref a, .ref d, .ref e, .int F]) (h1 : SqL K H a (s.map V.int)) (h2 : H d = some (TP2 lo)) (h3 : H e = some (TP2 hi)) (h4 : Stm s l) (h5 : PlOk F Pm E lo) (h6 : PlOk F Pm E hi) (h7 : pl lo < pl hi) (h8 : Vc (pl lo) (s :: l) - Vc (pl hi) (s :: l) = 1) (h9 : s.length ≤ 64) (h10 : (∀ x ∈ s, Bd B x)) (h11 : Bd bE E) (h12 : Bd bP Pm) (h13 : bE + bP ≤ B) (h14 : B ≤ 1000000) (h15 : ∀ (r rb rt : Addr) (H' : Hp) (b t : Int × Int), H r = none → Same H H' → H' r = some (.tup [.ref rb, .ref rt]) → H' rb = some (TP2 b) → H' rt = some (TP2 t) → Fen s l F Pm E lo hi b t → (pl t - pl b) * (F : Rat) ≤ 1 → Q (.ref r) H') : SpNarrowed K vs H Q
noncomputable def spNarrowed (K : PySem.W.Frag) : Sp := fun vs H Q _ => SpNarrowed K vs H Q
end Zf

namespace Zf
open PySem L2 PS

inductive EndsAt (G : Hp) (vl : Int × Int → Int) : List V → List (Int × Int) → Prop
  | nil : EndsAt G vl [] []
  | snoc (ws : List V) (es : List (Int × Int)) (t p : Addr) (e : Int × Int) : EndsAt G vl ws es → G t = some (.tup [.ref p, .int (vl e)]) → G p = some (TP2 e) → EndsAt G vl (ws ++ [.ref t]) (e :: es)
theorem EndsAt.mono {G G' : Hp} {vl : Int × Int → Int} {ws : List V} {es : List (Int × Int)} {r : Addr} (h : EndsAt G vl ws es) (k : ∀ b o, b ≠ r → G b = some o → G' b = some o) (hr : ∃ xs, G r = some (.lst xs)) : EndsAt G' vl ws es := by
  induction h with
  | nil => exact .nil
  | snoc ws es t p e _ h1 h2 ih =>
    obtain ⟨xs, hr⟩ := hr
    have n1 : t ≠ r := fun z => by rw [z, hr] at h1; cases h1
    have n2 : p ≠ r := fun z => by rw [z, hr] at h2; cases h2
    exact .snoc ws es t p e ih (k _ _ n1 h1) (k _ _ n2 h2)
theorem EndsAt.length {G : Hp} {vl : Int × Int → Int} {ws : List V} {es : List (Int × Int)} (h : EndsAt G vl ws es) : ws.length = es.length := by
  induction h with
  | nil => rfl
  | snoc ws es t p e _ _ _ ih => simp [ih]

noncomputable def PairAt (G : Hp) (v : V) (p : (Int × Int) × (Int × Int)) : Prop := ∃ t a b : Addr, v = .ref t ∧ G t = some (.tup [.ref a, .ref b]) ∧ G a = some (TP2 p.1) ∧ G b = some (TP2 p.2)
noncomputable def PairsAt (G : Hp) (vs : List V) (ps : List ((Int × Int) × (Int × Int))) : Prop := vs.length = ps.length ∧ ∀ (i : Nat) (v : V) (p : (Int × Int) × (Int × Int)), vs[i]? = some v → ps[i]? = some p → PairAt G v p
theorem PairAt.mono {G G' : Hp} {v : V} {p : (Int × Int) × (Int × Int)} {r : Addr} (h : PairAt G v p) (k : ∀ b o, b ≠ r → G b = some o → G' b = some o) (hr : ∃ xs, G r = some (.lst xs)) : PairAt G' v p := by
  obtain ⟨t, a, b, e, h1, h2, h3⟩ := h
  obtain ⟨xs, hr⟩ := hr
  exact ⟨t, a, b, e, k _ _ (fun z => by rw [z, hr] at h1; cases h1) h1, k _ _ (fun z => by rw [z, hr] at h2; cases h2) h2, k _ _ (fun z => by rw [z, hr] at h3; cases h3) h3⟩
theorem PairsAt.mono {G G' : Hp} {vs : List V} {ps : List ((Int × Int) × (Int × Int))} {r : Addr} (h : PairsAt G vs ps) (k : ∀ b o, b ≠ r → G b = some o → G' b = some o) (hr : ∃ xs, G r = some (.lst xs)) : PairsAt G' vs ps := ⟨h.1, fun i v p a b => (h.2 i v p a b).mono k hr⟩
theorem PairsAt.same {G G' : Hp} {vs : List V} {ps : List ((Int × Int) × (Int × Int))} (h : PairsAt G vs ps) (k : Same G G') : PairsAt G' vs ps := ⟨h.1, fun i v p a b => by
  obtain ⟨t, a, b, e, h1, h2, h3⟩ := h.2 i v p a b
  exact ⟨t, a, b, e, k _ _ h1, k _ _ h2, k _ _ h3⟩⟩
theorem PairsAt.nil (G : Hp) : PairsAt G [] [] := ⟨rfl, fun i _ _ a => by cases i <;> cases a⟩
theorem PairsAt.snoc {G : Hp} {vs : List V} {ps : List ((Int × Int) × (Int × Int))} {v : V} {p : (Int × Int) × (Int × Int)} (h : PairsAt G vs ps) (k : PairAt G v p) : PairsAt G (vs ++ [v]) (ps ++ [p]) := by
  refine ⟨by simp [h.1], fun i w q a b => ?_⟩
  by_cases hi : i < vs.length
  · rw [List.getElem?_append_left hi] at a
    rw [List.getElem?_append_left (by rw [← h.1]; exact hi)] at b
    exact h.2 i w q a b
  · have hi1 : i < (vs ++ [v]).length := (List.getElem?_eq_some_iff.mp a).1
    rw [List.length_append, List.length_singleton] at hi1
    have e : i = vs.length := by omega
    subst e
    rw [List.getElem?_append_right (Nat.le_refl _), Nat.sub_self] at a
    rw [h.1, List.getElem?_append_right (Nat.le_refl _), Nat.sub_self] at b
    cases a
    cases b
    exact k
theorem PairsAt.get {G : Hp} {vs : List V} {ps : List ((Int × Int) × (Int × Int))} (h : PairsAt G vs ps) {i : Nat} {v : V} (a : vs[i]? = some v) : ∃ p, ps[i]? = some p ∧ PairAt G v p := by
  have hi : i < vs.length := (List.getElem?_eq_some_iff.mp a).1
  have hp : ps[i]? = some (ps[i]'(by rw [← h.1]; exact hi)) := List.getElem?_eq_getElem _
  exact ⟨_, hp, h.2 i v _ a hp⟩

structure Row (s : List Int) (l : List (List Int)) (F Pm E : Int) (V0 : Int) (x y : Rat) (ps : List ((Int × Int) × (Int × Int))) : Prop where
  ok : ∀ p ∈ ps, PlOk F Pm E p.1 ∧ PlOk F Pm E p.2 ∧ x ≤ pl p.1 ∧ pl p.1 < pl p.2 ∧ pl p.2 ≤ y
  at_ : ∀ (i : Nat) (p : (Int × Int) × (Int × Int)), ps[i]? = some p → Vc (pl p.1) (s :: l) = V0 - i ∧ Vc (pl p.2) (s :: l) = V0 - i - 1
  up : ∀ (i : Nat) (p q : (Int × Int) × (Int × Int)), ps[i]? = some p → ps[i + 1]? = some q → pl p.2 ≤ pl q.1
  num : (ps.length : Int) = V0 - Vc y (s :: l)
inductive SpOneEach (K : PySem.W.Frag) (vs : List V) (H : Hp) (Q : VK) : Prop
  | mk (a d e : Addr) (ws : List V) (s : List Int) (l : List (List Int)) (F Pm E S : Int) (lo hi : Int × Int) (bE bP B : Nat) (h0 : vs = [.ref a, .ref d, .ref e]) (h1 : H a = some (.lst ws)) (h2 : ListsAt H ws (s :: l)) (h3 : (∀ u ∈ s :: l, GoodL u ∧ u.length ≤ 64 ∧ ∀ x ∈ u, Bd B x)) (h4 : ws.length ≤ 1000) (h5 : H d = some (TP2 lo)) (h6 : H e = some (TP2 hi)) (h7 : Stm s l) (h8 : PlOk F Pm E lo) (h9 : PlOk F Pm E hi) (h10 : pl lo < pl hi) (h11 : (∀ x y : Rat, x ≤ y → 2 ≤ Vc x (s :: l) - Vc y (s :: l) → 1 < (y - x) * (S : Rat))) (h12 : 0 < S) (h13 : 2 * S ≤ Pm) (h14 : Vc (pl lo) (s :: l) - Vc (pl hi) (s :: l) ≤ 100) (h15 : Bd bE E) (h16 : Bd bP Pm) (h17 : bE + bP ≤ B) (h18 : B ≤ 1000000) (h19 : ∀ (r : Addr) (H' : Hp) (zs : List V) (ps : List ((Int × Int) × (Int × Int))), H r = none → Same H H' → H' r = some (.lst zs) → PairsAt H' zs ps → Row s l F Pm E (Vc (pl lo) (s :: l)) (pl lo) (pl hi) ps → Q (.ref r) H') : SpOneEach K vs H Q
noncomputable def spOneEach (K : PySem.W.Frag) : Sp := fun vs H Q _ => SpOneEach K vs H Q
theorem Gp.split {S : Int} {x : Rat} {e m : Int × Int} {es : List (Int × Int)} {k : Nat} {ks : List Nat} (h : Gp S x (e :: es) ((k + 1) :: ks)) (S0 : 0 < S) (h1 : x < pl m) (h2 : pl m < pl e) (h3 : (pl m - x) * 4 ≤ (pl e - x) * 3) (h4 : (pl e - pl m) * 4 ≤ (pl e - x) * 3) : Gp S x (m :: e :: es) (k :: k :: ks) := by
  obtain ⟨a, b, c⟩ := h
  have b' : (pl e - x) * (S : Rat) ≤ pw43 k * 4 / 3 := b
  have S1 := one_le_cast S0
  have m3 := Rat.mul_le_mul_of_nonneg_right h3 (c := (S : Rat)) (by grind)
  have m4 := Rat.mul_le_mul_of_nonneg_right h4 (c := (S : Rat)) (by grind)
  exact ⟨h1, by grind, h2, by grind, c⟩
theorem Gp.le_last {S : Int} : ∀ {x : Rat} {es : List (Int × Int)} {ks : List Nat}, Gp S x es ks → ∀ {q : Int × Int}, es.getLast? = some q → x ≤ pl q
  | _, [], [], _, _, h => by cases h
  | x, e :: es, k :: ks, ⟨a, _, c⟩, q, h => by
    cases es with
    | nil =>
      cases h
      grind
    | cons b bs =>
      rw [List.getLast?_cons_cons] at h
      have := Gp.le_last c h
      grind
theorem Row.snoc {s : List Int} {l : List (List Int)} {F Pm E V0 : Int} {lo : Rat} {x e : Int × Int} {ps : List ((Int × Int) × (Int × Int))} (h : Row s l F Pm E V0 lo (pl x) ps) (o1 : PlOk F Pm E x) (o2 : PlOk F Pm E e) (h0 : lo ≤ pl x) (h1 : pl x < pl e) (h2 : Vc (pl x) (s :: l) - Vc (pl e) (s :: l) = 1) : Row s l F Pm E V0 lo (pl e) (ps ++ [(x, e)]) := by
  have num := h.num
  refine ⟨fun p hp => ?_, fun i p hp => ?_, fun i p q hp hq => ?_, by simp; omega⟩
  · rcases List.mem_append.mp hp with r | r
    · obtain ⟨a1, a2, a3, a4, a5⟩ := h.ok p r
      exact ⟨a1, a2, a3, a4, by grind⟩
    · rw [List.mem_singleton.mp r]
      exact ⟨o1, o2, h0, h1, by grind⟩
  · by_cases hi : i < ps.length
    · rw [List.getElem?_append_left hi] at hp
      exact h.at_ i p hp
    · have hi1 : i < (ps ++ [(x, e)]).length := (List.getElem?_eq_some_iff.mp hp).1
      rw [List.length_append, List.length_singleton] at hi1
      have e' : i = ps.length := by omega
      subst e'
      rw [List.getElem?_append_right (Nat.le_refl _), Nat.sub_self] at hp
      cases hp
      constructor
      · show Vc (pl x) (s :: l) = _; omega
      · show Vc (pl e) (s :: l) = _; omega
  · by_cases hi : i + 1 < ps.length
    · rw [List.getElem?_append_left (by omega)] at hp
      rw [List.getElem?_append_left hi] at hq
      exact h.up i p q hp hq
    · have hi1 : i + 1 < (ps ++ [(x, e)]).length := (List.getElem?_eq_some_iff.mp hq).1
      rw [List.length_append, List.length_singleton] at hi1
      have e' : i + 1 = ps.length := by omega
      rw [e', List.getElem?_append_right (Nat.le_refl _), Nat.sub_self] at hq
      cases hq
      rw [List.getElem?_append_left (by omega)] at hp
      exact (h.ok p (List.mem_of_getElem? hp)).2.2.2.2
end Zf


namespace Zf
open PySem L2 PS
inductive SpCheckFine (vs : List V) (H : Hp) (Q : VK) : Prop
  | mk (k : Int) (h0 : vs = [.int k]) (h1 : 0 < k) (h2 : Q .non H) : SpCheckFine vs H Q
noncomputable def spCheckFine : Sp := fun vs H Q _ => SpCheckFine vs H Q
inductive SpLess (K : PySem.W.Frag) (vs : List V) (H : Hp) (Q : VK) : Prop
  | mk (t u : Addr) (r s : Bool × Int × Int) (n m : Int) (h0 : vs = [.ref t, .ref u]) (h1 : SqT K H t [.str (kindS r.1), .int r.2.1, .int r.2.2, .int n]) (h2 : SqT K H u [.str (kindS s.1), .int s.2.1, .int s.2.2, .int m]) (h3 : RootOk r) (h4 : r.2.2 ≤ 8) (h5 : RootOk s) (h6 : s.2.2 ≤ 8) (h7 : ∀ H' : Hp, Same H H' → Q (.bl (lessR r s)) H') : SpLess K vs H Q
noncomputable def spLess (K : PySem.W.Frag) : Sp := fun vs H Q _ => SpLess K vs H Q
theorem nd_len : ∀ (l m : List Nat), l.Nodup → (∀ x ∈ l, x ∈ m) → l.length ≤ m.length
  | [], _, _, _ => Nat.zero_le _
  | a :: l, m, nd, h => by
    obtain ⟨n1, n2⟩ := List.nodup_cons.mp nd
    have ha := h a List.mem_cons_self
    have ih := nd_len l (m.erase a) n2 fun x hx => (List.mem_erase_of_ne (fun e => n1 (by rw [← e]; exact hx))).mpr (h x (List.mem_cons_of_mem _ hx))
    rw [List.length_erase_of_mem ha] at ih
    have := List.length_pos_of_mem ha
    rw [List.length_cons]
    omega
theorem pigeon {n : Nat} {g : Nat → Nat} (h1 : ∀ j, j < n → g j < n) (h2 : ∀ i j, i < n → j < n → g i = g j → i = j) {k : Nat} (hk : k < n) : ∃ j, j < n ∧ g j = k := by
  apply Classical.byContradiction
  intro c
  have nd : ((List.range n).map g).Nodup := by
    refine List.pairwise_map.mpr (List.Pairwise.imp_of_mem ?_ List.nodup_range)
    intro a b ha hb hab e
    exact hab (h2 a b (List.mem_range.mp ha) (List.mem_range.mp hb) e)
  have := nd_len ((List.range n).map g) ((List.range n).erase k) nd fun x hx => by
    obtain ⟨j, hj, rfl⟩ := List.mem_map.mp hx
    have hj' := List.mem_range.mp hj
    exact (List.mem_erase_of_ne (fun e => c ⟨j, hj', e⟩)).mpr (List.mem_range.mpr (h1 j hj'))
  rw [List.length_map, List.length_range, List.length_erase_of_mem (List.mem_range.mpr hk), List.length_range] at this
  omega

noncomputable def Ord (rs so : List ((Bool × Int × Int) × Nat)) : Prop := so.length = rs.length ∧ ∀ (k : Nat) (r : (Bool × Int × Int) × Nat), so[k]? = some r → r ∈ rs ∧ spotR (rs.map (·.1)) r.1 = k
inductive SpInOrder (K : PySem.W.Frag) (vs : List V) (H : Hp) (Q : VK) : Prop
  | mk (a : Addr) (ws : List V) (rs : List ((Bool × Int × Int) × Nat)) (h0 : vs = [.ref a]) (h1 : H a = some (.lst ws)) (h2 : RootsAt H ws rs) (h3 : (∀ r ∈ rs, RootOk r.1 ∧ r.1.2.2 ≤ 8 ∧ RootX r.1)) (h4 : (rs.map (·.1)).Pairwise DiffR) (h5 : ws.length ≤ 100) (h6 : ∀ (r : Addr) (H' : Hp) (zs : List V) (so : List ((Bool × Int × Int) × Nat)), H r = none → Same H H' → H' r = some (.lst zs) → RootsAt H' zs so → Ord rs so → Q (.ref r) H') : SpInOrder K vs H Q
noncomputable def spInOrder (K : PySem.W.Frag) : Sp := fun vs H Q _ => SpInOrder K vs H Q
theorem filter_range {α : Type} (l : List α) (d : α) (p : α → Bool) : ((List.range l.length).filter fun i => p (l.getD i d)).length = (l.filter p).length := by
  have e : l = (List.range l.length).map fun k => l.getD k d := by
    refine List.ext_getElem (by simp) fun i h1 h2 => ?_
    simp [List.getD_eq_getElem?_getD, h1]
  conv => rhs; rw [e, List.filter_map, List.length_map]
  rfl

inductive SpStretches (K : PySem.W.Frag) (vs : List V) (H : Hp) (Q : VK) : Prop
  | mk (a : Addr) (c : List Int) (p L ps Ls B bP : Nat) (F Pm S : Int) (h0 : vs = [.ref a, .int F]) (h1 : SqL K H a (c.map V.int)) (h2 : Szs c p L ps Ls B) (h3 : 0 < F) (h4 : F ≤ Pm) (h5 : 0 < S) (h6 : 2 * S ≤ Pm) (h7 : Bd bP Pm) (h8 : p + 2 + bP ≤ B) (h9 : Bd B F) (h10 : (∀ s l, Chain c (s :: l) → Stm s l ∧ (∀ x y : Rat, x ≤ y → 2 ≤ Vc x (s :: l) - Vc y (s :: l) → 1 < (y - x) * (S : Rat)) ∧ Vc (-((reachL c : Int) : Rat)) (s :: l) - Vc ((reachL c : Int) : Rat) (s :: l) ≤ 100)) (h11 : ∀ (r : Addr) (H' : Hp) (zs : List V) (ps : List ((Int × Int) × (Int × Int))) (s : List Int) (l : List (List Int)), H r = none → Same H H' → H' r = some (.lst zs) → PairsAt H' zs ps → Chain c (s :: l) → Row s l F Pm (reachL c) (Vc (-((reachL c : Int) : Rat)) (s :: l)) (-((reachL c : Int) : Rat)) ((reachL c : Int) : Rat) ps → (∀ q ∈ ps, (pl q.2 - pl q.1) * (F : Rat) ≤ 1) → Q (.ref r) H') : SpStretches K vs H Q
noncomputable def spStretches (K : PySem.W.Frag) : Sp := fun vs H Q _ => SpStretches K vs H Q
theorem pl_edge {E F : Int} (hF : 0 < F) : pl (E * F, F) = (E : Rat) ∧ pl (-(E * F), F) = -(E : Rat) := by
  have f1 := one_le_cast hF
  constructor
  · have m := plc_mul (t := E * F) hF
    rw [Rat.intCast_mul] at m
    show plc (E * F) F = _
    have : (plc (E * F) F - (E : Rat)) * (F : Rat) = 0 := by grind
    rcases Rat.mul_eq_zero.mp this with h | h <;> grind
  · have m := plc_mul (t := -(E * F)) hF
    rw [Rat.intCast_neg, Rat.intCast_mul] at m
    show plc (-(E * F)) F = _
    have : (plc (-(E * F)) F + (E : Rat)) * (F : Rat) = 0 := by grind
    rcases Rat.mul_eq_zero.mp this with h | h <;> grind
end Zf


namespace L2
open PySem PySem.Spec PyProof.Rows
section
variable {X : Cx}
inductive XSum (K : PySem.W.Frag) (xs : List V) (H : Hp) (Q : VK) : Prop
  | mk (p : Addr) (ns : List Int) (e : xs = [.ref p]) (s : SqL K H p (ns.map V.int)) (q : Q (.int ns.sum) H) : XSum K xs H Q
theorem ints_vals : ∀ {ns : List Int} {its : List Value}, Vals (ns.map V.int) its → IntsAre its ns
  | [], [], _ => .nil
  | n :: ns, u :: us, h => by
    cases h with
    | cons r rr =>
      obtain ⟨t, rfl⟩ := r
      exact .cons n t (ints_vals rr)
theorem call_sum (hc : X.calm = true) : CallR X (.builtin "sum") (fun xs H Q => XSum X.K xs H Q) := by
  intro pins s σ H xs us Q I r h
  obtain ⟨p, ns, rfl, hq, q⟩ := h
  cases r with
  | cons r rr =>
  cases rr
  cases r
  obtain ⟨its, r', pl, hz⟩ := I.list hq
  have hi := ints_vals r'
  obtain ⟨xs, hx⟩ := hi.allInts.items
  have hl : s.heap.IsList p (intItems xs) := hx ▸ pl.isList
  refine sum_intListG (I.ok.hd hc) hl fun h' tk t' hk => ⟨.int ns.sum, H, I.kept hk, ?_, q⟩
  have e1 : ns = xs.toList.map (·.1) := by
    rw [← nums_intItems, ← hx]
    exact hi.numsOf.symm
  rw [preSum_eq, List.take_of_length_le (by simp), ← e1]
  exact ⟨_, rfl⟩
end
theorem bt_sum : bootBuiltins "sum" = some (.builtin "sum") := by decide +kernel
end L2

namespace Zf
open PS

noncomputable def dec (rows : List (List Int × Nat)) : List (List Int × Nat) := (rows.filter fun p => decide (1 < p.2)).map fun p => (p.1, p.2 - 1)
theorem dec_cons1 {p : List Int × Nat} (rows : List (List Int × Nat)) (h : p.2 = 1) : dec (p :: rows) = dec rows := by
  unfold dec
  rw [List.filter_cons_of_neg (by simp [h])]
theorem dec_cons2 {p : List Int × Nat} (rows : List (List Int × Nat)) (h : 1 < p.2) : dec (p :: rows) = (p.1, p.2 - 1) :: dec rows := by
  unfold dec
  rw [List.filter_cons_of_pos (by simp [h])]; rfl
theorem dec_mem {rows : List (List Int × Nat)} {p : List Int × Nat} (h : p ∈ dec rows) : ∃ q ∈ rows, 1 < q.2 ∧ p = (q.1, q.2 - 1) := by
  obtain ⟨q, hq, rfl⟩ := List.mem_map.mp h
  obtain ⟨h1, h2⟩ := List.mem_filter.mp hq
  exact ⟨q, h1, of_decide_eq_true h2, rfl⟩
theorem dec_facts : ∀ {rows : List (List Int × Nat)}, (∀ p ∈ rows, 1 ≤ p.2) → rprod (less rows) = rprod (dec rows) ∧ totN (less rows) = totN (dec rows) ∧ degN (less rows) = degN (dec rows)
  | [], _ => ⟨rfl, rfl, rfl⟩
  | p :: rows, h => by
    obtain ⟨i1, i2, i3⟩ := dec_facts fun q hq => h q (List.mem_cons_of_mem _ hq)
    have h1 := h p List.mem_cons_self
    have e1 : rprod (less (p :: rows)) = co p.1 ^ (p.2 - 1) * rprod (less rows) := rfl
    have e2 : totN (less (p :: rows)) = (p.2 - 1) + totN (less rows) := by simp [totN, less]
    have e3 : degN (less (p :: rows)) = (p.2 - 1) * (p.1.length - 1) + degN (less rows) := by simp [degN, less]
    by_cases hp : p.2 = 1
    · rw [e1, e2, e3, dec_cons1 rows hp, hp, i1, i2, i3]
      refine ⟨?_, by omega, by omega⟩
      have : co p.1 ^ (1 - 1) = (1 : PS) := rfl
      rw [this]; grind
    · have hp' : 1 < p.2 := by omega
      rw [e1, e2, e3, dec_cons2 rows hp', i1, i2, i3]
      exact ⟨rfl, by simp [totN], by simp [degN]⟩
theorem dec_nodup {rows : List (List Int × Nat)} (h : (rows.map (·.1)).Nodup) : ((dec rows).map (·.1)).Nodup := by
  unfold dec
  rw [List.map_map]
  exact h.sublist (List.Sublist.map _ (List.filter_sublist ..))
theorem dec_length (rows : List (List Int × Nat)) : (dec rows).length ≤ rows.length := by
  unfold dec
  rw [List.length_map]
  exact List.length_filter_le _ _
theorem fac_ct {f : List Int} (h : Fac f) : ct f = 1 := by
  have hn := ct_nonneg f
  have hd := ct_dvd f
  rcases h with ⟨b, a, rfl, hl, _⟩ | ⟨p, hp, rfl⟩
  · have ha := hd a (by simp)
    have hb := hd b (by simp)
    generalize ct [b, a] = k at *
    have hle : k ≤ a := Int.le_of_dvd (by rcases hl with r | ⟨r, _⟩ | ⟨r, _⟩ <;> omega) ha
    have hb0 := Int.emod_eq_zero_of_dvd hb
    have ha0 := Int.emod_eq_zero_of_dvd ha
    have hk0 : k ≠ 0 := fun z => by
      rw [z] at ha
      have := Int.zero_dvd.mp ha
      rcases hl with r | ⟨r, _⟩ | ⟨r, _⟩ <;> omega
    rcases hl with r | ⟨r, q⟩ | ⟨r, q⟩
    · omega
    · have : k = 1 ∨ k = 2 := by omega
      rcases this with e | e
      · exact e
      · subst e; omega
    · have : k = 1 ∨ k = 2 ∨ k = 3 := by omega
      rcases this with e | e | e
      · exact e
      · subst e; omega
      · subst e; omega
  · have h1 := hd 1 (by simp)
    exact Int.eq_one_of_dvd_one hn h1
theorem peel {m : Int} {g : List Int} (hg : ct g = 1) : ∀ (k : Nat) {q : PS}, Po q → (∀ t, m ∣ (q * co g ^ k) t) → ∀ t, m ∣ q t
  | 0, q, _, h => fun t => by
    have e : q * co g ^ 0 = q := by
      have : co g ^ 0 = (1 : PS) := rfl
      rw [this]; grind
    rw [e] at h; exact h t
  | k + 1, q, hq, h => by
    have e : q * co g ^ (k + 1) = (q * co g ^ k) * co g := by
      have : co g ^ (k + 1) = co g ^ k * co g := rfl
      rw [this]; grind
    rw [e] at h
    have hP : Po (q * co g ^ k) := hq.mul ((Po.co _).pow _)
    obtain ⟨d, hd⟩ := hP
    exact peel hg k hq (gauss hg d _ (fun t ht => by rw [hd t ht]; exact Int.dvd_zero m) h)
theorem rprod_prim {m : Int} : ∀ {rows : List (List Int × Nat)}, (∀ p ∈ rows, Fac p.1) → (∀ t, m ∣ (rprod rows) t) → m ∣ 1
  | [], _, h => h 0
  | p :: rows, hf, h => by
    refine rprod_prim (fun q hq => hf q (List.mem_cons_of_mem _ hq)) (peel (fac_ct (hf p List.mem_cons_self)) p.2 (Po.rprod rows) ?_)
    have e : rprod rows * co p.1 ^ p.2 = rprod (p :: rows) := by rw [rprod_cons]; grind
    rw [e]; exact h
theorem made_ct {rows : List (List Int × Nat)} (hf : ∀ p ∈ rows, Fac p.1) {n d : Nat} {cm : List Int} (m : Made 1 (rprod rows) n d cm) : ct cm = 1 := by
  refine Int.eq_one_of_dvd_one (ct_nonneg cm) (rprod_prim hf fun t => ?_)
  have e : rprod rows = co cm := by
    rw [m.eq]
    show _ = (1 : PS) * _
    grind
  rw [e]
  exact getD_dvd (ct_dvd cm) t

theorem next_rows {rows : List (List Int × Nat)} (hr : ∀ p ∈ rows, Fac p.1 ∧ 1 ≤ p.2) (nd : (rows.map (·.1)).Nodup) {scale : Int} {n d : Nat} {c : List Int} (hs : scale ≠ 0) (m : Made scale (rprod rows) n d c) :
    ∃ cm, Made 1 (rprod (dec rows)) (totN (dec rows)) (degN (dec rows)) cm ∧ ∀ s, Shared c (slopeL c) s → s = cm := by
  obtain ⟨sg, hsg⟩ : ∃ sg : Int, 0 < scale ∧ sg = 1 ∨ scale < 0 ∧ sg = -1 := by
    rcases Int.lt_or_gt_of_ne hs with q | q
    · exact ⟨-1, .inr ⟨q, rfl⟩⟩
    · exact ⟨1, .inl ⟨q, rfl⟩⟩
  have hfo : ∀ p ∈ once rows, Fac p.1 := fun p hp => by
    obtain ⟨q, hq, rfl⟩ := List.mem_map.mp hp
    exact (hr q hq).1
  obtain ⟨o, mo⟩ := made_rows (scale := sg) (by omega) (by rcases hsg with ⟨_, q⟩ | ⟨_, q⟩ <;> rw [q] <;> (unfold Bd; decide)) (rows := once rows) hfo
  obtain ⟨_, cm, mc, sh⟩ := rows_simple hr nd hs m hsg mo
  obtain ⟨d1, d2, d3⟩ := dec_facts fun p hp => (hr p hp).2
  rw [d1, d2, d3] at mc
  have hfd : ∀ p ∈ dec rows, Fac p.1 := fun p hp => by
    obtain ⟨q, hq, _, rfl⟩ := dec_mem hp
    exact (hr q hq).1
  rw [plain_self (made_ct hfd mc)] at sh
  exact ⟨cm, mc, fun s h => shared_same h sh (.inl m.ne)⟩
noncomputable def timesN (rows : List (List Int × Nat)) (x : Rat) : Int := (rows.map fun p => (p.2 : Int) * facN p.1 x).sum
theorem times_dec (x : Rat) : ∀ {rows : List (List Int × Nat)}, (∀ p ∈ rows, 1 ≤ p.2) → timesN rows x = rowsN rows x + timesN (dec rows) x
  | [], _ => rfl
  | p :: rows, h => by
    have ih := times_dec x fun q hq => h q (List.mem_cons_of_mem _ hq)
    have h1 := h p List.mem_cons_self
    have e1 : timesN (p :: rows) x = (p.2 : Int) * facN p.1 x + timesN rows x := by simp [timesN]
    have e2 : rowsN (p :: rows) x = facN p.1 x + rowsN rows x := by simp [rowsN]
    rw [e1, e2, ih]
    by_cases hp : p.2 = 1
    · rw [dec_cons1 rows hp, hp]
      generalize facN p.1 x = f
      have : ((1 : Nat) : Int) * f = f := by simp
      rw [this]; omega
    · have e3 : timesN (dec (p :: rows)) x = ((p.2 - 1 : Nat) : Int) * facN p.1 x + timesN (dec rows) x := by rw [dec_cons2 rows (by omega)]; simp [timesN]
      rw [e3]
      obtain ⟨k, hk⟩ : ∃ k, p.2 = k + 1 := ⟨p.2 - 1, by omega⟩
      rw [hk, show k + 1 - 1 = k by omega]
      generalize facN p.1 x = f
      have : ((k + 1 : Nat) : Int) * f = f + (k : Int) * f := by rw [Int.natCast_add, Int.add_mul]; simp; omega
      rw [this]; omega

inductive ChT : List (List Int × Nat) → List (List (List Int)) → Prop
  | nil : ChT [] []
  | cons {rows : List (List Int × Nat)} {ls : List (List Int)} {lss : List (List (List Int))} (h : ∀ x y : Rat, x ≤ y → Vc x ls - Vc y ls = rowsN rows y - rowsN rows x) (h1 : ∀ p ∈ rows, 1 ≤ p.2) (t : ChT (dec rows) lss) : ChT rows (ls :: lss)
theorem ChT.sum {rows : List (List Int × Nat)} {lss : List (List (List Int))} (h : ChT rows lss) {x y : Rat} (hxy : x ≤ y) : (lss.map fun ls => Vc x ls - Vc y ls).sum = timesN rows y - timesN rows x := by
  induction h with
  | nil => simp [timesN]
  | cons h h1 t ih =>
    rw [List.map_cons, List.sum_cons, ih, h x y hxy, times_dec y h1, times_dec x h1]
    omega
end Zf


namespace Zf
open PySem L2 PS
structure Got8 (scale : Int) (rows : List (List Int × Nat)) (c : List Int) : Prop where
  s0 : scale ≠ 0
  ok : RowsOk 3 rows
  few : rows.length ≤ 2
  mc : Made scale (rprod rows) (totN rows) (degN rows) c
theorem Got8.hr {scale : Int} {rows : List (List Int × Nat)} {c : List Int} (g : Got8 scale rows c) : ∀ p ∈ rows, Fac p.1 ∧ 1 ≤ p.2 := fun p hp => ⟨(g.ok.1 p hp).1, (g.ok.1 p hp).2.1⟩
theorem Got8.fac {scale : Int} {rows : List (List Int × Nat)} {c : List Int} (g : Got8 scale rows c) : ∀ p ∈ rows, Fac p.1 := fun p hp => (g.hr p hp).1
theorem Got8.szs {scale : Int} {rows : List (List Int × Nat)} {c : List Int} (g : Got8 scale rows c) : Szs c 115 7 73 7 891184 := by
  have few := g.few
  have t1 : totN rows ≤ 6 := by have := tot_le (m := 3) fun p hp => (g.ok.1 p hp).2.2.1; omega
  have d1 : degN rows ≤ 6 := by have := deg_le (m := 3) fun p hp => (g.ok.1 p hp).2.2.2; omega
  have lo : (once rows).length = rows.length := List.length_map _
  have t2 : totN (once rows) ≤ 3 := by
    have := tot_le (rows := once rows) (m := 1) fun p hp => by
      obtain ⟨q, _, rfl⟩ := List.mem_map.mp hp
      exact Nat.le_refl _
    omega
  have d2 : degN (once rows) ≤ 6 := by
    have := deg_le (rows := once rows) (m := 2) fun p hp => by
      obtain ⟨q, hq, rfl⟩ := List.mem_map.mp hp
      have := (fac_good (g.ok.1 q hq).1).2.2.2.1
      show 1 * (q.1.length - 1) ≤ 2
      omega
    omega
  refine ⟨g.mc.good, g.mc.ne, by rw [g.mc.len]; omega, by decide, fun x hx => (g.mc.bd x hx).mono (by omega), by decide +kernel, fun s hs _ => ?_, by decide, by decide +kernel, by decide⟩
  obtain ⟨o, mo⟩ := made_rows (scale := sgn scale) (by have := sgn_pm g.s0; omega) (by rcases sgn_pm g.s0 with q | q <;> rw [q] <;> (unfold Bd; decide)) (rows := once rows) fun p hp => by
    obtain ⟨q, hq, rfl⟩ := List.mem_map.mp hp
    exact (g.ok.1 q hq).1
  rw [(rows_cop g.hr g.ok.2 g.s0 g.mc hs).2 mo]
  exact ⟨by rw [plain_length, mo.len]; omega, plain_bd fun x hx => (mo.bd x hx).mono (by omega)⟩
theorem Got8.next {scale : Int} {rows : List (List Int × Nat)} {c : List Int} (g : Got8 scale rows c) : ∃ cm, Got8 1 (dec rows) cm ∧ ∀ s, Shared c (slopeL c) s → s = cm := by
  obtain ⟨cm, mc, h⟩ := next_rows g.hr g.ok.2 g.s0 g.mc
  refine ⟨cm, ⟨by decide, ⟨fun p hp => ?_, dec_nodup g.ok.2⟩, Nat.le_trans (dec_length rows) g.few, mc⟩, h⟩
  obtain ⟨q, hq, h1, rfl⟩ := dec_mem hp
  obtain ⟨a1, a2, a3, a4⟩ := g.ok.1 q hq
  refine ⟨a1, by show 1 ≤ q.2 - 1; omega, by show q.2 - 1 ≤ 3; omega, ?_⟩
  show (q.2 - 1) * (q.1.length - 1) ≤ 3
  exact Nat.le_trans (Nat.mul_le_mul_right _ (Nat.sub_le _ _)) a4
theorem Got8.len {scale : Int} {rows : List (List Int × Nat)} {c : List Int} (g : Got8 scale rows c) : c.length = 1 ↔ rows = [] := by
  rw [g.mc.len]
  constructor
  · intro e
    cases rows with
    | nil => rfl
    | cons p rows =>
      exfalso
      obtain ⟨a1, a2, _⟩ := g.ok.1 p List.mem_cons_self
      have := (fac_good a1).2.2.1
      have h1 : degN (p :: rows) = p.2 * (p.1.length - 1) + degN rows := by simp [degN]
      have h2 : 1 * 1 ≤ p.2 * (p.1.length - 1) := Nat.mul_le_mul a2 (by omega)
      omega
  · rintro rfl; rfl
theorem Got8.count {scale : Int} {rows : List (List Int × Nat)} {c : List Int} (g : Got8 scale rows c) {ls : List (List Int)} (h : Chain c ls) : ∀ x y : Rat, x ≤ y → Vc x ls - Vc y ls = rowsN rows y - rowsN rows x :=
  fun _ _ hxy => rows_count g.hr g.ok.2 g.s0 g.mc h hxy

noncomputable def mxT (rows : List (List Int × Nat)) : Nat := totN rows
theorem mxT_dec : ∀ {rows : List (List Int × Nat)}, (∀ p ∈ rows, 1 ≤ p.2) → rows ≠ [] → mxT (dec rows) < mxT rows
  | [], _, h => absurd rfl h
  | p :: rows, h, _ => by
    have h1 := h p List.mem_cons_self
    have e1 : mxT (p :: rows) = p.2 + mxT rows := by simp [mxT, totN]
    have ih : mxT (dec rows) ≤ mxT rows := by
      by_cases hr : rows = []
      · rw [hr]; exact Nat.le_refl _
      · exact Nat.le_of_lt (mxT_dec (fun q hq => h q (List.mem_cons_of_mem _ hq)) hr)
    by_cases hp : p.2 = 1
    · rw [dec_cons1 rows hp, e1]; omega
    · have e2 : mxT (dec (p :: rows)) = (p.2 - 1) + mxT (dec rows) := by rw [dec_cons2 rows (by omega)]; simp [mxT, totN]
      rw [e2, e1]; omega

noncomputable def ChainsAt (H : Hp) (vs : List V) (lss : List (List (List Int))) : Prop := vs.length = lss.length ∧ ∀ (i : Nat) (v : V) (ls : List (List Int)), vs[i]? = some v → lss[i]? = some ls → ∃ g ws, v = .ref g ∧ H g = some (.lst ws) ∧ ListsAt H ws ls
theorem ChainsAt.mono {H H' : Hp} {vs : List V} {lss : List (List (List Int))} (h : ChainsAt H vs lss) (s : Same H H') : ChainsAt H' vs lss := ⟨h.1, fun i v l a b => let ⟨g, ws, e, k, z⟩ := h.2 i v l a b; ⟨g, ws, e, s _ _ k, z.mono s⟩⟩
theorem ChainsAt.nil (H : Hp) : ChainsAt H [] [] := ⟨rfl, fun i _ _ a => by cases i <;> cases a⟩
theorem ChainsAt.snoc {H : Hp} {vs : List V} {lss : List (List (List Int))} {g : Addr} {ws : List V} {ls : List (List Int)} (h : ChainsAt H vs lss) (k : H g = some (.lst ws)) (z : ListsAt H ws ls) : ChainsAt H (vs ++ [.ref g]) (lss ++ [ls]) := by
  refine ⟨by simp [h.1], fun i w q a b => ?_⟩
  by_cases hi : i < vs.length
  · rw [List.getElem?_append_left hi] at a
    rw [List.getElem?_append_left (by rw [← h.1]; exact hi)] at b
    exact h.2 i w q a b
  · have hi1 : i < (vs ++ [V.ref g]).length := (List.getElem?_eq_some_iff.mp a).1
    rw [List.length_append, List.length_singleton] at hi1
    have e : i = vs.length := by omega
    subst e
    rw [List.getElem?_append_right (Nat.le_refl _), Nat.sub_self] at a
    rw [h.1, List.getElem?_append_right (Nat.le_refl _), Nat.sub_self] at b
    cases a
    cases b
    exact ⟨g, ws, rfl, k, z⟩
theorem ChainsAt.get {H : Hp} {vs : List V} {lss : List (List (List Int))} (h : ChainsAt H vs lss) {i : Nat} {v : V} (a : vs[i]? = some v) : ∃ ls g ws, lss[i]? = some ls ∧ v = .ref g ∧ H g = some (.lst ws) ∧ ListsAt H ws ls := by
  have hi : i < vs.length := (List.getElem?_eq_some_iff.mp a).1
  have hp : lss[i]? = some (lss[i]'(by rw [← h.1]; exact hi)) := List.getElem?_eq_getElem _
  obtain ⟨g, ws, e, k, z⟩ := h.2 i v _ a hp
  exact ⟨_, g, ws, hp, e, k, z⟩
theorem ListsAt.off {H G : Hp} {r : Addr} {ws vs : List V} {ls : List (List Int)} (h : ListsAt H vs ls) (hne : ∀ l ∈ ls, l ≠ []) (hr : H r = some (.lst ws)) (href : ∀ v ∈ ws, ∃ g, v = .ref g) (k : ∀ b o, b ≠ r → H b = some o → G b = some o) : ListsAt G vs ls := by
  refine ⟨h.1, fun i v l a b => ?_⟩
  obtain ⟨g, e, q⟩ := h.2 i v l a b
  refine ⟨g, e, k _ _ (fun z => ?_) q⟩
  rw [z, hr] at q
  have q1 : HO.lst ws = HO.lst (l.map V.int) := Option.some.inj q
  injection q1 with q2
  have hl := hne l (List.mem_of_getElem? b)
  cases l with
  | nil => exact hl rfl
  | cons x l =>
    obtain ⟨g', e'⟩ := href (V.int x) (by rw [q2]; simp)
    cases e'
theorem ChainsAt.refs {H : Hp} {vs : List V} {lss : List (List (List Int))} (h : ChainsAt H vs lss) : ∀ v ∈ vs, ∃ g, v = .ref g := fun v hv => by
  obtain ⟨i, hi, rfl⟩ := List.getElem_of_mem hv
  obtain ⟨_, g, _, _, e, _⟩ := h.get (List.getElem?_eq_getElem hi)
  exact ⟨g, e⟩

noncomputable def Fit (B : Nat) (lss : List (List (List Int))) : Prop := ∀ ls ∈ lss, ls.length ≤ 1000 ∧ ∀ l ∈ ls, GoodL l ∧ l.length ≤ 64 ∧ ∀ x ∈ l, Bd B x
inductive SpForTimes (K : PySem.W.Frag) (vs : List V) (H : Hp) (Q : VK) : Prop
  | mk (a : Addr) (c : List Int) (scale : Int) (rows : List (List Int × Nat)) (h0 : vs = [.ref a]) (h1 : SqL K H a (c.map V.int)) (h2 : Got8 scale rows c) (h3 : ∀ (r : Addr) (H' : Hp) (ws : List V) (lss : List (List (List Int))), H r = none → Same H H' → H' r = some (.lst ws) → ChainsAt H' ws lss → ChT rows lss → Fit 891184 lss → lss.length ≤ 6 → Q (.ref r) H') : SpForTimes K vs H Q
noncomputable def spForTimes (K : PySem.W.Frag) : Sp := fun vs H Q _ => SpForTimes K vs H Q
inductive SpTAlong (K : PySem.W.Frag) (vs : List V) (H : Hp) (Q : VK) : Prop
  | mk (a d e : Addr) (ws : List V) (lss : List (List (List Int))) (p q r t : Int) (h0 : vs = [.ref a, .ref d, .ref e]) (h1 : H a = some (.lst ws)) (h2 : ChainsAt H ws lss) (h3 : Fit 891184 lss) (h4 : lss.length ≤ 6) (h5 : SqT K H d [.int p, .int q]) (h6 : SqT K H e [.int r, .int t]) (h7 : Bd 891184 p) (h8 : Bd 891184 q) (h9 : Bd 891184 r) (h10 : Bd 891184 t) (h11 : 0 < q) (h12 : 0 < t)
      (h13 : ∀ H' : Hp, Same H H' → Q (.int (lss.map fun ls => Vc (plc p q) ls - Vc (plc r t) ls).sum) H') : SpTAlong K vs H Q
noncomputable def spTAlong (K : PySem.W.Frag) : Sp := fun vs H Q _ => SpTAlong K vs H Q
inductive SpWithTimes (K : PySem.W.Frag) (vs : List V) (H : Hp) (Q : VK) : Prop
  | mk (a d e : Addr) (c : List Int) (scale : Int) (rows : List (List Int × Nat)) (p q r t : Int) (h0 : vs = [.ref a, .ref d, .ref e]) (h1 : SqL K H a (c.map V.int)) (h2 : Got8 scale rows c) (h5 : SqT K H d [.int p, .int q]) (h6 : SqT K H e [.int r, .int t]) (h7 : Bd 891184 p) (h8 : Bd 891184 q) (h9 : Bd 891184 r) (h10 : Bd 891184 t) (h11 : 0 < q) (h12 : 0 < t) (h13 : p * t ≤ r * q)
      (h14 : ∀ H' : Hp, Same H H' → Q (.int (timesN rows (plc r t) - timesN rows (plc p q))) H') : SpWithTimes K vs H Q
noncomputable def spWithTimes (K : PySem.W.Frag) : Sp := fun vs H Q _ => SpWithTimes K vs H Q

theorem rootsT_fst' (rows : List (List Int × Nat)) : (rootsT rows).map (·.1) = rootsAll rows := by
  unfold rootsT rootsAll
  induction rows with
  | nil => rfl
  | cons p rows ih =>
    rw [List.flatMap_cons, List.flatMap_cons, List.map_append, ih, List.map_map]
    congr 1
    exact List.map_id _
theorem sum_zero {α : Type} (w : α → Int) (P : α → Bool) : ∀ (L : List α), (∀ b ∈ L, P b = false) → (L.map fun b => if P b = true then w b else 0).sum = 0
  | [], _ => rfl
  | b :: L, h => by
    rw [List.map_cons, List.sum_cons, h b List.mem_cons_self, sum_zero w P L fun c hc => h c (List.mem_cons_of_mem _ hc)]
    rfl
theorem sum_one {α : Type} (w : α → Int) (P : α → Bool) : ∀ (L : List α) (k : Nat) (a : α), L[k]? = some a → P a = true → (∀ (j : Nat) (b : α), L[j]? = some b → P b = true → j = k) → (L.map fun b => if P b = true then w b else 0).sum = w a
  | [], k, a, h, _, _ => by simp at h
  | b :: L, 0, a, h, hp, hu => by
    have e : b = a := by simpa using h
    subst e
    rw [List.map_cons, List.sum_cons, if_pos hp, sum_zero w P L fun c hc => ?_, Int.add_zero]
    obtain ⟨j, hj, rfl⟩ := List.getElem_of_mem hc
    cases e : P L[j] with
    | false => rfl
    | true =>
      have := hu (j + 1) L[j] (by simp [hj]) e
      omega
  | b :: L, k + 1, a, h, hp, hu => by
    have hb : P b = false := by
      cases e : P b with
      | false => rfl
      | true => have := hu 0 b rfl e; omega
    rw [List.map_cons, List.sum_cons, hb, sum_one w P L k a (by simpa using h) hp fun j c hj hc => ?_]
    · simp
    · have := hu (j + 1) c (by simpa using hj) hc
      omega
theorem sum_add2 {α : Type} (f g : α → Int) : ∀ l : List α, (l.map fun k => f k + g k).sum = (l.map f).sum + (l.map g).sum
  | [] => rfl
  | a :: l => by
    rw [List.map_cons, List.sum_cons, sum_add2 f g l, List.map_cons, List.sum_cons, List.map_cons, List.sum_cons]; omega
theorem range_one (s : Nat) (v : Int) : ∀ n, ((List.range n).map fun k => if s = k then v else 0).sum = if s < n then v else 0
  | 0 => rfl
  | n + 1 => by
    rw [List.range_succ, List.map_append, List.sum_append, range_one s v n]
    by_cases h : s = n
    · subst h; simp
    · by_cases h2 : s < n
      · simp [h, h2, Nat.lt_succ_of_lt h2]
      · have : ¬ s < n + 1 := by omega
        simp [h, h2, this]
theorem sum_fib {α : Type} (sp : α → Nat) (w : α → Int) (n : Nat) : ∀ L : List α, (∀ a ∈ L, sp a < n) → (L.map w).sum = ((List.range n).map fun k => (L.map fun a => if (decide (sp a = k)) = true then w a else 0).sum).sum
  | [], _ => by
    have : ∀ m, ((List.range m).map fun _ => (0 : Int)).sum = 0 := fun m => by
      induction m with
      | zero => rfl
      | succ m ih => rw [List.range_succ, List.map_append, List.sum_append, ih]; rfl
    exact (this n).symm
  | a :: L, h => by
    have ih := sum_fib sp w n L fun b hb => h b (List.mem_cons_of_mem _ hb)
    have e : (List.range n).map (fun k => ((a :: L).map fun a => if (decide (sp a = k)) = true then w a else 0).sum) = (List.range n).map fun k => (if sp a = k then w a else 0) + (L.map fun a => if (decide (sp a = k)) = true then w a else 0).sum := by
      refine List.map_congr_left fun k _ => ?_
      rw [List.map_cons, List.sum_cons]
      congr 1
      by_cases c : sp a = k <;> simp [c]
    rw [e, sum_add2, range_one, if_pos (h a List.mem_cons_self), ← ih, List.map_cons, List.sum_cons]
theorem ord_sum {rs so : List ((Bool × Int × Int) × Nat)} (hO : Ord rs so) (hx : ∀ r ∈ rs.map (·.1), RootX r) (hd : (rs.map (·.1)).Pairwise DiffR) (w : (Bool × Int × Int) × Nat → Int) : (so.map w).sum = (rs.map w).sum := by
  rw [sum_fib (fun r => spotR (rs.map (·.1)) r.1) w rs.length rs fun a ha => by
    have := spot_lt (rs := rs.map (·.1)) (r := a.1) (List.mem_map.mpr ⟨a, ha, rfl⟩)
    rwa [List.length_map] at this]
  have e : so.map w = (List.range rs.length).map fun k => w (so.getD k ((false, 0, 0), 0)) := by
    rw [← hO.1]
    refine List.ext_getElem (by simp) fun i h1 h2 => ?_
    have h3 : i < so.length := by simpa using h1
    simp [List.getD_eq_getElem?_getD, h3]
  rw [e]
  congr 1
  refine List.map_congr_left fun k hk => ?_
  have hk' : k < so.length := by rw [hO.1]; exact List.mem_range.mp hk
  have hs : so[k]? = some so[k] := List.getElem?_eq_getElem hk'
  obtain ⟨hm, hsp⟩ := hO.2 k _ hs
  obtain ⟨j, hj, ej⟩ := List.getElem_of_mem hm
  have hg : so.getD k ((false, 0, 0), 0) = so[k] := by rw [List.getD_eq_getElem?_getD, hs]; rfl
  rw [hg]
  refine (sum_one w (fun a => decide (spotR (rs.map (·.1)) a.1 = k)) rs j so[k] (by rw [List.getElem?_eq_getElem hj, ej]) (decide_eq_true hsp) fun j' b hb hP => ?_).symm
  have hj' : j' < rs.length := (List.getElem?_eq_some_iff.mp hb).1
  have eb : rs[j'] = b := (List.getElem?_eq_some_iff.mp hb).2
  refine spot_inj hx hd (i := j') (j := j) (by rwa [List.length_map]) (by rwa [List.length_map]) ?_
  rw [List.getElem_map, List.getElem_map, eb, ej, hsp]
  exact of_decide_eq_true hP
noncomputable def wt (x y : Rat) (r : (Bool × Int × Int) × Nat) : Int := if (leR r.1 y && !leR r.1 x) = true then (r.2 : Int) else 0
theorem rootsT_okR {rows : List (List Int × Nat)} (hf : ∀ p ∈ rows, Fac p.1) : ∀ r ∈ rootsT rows, RootOk r.1 := fun r hr => by
  obtain ⟨p, hp, h⟩ := List.mem_flatMap.mp hr
  obtain ⟨x, hx, rfl⟩ := List.mem_map.mp h
  exact roots_ok (hf p hp) x hx
theorem sum_scale (k : Int) : ∀ l : List Int, (l.map fun z => k * z).sum = k * l.sum
  | [] => by simp
  | a :: l => by rw [List.map_cons, List.sum_cons, sum_scale k l, List.sum_cons, Int.mul_add]
theorem times_roots (x : Rat) : ∀ rows : List (List Int × Nat), timesN rows x = ((rootsT rows).map fun r => (r.2 : Int) * le01 r.1 x).sum
  | [] => rfl
  | p :: rows => by
    have ih := times_roots x rows
    have e1 : timesN (p :: rows) x = (p.2 : Int) * facN p.1 x + timesN rows x := by simp [timesN]
    have e2 : rootsT (p :: rows) = ((rootsF p.1).map fun r => (r, p.2)) ++ rootsT rows := by unfold rootsT; rw [List.flatMap_cons]
    rw [e1, e2, List.map_append, List.sum_append, ← ih, List.map_map]
    congr 1
    unfold facN
    rw [← sum_scale, List.map_map]
    rfl
theorem times_due {rows : List (List Int × Nat)} (hf : ∀ p ∈ rows, Fac p.1) {x y : Rat} (hxy : x ≤ y) : ((rootsT rows).map (wt x y)).sum = timesN rows y - timesN rows x := by
  rw [times_roots, times_roots]
  have ok := rootsT_okR hf
  generalize rootsT rows = l at ok
  induction l with
  | nil => rfl
  | cons r l ih =>
    have h1 := ih fun s hs => ok s (List.mem_cons_of_mem _ hs)
    simp only [List.map_cons, List.sum_cons] at h1 ⊢
    rw [h1]
    unfold le01 wt
    have m := leR_mono (ok r List.mem_cons_self) hxy
    cases c1 : leR r.1 x <;> cases c2 : leR r.1 y
    · simp
    · simp; omega
    · exact absurd (m c1) (by rw [c2]; decide)
    · simp; omega
theorem one_in {rows : List (List Int × Nat)} (hf : ∀ p ∈ rows, Fac p.1) (nd : (rows.map (·.1)).Nodup) {so : List ((Bool × Int × Int) × Nat)} (hO : Ord (rootsT rows) so) {x y : Rat} (hxy : x ≤ y) {i : Nat} (n1 : (numR (rootsAll rows) x : Int) = i) (n2 : (numR (rootsAll rows) y : Int) = i + 1) {rt : (Bool × Int × Int) × Nat} (hrt : so[i]? = some rt) :
    timesN rows y - timesN rows x = (rt.2 : Int) := by
  have hx : ∀ r ∈ (rootsT rows).map (·.1), RootX r := by rw [rootsT_fst']; exact rootsAll_x hf
  have hd : ((rootsT rows).map (·.1)).Pairwise DiffR := by rw [rootsT_fst']; exact rows_diff hf nd
  rw [← times_due hf hxy, ← ord_sum hO hx hd]
  rw [← rootsT_fst'] at n1 n2
  have key : ∀ (j : Nat) (b : (Bool × Int × Int) × Nat), so[j]? = some b → ((leR b.1 y && !leR b.1 x) = true ↔ j = i) := fun j b hb => by
    obtain ⟨hm, hs⟩ := hO.2 j b hb
    have mem : b.1 ∈ (rootsT rows).map (·.1) := List.mem_map.mpr ⟨b, hm, rfl⟩
    have sx := spot_num hx hd mem (x := x)
    have sy := spot_num hx hd mem (x := y)
    rw [hs] at sx sy
    cases c1 : leR b.1 x <;> cases c2 : leR b.1 y <;> simp [c1, c2] at sx sy ⊢ <;> omega
  exact sum_one (fun r => (r.2 : Int)) (fun r => leR r.1 y && !leR r.1 x) so i rt hrt ((key i rt hrt).mpr rfl) fun j b hb hP => (key j b hb).mp hP

noncomputable def scanS (s : Int) : List Int → List Int
  | [] => [s]
  | t :: ts => s :: scanS (if t % 2 = 1 then -s else s) ts
noncomputable def lastS (s : Int) : List Int → Int
  | [] => s
  | t :: ts => lastS (if t % 2 = 1 then -s else s) ts
theorem lastS_snoc (t : Int) : ∀ (s : Int) (ts : List Int), lastS s (ts ++ [t]) = if t % 2 = 1 then -lastS s ts else lastS s ts
  | s, [] => rfl
  | s, u :: ts => lastS_snoc t _ ts
theorem scanS_snoc (t : Int) : ∀ (s : Int) (ts : List Int), scanS s (ts ++ [t]) = scanS s ts ++ [lastS s (ts ++ [t])]
  | s, [] => rfl
  | s, u :: ts => by
    show s :: scanS _ (ts ++ [t]) = s :: (scanS _ ts ++ [lastS _ (ts ++ [t])])
    rw [scanS_snoc t _ ts]
theorem scanS_length (s : Int) (ts : List Int) : (scanS s ts).length = ts.length + 1 := by
  induction ts generalizing s with
  | nil => rfl
  | cons t ts ih => show (scanS _ ts).length + 1 = _; rw [ih]; rfl
theorem Made.top_sgn {scale : Int} {rows : List (List Int × Nat)} (hf : ∀ p ∈ rows, Fac p.1) (hs : scale ≠ 0) {n : Nat} {c : List Int} (m : Made scale (rprod rows) n (degN rows) c) : sgn (c.getD (c.length - 1) 0) = sgn scale := by
  obtain ⟨c1, m1⟩ := made_rows (scale := 1) (by decide) (by unfold Bd; decide) hf
  have p1 := m1.pos (by decide)
  have e : c.getD (c.length - 1) 0 = scale * c1.getD (c1.length - 1) 0 := by
    have h : co c = C scale * co c1 := by
      rw [m.eq, m1.eq]
      show _ = C scale * ((1 : PS) * _)
      grind
    have := congrFun h (c.length - 1)
    rw [C_mul] at this
    rw [m1.len, ← m.len]
    exact this
  rw [e, Int.mul_comm]
  exact sgn_mul_pos p1
theorem Got8.start {scale : Int} {rows : List (List Int × Nat)} {c : List Int} (g : Got8 scale rows c) : sgn (hv (-reachL c) 1 c) = sgn scale * (-1) ^ (c.length - 1) := by
  have hne := g.mc.ne
  have top := g.mc.top
  have ts := g.mc.top_sgn g.fac g.s0
  have e : c = c.dropLast ++ [c.getD (c.length - 1) 0] := by
    conv => lhs; rw [← List.dropLast_concat_getLast hne]
    congr 2
    rw [List.getLast_eq_getElem, List.getD_eq_getElem?_getD, List.getElem?_eq_getElem (by have := List.length_pos_iff.mpr hne; omega)]
    rfl
  have fl := (far_left (l := c.dropLast) (L := c.getD (c.length - 1) 0) (x := ((reachL c : Int) : Rat)) top (by unfold reachL; exact Rat.le_refl)).1
  rw [← e, List.length_dropLast, ts] at fl
  rw [sgn_hv (by decide), ← fl]
  congr 2
  unfold plc
  rw [Rat.intCast_neg]
  show -((reachL c : Int) : Rat) / 1 = _
  grind
theorem rootsAll_few {rows : List (List Int × Nat)} (hf : ∀ p ∈ rows, Fac p.1) : (rootsAll rows).length ≤ 2 * rows.length := by
  unfold rootsAll
  induction rows with
  | nil => simp
  | cons p rows ih =>
    have h1 := ih fun q hq => hf q (List.mem_cons_of_mem _ hq)
    rw [List.flatMap_cons, List.length_append, List.length_cons]
    have : (rootsF p.1).length ≤ 2 := by
      rcases hf p List.mem_cons_self with ⟨b, a, e, _⟩ | ⟨y, _, e⟩
      · rw [e]; exact Nat.le_succ 1
      · rw [e]; unfold rootsF; dsimp only; split <;> simp
    omega
theorem Got8.stm {scale : Int} {rows : List (List Int × Nat)} {c s : List Int} {l : List (List Int)} (g : Got8 scale rows c) (h : Chain c (s :: l)) : Stm s l ∧ (∀ x y : Rat, x ≤ y → 2 ≤ Vc x (s :: l) - Vc y (s :: l) → 1 < (y - x) * ((101 : Int) : Rat)) ∧ Vc (-((reachL c : Int) : Rat)) (s :: l) - Vc ((reachL c : Int) : Rat) (s :: l) ≤ 100 := by
  obtain ⟨s', l', h1, e, h2⟩ := id h
  injection e with e1 e2
  subst e1 e2
  refine ⟨⟨h1.2.1, h1.1, h2, (rows_cop g.hr g.ok.2 g.s0 g.mc h1).1⟩, fun x y hxy hv => ?_, ?_⟩
  · rw [rows_count g.hr g.ok.2 g.s0 g.mc h hxy] at hv
    have : ¬ (y - x) * 100 < 1 := fun z => by
      have := rows_sep g.fac g.ok.2 hxy z
      omega
    have e : ((101 : Int) : Rat) = 101 := rfl
    rw [e]
    grind
  · obtain ⟨a1, a2⟩ := rows_all g.hr g.ok.2 g.s0 g.mc h
    obtain ⟨_, r2⟩ := reach_bd g.szs.good g.szs.ne g.szs.bd
    have hxy : -((reachL c : Int) : Rat) ≤ ((reachL c : Int) : Rat) := by
      have := one_le_cast (k := reachL c) (by omega)
      grind
    rw [rows_count g.hr g.ok.2 g.s0 g.mc h hxy, a1, a2]
    have f := rootsAll_few g.fac
    have g3 := g.few
    omega
inductive SpOver (K : PySem.W.Frag) (vs : List V) (H : Hp) (Q : VK) : Prop
  | mk (a : Addr) (c : List Int) (scale : Int) (rows : List (List Int × Nat)) (h0 : vs = [.ref a]) (h1 : SqL K H a (c.map V.int)) (h2 : Got8 scale rows c) (h3 : ∀ (r : Addr) (H' : Hp) (out : List Int), H r = none → Same H H' → H' r = some (IL out) → (∀ so, Ord (rootsT rows) so → out = scanS (sgn scale * (-1) ^ (c.length - 1)) (so.map fun r => (r.2 : Int))) → Q (.ref r) H') : SpOver K vs H Q
noncomputable def spOver (K : PySem.W.Frag) : Sp := fun vs H Q _ => SpOver K vs H Q
end Zf

namespace K8
open PySem L2 Zf
noncomputable def top (i : Nat) : Stmt := PySem.Challenge.pw_zerofence_k08_whole_times_and_signs.main.body.getD i (.Pass ⟨0, 0, 0, 0⟩)
noncomputable abbrev sCheckCurve : Stmt := top 8
noncomputable abbrev sCheckNN : Stmt := top 9
noncomputable abbrev sCheckPlace : Stmt := top 10
noncomputable abbrev sCheckStretch : Stmt := top 11
noncomputable abbrev sCheckFine : Stmt := top 12
noncomputable abbrev sSignAt : Stmt := top 14
noncomputable abbrev sSignOf : Stmt := top 15
noncomputable abbrev sSlope : Stmt := top 16
noncomputable abbrev sPlain : Stmt := top 17
noncomputable abbrev sGib : Stmt := top 18
noncomputable abbrev sLeft : Stmt := top 20
noncomputable abbrev sWithout : Stmt := top 21
noncomputable abbrev sTaken : Stmt := top 22
noncomputable abbrev sTrimmed : Stmt := top 23
noncomputable abbrev sShared : Stmt := top 24
noncomputable abbrev sAbove : Stmt := top 25
noncomputable abbrev sSimple : Stmt := top 26
noncomputable abbrev sDivided : Stmt := top 27
noncomputable abbrev sChain : Stmt := top 29
noncomputable abbrev sAlong : Stmt := top 30
noncomputable abbrev sRAlong : Stmt := top 32
noncomputable abbrev sWithTimes : Stmt := top 33
noncomputable abbrev sTAlong : Stmt := top 34
noncomputable abbrev sForTimes : Stmt := top 35
noncomputable abbrev sReach : Stmt := top 36
noncomputable abbrev sStretches : Stmt := top 38
noncomputable abbrev sOneEach : Stmt := top 39
noncomputable abbrev sMiddle : Stmt := top 40
noncomputable abbrev sInParts : Stmt := top 41
noncomputable abbrev sNarrowed : Stmt := top 42
noncomputable abbrev sLonger : Stmt := top 43
noncomputable abbrev sOver : Stmt := top 44
noncomputable abbrev sWhole : Stmt := top 46
noncomputable abbrev sAt : Stmt := top 47
noncomputable abbrev sAre : Stmt := top 48
noncomputable abbrev sInBoth : Stmt := top 49
noncomputable abbrev sProduct : Stmt := top 50
noncomputable abbrev sFactors : Stmt := top 51
noncomputable abbrev sBuilt : Stmt := top 52
noncomputable abbrev sKnown : Stmt := top 53
noncomputable abbrev sBefore : Stmt := top 54
noncomputable abbrev sUpTo : Stmt := top 55
noncomputable abbrev sLess : Stmt := top 56
noncomputable abbrev sInOrder : Stmt := top 57
noncomputable abbrev sTimesOver : Stmt := top 58
noncomputable abbrev sPlace : Stmt := top 59
noncomputable abbrev sAny : Stmt := top 60
noncomputable abbrev sLaw : Stmt := top 61
end K8
namespace K8
open PySem L2 Zf
section
variable {P : Program} {w : World} {K : PySem.W.Frag} {mg : Str → Option Value} {base : Heap} {f : Addr} {fd : FuncData}
theorem scWhole : FnScope ["_law_found"] ["_law_found"] (defScope sWhole) := ⟨rfl, rfl, rfl, by decide +kernel, rfl, by decide +kernel, by decide +kernel⟩
theorem ok_whole (B : Bl mg) (F : Fun K "_law_whole" "_law_whole" sWhole f fd) : FnOk P w K mg base CX0 1 f fd ["_law_found"] spWhole := by
  refine F.ok scWhole (fun vs H Q E h => ?_) (fun cdv A outer s H vs Q E hr h => ?_)
  · obtain ⟨n, rfl, _⟩ := h
    rfl
  obtain ⟨n, rfl, q⟩ := h
  refine ⟨_, pss_one (ps_ret (pe_and (pe_callB call_isi rfl B.isinstance_ bt_isinstance (pa_cons (pv 0) (pa_cons (pe_bltn (v := .ty "int") rfl B.int_ bt_int rfl) pa_nil)))
    (pe_one (pe_not (pe_callB call_isi rfl B.isinstance_ bt_isinstance (pa_cons (pv 0) (pa_cons (pe_bltn (v := .ty "bool") rfl B.bool_ bt_bool rfl) pa_nil))))))), ?_⟩
  exact ⟨_, rfl, .inl ⟨n, rfl, true, rfl, iteT ⟨_, rfl, .inr (.inl ⟨n, rfl, false, rfl, q⟩)⟩⟩⟩

theorem scAt : FnScope ["_law_script", "_law_k"] ["_law_script", "_law_k"] (defScope sAt) := ⟨rfl, rfl, rfl, by decide +kernel, rfl, by decide +kernel, by decide +kernel⟩
theorem ok_at (B : Bl mg) (F : Fun K "_law_at" "_law_at" sAt f fd) : FnOk P w K mg base CX0 1 f fd ["_law_script", "_law_k"] (spAt K) := by
  refine F.ok scAt (fun vs H Q E h => ?_) (fun cdv A outer s H vs Q E hr h => ?_)
  · obtain ⟨a, ns, k, rfl, _⟩ := h
    rfl
  obtain ⟨a, ns, k, rfl, hS, h0, q⟩ := h
  refine ⟨_, (pss_cons (ps_if (pt_cmpR op_lt (pv 1) (pe_callB call_len_seq rfl B.len_ bt_len (pa_cons (pv 0) pa_nil)) (nomark _))
    (pss_one (ps_ret (pe_ix ix_list (pv 0) (pv 1) (fun _ _ => rfl))))
    pss_nil)
  (pss_one (ps_ret pe_int))), ?_⟩
  have hl : (ns.map V.int).length = ns.length := List.length_map _
  refine ⟨_, rfl, _, rfl, a, _, rfl, .inl hS, _, _, rfl, rfl, _, rfl, ?_⟩
  refine ite2 (fun c => ?_) (fun c => ?_)
  · have c' : k < (((ns.map V.int).length : Nat) : Int) := of_decide_eq_true c
    rw [hl] at c'
    exact ⟨_, rfl, _, rfl, a, _, _, _, rfl, rfl, hS, atI_ints h0 c', q⟩
  · have c' : ¬ k < (((ns.map V.int).length : Nat) : Int) := of_decide_eq_false (Bool.eq_false_iff.mpr c)
    rw [hl] at c'
    rw [getD_out (by omega)] at q
    exact q

theorem scAre : FnScope ["_law_found", "_law_due", "_law_k"] ["_law_found", "_law_due"] (defScope sAre) := ⟨rfl, rfl, rfl, by decide +kernel, rfl, by decide +kernel, by decide +kernel⟩
theorem ok_are (B : Bl mg) (F_law_whole : FnAt P w K mg base 1 "_law_whole" ["_law_found"] spWhole) (F : Fun K "_law_numbers_are" "_law_numbers_are" sAre f fd) : FnOk P w K mg base CX0 2 f fd ["_law_found", "_law_due"] (spAre K) := by
  refine F.ok scAre (fun vs H Q E h => ?_) (fun cdv A outer s H vs Q E hr h => ?_)
  · obtain ⟨a, d, xs, rfl, _⟩ := h
    rfl
  obtain ⟨a, d, xs, rfl, hA, hD, hz, q⟩ := h
  refine ⟨_, (pss_cons (ps_if (PW.pt (pw_or (pt_not (pt_val (pe_callB call_isi rfl B.isinstance_ bt_isinstance (pa_cons (pv 0) (pa_cons (pe_bltn (v := .ty "list") rfl B.list_ bt_list rfl) pa_nil))))) (pw_or1 (pt_cmpR op_ne (pe_callB call_len_seq rfl B.len_ bt_len (pa_cons (pv 0) pa_nil)) (pe_callB call_len_seq rfl B.len_ bt_len (pa_cons (pv 1) pa_nil)) (nomark _)))))
    (pss_one (ps_ret pe_bl))
    pss_nil)
  (pss_cons (ps_for PassesOwn.never rfl (pi_range1 rfl B.range_ (pa_cons (pe_callB call_len_seq rfl B.len_ bt_len (pa_cons (pv 1) pa_nil)) pa_nil)) (pg_name (i := 2) scAre.nd rfl (Or.inl rfl))
    (pss_one (ps_if (PW.pt (pw_or (pt_not (pt_val (pe_callF F_law_whole hr rfl (pa_cons (pe_ix ix_list (pv 0) (pv 2) (fun _ _ => rfl)) pa_nil)))) (pw_or1 (pt_cmpR op_ne (pe_ix ix_list (pv 0) (pv 2) (fun _ _ => rfl)) (pe_ix ix_list (pv 1) (pv 2) (fun _ _ => rfl)) (nomark _)))))
      (pss_one (ps_ret pe_bl))
      pss_nil)))
  (pss_one (ps_ret pe_bl)))), ?_⟩
  have hl : (xs.map V.int).length = xs.length := List.length_map _
  refine ⟨_, rfl, .inr (.inr (.inl ⟨a, _, rfl, hA, true, rfl, iteF ?_⟩))⟩
  refine ⟨_, rfl, a, _, rfl, .inl hA, _, rfl, d, _, rfl, .inl hD, rfl, _, rfl, iteNS rfl ?_⟩
  refine ⟨_, rfl, d, _, rfl, .inl hD, _, rfl, by omega, by omega, for_range (lo := 0) (n := (((xs.map V.int).length : Nat) : Int).toNat)
    (fun i σ H2 => ∃ (v2 : Option V), σ = [some (.ref a), some (.ref d), v2] ∧ H2 = H) ⟨none, rfl, rfl⟩ ?_ ?_⟩
  · rintro i σ H2 hi ⟨v2, rfl, rfl⟩
    rw [hl] at hi
    have hix : atI (xs.map V.int) (0 + (i : Int)) = some (.int (xs.getD (0 + (i : Int)).toNat 0)) := atI_ints (by omega) (by omega)
    refine ⟨_, rfl, _, rfl, a, _, _, _, rfl, rfl, hA, hix, _, rfl, true, rfl, iteF ?_⟩
    refine ⟨_, rfl, _, rfl, a, _, _, _, rfl, rfl, hA, hix, _, rfl, _, rfl, d, _, _, _, rfl, rfl, hD, hix, rfl, _, rfl, iteNS rfl ?_⟩
    exact ⟨_, rfl, rfl⟩
  · rintro σ H2 ⟨v2, rfl, rfl⟩
    exact q

theorem scInB : FnScope ["_law_one", "_law_other", "_law_pair"] ["_law_one", "_law_other"] (defScope sInBoth) := ⟨rfl, rfl, rfl, by decide +kernel, rfl, by decide +kernel, by decide +kernel⟩
theorem ok_inb (B : Bl mg) (F : Fun K "_law_in_both" "_law_in_both" sInBoth f fd) : FnOk P w K mg base CX0 1 f fd ["_law_one", "_law_other"] spInBoth := by
  refine F.ok scInB (fun vs H Q E h => ?_) (fun cdv A outer s H vs Q E hr h => ?_)
  · obtain ⟨a, b, rfl, _⟩ := h
    rfl
  obtain ⟨a, b, rfl, q⟩ := h
  refine ⟨_, (pss_cons (ps_set (i := 2) scInB.nd rfl (Or.inl rfl) (pe_callB call_sorted rfl B.sorted_ bt_sorted (pa_cons (pe_lst (pa_cons (pe_callB call_abs rfl B.abs_ bt_abs (pa_cons (pv 0) pa_nil)) (pa_cons (pe_callB call_abs rfl B.abs_ bt_abs (pa_cons (pv 1) pa_nil)) pa_nil))) pa_nil)))
  (pss_cons (ps_while PassesOwn.never (pt_cmpR op_gt (pe_ix ix_list (pv 2) pe_int (fun _ _ => rfl)) pe_int (nomark _))
    (pss_one (ps_set (i := 2) scInB.nd rfl (Or.inl rfl) (pe_lst (pa_cons (pe_op op_mod (pe_ix ix_list (pv 2) pe_int (fun _ _ => rfl)) (pe_ix ix_list (pv 2) pe_int (fun _ _ => rfl))) (pa_cons (pe_ix ix_list (pv 2) pe_int (fun _ _ => rfl)) pa_nil))))))
  (pss_one (ps_ret (pe_ix ix_list (pv 2) pe_int (fun _ _ => rfl)))))), ?_⟩
  refine ⟨_, rfl, _, rfl, _, rfl, _, rfl, (by show 2 ≤ sizeLine; decide), fun p hp => ?_⟩
  refine ⟨p, [if a < 0 then -a else a, if b < 0 then -b else b], rfl, SqL.of upd_same, (by show 2 < 64; decide), fun l ms hl hpm hso => ?_⟩
  obtain ⟨x, y, rfl⟩ : ∃ x y, ms = [x, y] := by
    have := hpm.length_eq
    match ms, this with
    | [x, y], _ => exact ⟨x, y, rfl⟩
  have s1 : Same H (upd (upd H p (.lst [V.int (if a < 0 then -a else a), V.int (if b < 0 then -b else b)])) l (IL [x, y])) := (same_new hp _).trans (same_new hl _)
  have hxy : 0 ≤ x ∧ 0 ≤ y ∧ Int.gcd x y = Int.gcd a b := by
    rcases perm_two hpm with ⟨rfl, rfl⟩ | ⟨rfl, rfl⟩
    · exact ⟨abs_nn a, abs_nn b, gcd_abs a b⟩
    · exact ⟨abs_nn b, abs_nn a, by rw [Int.gcd_comm]; exact gcd_abs a b⟩
  refine while_by (fun σ H2 => ∃ (x y : Int) (l : Addr), σ = [some (.int a), some (.int b), some (.ref l)] ∧ 0 ≤ x ∧ 0 ≤ y ∧ Int.gcd x y = Int.gcd a b ∧ Same H H2 ∧ H2 l = some (IL [x, y]))
    (fun (σ : St) (H2 : Hp) => match (σ[2]? : Option (Option V)) with | some (some (V.ref l)) => (match (H2 l : Option HO) with | some (HO.lst (V.int x :: _)) => x.toNat | _ => 0) | _ => 0) ⟨x, y, l, rfl, hxy.1, hxy.2.1, hxy.2.2, s1, upd_same⟩ ?_
    (fun σ H Q Q' hq ⟨v, e, p, xs, i, w, e1, e2, hs, ha, i', j', e3, e4, k, e5, q⟩ => ⟨v, e, p, xs, i, w, e1, e2, hs, ha, i', j', e3, e4, k, e5, hq _ _ q⟩)
  rintro σ H2 ⟨x, y, l, rfl, hx, hy, hg, s2, h2⟩
  refine ⟨_, rfl, l, _, _, _, rfl, rfl, SqL.of h2, (rfl : atI ([x, y].map V.int) 0 = some (V.int x)), _, _, rfl, rfl, _, rfl, ite2 (fun c => ?_) (fun c => ?_)⟩
  · have c' : 0 < x := of_decide_eq_true c
    refine ⟨_, rfl, l, _, _, _, rfl, rfl, SqL.of h2, (rfl : atI ([x, y].map V.int) 1 = some (V.int y)), _, rfl, l, _, _, _, rfl, rfl, SqL.of h2, (rfl : atI ([x, y].map V.int) 0 = some (V.int x)), _, _, rfl, rfl, c', _, rfl, l, _, _, _, rfl, rfl, SqL.of h2, (rfl : atI ([x, y].map V.int) 0 = some (V.int x)),
      (by show 2 ≤ sizeLine; decide), fun l2 hl2 => ?_⟩
    have h3 := Int.emod_lt_of_pos y c'
    have h4 := Int.emod_nonneg y (show x ≠ 0 by omega)
    refine ⟨⟨y % x, x, l2, rfl, h4, hx, ?_, s2.trans (same_new hl2 _), upd_same⟩, ?_⟩
    · rw [Int.gcd_comm, gcd_step hy c', Int.gcd_comm, hg]
    · show (match (upd H2 l2 (.lst [V.int (y % x), V.int x]) l2 : Option HO) with | some (HO.lst (V.int x :: _)) => x.toNat | _ => 0) < (match (H2 l : Option HO) with | some (HO.lst (V.int x :: _)) => x.toNat | _ => 0)
      rw [upd_same, h2]
      show (y % x).toNat < x.toNat
      omega
  · have c' : ¬ 0 < x := of_decide_eq_false (Bool.eq_false_iff.mpr c)
    have x0 : x = 0 := by omega
    subst x0
    refine ⟨_, rfl, l, _, _, _, rfl, rfl, SqL.of h2, (rfl : atI ([0, y].map V.int) 1 = some (V.int y)), ?_⟩
    rw [Int.gcd_zero_left] at hg
    rw [← hg] at q
    have e : ((y.natAbs : Nat) : Int) = y := Int.natAbs_of_nonneg hy
    rw [e] at q
    exact q H2 s2

theorem scPro : FnScope ["_law_one", "_law_other", "_law_made", "_law_k", "_law_total", "_law_j"] ["_law_one", "_law_other"] (defScope sProduct) := ⟨rfl, rfl, rfl, by decide +kernel, rfl, by decide +kernel, by decide +kernel⟩
theorem ok_pro (B : Bl mg) (F : Fun K "_law_product" "_law_product" sProduct f fd) : FnOk P w K mg base CX0 1 f fd ["_law_one", "_law_other"] (spProduct K) := by
  refine F.ok scPro (fun vs H Q E h => ?_) (fun cdv A outer s H vs Q E hr h => ?_)
  · obtain ⟨a, b, c, o, rfl, _⟩ := h
    rfl
  obtain ⟨a, b, c, o, rfl, hA, hO, hn1, hn2, hz, hb, hb2, q⟩ := h
  refine ⟨_, (pss_cons (ps_set (i := 2) scPro.nd rfl (Or.inl rfl) (pe_lst pa_nil))
  (pss_cons (ps_for PassesOwn.never rfl (pi_range1 rfl B.range_ (pa_cons (pe_op op_sub (pe_op op_add (pe_callB call_len_seq rfl B.len_ bt_len (pa_cons (pv 0) pa_nil)) (pe_callB call_len_seq rfl B.len_ bt_len (pa_cons (pv 1) pa_nil))) pe_int) pa_nil)) (pg_name (i := 3) scPro.nd rfl (Or.inl rfl))
    (pss_cons (ps_set (i := 4) scPro.nd rfl (Or.inl rfl) pe_int)
    (pss_cons (ps_for PassesOwn.never rfl (pi_range1 rfl B.range_ (pa_cons (pe_callB call_len_seq rfl B.len_ bt_len (pa_cons (pv 0) pa_nil)) pa_nil)) (pg_name (i := 5) scPro.nd rfl (Or.inl rfl))
      (pss_one (ps_if (PW.pt (pw_and (pt_cmpR op_le pe_int (pe_op op_sub (pv 3) (pv 5)) (nomark _)) (pw_and1 (pt_cmpR op_lt (pe_op op_sub (pv 3) (pv 5)) (pe_callB call_len_seq rfl B.len_ bt_len (pa_cons (pv 1) pa_nil)) (nomark _)))))
        (pss_one (ps_set (i := 4) scPro.nd rfl (Or.inl rfl) (pe_op op_add (pv 4) (pe_op op_mulK (pe_ix ix_list (pv 0) (pv 5) (fun _ _ => rfl)) (pe_ix ix_list (pv 1) (pe_op op_sub (pv 3) (pv 5)) (fun _ _ => rfl))))))
        pss_nil)))
    (pss_one (ps_expr (pe_bm PySem.F.plainAttrs_list PySem.F.slot_list_append PySem.F.type_list_append mt_append (pv 2) (pa_cons (pv 4) pa_nil)))))))
  (pss_one (ps_ret (pv 2))))), ?_⟩
  have hl : (c.map V.int).length = c.length := List.length_map _
  have hl2 : (o.map V.int).length = o.length := List.length_map _
  have c1 := List.length_pos_iff.mpr hn1
  have o1 := List.length_pos_iff.mpr hn2
  refine ⟨Nat.zero_le _, fun r hr0 => ?_⟩
  have g0 : Same H (upd H r (.lst [])) := same_new hr0 _
  refine ⟨_, rfl, a, _, rfl, .inl (g0.seq hA), _, rfl, b, _, rfl, .inl (g0.seq hO), _, _, rfl, rfl, _, _, rfl, rfl, _, rfl, by omega, by omega, for_range (lo := 0) (n := (((((c.map V.int).length : Nat) : Int) + (((o.map V.int).length : Nat) : Int)) - 1).toNat)
    (fun i σ H2 => ∃ v3 v4 v5 : Option V, σ = [some (.ref a), some (.ref b), some (.ref r), v3, v4, v5] ∧ Same H H2 ∧ H2 r = some (IL ((List.range i).map fun t => sumTo (tmc c o t) c.length)))
    ⟨none, none, none, rfl, g0, upd_same⟩ ?_ ?_⟩
  · rintro i σ H2 hi ⟨v3, v4, v5, rfl, s2, hr2⟩
    rw [hl, hl2] at hi
    have ei : (0 + (i : Int)) = (i : Int) := by omega
    rw [ei]
    refine ⟨_, rfl, a, _, rfl, .inl (s2.seq hA), _, rfl, by omega, by omega, for_range (lo := 0) (n := ((((c.map V.int).length : Nat) : Int)).toNat)
      (fun j σ H3 => ∃ v5 : Option V, σ = [some (.ref a), some (.ref b), some (.ref r), some (.int i), some (.int (sumTo (tmc c o i) j)), v5] ∧ H3 = H2) ⟨v5, rfl, rfl⟩ ?_ ?_⟩
    · rintro j σ H3 hj ⟨w5, rfl, rfl⟩
      rw [hl] at hj
      have hj' : j < c.length := by omega
      have ej : (0 + (j : Int)) = (j : Int) := by omega
      rw [ej]
      refine ⟨_, rfl, _, rfl, _, _, rfl, rfl, _, _, rfl, rfl, _, rfl, ite2 (fun e => ?_) (fun e => ?_)⟩
      · have e' : 0 ≤ (i : Int) - (j : Int) := of_decide_eq_true e
        refine ⟨_, rfl, _, rfl, _, _, rfl, rfl, _, rfl, b, _, rfl, .inl (s2.seq hO), _, _, rfl, rfl, _, rfl, ite2 (fun e2 => ?_) (fun e2 => ?_)⟩
        · have e2' : (i : Int) - (j : Int) < (((o.map V.int).length : Nat) : Int) := of_decide_eq_true e2
          rw [hl2] at e2'
          have h1 : atI (c.map V.int) (j : Int) = some (.int (c.getD j 0)) := by
            have := atI_ints (ns := c) (k := (j : Int)) (by omega) (by omega)
            rw [show (j : Int).toNat = j by omega] at this
            exact this
          have h2 : atI (o.map V.int) ((i : Int) - (j : Int)) = some (.int (o.getD (i - j) 0)) := by
            have := atI_ints (ns := o) (k := (i : Int) - (j : Int)) (by omega) (by omega)
            rw [show ((i : Int) - (j : Int)).toNat = i - j by omega] at this
            exact this
          have bc : Bd 8000 (c.getD j 0) := hb _ (gmem hj')
          have bo : Bd 8000 (o.getD (i - j) 0) := hb2 _ (gmem (by omega))
          refine ⟨_, rfl, _, rfl, _, rfl, a, _, _, _, rfl, rfl, s2.seq hA, h1, _, rfl, _, rfl, _, rfl, _, _, rfl, rfl, b, _, _, _, rfl, rfl, s2.seq hO, h2, _, _, rfl, rfl, bc.mulOk bo, _, _, rfl, rfl, ?_⟩
          refine ⟨some (.int j), ?_, rfl⟩
          rw [sumTo_succ]
          unfold tmc
          rw [if_pos (show j ≤ i by omega)]
          rfl
        · have e2' : ¬ (i : Int) - (j : Int) < (((o.map V.int).length : Nat) : Int) := of_decide_eq_false (Bool.eq_false_iff.mpr e2)
          rw [hl2] at e2'
          refine ⟨some (.int j), ?_, rfl⟩
          rw [sumTo_succ]
          unfold tmc
          rw [if_pos (show j ≤ i by omega), getD_out (c := o) (by omega), Int.mul_zero, Int.add_zero]
          rfl
      · have e' : ¬ 0 ≤ (i : Int) - (j : Int) := of_decide_eq_false (Bool.eq_false_iff.mpr e)
        refine iteF ⟨some (.int j), ?_, rfl⟩
        rw [sumTo_succ]
        have e3 : tmc c o i j = 0 := by unfold tmc; rw [if_neg (by omega)]
        rw [e3, Int.add_zero]
        rfl
    · rintro σ H3 ⟨w5, rfl, rfl⟩
      have hz2 : (((List.range i).map fun t => sumTo (tmc c o t) c.length).map V.int).length < sizeLine := by
        rw [List.length_map, List.length_map, List.length_range]
        exact small1000 (by omega)
      refine ⟨_, rfl, .inl ⟨rfl, _, SqL.of hr2⟩, _, rfl, r, _, _, rfl, rfl, hr2, hz2, ?_⟩
      refine ⟨_, _, _, rfl, fun z ob e => ?_, ?_⟩
      · rw [upd_ne (ne_of_none e hr0)]
        exact s2 _ _ e
      · have e : Zf.sumTo (tmc c o i) ((((c.map V.int).length : Nat) : Int)).toNat = Zf.sumTo (tmc c o i) c.length := by rw [hl]; congr 1
        rw [upd_same, e, map_snoc, List.range_succ, List.map_append (l₁ := List.range i)]
        rfl
  · rintro σ H2 ⟨v3, v4, v5, rfl, s2, hr2⟩
    refine ⟨_, rfl, q r H2 hr0 s2 ?_⟩
    rw [hr2, hl, hl2, show ((((c.length : Nat) : Int) + ((o.length : Nat) : Int)) - 1).toNat = c.length + o.length - 1 by omega]
    all_goals rfl

theorem scFa : FnScope ["_law_cells", "_law_most", "_law_rows", "_law_quads", "_law_k", "_law_near", "_law_top", "_law_parts", "_law_both", "_law_factor", "_law_fresh", "_law_times"] ["_law_cells", "_law_most"] (defScope sFactors) := ⟨rfl, rfl, rfl, by decide +kernel, rfl, by decide +kernel, by decide +kernel⟩
theorem ok_factors (B : Bl mg) (F_law_in_both : FnAt P w K mg base 1 "_law_in_both" ["_law_one", "_law_other"] spInBoth) (F : Fun K "_law_factors" "_law_factors" sFactors f fd) : FnOk P w K mg base CX0 2 f fd ["_law_cells", "_law_most"] (spFactors K) := by
  refine F.ok scFa (fun vs H Q E h => ?_) (fun cdv A outer s H vs Q E hr h => ?_)
  · obtain ⟨a, cells, most, rfl, _⟩ := h
    rfl
  obtain ⟨a, cells, most, rfl, hA, hz, hmost, q⟩ := h
  have hu := hr.units0
  have hu1 : (A.deeper (PyProof.Rows.envOfC "_law_factors" (defScope sFactors) s.heap.objs.size f cdv)).units + 1 < cLine := by have := hr.units; omega
  refine ⟨_, (pss_cons (ps_set (i := 2) scFa.nd rfl (Or.inl rfl) (pe_lst pa_nil))
  (pss_cons (ps_set (i := 3) scFa.nd rfl (Or.inl rfl) pe_int)
  (pss_cons (ps_for PassesOwn.never rfl (pi_range1 rfl B.range_ (pa_cons (pe_callB (call_min2 rfl) rfl B.min_ bt_min (pa_cons pe_int (pa_cons (pe_callB call_len_seq rfl B.len_ bt_len (pa_cons (pv 0) pa_nil)) pa_nil))) pa_nil)) (pg_name (i := 4) scFa.nd rfl (Or.inl rfl))
    (pss_cons (ps_set (i := 5) scFa.nd rfl (Or.inl rfl) (pe_ix ix_list (pv 0) (pe_op op_mod (pe_op op_add (pv 4) pe_int) (pe_callB call_len_seq rfl B.len_ bt_len (pa_cons (pv 0) pa_nil))) (fun _ _ => rfl)))
    (pss_cons (ps_set (i := 6) scFa.nd rfl (Or.inl rfl) (pe_op op_sub (pe_op op_mod (pe_op op_fdivK (pe_ix ix_list (pv 0) (pv 4) (fun _ _ => rfl)) pe_int) pe_int) pe_int))
    (pss_cons (ps_J (ps_if (pt_cmpR op_eq (pe_op op_mod (pe_op op_fdivK (pe_ix ix_list (pv 0) (pv 4) (fun _ _ => rfl)) pe_int) pe_int) pe_int (nomark _))
      (pss_one (ps_set (i := 6) scFa.nd rfl (Or.inl rfl) (pe_op op_sub (pe_op op_mod (pe_op op_fdivK (pe_ix ix_list (pv 0) (pv 4) (fun _ _ => rfl)) pe_int) pe_int) pe_int)))
      pss_nil))
    (pss_cons (ps_set (i := 7) scFa.nd rfl (Or.inl rfl) (pe_op op_add pe_int (pe_op op_mod (pv 5) pe_int)))
    (pss_cons (ps_set (i := 8) scFa.nd rfl (Or.inl rfl) (pe_callF F_law_in_both hr rfl (pa_cons (pv 6) (pa_cons (pv 7) pa_nil))))
    (pss_cons (ps_set (i := 9) scFa.nd rfl (Or.inl rfl) (pe_lst (pa_cons (pe_op op_sub pe_int (pe_op op_fdivK (pv 6) (pv 8))) (pa_cons (pe_op op_fdivK (pv 7) (pv 8)) pa_nil))))
    (pss_cons (ps_J (ps_if (pt_cmpR op_eq (pe_op op_mod (pe_ix ix_list (pv 0) (pv 4) (fun _ _ => rfl)) pe_int) pe_int (nomark _))
      (pss_one (ps_set (i := 9) scFa.nd rfl (Or.inl rfl) (pe_lst (pa_cons (pe_ix ix_list (pe_lst (pa_cons (pe_un un_neg pe_int) (pa_cons (pe_un un_neg pe_int) (pa_cons (pe_un un_neg pe_int) (pa_cons (pe_un un_neg pe_int) (pa_cons (pe_un un_neg pe_int) pa_nil)))))) (pe_op op_mod (pv 5) pe_int) (fun _ _ => rfl)) (pa_cons pe_int (pa_cons pe_int pa_nil))))))
      pss_nil))
    (pss_cons (ps_J (ps_if (pt_cmpR op_eq (pe_op op_mod (pe_ix ix_list (pv 0) (pv 4) (fun _ _ => rfl)) pe_int) pe_int (nomark _))
      (pss_one (ps_set (i := 9) scFa.nd rfl (Or.inl rfl) (pe_lst (pa_cons (pe_op op_add pe_int (pe_op op_mod (pv 5) pe_int)) (pa_cons (pe_op op_sub (pe_op op_mod (pe_op op_fdivK (pv 5) pe_int) pe_int) pe_int) (pa_cons pe_int pa_nil))))))
      pss_nil))
    (pss_cons (ps_set (i := 10) scFa.nd rfl (Or.inl rfl) (pe_cmpR (op_notInL hu1) (pv 9) (pe_lc (N := []) (fr := []) (compOk (by with_unfolding_all rfl) (by decide +kernel) rfl (by decide +kernel) rfl (by decide +kernel) all0 rfl trivial rfl rfl) (pi_list (pv 2)) (fun _ _ _ _ _ => pe_ix (r := rIxT K) ix_tup (pv 0) pe_int (fun _ _ => rfl))) (by with_unfolding_all rfl)))
    (pss_cons (ps_set (i := 3) scFa.nd rfl (Or.inl rfl) (pe_op op_add (pv 3) (pe_callTy call_int1 rfl B.int_ bt_int (pa_cons (pe_cmpR op_eq (pe_callB call_len_seq rfl B.len_ bt_len (pa_cons (pv 9) pa_nil)) pe_int (nomark _)) pa_nil))))
    (pss_one (ps_if (PW.pt (pw_and (pt_val (pv 10)) (pw_and1 (PW.pt (pw_or (pt_cmpR op_eq (pe_callB call_len_seq rfl B.len_ bt_len (pa_cons (pv 9) pa_nil)) pe_int (nomark _)) (pw_or1 (pt_cmpR op_eq (pv 3) pe_int (nomark _))))))))
      (pss_cons (ps_set (i := 11) scFa.nd rfl (Or.inl rfl) (pe_op op_add pe_int (pe_op op_mod (pe_ix ix_list (pv 0) (pe_op op_mod (pe_op op_add (pv 4) pe_int) (pe_callB call_len_seq rfl B.len_ bt_len (pa_cons (pv 0) pa_nil))) (fun _ _ => rfl)) (pv 1))))
      (pss_cons (ps_J (ps_if (pt_cmpR op_eq (pe_callB call_len_seq rfl B.len_ bt_len (pa_cons (pv 9) pa_nil)) pe_int (nomark _))
        (pss_one (ps_set (i := 11) scFa.nd rfl (Or.inl rfl) pe_int))
        pss_nil))
      (pss_one (ps_expr (pe_bm PySem.F.plainAttrs_list PySem.F.slot_list_append PySem.F.type_list_append mt_append (pv 2) (pa_cons (pe_tup (pa_cons (pv 9) (pa_cons (pv 11) pa_nil))) pa_nil))))))
      pss_nil)))))))))))))
  (pss_one (ps_ret (pv 2)))))), ?_⟩
  have hl : (cells.map V.int).length = cells.length := List.length_map _
  refine ⟨Nat.zero_le _, fun r hr0 => ?_⟩
  have s1 : Same H (upd H r (.lst [])) := same_new hr0 _
  have e1 : upd H r (.lst []) r = some (.lst []) := upd_same
  generalize upd H r (.lst []) = G1 at s1 e1 ⊢
  have hn : (if (((cells.map V.int).length : Nat) : Int) < 3 then (((cells.map V.int).length : Nat) : Int) else 3).toNat ≤ cells.length ∧ (if (((cells.map V.int).length : Nat) : Int) < 3 then (((cells.map V.int).length : Nat) : Int) else 3).toNat ≤ 3 ∧ -(2 ^ 62) ≤ (if (((cells.map V.int).length : Nat) : Int) < 3 then (((cells.map V.int).length : Nat) : Int) else 3) ∧
      (if (((cells.map V.int).length : Nat) : Int) < 3 then (((cells.map V.int).length : Nat) : Int) else 3) < 2 ^ 62 := by
    rw [hl]
    split <;> omega
  refine ⟨_, rfl, a, _, rfl, .inl (s1.seq hA), _, _, rfl, _, rfl, hn.2.2.1, hn.2.2.2, for_range (lo := 0) (n := (if (((cells.map V.int).length : Nat) : Int) < 3 then (((cells.map V.int).length : Nat) : Int) else 3).toNat)
    (fun i σ H2 => ∃ (ws : List V) (rows : List (List Int × Nat)) (qd : Int) (v4 v5 v6 v7 v8 v9 v10 v11 : Option V), σ = [some (.ref a), some (.int most), some (.ref r), some (.int qd), v4, v5, v6, v7, v8, v9, v10, v11] ∧ Same H H2 ∧ H2 r = some (.lst ws) ∧ RowsAt H2 ws rows ∧ RowsOk most rows ∧ rows.length ≤ i)
    ⟨[], [], 0, none, none, none, none, none, none, none, none, rfl, s1, e1, RowsAt.nil _, ⟨fun _ h => (nomatch h), List.nodup_nil⟩, Nat.le_refl _⟩ ?_ ?_⟩
  · rintro i σ H2 hi ⟨ws, rows, qd, v4, v5, v6, v7, v8, v9, v10, v11, rfl, s2, hr2, hR, hok, hlen⟩
    have hi1 : i < cells.length := by omega
    have hi3 : i < 3 := by omega
    have ei : (0 + (i : Int)) = (i : Int) := by omega
    rw [ei]
    have ixk : atI (cells.map V.int) (i : Int) = some (.int (cells.getD i 0)) := by
      have := atI_ints (ns := cells) (k := (i : Int)) (by omega) (by omega)
      rw [this, show (i : Int).toNat = i by omega]
    have ixm : ∀ d : Int, ∃ y : Int, atI (cells.map V.int) (((i : Int) + d) % (((cells.map V.int).length : Nat) : Int)) = some (.int y) := fun d => by
      rw [hl]
      have h1 := Int.emod_nonneg ((i : Int) + d) (show ((cells.length : Nat) : Int) ≠ 0 by omega)
      have h2 := Int.emod_lt_of_pos ((i : Int) + d) (show (0 : Int) < ((cells.length : Nat) : Int) by omega)
      exact ⟨_, atI_ints h1 h2⟩
    have clen : (0 : Int) < (((cells.map V.int).length : Nat) : Int) := by rw [hl]; omega
    obtain ⟨near, hnear⟩ := ixm 1
    obtain ⟨far, hfar⟩ := ixm 2
    generalize cells.getD i 0 = cell at ixk
    have hA2 := s2.seq hA
    refine ⟨_, rfl, _, rfl, _, _, rfl, rfl, _, rfl, a, _, rfl, .inl hA2, _, _, rfl, rfl, clen, a, _, _, _, rfl, rfl, hA2, hnear, ?_⟩
    refine ⟨_, rfl, _, rfl, a, _, _, _, rfl, rfl, hA2, ixk, _, _, rfl, rfl, divLit (by decide) (by decide), _, _, rfl, rfl, (by show (0 : Int) < 13; decide), _, _, rfl, rfl, ?_⟩

    refine ⟨fun σ' H' => ∃ t6 : Int, σ' = [some (.ref a), some (.int most), some (.ref r), some (.int qd), some (.int i), some (.int near), some (.int t6), v7, v8, v9, v10, v11] ∧ H2 = H' ∧ t6.natAbs ≤ 1000, ?_, ?_⟩
    · refine ⟨_, rfl, _, rfl, a, _, _, _, rfl, rfl, hA2, ixk, _, _, rfl, rfl, divLit (by decide) (by decide), _, _, rfl, rfl, (by show (0 : Int) < 13; decide), rfl, _, rfl, ite2 (fun _ => ?_) (fun _ => ?_)⟩
      · refine ⟨_, rfl, _, rfl, a, _, _, _, rfl, rfl, hA2, ixk, _, _, rfl, rfl, divLit (by decide) (by decide), _, _, rfl, rfl, (by show (0 : Int) < 2001; decide), _, _, rfl, rfl, _, rfl, rfl, by omega⟩
      · exact ⟨_, rfl, rfl, by omega⟩
    rintro σ' H' ⟨t6, rfl, rfl, ht6⟩
    refine ⟨_, rfl, _, _, rfl, rfl, (by show (0 : Int) < 3; decide), _, _, rfl, rfl, ?_⟩
    have hp3 : 1 + near % 3 = 1 ∨ 1 + near % 3 = 2 ∨ 1 + near % 3 = 3 := by omega
    obtain ⟨g0, hfl⟩ := lin_fac ht6 hp3
    refine ⟨_, rfl, _, rfl, _, _, rfl, fun G3 s3 => ?_⟩
    have gle : ((Int.gcd t6 (1 + near % 3) : Nat) : Int) ≤ 3 := by
      have := Int.le_of_dvd (show (0 : Int) < (1 + near % 3) by omega) (Int.gcd_dvd_right (a := t6) (b := (1 + near % 3)))
      omega
    have dg : ∀ x, CDivK x ((Int.gcd t6 (1 + near % 3) : Nat) : Int) := fun x => divLit g0 (by omega)
    refine ⟨_, rfl, _, rfl, _, _, rfl, rfl, dg _, _, _, rfl, rfl, _, rfl, _, rfl, _, _, rfl, rfl, dg _, (by show 2 ≤ sizeLine; decide), fun r9 n9 => ?_⟩
    have s4 : Same G3 (upd G3 r9 (.lst [.int (0 - t6 / ((Int.gcd t6 (1 + near % 3) : Nat) : Int)), .int ((1 + near % 3) / ((Int.gcd t6 (1 + near % 3) : Nat) : Int))])) := same_new n9 _
    have e4 : upd G3 r9 (.lst [.int (0 - t6 / ((Int.gcd t6 (1 + near % 3) : Nat) : Int)), .int ((1 + near % 3) / ((Int.gcd t6 (1 + near % 3) : Nat) : Int))]) r9 = some (IL [0 - t6 / ((Int.gcd t6 (1 + near % 3) : Nat) : Int), (1 + near % 3) / ((Int.gcd t6 (1 + near % 3) : Nat) : Int)]) := upd_same
    generalize upd G3 r9 (.lst [.int (0 - t6 / ((Int.gcd t6 (1 + near % 3) : Nat) : Int)), .int ((1 + near % 3) / ((Int.gcd t6 (1 + near % 3) : Nat) : Int))]) = G4 at s4 e4 ⊢
    have s24 := s3.trans s4

    refine ⟨fun σ' H' => ∃ (r9 : Addr) (fac : List Int), σ' = [some (.ref a), some (.int most), some (.ref r), some (.int qd), some (.int i), some (.int near), some (.int t6), some (.int (1 + near % 3)), some (.int ((Int.gcd t6 (1 + near % 3) : Nat) : Int)), some (.ref r9), v10, v11] ∧ Same H2 H' ∧ H' r9 = some (IL fac) ∧ Fac fac ∧ H2 r9 = none, ?_, ?_⟩
    · refine ⟨_, rfl, _, rfl, a, _, _, _, rfl, rfl, s24.seq hA2, ixk, _, _, rfl, rfl, (by show (0 : Int) < 4; decide), rfl, _, rfl, ite2 (fun _ => ?_) (fun _ => ?_)⟩
      · refine ⟨_, rfl, _, rfl, _, rfl, _, rfl, _, rfl, (by show 5 ≤ sizeLine; decide), fun p5 n5 => ?_⟩
        have s5 : Same G4 (upd G4 p5 (.lst [.int (-2), .int (-3), .int (-5), .int (-7), .int (-8)])) := same_new n5 _
        have e5 : upd G4 p5 (.lst [.int (-2), .int (-3), .int (-5), .int (-7), .int (-8)]) p5 = some (.lst [.int (-2), .int (-3), .int (-5), .int (-7), .int (-8)]) := upd_same
        generalize upd G4 p5 (.lst [.int (-2), .int (-3), .int (-5), .int (-7), .int (-8)]) = G5 at s5 e5 ⊢
        obtain ⟨e, he, hQ⟩ : ∃ e : Int, atI ([.int (-2), .int (-3), .int (-5), .int (-7), .int (-8)] : List V) (near % 5) = some (.int e) ∧ (e, (0 : Int)) ∈ QL := by
          rcases (by omega : near % 5 = 0 ∨ near % 5 = 1 ∨ near % 5 = 2 ∨ near % 5 = 3 ∨ near % 5 = 4) with h | h | h | h | h
          · rw [h]; exact ⟨_, rfl, by decide⟩
          · rw [h]; exact ⟨_, rfl, by decide⟩
          · rw [h]; exact ⟨_, rfl, by decide⟩
          · rw [h]; exact ⟨_, rfl, by decide⟩
          · rw [h]; exact ⟨_, rfl, by decide⟩
        refine ⟨_, rfl, _, _, rfl, rfl, (by show (0 : Int) < 5; decide), p5, _, _, _, rfl, rfl, SqL.of e5, he, (by show 3 ≤ sizeLine; decide), fun r10 n10 => ?_⟩
        exact ⟨r10, [e, 0, 1], rfl, (s24.trans s5).trans (same_new n10 _), upd_same, .inr ⟨_, hQ, rfl⟩, (s24.trans s5).free n10⟩
      · exact ⟨r9, _, rfl, s24, e4, hfl, s3.free n9⟩
    rintro σ' G5 ⟨r10, fac1, rfl, s5, e5, hf1, n10⟩
    refine ⟨fun σ' H' => ∃ (r9 : Addr) (fac : List Int), σ' = [some (.ref a), some (.int most), some (.ref r), some (.int qd), some (.int i), some (.int near), some (.int t6), some (.int (1 + near % 3)), some (.int ((Int.gcd t6 (1 + near % 3) : Nat) : Int)), some (.ref r9), v10, v11] ∧ Same H2 H' ∧ H' r9 = some (IL fac) ∧ Fac fac ∧ H2 r9 = none, ?_, ?_⟩
    · refine ⟨_, rfl, _, rfl, a, _, _, _, rfl, rfl, s5.seq hA2, ixk, _, _, rfl, rfl, (by show (0 : Int) < 4; decide), rfl, _, rfl, ite2 (fun _ => ?_) (fun _ => ?_)⟩
      · refine ⟨_, rfl, _, _, rfl, rfl, (by show (0 : Int) < 3; decide), _, _, rfl, rfl, _, rfl, _, _, rfl, rfl, divLit (by decide) (by decide), _, _, rfl, rfl, (by show (0 : Int) < 3; decide), _, _, rfl, rfl, (by show 3 ≤ sizeLine; decide), fun r11 n11 => ?_⟩
        refine ⟨r11, [1 + near % 3, near / 3 % 3 - 1, 1], rfl, s5.trans (same_new n11 _), upd_same, .inr ⟨(1 + near % 3, near / 3 % 3 - 1), ?_, rfl⟩, s5.free n11⟩
        have h1 : near % 3 = 0 ∨ near % 3 = 1 ∨ near % 3 = 2 := by omega
        have h2 : near / 3 % 3 = 0 ∨ near / 3 % 3 = 1 ∨ near / 3 % 3 = 2 := by omega
        rcases h1 with h1 | h1 | h1 <;> rcases h2 with h2 | h2 | h2 <;> rw [h1, h2] <;> decide
      · exact ⟨r10, fac1, rfl, s5, e5, hf1, n10⟩
    rintro σ' G6 ⟨r9', fac, rfl, s6, e6, hfac, n9'⟩
    obtain ⟨f0, fl0, f2, f3, fb⟩ := fac_good hfac
    have hr6 := s6 _ _ hr2
    have hR6 := hR.mono s6

    have hws : ws.length ≤ 1000 := by rw [hR.1]; omega
    refine ⟨_, rfl, _, rfl, r, rfl, ⟨_, SqL.of hr6⟩, lc_list (fun v => match v with | .ref t => (match G6 t with | some (.tup (x :: _)) => x | _ => v) | v => v) (SqL.of hr6) hws ?_ ?_⟩
    · intro y v0 H5 Q2 hy s7 q2
      obtain ⟨j, hj, e⟩ := List.mem_iff_getElem.mp hy
      obtain ⟨p, hp, t, u, et, ht, hu2⟩ := hR6.get (i := j) (v := y) (by rw [List.getElem?_eq_getElem hj, e])
      subst et
      have q2' : Q2 (.ref u) H5 := by
        have : (match (V.ref t) with | .ref t => (match G6 t with | some (.tup (x :: _)) => x | _ => V.ref t) | v => v) = V.ref u := by
          show (match G6 t with | some (.tup (x :: _)) => x | _ => V.ref t) = V.ref u
          rw [ht]
        rw [this] at q2
        exact q2
      exact ⟨_, rfl, t, _, _, _, rfl, rfl, SqT.of (s7 _ _ ht), rfl, q2'⟩
    intro D G7 hD s7 hd
    have s27 := s6.trans s7
    have e7 := s7 _ _ e6
    have hr7 := s27 _ _ hr2
    have hR7 := hR.mono s27
    have hLs : Lists K G7 (ws.map fun v => match v with | .ref t => (match G6 t with | some (.tup (x :: _)) => x | _ => v) | v => v) (rows.map (·.1)) := by
      refine ⟨by rw [List.length_map, List.length_map, hR.1], fun j v ms hv hms => ?_⟩
      rw [List.getElem?_map] at hv hms
      cases hj : ws[j]? with
      | none => rw [hj] at hv; cases hv
      | some v0 =>
        rw [hj] at hv
        obtain ⟨p, hp, t, u, et, ht, hu2⟩ := hR6.get hj
        rw [hp] at hms
        cases hms
        subst et
        have e : v = .ref u := by
          have := (Option.some.inj hv).symm
          rw [this]
          show (match G6 t with | some (.tup (x :: _)) => x | _ => V.ref t) = V.ref u
          rw [ht]
        exact ⟨u, e, SqL.of (s7 _ _ hu2)⟩
    refine ⟨r9', D, fac, _, List.map (fun p : List Int × Nat => p.1) rows, rfl, rfl, SqL.of e7, SqL.of hd, hLs, ?_⟩
    refine ⟨_, rfl, _, rfl, r9', _, rfl, .inl (SqL.of e7), rfl, .inr ⟨_, rfl, _, _, rfl, rfl, ?_⟩⟩
    have hlf : (fac.map V.int).length = fac.length := List.length_map _
    have stay : ∀ (qd' : Int) (w10 : Option V), ∃ (ws : List V) (rows : List (List Int × Nat)) (qd : Int) (v4 v5 v6 v7 v8 v9 v10 v11' : Option V), [some (.ref a), some (.int most), some (.ref r), some (.int qd'), some (.int i), some (.int near), some (.int t6), some (.int (1 + near % 3)), some (.int ((Int.gcd t6 (1 + near % 3) : Nat) : Int)), some (.ref r9'), w10, v11] = [some (V.ref a), some (V.int most), some (V.ref r), some (V.int qd), v4, v5, v6, v7, v8, v9, v10, v11'] ∧ Same H G7 ∧ G7 r = some (.lst ws) ∧ RowsAt G7 ws rows ∧ RowsOk most rows ∧ rows.length ≤ i + 1 := fun qd' w10 =>
      ⟨ws, rows, qd', _, _, _, _, _, _, _, _, rfl, s2.trans s27, hr7, hR7, hok, by omega⟩
    refine ⟨_, rfl, _, rfl, ?_⟩
    by_cases hnew : fac ∉ rows.map (·.1)
    case neg =>
      rw [decide_eq_false hnew]
      exact iteF (iteF (stay _ _))
    rw [decide_eq_true hnew]
    refine iteT ⟨_, rfl, r9', _, rfl, .inl (SqL.of e7), rfl, _, rfl, ?_⟩
    refine ite2 (fun h2 => ?_) (fun h2 => ?_)
    case' refine_2 => refine ⟨_, rfl, rfl, _, rfl, ?_⟩
    case' refine_2 => refine ite2 (fun h3 => ?_) (fun h3 => ?_)
    case' refine_2.refine_2 => exact stay _ _
    all_goals
      refine ⟨_, rfl, _, rfl, _, _, rfl, rfl, _, rfl, a, _, rfl, .inl ((s2.trans s27).seq hA), _, _, rfl, rfl, clen, a, _, _, _, rfl, rfl, (s2.trans s27).seq hA, hfar, _, rfl, _, _, rfl, rfl, (by show (0 : Int) < ((most : Nat) : Int); omega), _, _, rfl, rfl, ?_⟩
      refine ⟨fun σ' H' => ∃ n : Nat, σ' = [some (.ref a), some (.int most), some (.ref r), some (.int (qd + if decide (V.int (((fac.map V.int).length : Nat) : Int) = V.int 3) = true then 1 else 0)), some (.int i), some (.int near), some (.int t6), some (.int (1 + near % 3)), some (.int ((Int.gcd t6 (1 + near % 3) : Nat) : Int)), some (.ref r9'), some (.bl true), some (.int n)] ∧ H' = G7 ∧ 1 ≤ n ∧ n ≤ most ∧ n * (fac.length - 1) ≤ most, ?_, ?_⟩
      · refine ⟨_, rfl, r9', _, rfl, .inl (SqL.of e7), rfl, _, rfl, ite2 (fun z => ?_) (fun z => ?_)⟩
        · refine ⟨1, rfl, rfl, by omega, by omega, by omega⟩
        · have hm1 := Int.emod_nonneg far (show ((most : Nat) : Int) ≠ 0 by omega)
          have hm2 := Int.emod_lt_of_pos far (show (0 : Int) < ((most : Nat) : Int) by omega)
          have hlen2 : fac.length = 2 := by
            have : fac.length ≠ 3 := fun y => z (decide_eq_true (by rw [hlf, y]; rfl))
            omega
          obtain ⟨n, hn⟩ : ∃ n : Nat, 1 + far % ((most : Nat) : Int) = n := ⟨(1 + far % ((most : Nat) : Int)).toNat, by omega⟩
          refine ⟨n, ?_, rfl, by omega, by omega, ?_⟩
          · rw [← hn]
            rfl
          · rw [hlen2]
            show n * 1 ≤ most
            omega
      · rintro σ' H' ⟨n, rfl, rfl, hn1, hn2, hn3⟩
        have hwz : ws.length < sizeLine := small1000 (by omega)
        refine ⟨_, rfl, .inl ⟨rfl, _, SqL.of hr7⟩, _, rfl, _, rfl, (by show 2 ≤ sizeLine; decide), fun t8 n8 => ?_⟩
        have s8 : Same H' (upd H' t8 (.tup [.ref r9', .int n])) := same_new n8 _
        have e8 : upd H' t8 (.tup [.ref r9', .int n]) t8 = some (.tup [.ref r9', .int n]) := upd_same
        generalize upd H' t8 (.tup [.ref r9', .int n]) = G8 at s8 e8 ⊢
        have hr8 := s8 _ _ hr7
        have r_r9 : r9' ≠ r := fun e => by rw [e] at n9'; rw [hr2] at n9'; cases n9'
        have r_t8 : t8 ≠ r := fun e => by rw [e] at n8; rw [hr7] at n8; cases n8
        refine ⟨r, _, _, rfl, rfl, hr8, hwz, ?_⟩

        have kp : ∀ b o, b ≠ r → G8 b = some o → upd G8 r (.lst (ws ++ [V.ref t8])) b = some o := fun b o hb e => by rw [upd_ne hb]; exact e
        refine ⟨ws ++ [.ref t8], rows ++ [(fac, n)], _, _, _, _, _, _, _, _, _, rfl, fun b o e => kp b o (ne_of_none e hr0) (s8 _ _ (s27 _ _ (s2 _ _ e))), upd_same, RowsAt.snoc ⟨hR.1, fun j v p h1 h2 => ?_⟩ ?_, ⟨fun p hp => ?_, ?_⟩, by rw [List.length_append]; show rows.length + 1 ≤ i + 1; omega⟩
        · obtain ⟨t, u, et, ht, hu2⟩ := hR7.2 j v p h1 h2
          have h1' : H' t ≠ some (.lst ws) := fun z => by rw [ht] at z; cases z
          refine ⟨t, u, et, kp _ _ (fun e => h1' (by rw [e]; exact hr7)) (s8 _ _ ht), ?_⟩
          by_cases hu3 : u = r
          · rw [hu3] at hu2
            rw [hr7] at hu2

            have hv : V.ref t ∈ ws := by rw [← et]; exact List.mem_of_getElem? h1
            have : (HO.lst ws) = IL p.1 := Option.some.inj hu2
            injection this with this
            rw [this] at hv
            obtain ⟨_, _, hx⟩ := List.mem_map.mp hv
            cases hx
          · exact kp _ _ hu3 (s8 _ _ hu2)
        · exact ⟨t8, r9', rfl, kp _ _ r_t8 e8, kp _ _ r_r9 (s8 _ _ e7)⟩
        · rcases List.mem_append.mp hp with hp | hp
          · exact hok.1 p hp
          · rw [List.mem_singleton.mp hp]
            exact ⟨hfac, hn1, hn2, hn3⟩
        · rw [List.map_append, List.map_singleton]
          refine List.nodup_append.mpr ⟨hok.2, (by simp), fun x hx y hy e => ?_⟩
          rw [List.mem_singleton.mp hy] at e
          rw [e] at hx
          exact hnew hx
  · rintro σ H2 ⟨ws, rows, qd, v4, v5, v6, v7, v8, v9, v10, v11, rfl, s2, hr2, hR, hok, hlen⟩
    exact ⟨_, rfl, q r H2 ws rows hr0 s2 hr2 hR hok (by omega) (by omega)⟩

theorem scBu : FnScope ["_law_rows", "_law_scale", "_law_made", "_law_factor", "_law_times", "_law_turn"] ["_law_rows", "_law_scale"] (defScope sBuilt) := ⟨rfl, rfl, rfl, by decide +kernel, rfl, by decide +kernel, by decide +kernel⟩
theorem ok_built (B : Bl mg) (F_law_product : FnAt P w K mg base 1 "_law_product" ["_law_one", "_law_other"] (spProduct K)) (F : Fun K "_law_built" "_law_built" sBuilt f fd) : FnOk P w K mg base CX0 2 f fd ["_law_rows", "_law_scale"] (spBuilt K) := by
  refine F.ok scBu (fun vs H Q E h => ?_) (fun cdv A outer s H vs Q E hr h => ?_)
  · obtain ⟨a, ws, rows, scale, rfl, _⟩ := h
    rfl
  obtain ⟨a, ws, rows, scale, rfl, hA, hR, hF, h0, hb, ht, hdg, hz, q⟩ := h
  refine ⟨_, (pss_cons (ps_set (i := 2) scBu.nd rfl (Or.inl rfl) (pe_lst (pa_cons (pv 1) pa_nil)))
  (pss_cons (ps_for PassesOwn.never rfl (pi_list (pv 0)) (pg_tup rfl (pgs_cons (pg_name (i := 3) scBu.nd rfl (Or.inl rfl)) (pgs_cons (pg_name (i := 4) scBu.nd rfl (Or.inl rfl)) pgs_nil)))
    (pss_one (ps_for PassesOwn.never rfl (pi_range1 rfl B.range_ (pa_cons (pv 4) pa_nil)) (pg_name (i := 5) scBu.nd rfl (Or.inl rfl))
      (pss_one (ps_set (i := 2) scBu.nd rfl (Or.inl rfl) (pe_callF F_law_product hr rfl (pa_cons (pv 2) (pa_cons (pv 3) pa_nil))))))))
  (pss_one (ps_ret (pv 2))))), ?_⟩
  refine ⟨_, rfl, (by show 1 ≤ sizeLine; decide), fun r hr1 => ?_⟩
  have s1 : Same H (upd H r (.lst [.int scale])) := same_new hr1 _
  have e1 : upd H r (.lst [.int scale]) r = some (IL [scale]) := upd_same
  generalize upd H r (.lst [.int scale]) = G1 at s1 e1 ⊢
  refine ⟨_, rfl, a, rfl, ⟨_, s1.seq hA⟩, for_list (K := K) (a := a) (xs := ws)
    (fun i σ H2 => ∃ (r : Addr) (c : List Int) (v3 v4 v5 : Option V), σ = [some (.ref a), some (.int scale), some (.ref r), v3, v4, v5] ∧ H r = none ∧ Same H H2 ∧ H2 r = some (IL c) ∧ Made scale (rprod (rows.take i)) (totN (rows.take i)) (degN (rows.take i)) c)
    ⟨r, [scale], none, none, none, rfl, hr1, s1, e1, Made.start h0 hb⟩ (fun i σ H2 _ ⟨_, _, _, _, _, _, _, s2, _⟩ => s2.seq hA) ?_ ?_⟩
  · rintro i v σ H2 hi ⟨r, c, v3, v4, v5, rfl, nr, s2, hr2, hm⟩
    obtain ⟨p, hp, t, u, rfl, htt, hu2⟩ := (hR.mono s2).get hi
    have hpm : p ∈ rows := List.mem_of_getElem? hp
    have hfac := hF p hpm
    obtain ⟨g0, gl, g2, g3, gb⟩ := fac_good hfac
    have ht1 := totN_take hp
    have hd1 := degN_take hp
    refine ⟨t, _, rfl, SqT.of htt, rfl, _, _, rfl, _, _, rfl, rfl, ?_⟩
    refine ⟨_, rfl, _, rfl, by omega, by omega, for_range (lo := 0) (n := ((p.2 : Nat) : Int).toNat)
      (fun j σ H3 => ∃ (r : Addr) (c : List Int) (v5 : Option V), σ = [some (.ref a), some (.int scale), some (.ref r), some (.ref u), some (.int p.2), v5] ∧ H r = none ∧ Same H2 H3 ∧ H3 r = some (IL c) ∧ Made scale (rprod (rows.take i) * co p.1 ^ j) (totN (rows.take i) + j) (degN (rows.take i) + j * (p.1.length - 1)) c)
      ⟨r, c, v5, rfl, nr, Same.refl _, hr2, ?_⟩ ?_ ?_⟩
    · have e : rprod (rows.take i) * co p.1 ^ 0 = rprod (rows.take i) := by
        show rprod (rows.take i) * 1 = _
        grind
      rw [e, Nat.zero_mul]
      exact hm
    · rintro j σ H3 hj ⟨r3, c3, w5, rfl, n3, s3, e3, m3⟩
      have hj' : j < p.2 := by omega
      have hle : (j + 1) * (p.1.length - 1) ≤ p.2 * (p.1.length - 1) := Nat.mul_le_mul_right _ (by omega)
      have hsm : (j + 1) * (p.1.length - 1) = j * (p.1.length - 1) + (p.1.length - 1) := Nat.succ_mul ..
      have ml := m3.len
      refine ⟨_, rfl, _, rfl, r3, u, c3, p.1, rfl, SqL.of e3, SqL.of (s3 _ _ hu2), m3.ne, g0, by omega, fun x hx => (m3.bd x hx).mono (by omega), fun x hx => (gb x hx).mono (by omega), fun r4 H4 n4 s4 e4 => ?_⟩
      refine ⟨r4, mulL c3 p.1, _, rfl, (s2.trans s3).free n4, s3.trans s4, e4, ?_⟩
      have mt := m3.turn hfac
      have e : rprod (rows.take i) * co p.1 ^ (j + 1) = rprod (rows.take i) * co p.1 ^ j * co p.1 := by
        show rprod (rows.take i) * (co p.1 ^ j * co p.1) = _
        grind
      rw [e, hsm, ← Nat.add_assoc, ← Nat.add_assoc]
      exact mt
    · rintro σ H3 ⟨r3, c3, w5, rfl, n3, s3, e3, m3⟩
      refine ⟨r3, c3, _, _, _, rfl, n3, s2.trans s3, e3, ?_⟩
      rw [take_snoc hp, rprod_snoc, totN_snoc, degN_snoc]
      rw [show ((p.2 : Nat) : Int).toNat = p.2 by omega] at m3
      exact m3
  · rintro σ H2 ⟨r, c, v3, v4, v5, rfl, nr, s2, hr2, hm⟩
    rw [hR.1, List.take_length] at hm
    exact ⟨_, rfl, q r H2 c nr s2 hr2 hm⟩

theorem scTO : FnScope ["_law_cell"] ["_law_cell"] (defScope sTimesOver) := ⟨rfl, rfl, rfl, by decide +kernel, rfl, by decide +kernel, by decide +kernel⟩
theorem ok_timesover (F : Fun K "_law_times_over" "_law_times_over" sTimesOver f fd) : FnOk P w K mg base CX0 1 f fd ["_law_cell"] spTimesOver := by
  refine F.ok scTO (fun vs H Q E h => ?_) (fun cdv A outer s H vs Q E hr h => ?_)
  · obtain ⟨c, rfl, _⟩ := h
    rfl
  obtain ⟨c, rfl, q⟩ := h
  refine ⟨_, (pss_one (ps_ret (pe_ix ix_list (pe_lst (pa_cons pe_int (pa_cons (pe_un un_neg pe_int) (pa_cons pe_int (pa_cons (pe_un un_neg pe_int) (pa_cons (pe_op op_pow pe_int pe_int) (pa_cons (pe_un un_neg pe_int) pa_nil))))))) (pe_op op_mod (pv 0) pe_int) (fun _ _ => rfl)))), ?_⟩
  refine ⟨_, rfl, _, rfl, _, _, rfl, rfl, ⟨by decide, by decide, by decide⟩, _, rfl, (by show 6 ≤ sizeLine; decide), fun p hp => ?_⟩
  obtain ⟨e, he, h0, hb⟩ : ∃ e : Int, atI ([.int 1, .int (-1), .int 2, .int (-3), .int (10 ^ (9 : Int).toNat), .int (-1)] : List V) (c % 6) = some (.int e) ∧ e ≠ 0 ∧ Bd 31 e := by
    rcases (by omega : c % 6 = 0 ∨ c % 6 = 1 ∨ c % 6 = 2 ∨ c % 6 = 3 ∨ c % 6 = 4 ∨ c % 6 = 5) with h | h | h | h | h | h
    · rw [h]; exact ⟨_, rfl, by decide, Bd.of_le 1000000000 (by decide) (by decide)⟩
    · rw [h]; exact ⟨_, rfl, by decide, Bd.of_le 1000000000 (by decide) (by decide)⟩
    · rw [h]; exact ⟨_, rfl, by decide, Bd.of_le 1000000000 (by decide) (by decide)⟩
    · rw [h]; exact ⟨_, rfl, by decide, Bd.of_le 1000000000 (by decide) (by decide)⟩
    · rw [h]; exact ⟨_, rfl, by decide, Bd.of_le 1000000000 (by decide) (by decide)⟩
    · rw [h]; exact ⟨_, rfl, by decide, Bd.of_le 1000000000 (by decide) (by decide)⟩
  exact ⟨_, rfl, _, _, rfl, rfl, (by show (0 : Int) < 6; decide), p, _, _, _, rfl, rfl, SqL.of upd_same, he, q _ _ (same_new hp _) h0 hb⟩

theorem scCC : FnScope ["curve"] ["curve"] (defScope sCheckCurve) := ⟨rfl, rfl, rfl, by decide +kernel, rfl, by decide +kernel, by decide +kernel⟩
theorem ok_cc (B : Bl mg) (F : Fun K "check_curve" "check_curve" sCheckCurve f fd) : FnOk P w K mg base CX0 1 f fd ["curve"] (spCheckCurve K) := by
  refine F.ok scCC (fun vs H Q E h => ?_) (fun cdv A outer s H vs Q E hr h => ?_)
  · obtain ⟨a, c, rfl, _⟩ := h
    rfl
  obtain ⟨a, c, rfl, hA, hg, q⟩ := h
  refine ⟨_, (pss_one (ps_if (PW.pt (pw_and (pt_cmpR op_gt (pe_callB call_len_seq rfl B.len_ bt_len (pa_cons (pv 0) pa_nil)) pe_int (nomark _)) (pw_and1 (pt_cmpR op_eq (pe_ix ix_list (pv 0) (pe_un un_neg pe_int) (fun _ _ => rfl)) pe_int (nomark _)))))
    (pss_one (ps_never))
    pss_nil)), ?_⟩
  have hl : (c.map V.int).length = c.length := List.length_map _
  refine ⟨_, rfl, a, _, rfl, .inl hA, _, _, rfl, rfl, _, rfl, ?_⟩
  refine ite2 (fun e => ?_) (fun e => ?_)
  · have e' : (0 : Int) < (((c.map V.int).length : Nat) : Int) := of_decide_eq_true e
    rw [hl] at e'
    have hne : c ≠ [] := fun z => by rw [z] at e'; exact absurd e' (by decide)
    refine ⟨_, rfl, _, rfl, a, _, _, _, rfl, rfl, hA, atI_last_ints hne, rfl, _, rfl, ?_⟩
    refine ite2 (fun z => ?_) (fun z => q)
    have z' := of_decide_eq_true z
    injection z' with z'
    exact absurd z' (hg hne)
  · exact iteF q

theorem scNN : FnScope ["curve"] ["curve"] (defScope sCheckNN) := ⟨rfl, rfl, rfl, by decide +kernel, rfl, by decide +kernel, by decide +kernel⟩
theorem ok_nn (B : Bl mg) (F : Fun K "check_not_nought" "check_not_nought" sCheckNN f fd) : FnOk P w K mg base CX0 1 f fd ["curve"] (spCheckNN K) := by
  refine F.ok scNN (fun vs H Q E h => ?_) (fun cdv A outer s H vs Q E hr h => ?_)
  · obtain ⟨a, c, rfl, _⟩ := h
    rfl
  obtain ⟨a, c, rfl, hA, hne, q⟩ := h
  refine ⟨_, (pss_one (ps_if (pt_cmpR op_eq (pe_callB call_len_seq rfl B.len_ bt_len (pa_cons (pv 0) pa_nil)) pe_int (nomark _))
    (pss_one (ps_never))
    pss_nil)), ?_⟩
  refine ⟨_, rfl, a, _, rfl, .inl hA, rfl, _, rfl, ite2 (fun z => ?_) (fun z => q)⟩
  have z' := of_decide_eq_true z
  injection z' with z'
  rw [List.length_map] at z'
  exact absurd (List.eq_nil_of_length_eq_zero (by omega)) hne

theorem scCP : FnScope ["place"] ["place"] (defScope sCheckPlace) := ⟨rfl, rfl, rfl, by decide +kernel, rfl, by decide +kernel, by decide +kernel⟩
theorem ok_cp (F : Fun K "check_place" "check_place" sCheckPlace f fd) : FnOk P w K mg base CX0 1 f fd ["place"] (spCheckPlace K) := by
  refine F.ok scCP (fun vs H Q E h => ?_) (fun cdv A outer s H vs Q E hr h => ?_)
  · obtain ⟨d, p, q, rfl, _⟩ := h
    rfl
  obtain ⟨d, p, q, rfl, hD, hq, k⟩ := h
  refine ⟨_, (pss_one (ps_if (pt_cmpR op_lt (pe_ix ix_tup (pv 0) pe_int (fun _ _ => rfl)) pe_int (nomark _))
    (pss_one (ps_never))
    pss_nil)), ?_⟩
  refine ⟨_, rfl, d, _, _, _, rfl, rfl, hD, rfl, _, _, rfl, rfl, _, rfl, ?_⟩
  refine ite2 (fun z => ?_) (fun z => k)
  exact absurd (of_decide_eq_true z) (by omega)

theorem scSO : FnScope ["number"] ["number"] (defScope sSignOf) := ⟨rfl, rfl, rfl, by decide +kernel, rfl, by decide +kernel, by decide +kernel⟩
theorem ok_so (F : Fun K "sign_of" "sign_of" sSignOf f fd) : FnOk P w K mg base CX0 1 f fd ["number"] spSignOf := by
  refine F.ok scSO (fun vs H Q E h => ?_) (fun cdv A outer s H vs Q E hr h => ?_)
  · obtain ⟨n, rfl, _⟩ := h
    rfl
  obtain ⟨n, rfl, q⟩ := h
  refine ⟨_, (pss_cons (ps_if (pt_cmpR op_gt (pv 0) pe_int (nomark _))
    (pss_one (ps_ret pe_int))
    pss_nil)
  (pss_cons (ps_if (pt_cmpR op_lt (pv 0) pe_int (nomark _))
    (pss_one (ps_ret (pe_un un_neg pe_int)))
    pss_nil)
  (pss_one (ps_ret pe_int)))), ?_⟩
  unfold sgn at q
  refine ⟨_, rfl, _, _, rfl, rfl, _, rfl, ite2 (fun z => ?_) (fun z => ?_)⟩
  · have z' : 0 < n := of_decide_eq_true z
    rw [if_pos z'] at q
    exact q
  · have z' : ¬ 0 < n := of_decide_eq_false (Bool.eq_false_iff.mpr z)
    rw [if_neg z'] at q
    refine ⟨_, rfl, _, _, rfl, rfl, _, rfl, ite2 (fun y => ?_) (fun y => ?_)⟩
    · have y' : n < 0 := of_decide_eq_true y
      rw [if_pos y'] at q
      exact ⟨_, rfl, q⟩
    · have y' : ¬ n < 0 := of_decide_eq_false (Bool.eq_false_iff.mpr y)
      rw [if_neg y'] at q
      exact q

theorem scSA : FnScope ["curve", "place", "value", "scale", "at"] ["curve", "place"] (defScope sSignAt) := ⟨rfl, rfl, rfl, by decide +kernel, rfl, by decide +kernel, by decide +kernel⟩
theorem ok_saS (B : Bl mg) (F_check_curve : FnAt P w K mg base 1 "check_curve" ["curve"] (spCheckCurve K)) (F_check_place : FnAt P w K mg base 1 "check_place" ["place"] (spCheckPlace K)) (F_sign_of : FnAt P w K mg base 1 "sign_of" ["number"] spSignOf)
    (F : Fun K "sign_at" "sign_at" sSignAt f fd) : FnOk P w K mg base CX0 2 f fd ["curve", "place"] (spSignAtS K) := by
  refine F.ok scSA (fun vs H Q E h => ?_) (fun cdv A outer s H vs Q E hr h => ?_)
  · obtain ⟨a, d, c, p, q, B0, rfl, _⟩ := h
    rfl
  obtain ⟨a, d, c, p, q, B0, rfl, hA, hD, hz, hb, hp, hq, hB0, hg, h0, k⟩ := h
  refine ⟨_, (pss_cons (ps_expr (pe_callF F_check_curve hr rfl (pa_cons (pv 0) pa_nil)))
  (pss_cons (ps_expr (pe_callF F_check_place hr rfl (pa_cons (pv 1) pa_nil)))
  (pss_cons (ps_set (i := 2) scSA.nd rfl (Or.inl rfl) pe_int)
  (pss_cons (ps_set (i := 3) scSA.nd rfl (Or.inl rfl) pe_int)
  (pss_cons (ps_for PassesOwn.never rfl (pi_range3 rfl B.range_ (pa_cons (pe_op op_sub (pe_callB call_len_seq rfl B.len_ bt_len (pa_cons (pv 0) pa_nil)) pe_int) (pa_cons (pe_un un_neg pe_int) (pa_cons (pe_un un_neg pe_int) pa_nil)))) (pg_name (i := 4) scSA.nd rfl (Or.inl rfl))
    (pss_cons (ps_set (i := 2) scSA.nd rfl (Or.inl rfl) (pe_op op_add (pe_op op_mulK (pv 2) (pe_ix ix_tup (pv 1) pe_int (fun _ _ => rfl))) (pe_op op_mulK (pe_ix ix_list (pv 0) (pv 4) (fun _ _ => rfl)) (pv 3))))
    (pss_one (ps_set (i := 3) scSA.nd rfl (Or.inl rfl) (pe_op op_mulK (pv 3) (pe_ix ix_tup (pv 1) pe_int (fun _ _ => rfl)))))))
  (pss_one (ps_ret (pe_callF F_sign_of hr rfl (pa_cons (pv 2) pa_nil))))))))), ?_⟩
  have hl : (c.map V.int).length = c.length := List.length_map _
  have hp' := hp
  have hq' := hq
  refine ⟨_, rfl, a, c, rfl, hA, hg, ?_⟩
  refine ⟨_, rfl, d, p, q, rfl, hD, h0, ?_⟩
  refine ⟨_, rfl, a, _, rfl, .inl hA, _, _, rfl, rfl, _, rfl, _, rfl, _, _, rfl, ⟨by omega, by omega, by omega, by omega⟩, for_down (hi := (((c.map V.int).length : Nat) : Int) - 1) (n := ((((c.map V.int).length : Nat) : Int) - 1 - -1).toNat)
    (fun i σ H2 => ∃ (v4 : Option V), σ = [some (.ref a), some (.ref d), some (.int (hv p q (c.drop (c.length - i)))), some (.int (q ^ i)), v4] ∧ H2 = H) ⟨none, ?_, rfl⟩ ?_ ?_⟩
  · rw [Nat.sub_zero, List.drop_length, Int.pow_zero]
    rfl
  · rintro i σ H2 hi ⟨v4, rfl, rfl⟩
    rw [hl] at hi
    have hi' : i < c.length := by omega
    have hix : atI (c.map V.int) ((((c.map V.int).length : Nat) : Int) - 1 - (i : Int)) = some (.int (c.getD (c.length - 1 - i) 0)) := by
      rw [hl]
      have := atI_ints (ns := c) (k := ((c.length : Nat) : Int) - 1 - (i : Int)) (by omega) (by omega)
      rw [show (((c.length : Nat) : Int) - 1 - (i : Int)).toNat = c.length - 1 - i by omega] at this
      exact this
    have hx : Bd B0 (c.getD (c.length - 1 - i) 0) := hb _ (gmem (by omega))
    have hv1 : Bd ((B0 + 3) * (c.drop (c.length - i)).length + 1) (hv p q (c.drop (c.length - i))) := hv_bd hp' hq' fun x hx => hb x (List.mem_of_mem_drop hx)
    have hld : (c.drop (c.length - i)).length = i := by rw [List.length_drop]; omega
    rw [hld] at hv1
    have hq2 := hq.pow i
    have hm1 : (B0 + 3) * i ≤ 1000003 * 64 := Nat.mul_le_mul (by omega) (by omega)
    have hm2 : B0 * i ≤ 1000000 * 64 := Nat.mul_le_mul (by omega) (by omega)
    have e1 : c.length - (i + 1) = c.length - 1 - i := by omega
    have e2 : c.length - 1 - i + 1 = c.length - i := by omega
    have e3 : c.length - 1 - (c.length - 1 - i) = i := by omega
    have step := hv_drop p q c (i := c.length - 1 - i) (by omega)
    rw [e2, e3] at step
    refine ⟨_, rfl, _, rfl, d, _, _, _, rfl, rfl, hD, rfl, _, _, rfl, rfl, hv1.mulOkS hp', _, rfl, _, rfl, a, _, _, _, rfl, rfl, hA, hix, _, rfl, _, _, rfl, rfl, hx.mulOkS hq2, _, _, rfl, rfl, ?_⟩
    refine ⟨_, rfl, _, rfl, d, _, _, _, rfl, rfl, hD, rfl, _, _, rfl, rfl, hq2.mulOkS hq, ?_⟩
    refine ⟨some (.int ((((c.map V.int).length : Nat) : Int) - 1 - (i : Int))), ?_, rfl⟩
    rw [e1, step, Int.pow_succ]
    rfl
  · rintro σ H2 ⟨v4, rfl, rfl⟩
    refine ⟨_, rfl, _, rfl, ?_⟩
    have e : c.length - ((((c.map V.int).length : Nat) : Int) - 1 - -1).toNat = 0 := by rw [hl]; omega
    rw [e, List.drop_zero]
    exact k

theorem scSlope : FnScope ["curve"] ["curve"] (defScope sSlope) := ⟨rfl, rfl, rfl, by decide +kernel, rfl, by decide +kernel, by decide +kernel⟩
theorem ok_slope (B : Bl mg) (F_check_curve : FnAt P w K mg base 1 "check_curve" ["curve"] (spCheckCurve K)) (F : Fun K "slope" "slope" sSlope f fd) : FnOk P w K mg base CX0 2 f fd ["curve"] (spSlope K) := by
  refine F.ok scSlope (fun vs H Q E h => ?_) (fun cdv A outer s H vs Q E hr h => ?_)
  · obtain ⟨a, c, rfl, _⟩ := h
    rfl
  obtain ⟨a, c, rfl, hS, hg, hz, q⟩ := h
  refine ⟨_, (pss_cons (ps_expr (pe_callF F_check_curve hr rfl (pa_cons (pv 0) pa_nil)))
  (pss_one (ps_ret (pe_lc (N := ["curve"]) (fr := [0]) (compOk (by with_unfolding_all rfl) (by decide +kernel) rfl (by decide +kernel) rfl (by decide +kernel) (allC rfl all0) rfl ⟨⟨rfl, rfl, rfl⟩, trivial⟩ rfl rfl)
    (pi_range2 rfl B.range_ (pa_cons pe_int (pa_cons (pe_callB call_len_seq rfl B.len_ bt_len (pa_cons (pv 0) pa_nil)) pa_nil)))
    (fun _ _ _ _ _ => pe_op op_mulK (pv 0) (pe_ix (r := rIxL K) ix_list (pv 1) (pv 0) (fun _ _ => rfl))))))), ?_⟩
  have hl : (c.map V.int).length = c.length := List.length_map _
  refine ⟨_, rfl, a, c, rfl, hS, hg, ?_⟩
  refine ⟨_, rfl, a, _, rfl, .inl hS, _, _, rfl, ⟨by omega, by omega, by omega, by omega⟩, lc_range (fun i => .int ((1 + (i : Int)) * c.getD (i + 1) 0)) (by rw [hl]; omega) ?_ ?_⟩
  · intro i v0 H2 Q2 hi s2 q2
    rw [hl] at hi
    have hix : atI (c.map V.int) (1 + (i : Int)) = some (.int (c.getD (i + 1) 0)) := by
      have := atI_ints (ns := c) (k := 1 + (i : Int)) (by omega) (by omega)
      rw [show (1 + (i : Int)).toNat = i + 1 by omega] at this
      exact this
    refine ⟨_, rfl, _, rfl, _, rfl, a, _, _, _, rfl, rfl, s2.seq hS, hix, _, _, rfl, rfl, IntMulOk.of_left (intBits_le_64 (by omega) (by omega)), q2⟩
  · intro D H' hD s2 hd
    refine q D H' hD s2 ?_
    rw [hd]
    congr 2
    rw [hl]
    unfold slopeL
    rw [List.map_map, show (((c.length : Nat) : Int) - 1).toNat = c.length - 1 by omega]
    rfl

theorem scGib : FnScope ["first", "second", "high", "low", "rest"] ["first", "second"] (defScope sGib) := ⟨rfl, rfl, rfl, by decide +kernel, rfl, by decide +kernel, by decide +kernel⟩
theorem ok_gib (B : Bl mg) (F : Fun K "greatest_in_both" "greatest_in_both" sGib f fd) : FnOk P w K mg base CX0 1 f fd ["first", "second"] spGib := by
  refine F.ok scGib (fun vs H Q E h => ?_) (fun cdv A outer s H vs Q E hr h => ?_)
  · obtain ⟨a, b, rfl, _⟩ := h
    rfl
  obtain ⟨a, b, rfl, q⟩ := h
  refine ⟨_, (pss_cons (ps_set (i := 2) scGib.nd rfl (Or.inl rfl) (pe_callB call_abs rfl B.abs_ bt_abs (pa_cons (pv 0) pa_nil)))
  (pss_cons (ps_set (i := 3) scGib.nd rfl (Or.inl rfl) (pe_callB call_abs rfl B.abs_ bt_abs (pa_cons (pv 1) pa_nil)))
  (pss_cons (ps_while PassesOwn.never (pt_cmpR op_gt (pv 3) pe_int (nomark _))
    (pss_cons (ps_set (i := 4) scGib.nd rfl (Or.inl rfl) (pe_op op_mod (pv 2) (pv 3)))
    (pss_cons (ps_set (i := 2) scGib.nd rfl (Or.inl rfl) (pv 3))
    (pss_one (ps_set (i := 3) scGib.nd rfl (Or.inl rfl) (pv 4))))))
  (pss_one (ps_ret (pv 2)))))), ?_⟩
  refine ⟨_, rfl, _, rfl, ?_⟩
  refine ⟨_, rfl, _, rfl, ?_⟩
  refine while_by (fun σ H2 => ∃ (x y : Int) (v4 : Option V), σ = [some (.int a), some (.int b), some (.int x), some (.int y), v4] ∧ 0 ≤ x ∧ 0 ≤ y ∧ Int.gcd x y = Int.gcd a b ∧ H2 = H)
    (fun (σ : St) (_ : Hp) => match (σ[3]? : Option (Option V)) with | some (some (V.int y)) => y.toNat | _ => 0) ⟨_, _, none, rfl, abs_nn a, abs_nn b, gcd_abs a b, rfl⟩ ?_ (fun σ H Q Q' hq ⟨v, e, i, j, e1, e2, k, e3, q⟩ => ⟨v, e, i, j, e1, e2, k, e3, hq _ _ q⟩)
  rintro σ H2 ⟨x, y, v4, rfl, hx, hy, hg, rfl⟩
  refine ⟨_, rfl, _, _, rfl, rfl, _, rfl, ite2 (fun c => ?_) (fun c => ?_)⟩
  · have c' : 0 < y := of_decide_eq_true c
    refine ⟨_, rfl, _, rfl, _, _, rfl, rfl, c', ?_⟩
    refine ⟨_, rfl, _, rfl, ⟨y, x % y, _, rfl, hy, Int.emod_nonneg x (by omega), by rw [gcd_step hx c', hg], rfl⟩, ?_⟩
    have h2 := Int.emod_lt_of_pos x c'
    have h3 := Int.emod_nonneg x (show y ≠ 0 by omega)
    show (x % y).toNat < y.toNat
    omega
  · have c' : ¬ 0 < y := of_decide_eq_false (Bool.eq_false_iff.mpr c)
    have y0 : y = 0 := by omega
    subst y0
    refine ⟨_, rfl, ?_⟩
    rw [Int.gcd_zero_right] at hg
    rw [← hg] at q
    have e : ((x.natAbs : Nat) : Int) = x := Int.natAbs_of_nonneg hx
    rw [e] at q
    exact q

theorem scPlain : FnScope ["curve", "divisor", "number"] ["curve"] (defScope sPlain) := ⟨rfl, rfl, rfl, by decide +kernel, rfl, by decide +kernel, by decide +kernel⟩
theorem ok_plainS (hN : base.NoSeer) (hT : P.given.tree = none) (F_check_curve : FnAt P w K mg base 1 "check_curve" ["curve"] (spCheckCurve K)) (F_greatest_in_both : FnAt P w K mg base 1 "greatest_in_both" ["first", "second"] spGib) (F : Fun K "plain" "plain" sPlain f fd) :
    FnOk P w K mg base CX0 40 f fd ["curve"] (spPlainS K) := by
  refine F.ok scPlain (fun vs H Q E h => ?_) (fun cdv A outer s H vs Q E hr h => ?_)
  · obtain ⟨a, c, rfl, _⟩ := h
    rfl
  obtain ⟨a, c, rfl, hS, hg, hz, q⟩ := h
  have hdp : (A.deeper (PyProof.Rows.envOfC "plain" (defScope sPlain) s.heap.objs.size f cdv)).depth + 100 < recursionLimit := by have := hr.dp; omega
  refine ⟨_, (pss_cons (ps_expr (pe_callF F_check_curve hr rfl (pa_cons (pv 0) pa_nil)))
  (pss_cons (ps_set (i := 1) scPlain.nd rfl (Or.inr rfl) pe_int)
  (pss_cons (ps_for PassesOwn.never rfl (pi_list (pv 0)) (pg_name (i := 2) scPlain.nd rfl (Or.inl rfl))
    (pss_one (ps_set (i := 1) scPlain.nd rfl (Or.inr rfl) (pe_callF F_greatest_in_both hr rfl (pa_cons (pv 2) (pa_cons (pv 1) pa_nil))))))
  (pss_one (ps_ret (pe_lc (N := ["divisor"]) (fr := [1]) (compOk (by with_unfolding_all rfl) (by decide +kernel) rfl (by decide +kernel) rfl (by decide +kernel) (allC rfl all0) rfl ⟨⟨rfl, rfl, rfl⟩, trivial⟩ rfl rfl)
    (pi_list (pv 0)) (fun _ _ _ _ _ => pe_op (op_fdivS hN hT rfl rfl rfl rfl rfl hdp) (pv 0) (pv 1)))))))), ?_⟩
  have hl : (c.map V.int).length = c.length := List.length_map _
  refine ⟨_, rfl, a, c, rfl, hS, hg, ?_⟩
  refine ⟨_, rfl, a, rfl, ⟨_, hS⟩, for_list (K := K) (a := a) (xs := c.map V.int) (fun i σ H2 => ∃ v2 : Option V, σ = [some (.ref a), some (.int (ct (c.take i))), v2] ∧ H2 = H) ⟨none, rfl, rfl⟩ (fun i σ H2 _ ⟨_, _, e⟩ => by rw [e]; exact hS) ?_ ?_⟩
  · rintro i y σ H2 hi ⟨v2, rfl, rfl⟩
    have hil : i < (c.map V.int).length := (List.getElem?_eq_some_iff.mp hi).1
    rw [hl] at hil
    have hy : y = .int (c.getD i 0) := by
      rw [List.getElem?_map, List.getElem?_eq_getElem hil] at hi
      rw [List.getD_eq_getElem?_getD, List.getElem?_eq_getElem hil]
      exact (Option.some.inj hi).symm
    subst hy
    refine ⟨_, rfl, _, rfl, _, _, rfl, ?_⟩
    refine ⟨some (.int (c.getD i 0)), ?_, rfl⟩
    rw [ct_take c hil, Int.gcd_comm]
    rfl
  · rintro σ H2 ⟨v2, rfl, rfl⟩
    rw [hl, List.take_length]
    refine ⟨_, rfl, a, rfl, ⟨_, hS⟩, lc_list (onInt (· / ct c)) hS (by rw [hl]; exact hz) ?_ ?_⟩
    · intro y v0 H3 Q2 hy s2 q2
      obtain ⟨n, hn, rfl⟩ := List.mem_map.mp hy
      have hne : c ≠ [] := fun z => by rw [z] at hn; cases hn
      have hc := good_ct hg hne
      exact ⟨_, rfl, _, rfl, _, _, rfl, rfl, hc, q2⟩
    · intro D H' hD s2 hd
      refine q D H' hD s2 ?_
      rw [hd, map_onInt]
      rfl

theorem scTaken : FnScope ["numbers", "other", "factor", "shift", "rest", "power", "number"] ["numbers", "other", "factor", "shift"] (defScope sTaken) := ⟨rfl, rfl, rfl, by decide +kernel, rfl, by decide +kernel, by decide +kernel⟩
theorem ok_takenS (B : Bl mg) (F : Fun K "taken_off" "taken_off" sTaken f fd) : FnOk P w K mg base CX0 1 f fd ["numbers", "other", "factor", "shift"] (spTakenS K) := by
  refine F.ok scTaken (fun vs H Q E h => ?_) (fun cdv A outer s H vs Q E hr h => ?_)
  · obtain ⟨a, b, num, o, k, s, m, n, rfl, _⟩ := h
    rfl
  obtain ⟨a, b, num, o, k, sh, m, n, rfl, hA, hO, h0, hs, hz, bk, bo, hmn, q⟩ := h
  refine ⟨_, (pss_cons (ps_set (i := 4) scTaken.nd rfl (Or.inl rfl) (pe_callTy call_list_of rfl B.list_ bt_list (pa_cons (pv 0) pa_nil)))
  (pss_cons (ps_for PassesOwn.never rfl (pi_enum rfl B.enumerate_ (pa_cons (pv 1) pa_nil)) (pg_tup rfl (pgs_cons (pg_name (i := 5) scTaken.nd rfl (Or.inl rfl)) (pgs_cons (pg_name (i := 6) scTaken.nd rfl (Or.inl rfl)) pgs_nil)))
    (pss_one (ps_asg (pe_op op_sub (pe_ix ix_list (pv 4) (pe_op op_add (pv 3) (pv 5)) (fun _ _ => rfl)) (pe_op op_mulK (pv 2) (pv 6))) (pg_sub (pv 4) (pe_op op_add (pv 3) (pv 5)) set_list))))
  (pss_one (ps_ret (pv 4))))), ?_⟩
  obtain ⟨s, rfl⟩ : ∃ s : Nat, sh = s := ⟨sh.toNat, by omega⟩
  have es : ((s : Nat) : Int).toNat = s := by omega
  rw [es] at hs q
  have hl2 : (o.map V.int).length = o.length := List.length_map _
  refine ⟨_, rfl, a, _, rfl, .inl hA, fun r hr1 => ?_⟩
  have s1 : Same H (upd H r (.lst (num.map V.int))) := same_new hr1 _
  have e1 : upd H r (.lst (num.map V.int)) r = some (IL (offL num o k s 0)) := by rw [upd_same, off_zero]
  generalize upd H r (.lst (num.map V.int)) = G1 at s1 e1 ⊢
  refine ⟨_, rfl, b, rfl, ⟨_, s1.seq hO⟩, for_enum (K := K) (a := b) (xs := o.map V.int)
    (fun j σ H3 => ∃ v5 v6 : Option V, σ = [some (.ref a), some (.ref b), some (.int k), some (.int s), some (.ref r), v5, v6] ∧ Same H H3 ∧ H3 r = some (IL (offL num o k s j)))
    ⟨none, none, rfl, s1, e1⟩ (fun j σ H3 _ ⟨_, _, _, s4, _⟩ => s4.seq hO) ?_ ?_⟩
  · rintro j y σ H3 u hj ⟨w5, w6, rfl, s4, hr3⟩ hu
    have hjl : j < (o.map V.int).length := (List.getElem?_eq_some_iff.mp hj).1
    rw [hl2] at hjl
    have hy : y = .int (o.getD j 0) := by
      rw [List.getElem?_map, List.getElem?_eq_getElem hjl] at hj
      rw [List.getD_eq_getElem?_getD, List.getElem?_eq_getElem hjl]
      exact (Option.some.inj hj).symm
    subst hy
    have s5 : Same H3 (upd H3 u (.tup [.int j, .int (o.getD j 0)])) := same_new hu _
    have hr4 := s5 _ _ hr3
    have hlen : (offL num o k s j).length = num.length := off_length ..
    have hix : atI ((offL num o k s j).map V.int) ((s : Int) + (j : Int)) = some (.int ((offL num o k s j).getD (s + j) 0)) := by
      have := atI_ints (ns := offL num o k s j) (k := (s : Int) + (j : Int)) (by omega) (by rw [hlen]; omega)
      rw [this, show ((s : Int) + (j : Int)).toNat = s + j by omega]
    have hset : ixN ((offL num o k s j).map V.int).length ((s : Int) + (j : Int)) = some (s + j) := by
      unfold ixN
      rw [if_pos (by omega), if_pos (by rw [List.length_map, hlen]; omega)]
      congr 1
      all_goals omega
    refine ⟨u, _, rfl, SqT.of upd_same, rfl, _, _, rfl, _, _, rfl, rfl, ?_⟩
    refine ⟨_, rfl, _, rfl, _, rfl, _, _, rfl, rfl, r, _, _, _, rfl, rfl, SqL.of hr4, hix, _, rfl, _, rfl, _, _, rfl, rfl, bk.mulOkS (bo _ (gmem hjl)) hmn, _, _, rfl, rfl, ?_⟩
    refine ⟨_, rfl, _, rfl, _, rfl, _, _, rfl, rfl, r, _, _, _, rfl, rfl, hr4, hset, ?_⟩
    refine ⟨_, _, rfl, fun z ob e => ?_, ?_⟩
    · rw [upd_ne (ne_of_none e hr1)]
      exact s5 _ _ (s4 _ _ e)
    · rw [upd_same, map_set, off_step num o k s j (by omega)]
  · rintro σ H3 ⟨w5, w6, rfl, s4, hr3⟩
    rw [hl2] at hr3
    exact ⟨_, rfl, q r H3 hr1 s4 hr3⟩

theorem scTrim : FnScope ["numbers", "end"] ["numbers"] (defScope sTrimmed) := ⟨rfl, rfl, rfl, by decide +kernel, rfl, by decide +kernel, by decide +kernel⟩
theorem ok_trimmed (B : Bl mg) (F : Fun K "trimmed" "trimmed" sTrimmed f fd) : FnOk P w K mg base CX0 1 f fd ["numbers"] (spTrimmed K) := by
  refine F.ok scTrim (fun vs H Q E h => ?_) (fun cdv A outer s H vs Q E hr h => ?_)
  · obtain ⟨a, xs, rfl, _⟩ := h
    rfl
  obtain ⟨a, xs, rfl, hA, hz, q⟩ := h
  refine ⟨_, (pss_cons (ps_set (i := 1) scTrim.nd rfl (Or.inl rfl) (pe_callB call_len_seq rfl B.len_ bt_len (pa_cons (pv 0) pa_nil)))
  (pss_cons (ps_while PassesOwn.never (PW.pt (pw_and (pt_cmpR op_gt (pv 1) pe_int (nomark _)) (pw_and1 (pt_cmpR op_eq (pe_ix ix_list (pv 0) (pe_op op_sub (pv 1) pe_int) (fun _ _ => rfl)) pe_int (nomark _)))))
    (pss_one (ps_set (i := 1) scTrim.nd rfl (Or.inl rfl) (pe_op op_sub (pv 1) pe_int))))
  (pss_one (ps_ret (pe_slice sl_list (pv 0) po_none (po_some (pv 1))))))), ?_⟩
  have hl : (xs.map V.int).length = xs.length := List.length_map _
  refine ⟨_, rfl, a, _, rfl, .inl hA, ?_⟩
  refine ⟨fun m σ2 H2 => σ2 = [some (.ref a), some (.int (m : Nat))] ∧ H2 = H ∧ m ≤ xs.length ∧ ∀ t, m ≤ t → xs.getD t 0 = 0, ⟨xs.length, by rw [← hl]; rfl, rfl, Nat.le_refl _, fun t ht => getD_out ht⟩, ?_⟩
  rintro m σ2 H2 ⟨rfl, rfl, hm, h0⟩
  refine ⟨_, rfl, _, _, rfl, rfl, _, rfl, ?_⟩
  have fin : ∀ e : Nat, e = m → Trim xs e → tVar 0 [some (V.ref a), some (V.int (m : Nat))] H2 fun v H2 => tNoPart [some (V.ref a), some (V.int (m : Nat))] H2 fun l H3 => tPart (tVar 1) [some (V.ref a), some (V.int (m : Nat))] H3 fun u H4 => rSlL K v l u H4 Q := fun e he ht => by
    subst he
    refine ⟨_, rfl, _, rfl, _, rfl, a, _, rfl, hA, fun p hp => ?_⟩
    exact q p _ e hp (same_new hp _) ht (by rw [upd_same, cut_take ht.1])
  refine ite2 (fun c => ?_) (fun c => ?_)
  · have c' : (0 : Int) < (m : Nat) := of_decide_eq_true c
    have hix : atI (xs.map V.int) (((m : Nat) : Int) - 1) = some (.int (xs.getD (m - 1) 0)) := by
      have := atI_ints (ns := xs) (k := ((m : Nat) : Int) - 1) (by omega) (by omega)
      rw [this, show (((m : Nat) : Int) - 1).toNat = m - 1 by omega]
    refine ⟨_, rfl, _, rfl, _, _, rfl, rfl, a, _, _, _, rfl, rfl, hA, hix, rfl, _, rfl, ite2 (fun d => ?_) (fun d => ?_)⟩
    · have d' := of_decide_eq_true d
      injection d' with d'
      refine ⟨fun σ' H' => σ' = [some (.ref a), some (.int (((m : Nat) : Int) - 1))] ∧ H' = H2, fun σ' H' ⟨a1, a2⟩ => ⟨m - 1, by omega, ?_, a2, by omega, fun t ht => ?_⟩, ?_⟩
      · rw [a1, show (((m : Nat) : Int) - 1) = ((m - 1 : Nat) : Int) by omega]
      · by_cases ht' : t = m - 1
        · rw [ht']; exact d'
        · exact h0 t (by omega)
      · exact ⟨_, rfl, _, _, rfl, rfl, rfl, rfl⟩
    · exact fin m rfl ⟨hm, h0, fun _ z => d (decide_eq_true (by rw [z]))⟩
  · have c' : ¬ (0 : Int) < (m : Nat) := of_decide_eq_false (Bool.eq_false_iff.mpr c)
    exact iteF (fin m rfl ⟨hm, h0, fun z => absurd (show m = 0 by omega) z⟩)

theorem scWi : FnScope ["curve", "other", "scale", "factor", "scaled"] ["curve", "other"] (defScope sWithout) := ⟨rfl, rfl, rfl, by decide +kernel, rfl, by decide +kernel, by decide +kernel⟩
theorem ok_withoutS (B : Bl mg) (F_trimmed : FnAt P w K mg base 1 "trimmed" ["numbers"] (spTrimmed K)) (F_taken_off : FnAt P w K mg base 1 "taken_off" ["numbers", "other", "factor", "shift"] (spTakenS K)) (F : Fun K "without_last" "without_last" sWithout f fd) :
    FnOk P w K mg base CX0 2 f fd ["curve", "other"] (spWithoutS K) := by
  refine F.ok scWi (fun vs H Q E h => ?_) (fun cdv A outer s H vs Q E hr h => ?_)
  · obtain ⟨a, b, c, o, mc, no, rfl, _⟩ := h
    rfl
  obtain ⟨a, b, c, o, mc, no, rfl, hA, hO, hne, hoc, hz, hg, bc, bo, hmn, q⟩ := h
  refine ⟨_, (pss_cons (ps_set (i := 2) scWi.nd rfl (Or.inr rfl) (pe_callB call_abs rfl B.abs_ bt_abs (pa_cons (pe_ix ix_list (pv 1) (pe_un un_neg pe_int) (fun _ _ => rfl)) pa_nil)))
  (pss_cons (ps_set (i := 3) scWi.nd rfl (Or.inl rfl) (pe_ifExp (pt_cmpR op_gt (pe_ix ix_list (pv 1) (pe_un un_neg pe_int) (fun _ _ => rfl)) pe_int (nomark _)) (pe_ix ix_list (pv 0) (pe_un un_neg pe_int) (fun _ _ => rfl)) (pe_un un_neg (pe_ix ix_list (pv 0) (pe_un un_neg pe_int) (fun _ _ => rfl)))))
  (pss_cons (ps_lc (N := ["scale"]) (fr := [2]) (i := 4) (compOk (by with_unfolding_all rfl) (by decide +kernel) rfl (by decide +kernel) rfl (by decide +kernel) (allC rfl all0) rfl ⟨⟨rfl, rfl, rfl⟩, trivial⟩ rfl rfl) scWi.nd rfl (Or.inl rfl)
    (pi_list (pv 0)) (fun _ _ _ _ _ => pe_op op_mulK (pv 1) (pv 0)))
  (pss_one (ps_ret (pe_callF F_trimmed hr rfl (pa_cons (pe_callF F_taken_off hr rfl (pa_cons (pv 4) (pa_cons (pv 1) (pa_cons (pv 3) (pa_cons (pe_op op_sub (pe_callB call_len_seq rfl B.len_ bt_len (pa_cons (pv 0) pa_nil)) (pe_callB call_len_seq rfl B.len_ bt_len (pa_cons (pv 1) pa_nil))) pa_nil))))) pa_nil))))))), ?_⟩
  have hl : (c.map V.int).length = c.length := List.length_map _
  have hl2 : (o.map V.int).length = o.length := List.length_map _
  have o1 := List.length_pos_iff.mpr hne
  have hcn : c ≠ [] := fun z => by rw [z] at hoc; exact absurd (Nat.lt_of_lt_of_le o1 hoc) (by decide)
  have c1 := List.length_pos_iff.mpr hcn
  have lo := hg hne
  generalize hL : o.getD (o.length - 1) 0 = L at lo
  generalize hT : c.getD (c.length - 1) 0 = T
  have ao : atI (o.map V.int) (-1) = some (.int L) := by rw [← hL]; exact atI_last_ints hne
  have ac : atI (c.map V.int) (-1) = some (.int T) := by rw [← hT]; exact atI_last_ints hcn
  refine ⟨_, rfl, _, rfl, b, _, _, _, rfl, rfl, hO, ao, _, rfl, ?_⟩

  have fin : ∀ k : Int, (k = T ∧ 0 < L ∨ k = -T ∧ L < 0) → tSeq (tAsg (tLC (iList K (tVar 0)) [2] (tOp (rI IntMulOk fun i j => .int (i * j)) (tVar 1) (tVar 0))) (gName 4))
      (tRet (tCall (spTrimmed K) [] E0 (tCons (tCall (spTakenS K) [] E0 (tCons (tVar 4) (tCons (tVar 1) (tCons (tVar 3) (tCons (tOp (rI0 fun i j => .int (i - j)) (tCB (fun xs H Q => XLen K xs H Q) (tCons (tVar 0) tNil)) (tCB (fun xs H Q => XLen K xs H Q) (tCons (tVar 1) tNil))) tNil))))) tNil)))
      { nx := fun _ H' => Q .non H', rt := Q } [some (.ref a), some (.ref b), some (.int (if L < 0 then -L else L)), some (.int k), none] H := by
    intro k hk
    have hl0 : 0 < (if L < 0 then -L else L) := by split <;> omega
    have hlk : (if L < 0 then -L else L) * T = k * L := by
      rcases hk with ⟨rfl, h⟩ | ⟨rfl, h⟩
      · rw [if_neg (by omega), Int.mul_comm]
      · rw [if_pos h, Int.neg_mul, Int.neg_mul, Int.mul_comm]
    have bl : ∀ n, (∀ x ∈ o, Bd n x) → Bd n (if L < 0 then -L else L) := fun n h => bd_abs (by rw [← hL]; exact h _ (gmem (by omega)))
    have bk : ∀ n, (∀ x ∈ c, Bd n x) → Bd n k := fun n h => by
      have : Bd n T := by rw [← hT]; exact h _ (gmem (by omega))
      rcases hk with ⟨rfl, _⟩ | ⟨rfl, _⟩
      · exact this
      · exact this.neg
    generalize (if L < 0 then -L else L) = l at hl0 hlk bl
    refine ⟨_, rfl, a, rfl, ⟨_, hA⟩, lc_list (onInt (l * ·)) hA (by rw [hl]; exact hz) ?_ ?_⟩
    · intro y v0 H5 Q2 hy s7 q2
      obtain ⟨n, hn, rfl⟩ := List.mem_map.mp hy
      exact ⟨_, rfl, _, rfl, _, _, rfl, rfl, (bl _ bo).mulOkS (bc n hn) (by omega), q2⟩
    · intro D G1 hD s1 hd
      rw [map_onInt] at hd
      refine ⟨_, rfl, _, rfl, _, rfl, _, rfl, a, _, rfl, .inl (s1.seq hA), _, rfl, b, _, rfl, .inl (s1.seq hO), _, _, rfl, rfl, ?_⟩
      have hsh : ((((c.map V.int).length : Nat) : Int) - (((o.map V.int).length : Nat) : Int)).toNat = c.length - o.length := by rw [hl, hl2]; omega
      refine ⟨D, b, c.map (l * ·), o, k, _, mc, no, rfl, SqL.of hd, s1.seq hO, by rw [hl, hl2]; omega, by rw [hsh, List.length_map]; omega, by rw [List.length_map]; exact hz, bk _ bc, bo, hmn, fun r2 G2 n2 s2 e2 => ?_⟩
      rw [hsh] at e2
      refine ⟨r2, _, rfl, SqL.of e2, by rw [off_length, List.length_map]; exact hz, fun r3 G3 e n3 s3 ht e3 => ?_⟩
      exact q r3 G3 l k e ((s1.trans s2).free n3) ((s1.trans s2).trans s3) hl0 bl bk (last_off hne hoc (by rw [hT, hL]; exact hlk) ht) ht e3
  refine ⟨_, rfl, _, rfl, b, _, _, _, rfl, rfl, hO, ao, _, _, rfl, rfl, _, rfl, ite2 (fun z => ?_) (fun z => ?_)⟩
  · have z' : 0 < L := of_decide_eq_true z
    exact ⟨_, rfl, _, rfl, a, _, _, _, rfl, rfl, hA, ac, fin T (.inl ⟨rfl, z'⟩)⟩
  · have z' : ¬ 0 < L := of_decide_eq_false (Bool.eq_false_iff.mpr z)
    exact ⟨_, rfl, _, rfl, a, _, _, _, rfl, rfl, hA, ac, _, rfl, fin (-T) (.inr ⟨rfl, by omega⟩)⟩

theorem scLeft : FnScope ["curve", "other", "rest"] ["curve", "other"] (defScope sLeft) := ⟨rfl, rfl, rfl, by decide +kernel, rfl, by decide +kernel, by decide +kernel⟩
theorem ok_leftS (B : Bl mg) (F_check_curve : FnAt P w K mg base 1 "check_curve" ["curve"] (spCheckCurve K)) (F_check_not_nought : FnAt P w K mg base 1 "check_not_nought" ["curve"] (spCheckNN K)) (F_without_last : FnAt P w K mg base 2 "without_last" ["curve", "other"] (spWithoutS K))
    (F_plain : FnAt P w K mg base 40 "plain" ["curve"] (spPlainS K)) (F : Fun K "left" "left" sLeft f fd) : FnOk P w K mg base CX0 41 f fd ["curve", "other"] (spLeftS K) := by
  refine F.ok scLeft (fun vs H Q E h => ?_) (fun cdv A outer s H vs Q E hr h => ?_)
  · obtain ⟨a, b, c, o, m, n, rfl, _⟩ := h
    rfl
  obtain ⟨a, b, c, o, m, n, rfl, hA, hO, hg, hgo, hne, hz, hz2, bc, bo, hm, q⟩ := h
  refine ⟨_, (pss_cons (ps_expr (pe_callF F_check_curve hr rfl (pa_cons (pv 0) pa_nil)))
  (pss_cons (ps_expr (pe_callF F_check_curve hr rfl (pa_cons (pv 1) pa_nil)))
  (pss_cons (ps_expr (pe_callF F_check_not_nought hr rfl (pa_cons (pv 1) pa_nil)))
  (pss_cons (ps_set (i := 2) scLeft.nd rfl (Or.inl rfl) (pe_callTy call_list_of rfl B.list_ bt_list (pa_cons (pv 0) pa_nil)))
  (pss_cons (ps_while PassesOwn.never (pt_cmpR op_ge (pe_callB call_len_seq rfl B.len_ bt_len (pa_cons (pv 2) pa_nil)) (pe_callB call_len_seq rfl B.len_ bt_len (pa_cons (pv 1) pa_nil)) (nomark _))
    (pss_one (ps_set (i := 2) scLeft.nd rfl (Or.inl rfl) (pe_callF F_without_last hr rfl (pa_cons (pv 2) (pa_cons (pv 1) pa_nil))))))
  (pss_one (ps_ret (pe_callF F_plain hr rfl (pa_cons (pv 2) pa_nil))))))))), ?_⟩
  refine ⟨_, rfl, a, c, rfl, hA, hg, ?_⟩
  refine ⟨_, rfl, b, o, rfl, hO, hgo, ?_⟩
  refine ⟨_, rfl, b, o, rfl, hO, hne, ?_⟩
  refine ⟨_, rfl, a, _, rfl, .inl hA, fun r hr1 => ?_⟩
  have s1 : Same H (upd H r (.lst (c.map V.int))) := same_new hr1 _
  have e1 : upd H r (.lst (c.map V.int)) r = some (IL c) := upd_same
  generalize upd H r (.lst (c.map V.int)) = G1 at s1 e1 ⊢
  refine ⟨fun N σ H2 => ∃ (r : Addr) (R : List Int) (x : Int) (d : Nat) (p : PS), σ = [some (.ref a), some (.ref b), some (.ref r)] ∧ N = R.length ∧ Same H H2 ∧ H r = none ∧ H2 r = some (IL R) ∧ Good R ∧ R.length ≤ c.length ∧ (∀ y ∈ R, Bd (m + (n + 1) * (c.length - R.length)) y) ∧
    0 < x ∧ Dg d p ∧ PS.C x * co c = p * co o + co R, ⟨c.length, r, c, 1, 0, 0, rfl, rfl, s1, hr1, e1, hg, Nat.le_refl _, by rw [Nat.sub_self]; exact bc, by decide, fun t _ => PS.zero_at t, by rw [C_one]; grind⟩, ?_⟩
  rintro N σ H2 ⟨r, R, x, d, p, rfl, rfl, s2, hn2, hr2, hgR, hlR, bR, hx, hd, heq⟩
  have hl : (R.map V.int).length = R.length := List.length_map _
  have hl2 : (o.map V.int).length = o.length := List.length_map _
  have hmul : (n + 1) * (c.length - R.length) ≤ (n + 1) * c.length := Nat.mul_le_mul_left _ (by omega)
  refine ⟨_, rfl, r, _, rfl, .inl (SqL.of hr2), _, rfl, b, _, rfl, .inl (s2.seq hO), _, _, rfl, rfl, _, rfl, ite2 (fun z => ?_) (fun z => ?_)⟩
  · have z' : (((o.map V.int).length : Nat) : Int) ≤ (((R.map V.int).length : Nat) : Int) := of_decide_eq_true z
    rw [hl, hl2] at z'
    refine ⟨fun σ' H' => ∃ (r3 : Addr) (l k : Int) (e : Nat), σ' = [some (.ref a), some (.ref b), some (.ref r3)] ∧ Same H H' ∧ H r3 = none ∧ 0 < l ∧ Bd n l ∧ Bd (m + (n + 1) * (c.length - R.length)) k ∧ e < R.length ∧ Trim (offL (R.map (l * ·)) o k (R.length - o.length) o.length) e ∧
      H' r3 = some (IL ((offL (R.map (l * ·)) o k (R.length - o.length) o.length).take e)), ?_, ?_⟩
    · rintro σ' H' ⟨r3, l, k, e, rfl, s3, hn3, hl3, bl, bk, he, ht, hr3⟩
      obtain ⟨x', d', p', hx', hd', heq'⟩ := left_step hx hl3 hd heq (by omega) ht
      have hlt := ht.length
      refine ⟨e, he, r3, _, x', d', p', rfl, hlt.symm, s3, hn3, hr3, ht.good, by rw [hlt]; omega, fun y hy => ?_, hx', hd', heq'⟩
      have b1 := off_bd (p := n + (m + (n + 1) * (c.length - R.length))) (mul_bd' bl bR) bo bk (by omega) (R.length - o.length) o.length y (List.mem_of_mem_take hy)
      refine b1.mono ?_
      rw [hlt]
      have h5 : (n + 1) * (c.length - R.length) + (n + 1) ≤ (n + 1) * (c.length - e) := by
        rw [← Nat.mul_succ]
        exact Nat.mul_le_mul_left _ (by omega)
      omega
    · refine ⟨_, rfl, _, rfl, r, b, R, o, _, n, rfl, SqL.of hr2, s2.seq hO, hne, by omega, by omega, hgo, bR, bo, by omega, fun r3 H3 l k e n3 s3 hl3 bl bk he ht hr3 => ?_⟩
      exact ⟨r3, l, k, e, rfl, s2.trans s3, s2.free n3, hl3, bl n bo, bk _ bR, he, ht, hr3⟩
  · have z' : ¬ (((o.map V.int).length : Nat) : Int) ≤ (((R.map V.int).length : Nat) : Int) := of_decide_eq_false (Bool.eq_false_iff.mpr z)
    rw [hl, hl2] at z'
    refine ⟨_, rfl, r, R, rfl, SqL.of hr2, hgR, by omega, fun r3 H3 n3 s3 hr3 => ?_⟩
    exact q r3 H3 R (s2.free n3) (s2.trans s3) ⟨hgR, by omega, x, d, p, hx, hd, heq⟩ hlR (fun y hy => (bR y hy).mono (by omega)) hr3

theorem scAb : FnScope ["curve"] ["curve"] (defScope sAbove) := ⟨rfl, rfl, rfl, by decide +kernel, rfl, by decide +kernel, by decide +kernel⟩
theorem ok_above (B : Bl mg) (F : Fun K "with_last_above" "with_last_above" sAbove f fd) : FnOk P w K mg base CX0 1 f fd ["curve"] (spAbove K) := by
  refine F.ok scAb (fun vs H Q E h => ?_) (fun cdv A outer s H vs Q E hr h => ?_)
  · obtain ⟨a, c, rfl, _⟩ := h
    rfl
  obtain ⟨a, c, rfl, hA, hz, q⟩ := h
  refine ⟨_, (pss_cons (ps_if (PW.pt (pw_and (pt_cmpR op_gt (pe_callB call_len_seq rfl B.len_ bt_len (pa_cons (pv 0) pa_nil)) pe_int (nomark _)) (pw_and1 (pt_cmpR op_lt (pe_ix ix_list (pv 0) (pe_un un_neg pe_int) (fun _ _ => rfl)) pe_int (nomark _)))))
    (pss_one (ps_ret (pe_lc (N := []) (fr := []) (compOk (by with_unfolding_all rfl) (by decide +kernel) rfl (by decide +kernel) rfl (by decide +kernel) all0 rfl trivial rfl rfl) (pi_list (pv 0)) (fun _ _ _ _ _ => pe_un un_neg (pv 0)))))
    pss_nil)
  (pss_one (ps_ret (pv 0)))), ?_⟩
  have hl : (c.map V.int).length = c.length := List.length_map _
  refine ⟨_, rfl, a, _, rfl, .inl (SqL.of hA), _, _, rfl, rfl, _, rfl, ite2 (fun e => ?_) (fun e => ?_)⟩
  · have e' : (0 : Int) < (((c.map V.int).length : Nat) : Int) := of_decide_eq_true e
    rw [hl] at e'
    have hne : c ≠ [] := fun z => by rw [z] at e'; exact absurd e' (by decide)
    refine ⟨_, rfl, _, rfl, a, _, _, _, rfl, rfl, SqL.of hA, atI_last_ints hne, _, _, rfl, rfl, _, rfl, ite2 (fun z => ?_) (fun z => ?_)⟩
    · have z' : c.getD (c.length - 1) 0 < 0 := of_decide_eq_true z
      refine ⟨_, rfl, a, rfl, ⟨_, SqL.of hA⟩, lc_list (onInt (- ·)) (SqL.of hA) (by rw [hl]; exact hz) ?_ ?_⟩
      · intro y v0 H5 Q2 hy s7 q2
        obtain ⟨i, hi, rfl⟩ := List.mem_map.mp hy
        exact ⟨_, rfl, _, rfl, q2⟩
      · intro D G hD sG hd
        refine q D G (.inr hD) sG ?_
        rw [hd, map_onInt]
        unfold aboveL
        rw [if_pos ⟨hne, z'⟩]
    · have z' : ¬ c.getD (c.length - 1) 0 < 0 := of_decide_eq_false (Bool.eq_false_iff.mpr z)
      refine ⟨_, rfl, q a H (.inl rfl) (Same.refl _) ?_⟩
      rw [hA]
      unfold aboveL
      rw [if_neg (fun y => z' y.2)]
  · have e' : ¬ (0 : Int) < (((c.map V.int).length : Nat) : Int) := of_decide_eq_false (Bool.eq_false_iff.mpr e)
    rw [hl] at e'
    refine iteF ⟨_, rfl, q a H (.inl rfl) (Same.refl _) ?_⟩
    have hne : c = [] := List.eq_nil_of_length_eq_zero (by omega)
    rw [hA]
    unfold aboveL
    rw [if_neg (fun y => y.1 hne)]

theorem scSh : FnScope ["curve", "other", "ahead", "behind", "rest"] ["curve", "other"] (defScope sShared) := ⟨rfl, rfl, rfl, by decide +kernel, rfl, by decide +kernel, by decide +kernel⟩
theorem ok_sharedZ (B : Bl mg) (F_check_curve : FnAt P w K mg base 1 "check_curve" ["curve"] (spCheckCurve K)) (F_left : FnAt P w K mg base 41 "left" ["curve", "other"] (spLeftS K)) (F_plain : FnAt P w K mg base 40 "plain" ["curve"] (spPlainS K))
    (F_with_last_above : FnAt P w K mg base 1 "with_last_above" ["curve"] (spAbove K)) (F : Fun K "shared" "shared" sShared f fd) : FnOk P w K mg base CX0 42 f fd ["curve", "other"] (spSharedZ K) := by
  refine F.ok scSh (fun vs H Q E h => ?_) (fun cdv A outer s H vs Q E hr h => ?_)
  · obtain ⟨a, b, c, o, La, l, p, q, rfl, _⟩ := h
    rfl
  obtain ⟨a, b, c, o, La, l, p, q, rfl, hA, hO, hg, hgo, hla, hlo, hz, hz2, bc, bo, hgb, fin⟩ := h
  refine ⟨_, (pss_cons (ps_expr (pe_callF F_check_curve hr rfl (pa_cons (pv 0) pa_nil)))
  (pss_cons (ps_expr (pe_callF F_check_curve hr rfl (pa_cons (pv 1) pa_nil)))
  (pss_cons (ps_set (i := 2) scSh.nd rfl (Or.inl rfl) (pv 0))
  (pss_cons (ps_set (i := 3) scSh.nd rfl (Or.inl rfl) (pv 1))
  (pss_cons (ps_while PassesOwn.never (pt_cmpR op_gt (pe_callB call_len_seq rfl B.len_ bt_len (pa_cons (pv 3) pa_nil)) pe_int (nomark _))
    (pss_cons (ps_set (i := 4) scSh.nd rfl (Or.inl rfl) (pe_callF F_left hr rfl (pa_cons (pv 2) (pa_cons (pv 3) pa_nil))))
    (pss_cons (ps_set (i := 2) scSh.nd rfl (Or.inl rfl) (pv 3))
    (pss_one (ps_set (i := 3) scSh.nd rfl (Or.inl rfl) (pv 4))))))
  (pss_one (ps_ret (pe_callF F_with_last_above hr rfl (pa_cons (pe_callF F_plain hr rfl (pa_cons (pv 2) pa_nil)) pa_nil))))))))), ?_⟩
  generalize hG0 : gb l La l p q = G0 at hgb fin
  refine ⟨_, rfl, a, c, rfl, hA, hg, ?_⟩
  refine ⟨_, rfl, b, o, rfl, hO, hgo, ?_⟩
  refine ⟨_, rfl, _, rfl, ?_⟩
  refine ⟨fun N σ H2 => ∃ (r1 r2 : Addr) (x y : List Int) (La l p q : Nat) (v4 : Option V), σ = [some (.ref a), some (.ref b), some (.ref r1), some (.ref r2), v4] ∧ Same H H2 ∧ SqL K H2 r1 (x.map V.int) ∧ SqL K H2 r2 (y.map V.int) ∧ Good x ∧ Good y ∧ x.length ≤ La ∧ y.length ≤ l ∧ l ≤ N ∧ La ≤ 1000 ∧ l ≤ 1000 ∧
    (∀ z ∈ x, Bd p z) ∧ (∀ z ∈ y, Bd q z) ∧ gb N La l p q ≤ G0 ∧ (∀ g, IsG g (co x) (co y) → IsG g (co c) (co o)) ∧ (x = [] → y ≠ [] ∨ (c = [] ∧ o = [])),
    ⟨l, a, b, c, o, La, l, p, q, none, rfl, Same.refl _, hA, hO, hg, hgo, hla, hlo, Nat.le_refl _, hz, hz2, bc, bo, Nat.le_of_eq hG0, fun _ h => h, fun h => by
      by_cases z : o = []
      · exact .inr ⟨h, z⟩
      · exact .inl z⟩, ?_⟩
  rintro N σ H2 ⟨r1, r2, x, y, La, l, p, q, v4, rfl, s2, h1, h2, gx, gy, lx, ly, hN, hz, hz2, bx, by', hgb', hI, hnn⟩
  have hl : (y.map V.int).length = y.length := List.length_map _
  refine ⟨_, rfl, r2, _, rfl, .inl h2, _, _, rfl, rfl, _, rfl, ite2 (fun z => ?_) (fun z => ?_)⟩
  · have z' : (0 : Int) < (((y.map V.int).length : Nat) : Int) := of_decide_eq_true z
    rw [hl] at z'
    have yne : y ≠ [] := fun e => by rw [e] at z'; exact absurd z' (by decide)
    obtain ⟨N', rfl⟩ : ∃ N', N = N' + 1 := ⟨N - 1, by omega⟩
    have l0 : l ≠ 0 := by omega
    rw [gb_step l0] at hgb'
    have hge := gb_ge N' l (min La (l - 1)) q (p + (q + 1) * La)
    have hmul : (q + 1) * x.length ≤ (q + 1) * La := Nat.mul_le_mul_left _ lx
    refine ⟨fun σ' H' => ∃ (r3 : Addr) (R : List Int) (v4 : Option V), σ' = [some (.ref a), some (.ref b), some (.ref r2), some (.ref r3), v4] ∧ Same H H' ∧ SqL K H' r2 (y.map V.int) ∧ Left x y R ∧ R.length ≤ x.length ∧ (∀ z ∈ R, Bd (p + (q + 1) * La) z) ∧ H' r3 = some (IL (plainL R)), ?_, ?_⟩
    · rintro σ' H' ⟨r3, R, w4, rfl, s3, h3, hL, hRx, bR, e3⟩
      refine ⟨N', by omega, r2, r3, y, plainL R, l, min La (l - 1), q, p + (q + 1) * La, _, rfl, s3, h3, SqL.of e3, gy, plain_good hL.1, ly, by rw [plain_length]; have := hL.2.1; omega, by omega, hz2, by omega, by', plain_bd bR, hgb', fun g hgG => hI g (left_isG hL hgG), fun e => absurd e yne⟩
    · refine ⟨_, rfl, _, rfl, r1, r2, x, y, p, q, rfl, h1, h2, gx, gy, yne, by omega, by omega, bx, by', by omega, fun r3 H3 R n3 s3 hL hRx bR e3 => ?_⟩
      exact ⟨_, rfl, _, rfl, r3, R, _, rfl, s2.trans s3, s3.seq h2, hL, hRx, fun u hu => (bR u hu).mono (by omega), e3⟩
  · have z' : ¬ (0 : Int) < (((y.map V.int).length : Nat) : Int) := of_decide_eq_false (Bool.eq_false_iff.mpr z)
    rw [hl] at z'
    have y0 : y = [] := List.eq_nil_of_length_eq_zero (by omega)
    refine ⟨_, rfl, r1, x, rfl, h1, gx, by omega, fun r3 H3 n3 s3 e3 => ?_⟩
    refine ⟨r3, plainL x, rfl, e3, by rw [plain_length]; omega, fun r4 H4 n4 s4 e4 => ?_⟩
    have hge' := gb_ge N La l p q
    refine fin r4 H4 (aboveL (plainL x)) ?_ ((s2.trans s3).trans s4) ?_ (above_bd (plain_bd fun z hz => (bx z hz).mono (by omega))) e4
    · rcases n4 with n4 | n4
      · rw [n4]; exact s2.free n3
      · exact (s2.trans s3).free n4
    · by_cases x0 : x = []
      · rcases hnn x0 with e | ⟨e, e'⟩
        · exact absurd y0 e
        · left
          refine ⟨e, e', ?_⟩
          rw [x0]
          rfl
      · refine shared_end x0 gx (hI _ ?_)
        rw [y0, co_nil]
        exact IsG.self _

theorem scDiv : FnScope ["curve", "other", "rest", "highest", "quotient", "shift", "factor"] ["curve", "other"] (defScope sDivided) := ⟨rfl, rfl, rfl, by decide +kernel, rfl, by decide +kernel, by decide +kernel⟩

noncomputable def qL (S : PS) (n i : Nat) : List Int := (List.range n).map fun t => if n ≤ t + i then S t else 0
theorem qL_zero (S : PS) (n : Nat) : qL S n 0 = List.replicate n 0 := by
  refine List.ext_getElem (by simp [qL]) fun i h1 h2 => ?_
  simp only [qL, List.getElem_map, List.getElem_range, List.getElem_replicate]
  rw [if_neg]
  simp [qL] at h1
  omega
theorem qL_full (S : PS) (n : Nat) : qL S n n = upto S n := by
  unfold qL upto
  refine List.map_congr_left fun t _ => ?_
  rw [if_pos (by omega)]
theorem qL_length (S : PS) (n i : Nat) : (qL S n i).length = n := by simp [qL]
theorem qL_step (S : PS) {n i : Nat} (h : i < n) : (qL S n i).set (n - 1 - i) (S (n - 1 - i)) = qL S n (i + 1) := by
  refine List.ext_getElem (by simp [qL]) fun t h1 h2 => ?_
  simp only [qL, List.length_map, List.length_range] at h2
  rw [List.getElem_set]
  simp only [qL, List.getElem_map, List.getElem_range]
  split
  · rename_i e
    rw [if_pos (by omega), e]
  · split
    · rw [if_pos (by omega)]
    · rw [if_neg (by omega)]

noncomputable def low (S : PS) (k : Nat) : PS := fun t => if t < k then S t else 0
theorem low_dg (S : PS) (k : Nat) : Dg k (low S k) := fun t ht => by show (if t < k then S t else 0) = 0; rw [if_neg (by omega)]
theorem low_all {S : PS} {n : Nat} (h : Dg n S) : low S n = S := by
  ext t
  show (if t < n then S t else 0) = S t
  by_cases ht : t < n
  · rw [if_pos ht]
  · rw [if_neg ht, h t (by omega)]
theorem low_step (S : PS) (k : Nat) : low S (k + 1) = low S k + PS.C (S k) * xp k := by
  ext t
  rw [PS.add_at, PS.C_mul]
  show (if t < k + 1 then S t else 0) = (if t < k then S t else 0) + S k * (if t = k then 1 else 0)
  rcases Nat.lt_trichotomy t k with h | h | h
  · rw [if_pos (by omega), if_pos h, if_neg (by omega)]; omega
  · subst h; rw [if_pos (by omega), if_neg (by omega), if_pos rfl]; omega
  · rw [if_neg (by omega), if_neg (by omega), if_neg (by omega)]; omega
theorem ok_divided (hN : base.NoSeer) (hT : P.given.tree = none) (B : Bl mg) (F_taken_off : FnAt P w K mg base 1 "taken_off" ["numbers", "other", "factor", "shift"] (spTakenS K)) (F : Fun K "divided_out" "divided_out" sDivided f fd) :
    FnOk P w K mg base CX0 40 f fd ["curve", "other"] (spDivided K) := by
  refine F.ok scDiv (fun vs H Q E h => ?_) (fun cdv A outer s H vs Q E hr h => ?_)
  · obtain ⟨a, b, c, o, S, p, G, rfl, _⟩ := h
    rfl
  obtain ⟨a, b, c, o, S, p, G, rfl, hA, hO, hgo, hne, hpos, hlo, hz, hS, hco, bc, bo, hm, q⟩ := h
  have hdp : (A.deeper (PyProof.Rows.envOfC "divided_out" (defScope sDivided) s.heap.objs.size f cdv)).depth + 100 < recursionLimit := by have := hr.dp; omega
  refine ⟨_, (pss_cons (ps_set (i := 2) scDiv.nd rfl (Or.inl rfl) (pv 0))
  (pss_cons (ps_set (i := 3) scDiv.nd rfl (Or.inl rfl) (pe_op op_sub (pe_callB call_len_seq rfl B.len_ bt_len (pa_cons (pv 0) pa_nil)) (pe_callB call_len_seq rfl B.len_ bt_len (pa_cons (pv 1) pa_nil))))
  (pss_cons (ps_set (i := 4) scDiv.nd rfl (Or.inl rfl) (pe_op op_rep (pe_lst (pa_cons pe_int pa_nil)) (pe_op op_add (pv 3) pe_int)))
  (pss_cons (ps_for PassesOwn.never rfl (pi_range3 rfl B.range_ (pa_cons (pv 3) (pa_cons (pe_un un_neg pe_int) (pa_cons (pe_un un_neg pe_int) pa_nil)))) (pg_name (i := 5) scDiv.nd rfl (Or.inl rfl))
    (pss_cons (ps_set (i := 6) scDiv.nd rfl (Or.inl rfl) (pe_op (op_fdivS hN hT rfl rfl rfl rfl rfl hdp) (pe_ix ix_list (pv 2) (pe_op op_sub (pe_op op_add (pv 5) (pe_callB call_len_seq rfl B.len_ bt_len (pa_cons (pv 1) pa_nil))) pe_int) (fun _ _ => rfl)) (pe_ix ix_list (pv 1) (pe_un un_neg pe_int) (fun _ _ => rfl))))
    (pss_cons (ps_asg (pv 6) (pg_sub (pv 4) (pv 5) set_list))
    (pss_one (ps_set (i := 2) scDiv.nd rfl (Or.inl rfl) (pe_callF F_taken_off hr rfl (pa_cons (pv 2) (pa_cons (pv 1) (pa_cons (pv 6) (pa_cons (pv 5) pa_nil))))))))))
  (pss_one (ps_ret (pv 4))))))), ?_⟩
  have hl : (c.map V.int).length = c.length := List.length_map _
  have hl2 : (o.map V.int).length = o.length := List.length_map _
  have o1 := List.length_pos_iff.mpr hne
  generalize hL : o.getD (o.length - 1) 0 = L at hpos
  have ao : atI (o.map V.int) (-1) = some (.int L) := by rw [← hL]; exact atI_last_ints hne
  have hn : ((((c.map V.int).length : Nat) : Int) - (((o.map V.int).length : Nat) : Int)) = ((c.length - o.length : Nat) : Int) := by rw [hl, hl2]; omega
  refine ⟨_, rfl, _, rfl, a, _, rfl, .inl hA, _, rfl, b, _, rfl, .inl hO, _, _, rfl, rfl, ?_⟩
  dsimp only
  rw [hn]
  generalize hNN : c.length - o.length = N at *
  have hN1 : c.length + 1 - o.length = N + 1 := by omega
  rw [hN1] at hS q
  refine ⟨by show 1 ≤ sizeLine; decide, fun pz hp => ?_⟩
  have s1 : Same H (upd H pz (.lst [.int 0])) := same_new hp _
  refine ⟨_, rfl, _, _, rfl, rfl, pz, _, _, rfl, rfl, upd_same, by omega, by omega, ?_, fun r hr1 => ?_⟩
  · show 1 * _ ≤ sizeLine
    rw [Nat.one_mul]
    exact small (by omega)
  have hnr : H r = none := s1.free hr1
  have start : (List.replicate (((N : Nat) : Int) + 1).toNat [V.int 0]).flatten = (qL S (N + 1) 0).map V.int := by
    rw [qL_zero, show (((N : Nat) : Int) + 1).toNat = N + 1 by omega]
    refine List.ext_getElem (by simp) fun i h1 h2 => ?_
    simp
  dsimp only
  rw [start]
  have g0 : Same H (upd (upd H pz (.lst [.int 0])) r (.lst ((qL S (N + 1) 0).map V.int))) := s1.trans (same_new hr1 _)
  have e0 : upd (upd H pz (.lst [.int 0])) r (.lst ((qL S (N + 1) 0).map V.int)) r = some (IL (qL S (N + 1) 0)) := upd_same
  generalize upd (upd H pz (.lst [.int 0])) r (.lst ((qL S (N + 1) 0).map V.int)) = G0 at g0 e0 ⊢
  refine ⟨_, rfl, _, rfl, _, rfl, _, _, rfl, ⟨by omega, by omega, by omega, by omega⟩, for_down (hi := ((N : Nat) : Int)) (n := (((N : Nat) : Int) - -1).toNat)
    (fun i σ H2 => ∃ (rr : Addr) (R : List Int) (v5 v6 : Option V), σ = [some (.ref a), some (.ref b), some (.ref rr), some (.int ((N : Nat) : Int)), some (.ref r), v5, v6] ∧ Same H H2 ∧ SqL K H2 rr (R.map V.int) ∧ (∀ H3 : Hp, (∀ y ob, y ≠ r → H2 y = some ob → H3 y = some ob) → Same H H3 → SqL K H3 rr (R.map V.int)) ∧ R.length = c.length ∧
      co R = low S (N + 1 - i) * co o ∧ (∀ x ∈ R, Bd (p + (G + 1) * i) x) ∧ H2 r = some (IL (qL S (N + 1) i)) ∧ (∀ t, N + 1 ≤ t + i → Bd (p + (G + 1) * i) (S t)))
    ⟨a, c, none, none, rfl, g0, g0.seq hA, fun H3 _ s3 => s3.seq hA, rfl, by rw [Nat.sub_zero, low_all hS]; exact hco, by rw [Nat.mul_zero, Nat.add_zero]; exact bc, e0, fun t ht => by rw [hS t (by omega)]; exact Bd.zero _⟩ ?_ ?_⟩
  · rintro i σ H2 hi ⟨rr, R, v5, v6, rfl, s2, hR, hR', hlR, heq, bR, hr2, bS⟩
    have hi' : i < N + 1 := by omega
    obtain ⟨k, hk⟩ : ∃ k, N + 1 - i = k + 1 := ⟨N - i, by omega⟩
    have hk2 : ((N : Nat) : Int) - (i : Int) = (k : Int) := by omega
    dsimp only
    rw [hk2]
    have hmi : (G + 1) * i + (G + 1) ≤ (G + 1) * c.length := by
      rw [← Nat.mul_succ]
      exact Nat.mul_le_mul_left _ (by omega)
    have lR : (R.map V.int).length = R.length := List.length_map _
    have top : R.getD (k + (o.length - 1)) 0 = S k * L := by
      have h1 : co R (k + (o.length - 1)) = low S (k + 1) k * co o (o.length - 1) := by
        rw [heq, hk]
        exact mul_top (low_dg S (k + 1)) (by rw [show o.length - 1 + 1 = o.length by omega]; exact Dg.co o)
      rw [show low S (k + 1) k = S k from if_pos (by omega), show co o (o.length - 1) = L from hL] at h1
      exact h1
    have hix : atI (R.map V.int) ((k : Int) + (((o.map V.int).length : Nat) : Int) - 1) = some (.int (S k * L)) := by
      rw [hl2]
      have := atI_ints (ns := R) (k := (k : Int) + ((o.length : Nat) : Int) - 1) (by omega) (by omega)
      rw [show ((k : Int) + ((o.length : Nat) : Int) - 1).toNat = k + (o.length - 1) by omega, top] at this
      exact this
    have ed : S k * L / L = S k := Int.mul_ediv_cancel _ (by omega)
    have bk : Bd (p + (G + 1) * i) (S k) := by
      have b1 : Bd (p + (G + 1) * i) (S k * L) := by rw [← top]; exact bR _ (gmem (by omega))
      unfold Bd at *
      rw [Int.natAbs_mul] at b1
      have : (S k).natAbs * 1 ≤ (S k).natAbs * L.natAbs := Nat.mul_le_mul_left _ (by omega)
      omega
    have hset : ixN ((qL S (N + 1) i).map V.int).length (k : Int) = some k := by
      unfold ixN
      rw [if_pos (by omega), if_pos (by rw [List.length_map, qL_length]; omega)]
      congr 1
    refine ⟨_, rfl, _, rfl, _, rfl, b, _, rfl, .inl (s2.seq hO), _, _, rfl, rfl, _, _, rfl, rfl, rr, _, _, _, rfl, rfl, hR, hix, _, rfl, _, rfl, b, _, _, _, rfl, rfl, s2.seq hO, ao, _, _, rfl, rfl, hpos, ?_⟩
    dsimp only
    rw [ed]
    refine ⟨_, rfl, _, rfl, _, rfl, r, _, _, _, rfl, rfl, hr2, hset, ?_⟩
    have es : ((qL S (N + 1) i).map V.int).set k (.int (S k)) = (qL S (N + 1) (i + 1)).map V.int := by
      rw [map_set, show k = N + 1 - 1 - i by omega, qL_step S hi']
    dsimp only
    rw [es]
    have s3 : Same H (upd H2 r (.lst ((qL S (N + 1) (i + 1)).map V.int))) := fun z ob e => by
      rw [upd_ne (ne_of_none e hnr)]
      exact s2 _ _ e
    have k3 : ∀ y ob, y ≠ r → H2 y = some ob → upd H2 r (.lst ((qL S (N + 1) (i + 1)).map V.int)) y = some ob := fun y ob ny e => by rw [upd_ne ny]; exact e
    have e3 : upd H2 r (.lst ((qL S (N + 1) (i + 1)).map V.int)) r = some (IL (qL S (N + 1) (i + 1))) := upd_same
    generalize upd H2 r (.lst ((qL S (N + 1) (i + 1)).map V.int)) = G3 at s3 k3 e3 ⊢
    refine ⟨_, rfl, _, rfl, _, rfl, _, rfl, rr, b, R, o, S k, (k : Int), p + (G + 1) * i, G, rfl, hR' G3 k3 s3, s3.seq hO, by omega, by omega, by omega, bk, bo, by omega, fun r4 H4 n4 s4 e4 => ?_⟩
    rw [show (k : Int).toNat = k by omega] at e4
    refine ⟨r4, _, _, _, rfl, s3.trans s4, SqL.of e4, fun H5 k5 _ => SqL.of (k5 _ _ (fun z => by rw [z] at n4; rw [n4] at e3; cases e3) e4), by rw [off_length]; exact hlR, ?_, ?_, s4 _ _ e3, ?_⟩
    · rw [off_co R o (S k) k (by omega), heq, hk, show N + 1 - (i + 1) = k by omega, low_step]
      grind
    · have := off_bd (m := p + (G + 1) * i) (n := G) (p := p + (G + 1) * i + G) (fun x hx => (bR x hx).mono (by omega)) bo bk (Nat.le_refl _) k o.length
      exact fun x hx => (this x hx).mono (by rw [Nat.mul_succ]; omega)
    · intro t ht
      by_cases c1 : N + 1 ≤ t + i
      · exact (bS t c1).mono (by rw [Nat.mul_succ]; omega)
      · rw [show t = k by omega]
        exact bk.mono (by rw [Nat.mul_succ]; omega)
  · rintro σ H2 ⟨rr, R, v5, v6, rfl, s2, hR, hR', hlR, heq, bR, hr2, bS⟩
    rw [show (((N : Nat) : Int) - -1).toNat = N + 1 by omega, qL_full] at hr2
    rw [show (((N : Nat) : Int) - -1).toNat = N + 1 by omega] at bS
    refine ⟨_, rfl, q r H2 hnr s2 hr2 fun x hx => ?_⟩
    obtain ⟨t, ht, rfl⟩ := List.mem_map.mp hx
    refine (bS t (by omega)).mono ?_
    have : (G + 1) * (N + 1) ≤ (G + 1) * c.length := Nat.mul_le_mul_left _ (by omega)
    omega

theorem scSim : FnScope ["curve"] ["curve"] (defScope sSimple) := ⟨rfl, rfl, rfl, by decide +kernel, rfl, by decide +kernel, by decide +kernel⟩
theorem ok_simple (F_check_curve : FnAt P w K mg base 1 "check_curve" ["curve"] (spCheckCurve K)) (F_check_not_nought : FnAt P w K mg base 1 "check_not_nought" ["curve"] (spCheckNN K)) (F_plain : FnAt P w K mg base 40 "plain" ["curve"] (spPlainS K)) (F_slope : FnAt P w K mg base 2 "slope" ["curve"] (spSlope K))
    (F_shared : FnAt P w K mg base 42 "shared" ["curve", "other"] (spSharedZ K)) (F_divided_out : FnAt P w K mg base 40 "divided_out" ["curve", "other"] (spDivided K)) (F : Fun K "simple" "simple" sSimple f fd) : FnOk P w K mg base CX0 43 f fd ["curve"] (spSimple K) := by
  refine F.ok scSim (fun vs H Q E h => ?_) (fun cdv A outer s H vs Q E hr h => ?_)
  · obtain ⟨a, c, p, L, rfl, _⟩ := h
    rfl
  obtain ⟨a, c, p, L, rfl, hA, hg, hne, hL, hL30, bc, hm, q⟩ := h
  refine ⟨_, (pss_cons (ps_expr (pe_callF F_check_curve hr rfl (pa_cons (pv 0) pa_nil)))
  (pss_cons (ps_expr (pe_callF F_check_not_nought hr rfl (pa_cons (pv 0) pa_nil)))
  (pss_one (ps_ret (pe_callF F_divided_out hr rfl (pa_cons (pe_callF F_plain hr rfl (pa_cons (pv 0) pa_nil)) (pa_cons (pe_callF F_shared hr rfl (pa_cons (pv 0) (pa_cons (pe_callF F_slope hr rfl (pa_cons (pv 0) pa_nil)) pa_nil))) pa_nil))))))), ?_⟩
  refine ⟨_, rfl, a, c, rfl, hA, hg, ?_⟩
  refine ⟨_, rfl, a, c, rfl, hA, hne, ?_⟩
  have c1 := List.length_pos_iff.mpr hne
  refine ⟨_, rfl, a, c, rfl, hA, hg, by omega, fun r1 H1 n1 s1 e1 => ?_⟩
  refine ⟨_, rfl, _, rfl, a, c, rfl, s1.seq hA, hg, by omega, fun r2 H2 n2 s2 e2 => ?_⟩
  have bs : ∀ x ∈ slopeL c, Bd (p + 5) x := fun x hx => by
    obtain ⟨i, hi, rfl⟩ := List.mem_map.mp hx
    have hi' : i < c.length - 1 := List.mem_range.mp hi
    have b1 : Bd 5 (1 + (i : Int)) := Bd.of_le 30 (by omega) (by decide)
    exact (b1.mul (bc _ (gmem (by omega)))).mono (by omega)
  have s12 := s1.trans s2
  have hge := gb_ge (L - 1) L (L - 1) p (p + 5)
  refine ⟨a, r2, c, slopeL c, L, L - 1, p, p + 5, rfl, s12.seq hA, SqL.of e2, hg, slope_good hg, hL, by rw [slope_length]; omega, by omega, by omega, bc, bs, by unfold simG at hm; omega, fun r3 H3 g n3 s3 hsh bg e3 => ?_⟩
  obtain ⟨g0, g1, gl, S, hd, heq, sim⟩ := simple_div hne hg hsh
  have gpos : 0 < g.getD (g.length - 1) 0 := by
    rcases hsh with ⟨z, _⟩ | ⟨_, _, _, z, _⟩
    · exact absurd z hne
    · exact z
  have s23 := s2.trans s3
  have hml : (simG p L + 1) * c.length ≤ (simG p L + 1) * L := Nat.mul_le_mul_left _ hL
  have pl := plain_length c
  refine ⟨r1, r3, plainL c, g, S, p, simG p L, rfl, SqL.of (s23 _ _ e1), SqL.of e3, g1, g0, gpos, by rw [pl]; exact gl, by rw [pl]; omega, by rw [pl]; exact hd, heq, plain_bd bc, bg, by rw [pl]; omega, fun r4 H4 n4 s4 e4 b4 => ?_⟩
  rw [pl] at e4 b4
  exact q r4 H4 _ ((s1.trans s23).free n4) ((s1.trans s23).trans s4) sim e4 fun x hx => (b4 x hx).mono (by omega)

theorem scAl : FnScope ["links", "place", "count", "ahead", "link", "sign"] ["links", "place"] (defScope sAlong) := ⟨rfl, rfl, rfl, by decide +kernel, rfl, by decide +kernel, by decide +kernel⟩

noncomputable def ahd : Int → List Int → Int
  | a, [] => a
  | a, s :: ss => ahd (if s ≠ 0 then s else a) ss
theorem chg_app (ss : List Int) : ∀ (a s : Int), chg a (ss ++ [s]) = chg a ss + (if ahd a ss * s = -1 then 1 else 0) ∧ ahd a (ss ++ [s]) = if s ≠ 0 then s else ahd a ss := by
  induction ss with
  | nil => intro a s; exact ⟨by show _ + chg _ [] = 0 + _; show _ + 0 = 0 + _; simp only [ahd]; omega, rfl⟩
  | cons x xs ih =>
    intro a s
    obtain ⟨h1, h2⟩ := ih (if x ≠ 0 then x else a) s
    refine ⟨?_, h2⟩
    show _ + chg _ (xs ++ [s]) = _ + chg _ xs + _
    rw [h1]
    simp only [ahd]
    omega
theorem ok_along (B : Bl mg) (F_sign_at : FnAt P w K mg base 2 "sign_at" ["curve", "place"] (spSignAtS K)) (F : Fun K "changes_along" "changes_along" sAlong f fd) : FnOk P w K mg base CX0 3 f fd ["links", "place"] (spAlong K) := by
  refine F.ok scAl (fun vs H Q E h => ?_) (fun cdv A outer s H vs Q E hr h => ?_)
  · obtain ⟨a, d, ws, ls, p, q, B0, rfl, _⟩ := h
    rfl
  obtain ⟨a, d, ws, ls, p, q, B0, rfl, hA, hL, hls, hz, hD, bp, bq, hB0, h0, fin⟩ := h
  refine ⟨_, (pss_cons (ps_set (i := 2) scAl.nd rfl (Or.inl rfl) pe_int)
  (pss_cons (ps_set (i := 3) scAl.nd rfl (Or.inl rfl) pe_int)
  (pss_cons (ps_for PassesOwn.never rfl (pi_list (pv 0)) (pg_name (i := 4) scAl.nd rfl (Or.inl rfl))
    (pss_cons (ps_set (i := 5) scAl.nd rfl (Or.inl rfl) (pe_callF F_sign_at hr rfl (pa_cons (pv 4) (pa_cons (pv 1) pa_nil))))
    (pss_cons (ps_if (pt_cmpR op_eq (pe_op op_mulK (pv 3) (pv 5)) (pe_un un_neg pe_int) (nomark _))
      (pss_one (ps_set (i := 2) scAl.nd rfl (Or.inl rfl) (pe_op op_add (pv 2) pe_int)))
      pss_nil)
    (pss_one (ps_if (pt_cmpR op_ne (pv 5) pe_int (nomark _))
      (pss_one (ps_set (i := 3) scAl.nd rfl (Or.inl rfl) (pv 5)))
      pss_nil)))))
  (pss_one (ps_ret (pv 2)))))), ?_⟩
  refine ⟨_, rfl, a, rfl, ⟨_, hA⟩, for_list (K := K) (a := a) (xs := ws) (fun i σ H2 => ∃ v4 v5 : Option V, σ = [some (.ref a), some (.ref d), some (.int (chg 0 ((ls.take i).map fun l => sgn (hv p q l)))), some (.int (ahd 0 ((ls.take i).map fun l => sgn (hv p q l)))), v4, v5] ∧ H2 = H ∧ Sg (ahd 0 ((ls.take i).map fun l => sgn (hv p q l))))
    ⟨none, none, rfl, rfl, .inr (.inl rfl)⟩ (fun i σ H2 _ ⟨_, _, _, e, _⟩ => by rw [e]; exact hA) ?_ ?_⟩
  · rintro i y σ H2 hi ⟨v4, v5, rfl, rfl, hsg⟩
    obtain ⟨l, g, h1, rfl, h3⟩ := hL.get hi
    obtain ⟨k1, k2, k3⟩ := hls l (List.mem_of_getElem? h1)
    have tk : ls.take (i + 1) = ls.take i ++ [l] := take_snoc h1
    have tm : (ls.take (i + 1)).map (fun l => sgn (hv p q l)) = (ls.take i).map (fun l => sgn (hv p q l)) ++ [sgn (hv p q l)] := by rw [tk, List.map_append]; rfl
    obtain ⟨c1, c2⟩ := chg_app ((ls.take i).map fun l => sgn (hv p q l)) 0 (sgn (hv p q l))
    have hs2 := sgn_sg (hv p q l)
    obtain ⟨sg, esg⟩ : ∃ sg, sgn (hv p q l) = sg := ⟨_, rfl⟩
    rw [esg] at c1 c2 hs2 tm
    rw [tm, c1, c2]
    generalize ahd 0 ((ls.take i).map fun l => sgn (hv p q l)) = ah at *
    generalize chg 0 ((ls.take i).map fun l => sgn (hv p q l)) = cn at *
    have hmo : IntMulOk ah sg := IntMulOk.of_left (intBits_le_64 (by rcases hsg with h | h | h <;> omega) (by rcases hsg with h | h | h <;> omega))
    refine ⟨_, rfl, _, rfl, g, d, l, p, q, B0, rfl, SqL.of h3, hD, k2, k3, bp, bq, hB0, k1, h0, ?_⟩
    rw [esg]
    have inj : ∀ {u v : Int}, V.int u = V.int v → u = v := fun e => by injection e
    refine ⟨_, rfl, _, rfl, _, _, rfl, rfl, hmo, _, rfl, rfl, _, rfl, ite2 (fun z => ?_) (fun z => ?_)⟩
    · have z' := inj (of_decide_eq_true z)
      rw [if_pos z']
      refine ⟨_, rfl, _, _, rfl, rfl, ?_⟩
      refine ⟨_, rfl, rfl, _, rfl, ite2 (fun y => ?_) (fun y => ?_)⟩
      · have y' : sg ≠ 0 := fun e => by rw [e] at y; exact absurd y (by decide)
        rw [if_pos y']
        exact ⟨_, rfl, _, _, rfl, rfl, hs2⟩
      · have y' : ¬ sg ≠ 0 := fun e => y (by rw [decide_eq_false (fun h => e (inj h))]; rfl)
        rw [if_neg y']
        exact ⟨_, _, rfl, rfl, hsg⟩
    · have z' : ¬ ah * sg = -1 := fun e => z (decide_eq_true (by show V.int (ah * sg) = V.int (-1); rw [e]))
      rw [if_neg z', Int.add_zero]
      refine ⟨_, rfl, rfl, _, rfl, ite2 (fun y => ?_) (fun y => ?_)⟩
      · have y' : sg ≠ 0 := fun e => by rw [e] at y; exact absurd y (by decide)
        rw [if_pos y']
        exact ⟨_, rfl, _, _, rfl, rfl, hs2⟩
      · have y' : ¬ sg ≠ 0 := fun e => y (by rw [decide_eq_false (fun h => e (inj h))]; rfl)
        rw [if_neg y']
        exact ⟨_, _, rfl, rfl, hsg⟩
  · rintro σ H2 ⟨v4, v5, rfl, rfl, _⟩
    rw [hL.1, List.take_length]
    exact ⟨_, rfl, fin⟩

theorem scCh : FnScope ["curve", "ahead", "behind", "links", "rest"] ["curve"] (defScope sChain) := ⟨rfl, rfl, rfl, by decide +kernel, rfl, by decide +kernel, by decide +kernel⟩
theorem ok_chain (B : Bl mg) (F_check_curve : FnAt P w K mg base 1 "check_curve" ["curve"] (spCheckCurve K)) (F_check_not_nought : FnAt P w K mg base 1 "check_not_nought" ["curve"] (spCheckNN K)) (F_plain : FnAt P w K mg base 40 "plain" ["curve"] (spPlainS K)) (F_slope : FnAt P w K mg base 2 "slope" ["curve"] (spSlope K))
    (F_simple : FnAt P w K mg base 43 "simple" ["curve"] (spSimple K)) (F_left : FnAt P w K mg base 41 "left" ["curve", "other"] (spLeftS K)) (F : Fun K "chain" "chain" sChain f fd) : FnOk P w K mg base CX0 44 f fd ["curve"] (spChain K) := by
  refine F.ok scCh (fun vs H Q E h => ?_) (fun cdv A outer s H vs Q E hr h => ?_)
  · obtain ⟨a, c, p, L, ps, Ls, rfl, _⟩ := h
    rfl
  obtain ⟨a, c, p, L, ps, Ls, rfl, hA, hg, hne, hL, hL30, bc, hm, hsim, hLs, hcb, q⟩ := h
  refine ⟨_, (pss_cons (ps_expr (pe_callF F_check_curve hr rfl (pa_cons (pv 0) pa_nil)))
  (pss_cons (ps_expr (pe_callF F_check_not_nought hr rfl (pa_cons (pv 0) pa_nil)))
  (pss_cons (ps_set (i := 1) scCh.nd rfl (Or.inl rfl) (pe_callF F_simple hr rfl (pa_cons (pv 0) pa_nil)))
  (pss_cons (ps_set (i := 2) scCh.nd rfl (Or.inl rfl) (pe_callF F_plain hr rfl (pa_cons (pe_callF F_slope hr rfl (pa_cons (pv 1) pa_nil)) pa_nil)))
  (pss_cons (ps_set (i := 3) scCh.nd rfl (Or.inl rfl) (pe_lst (pa_cons (pv 1) pa_nil)))
  (pss_cons (ps_while PassesOwn.never (pt_cmpR op_gt (pe_callB call_len_seq rfl B.len_ bt_len (pa_cons (pv 2) pa_nil)) pe_int (nomark _))
    (pss_cons (ps_expr (pe_bm PySem.F.plainAttrs_list PySem.F.slot_list_append PySem.F.type_list_append mt_append (pv 3) (pa_cons (pv 2) pa_nil)))
    (pss_cons (ps_set (i := 4) scCh.nd rfl (Or.inl rfl) (pe_callF F_left hr rfl (pa_cons (pv 1) (pa_cons (pv 2) pa_nil))))
    (pss_cons (ps_set (i := 1) scCh.nd rfl (Or.inl rfl) (pv 2))
    (pss_one (ps_lc (N := []) (fr := []) (i := 2) (compOk (by with_unfolding_all rfl) (by decide +kernel) rfl (by decide +kernel) rfl (by decide +kernel) all0 rfl trivial rfl rfl) scCh.nd rfl (Or.inl rfl) (pi_list (pv 4)) (fun _ _ _ _ _ => pe_un un_neg (pv 0))))))))
  (pss_one (ps_ret (pv 3))))))))), ?_⟩
  refine ⟨_, rfl, a, c, rfl, hA, hg, ?_⟩
  refine ⟨_, rfl, a, c, rfl, hA, hne, ?_⟩
  refine ⟨_, rfl, a, c, p, L, rfl, hA, hg, hne, hL, hL30, bc, hm, fun r1 H1 sm n1 s1 sim e1 bsm => ?_⟩
  obtain ⟨lsm, bsm⟩ := hsim sm sim bsm
  have sm0 := sim.1
  have smg := sim.2.1
  have sm1 := List.length_pos_iff.mpr sm0
  refine ⟨_, rfl, r1, sm, rfl, SqL.of e1, smg, by omega, fun r2 H2 n2 s2 e2 => ?_⟩
  refine ⟨r2, slopeL sm, rfl, SqL.of e2, slope_good smg, by rw [slope_length]; omega, fun r3 H3 n3 s3 e3 => ?_⟩
  have s23 := s2.trans s3
  refine ⟨_, rfl, by show 1 ≤ sizeLine; decide, fun r4 n4 => ?_⟩
  have s4 : Same H3 (upd H3 r4 (.lst [.ref r1])) := same_new n4 _
  have e4 : upd H3 r4 (.lst [.ref r1]) r4 = some (.lst [.ref r1]) := upd_same
  generalize upd H3 r4 (.lst [.ref r1]) = G4 at s4 e4 ⊢
  have bs : ∀ x ∈ slopeL sm, Bd (ps + 5) x := fun x hx => by
    obtain ⟨i, hi, rfl⟩ := List.mem_map.mp hx
    have hi' : i < sm.length - 1 := List.mem_range.mp hi
    have b1 : Bd 5 (1 + (i : Int)) := Bd.of_le 30 (by omega) (by decide)
    exact (b1.mul (bsm _ (gmem (by omega)))).mono (by omega)
  have b0 := plain_bd bs
  have e14 := s4 _ _ (s23 _ _ e1)
  have e34 := s4 _ _ e3
  have hnr4 : H r4 = none := ((s1.trans s23)).free n4
  have sA : Same H G4 := (s1.trans s23).trans s4
  generalize hCB : cb (Ls - 1) Ls ps (ps + 5) = CB at hcb q
  have hge0 := cb_ge (Ls - 1) Ls ps (ps + 5)
  refine ⟨fun N σ H2 => ∃ (q1 q2 : Addr) (x y : List Int) (ws : List V) (ls : List (List Int)) (La l pa pb : Nat) (v4 : Option V), σ = [some (.ref a), some (.ref q1), some (.ref q2), some (.ref r4), v4] ∧ Same H H2 ∧ H2 q1 = some (IL x) ∧ H2 q2 = some (IL y) ∧ q1 ≠ r4 ∧ q2 ≠ r4 ∧ H2 r4 = some (.lst ws) ∧ GoodL x ∧ GoodL y ∧ x ≠ [] ∧ x.length ≤ La ∧ y.length ≤ l ∧ N = l ∧ La ≤ Ls ∧ l + ws.length ≤ Ls ∧
      (∀ z ∈ x, Bd pa z) ∧ (∀ z ∈ y, Bd pb z) ∧ cb l La pa pb ≤ CB ∧ (∀ (G : Hp), (∀ b o, b ≠ r4 → H2 b = some o → G b = some o) → ListsAt G ws ls) ∧ (∀ u ∈ ls, GoodL u ∧ u ≠ [] ∧ u.length ≤ Ls ∧ ∀ z ∈ u, Bd CB z) ∧ (∀ m, Steps x y m → ∃ t, ls ++ m = sm :: t ∧ Steps sm (plainL (slopeL sm)) t),
    ⟨Ls - 1, r1, r3, sm, plainL (slopeL sm), [.ref r1], [sm], Ls, Ls - 1, ps, ps + 5, none, rfl, sA, e14, e34, fun z => ?_, fun z => ?_, e4, smg, plain_good (slope_good smg), sm0, lsm, by rw [plain_length, slope_length]; omega, rfl, Nat.le_refl _, by show Ls - 1 + 1 ≤ Ls; omega, bsm, b0, ?_, fun G k => ?_, fun u hu => ?_, fun m hm => ⟨m, rfl, hm⟩⟩, ?_⟩
  · have := s23 _ _ e1
    rw [z, n4] at this
    cases this
  · have := e3
    rw [z, n4] at this
    cases this
  · exact Nat.le_of_eq hCB
  · exact ListsAt.snoc (ListsAt.nil G) (k _ _ (fun z => by have := s23 _ _ e1; rw [z, n4] at this; cases this) e14)
  · rw [List.mem_singleton.mp hu]
    exact ⟨smg, sm0, lsm, fun z hz => (bsm z hz).mono (by rcases hge0 with h | h <;> omega)⟩
  rintro N σ H2 ⟨q1, q2, x, y, ws, ls, La, l, pa, pb, v4, rfl, sH, f1, f2, d1, d2, f4, gx, gy, x0, lx, ly, rfl, hLa, hws, bx, by', hcb', hLs', hlg, hst⟩
  have hl : (y.map V.int).length = y.length := List.length_map _
  refine ⟨_, rfl, q2, _, rfl, .inl (SqL.of f2), _, _, rfl, rfl, _, rfl, ite2 (fun z => ?_) (fun z => ?_)⟩
  · have z' : (0 : Int) < (((y.map V.int).length : Nat) : Int) := of_decide_eq_true z
    rw [hl] at z'
    have yne : y ≠ [] := fun e => by rw [e] at z'; exact absurd z' (by decide)
    obtain ⟨l', rfl⟩ : ∃ l', N = l' + 1 := ⟨N - 1, by omega⟩
    have hcb2 : cb l' (l' + 1) pb (pa + (pb + 1) * La) ≤ CB := hcb'
    have hx1 := List.length_pos_iff.mpr x0
    have hgeY : pb + (pa + (pb + 1) * La) ≤ CB := by
      rcases cb_ge l' (l' + 1) pb (pa + (pb + 1) * La) with h | h <;> omega
    have hmul : (pb + 1) * x.length ≤ (pb + 1) * La := Nat.mul_le_mul_left _ lx
    refine ⟨fun σ' H' => ∃ (q3 : Addr) (R : List Int) (v4 : Option V), σ' = [some (.ref a), some (.ref q2), some (.ref q3), some (.ref r4), v4] ∧ Same H H' ∧ H' q2 = some (IL y) ∧ q3 ≠ r4 ∧ H' q3 = some (IL (negL (plainL R))) ∧ H' r4 = some (.lst (ws ++ [.ref q2])) ∧ Left x y R ∧ (∀ z ∈ R, Bd (pa + (pb + 1) * La) z) ∧ (∀ b o, b ≠ r4 → H2 b = some o → H' b = some o), ?_, ?_⟩
    · rintro σ' H' ⟨q3, R, w4, rfl, s3, g2, d3, g3, g4, hL, bR, keep⟩
      have hlR := hL.2.1
      refine ⟨l', by omega, q2, q3, y, negL (plainL R), ws ++ [.ref q2], ls ++ [y], l' + 1, l', pb, pa + (pb + 1) * La, _, rfl, s3, g2, g3, d2, d3, g4, gy, neg_good (plain_good hL.1), yne, ly, by rw [neg_length, plain_length]; omega, rfl, by omega, by rw [List.length_append, List.length_singleton]; omega, by', ?_, hcb2, fun G k => ?_, fun u hu => ?_, fun m hm => ?_⟩
      · intro z hz
        obtain ⟨z', hz', rfl⟩ := List.mem_map.mp hz
        exact (plain_bd bR z' hz').neg
      · exact (hLs' G fun b o nb e => k b o nb (keep b o nb e)).snoc (k _ _ d2 g2)
      · rcases List.mem_append.mp hu with hu | hu
        · exact hlg u hu
        · rw [List.mem_singleton.mp hu]
          exact ⟨gy, yne, by omega, fun z hz => (by' z hz).mono (by omega)⟩
      · obtain ⟨t, e, h⟩ := hst (y :: m) (Steps.step x y R m yne hL hm)
        exact ⟨t, by rw [List.append_assoc]; exact e, h⟩
    · refine ⟨_, rfl, .inl ⟨rfl, _, SqL.of f4⟩, _, rfl, r4, _, _, rfl, rfl, f4, small1000 (by omega), ?_⟩
      have s5 : Same H (upd H2 r4 (.lst (ws ++ [.ref q2]))) := fun z ob e => by
        rw [upd_ne (ne_of_none e hnr4)]
        exact sH _ _ e
      have k5 : ∀ b o, b ≠ r4 → H2 b = some o → upd H2 r4 (.lst (ws ++ [.ref q2])) b = some o := fun b o nb e => by rw [upd_ne nb]; exact e
      have e5 : upd H2 r4 (.lst (ws ++ [.ref q2])) r4 = some (.lst (ws ++ [.ref q2])) := upd_same
      generalize upd H2 r4 (.lst (ws ++ [.ref q2])) = G5 at s5 k5 e5 ⊢
      refine ⟨_, rfl, _, rfl, q1, q2, x, y, pa, pb, rfl, SqL.of (k5 _ _ d1 f1), SqL.of (k5 _ _ d2 f2), gx, gy, yne, by omega, by omega, bx, by', by omega, fun q6 G6 R n6 s6 hL hRx bR e6 => ?_⟩
      refine ⟨_, rfl, _, rfl, q6, rfl, ⟨_, SqL.of e6⟩, lc_list (onInt (- ·)) (SqL.of e6) (by rw [List.length_map, plain_length]; omega) ?_ ?_⟩
      · intro y v0 H5 Q2 hy s7 q2
        obtain ⟨i, hi, rfl⟩ := List.mem_map.mp hy
        exact ⟨_, rfl, _, rfl, q2⟩
      · intro D7 G7 n7 s7 e7
        rw [map_onInt] at e7
        have s67 := s6.trans s7
        exact ⟨D7, R, _, rfl, s5.trans s67, s67 _ _ (k5 _ _ d2 f2), (fun z => by rw [z] at n7; rw [s6 _ _ e5] at n7; cases n7), e7, s67 _ _ e5, hL, fun u hu => (bR u hu).mono (by omega), fun b o nb e => s67 _ _ (k5 b o nb e)⟩
  · have z' : ¬ (0 : Int) < (((y.map V.int).length : Nat) : Int) := of_decide_eq_false (Bool.eq_false_iff.mpr z)
    rw [hl] at z'
    have y0 : y = [] := List.eq_nil_of_length_eq_zero (by omega)
    subst y0
    obtain ⟨t, e, h⟩ := hst [] (Steps.stop x)
    rw [List.append_nil] at e
    exact ⟨_, rfl, q r4 H2 ws ls hnr4 sH ⟨sm, t, sim, e, h⟩ f4 (hLs' H2 fun b o _ e => e) hlg (by omega)⟩

theorem scRc : FnScope ["curve", "greatest"] ["curve"] (defScope sReach) := ⟨rfl, rfl, rfl, by decide +kernel, rfl, by decide +kernel, by decide +kernel⟩
theorem ok_reach (hN : base.NoSeer) (hT : P.given.tree = none) (B : Bl mg) (hmax : mg "max" = none) (F_check_curve : FnAt P w K mg base 1 "check_curve" ["curve"] (spCheckCurve K)) (F_check_not_nought : FnAt P w K mg base 1 "check_not_nought" ["curve"] (spCheckNN K)) (F : Fun K "reach" "reach" sReach f fd) : FnOk P w K mg base CX0 40 f fd ["curve"] (spReach K) := by
  refine F.ok scRc (fun vs H Q E h => ?_) (fun cdv A outer s H vs Q E hr h => ?_)
  · obtain ⟨a, c, rfl, _⟩ := h
    rfl
  obtain ⟨a, c, rfl, hA, hg, hne, hz, k⟩ := h
  have hdp : (A.deeper (PyProof.Rows.envOfC "reach" (defScope sReach) s.heap.objs.size f cdv)).depth + 100 < recursionLimit := by have := hr.dp; omega
  refine ⟨_, (pss_cons (ps_expr (pe_callF F_check_curve hr rfl (pa_cons (pv 0) pa_nil)))
  (pss_cons (ps_expr (pe_callF F_check_not_nought hr rfl (pa_cons (pv 0) pa_nil)))
  (pss_cons (ps_set (i := 1) scRc.nd rfl (Or.inl rfl) (pe_maxD rfl rfl hmax (pa_cons (pe_lc (N := []) (fr := []) (compOk (by with_unfolding_all rfl) (by decide +kernel) rfl (by decide +kernel) rfl (by decide +kernel) all0 rfl trivial rfl rfl) (pi_list (pe_slice sl_list (pv 0) po_none (po_some (pe_un un_neg pe_int)))) (fun _ _ _ _ _ => pe_callB call_abs rfl B.abs_ bt_abs (pa_cons (pv 0) pa_nil))) pa_nil) (pk_cons pe_int pk_nil)))
  (pss_one (ps_ret (pe_op op_add pe_int (pe_op (op_fdivS hN hT rfl rfl rfl rfl rfl hdp) (pv 1) (pe_callB call_abs rfl B.abs_ bt_abs (pa_cons (pe_ix ix_list (pv 0) (pe_un un_neg pe_int) (fun _ _ => rfl)) pa_nil))))))))), ?_⟩
  refine ⟨_, rfl, a, c, rfl, hA, hg, ?_⟩
  refine ⟨_, rfl, a, c, rfl, hA, hne, ?_⟩
  have ld : c.dropLast.length ≤ 1000 := by rw [List.length_dropLast]; omega
  refine ⟨_, rfl, _, rfl, _, rfl, a, _, rfl, hA, fun p1 n1 => ?_⟩
  have s1 : Same H (upd H p1 (.lst (cutV (c.map V.int) none (some (-1))))) := same_new n1 _
  have e1 : upd H p1 (.lst (cutV (c.map V.int) none (some (-1)))) p1 = some (IL c.dropLast) := by rw [upd_same, cut_last hne]
  generalize upd H p1 (.lst (cutV (c.map V.int) none (some (-1)))) = G1 at s1 e1 ⊢
  refine ⟨p1, rfl, ⟨_, SqL.of e1⟩, lc_list (onInt fun i => (i.natAbs : Int)) (SqL.of e1) (by rw [List.length_map]; exact ld) ?_ ?_⟩
  · intro y v0 H5 Q2 hy s7 q2
    obtain ⟨i, hi, rfl⟩ := List.mem_map.mp hy
    refine ⟨_, rfl, _, rfl, ?_⟩
    have e : (if i < 0 then -i else i) = (i.natAbs : Int) := by split <;> omega
    rw [e]
    exact q2
  · intro D G2 hD s2 hd
    rw [map_onInt] at hd
    refine ⟨D, _, 0, rfl, rfl, SqL.of hd, fun m h0 h1 => ?_⟩
    have em := mx_is h0 h1
    subst em
    have l0 := hg hne
    generalize hL : c.getD (c.length - 1) 0 = L at l0
    have aL : atI (c.map V.int) (-1) = some (.int L) := by rw [← hL]; exact atI_last_ints hne
    have e : (if L < 0 then -L else L) = (L.natAbs : Int) := by split <;> omega
    refine ⟨_, rfl, _, rfl, _, rfl, a, _, _, _, rfl, rfl, (s1.trans s2).seq hA, aL, _, rfl, ?_⟩
    rw [e]
    refine ⟨_, _, rfl, rfl, by omega, _, _, rfl, rfl, ?_⟩
    have := k G2 (s1.trans s2)
    unfold reachL at this
    rw [hL] at this
    exact this

theorem scBf : FnScope ["_law_root", "_law_place", "_law_top", "_law_parts", "_law_square"] ["_law_root", "_law_place"] (defScope sBefore) := ⟨rfl, rfl, rfl, by decide +kernel, rfl, by decide +kernel, by decide +kernel⟩
theorem ok_before (F : Fun K "_law_before" "_law_before" sBefore f fd) : FnOk P w K mg base CX0 1 f fd ["_law_root", "_law_place"] (spBefore K) := by
  refine F.ok scBf (fun vs H Q E h => ?_) (fun cdv A outer s H vs Q E hr h => ?_)
  · obtain ⟨t, d, r, n, p, q, B, rfl, _⟩ := h
    rfl
  obtain ⟨t, d, ⟨b, u, v⟩, n, p, q, B, rfl, hT, hD, ok, h8, hq, bp, bq, hB, k⟩ := h
  refine ⟨_, (pss_cons (ps_asg (pv 1) (pg_tup rfl (pgs_cons (pg_name (i := 2) scBf.nd rfl (Or.inl rfl)) (pgs_cons (pg_name (i := 3) scBf.nd rfl (Or.inl rfl)) pgs_nil))))
  (pss_cons (ps_if (pt_cmpR op_eq (pe_ix ix_tup (pv 0) pe_int (fun _ _ => rfl)) pe_str (nomark _))
    (pss_one (ps_ret (pe_cmpR op_lt (pe_op op_mulK (pe_ix ix_tup (pv 0) pe_int (fun _ _ => rfl)) (pv 3)) (pe_op op_mulK (pv 2) (pe_ix ix_tup (pv 0) pe_int (fun _ _ => rfl))) (nomark _))))
    pss_nil)
  (pss_cons (ps_set (i := 4) scBf.nd rfl (Or.inl rfl) (pe_op op_sub (pe_op op_mulK (pv 2) (pv 2)) (pe_op op_mulK (pe_op op_mulK (pe_ix ix_tup (pv 0) pe_int (fun _ _ => rfl)) (pv 3)) (pv 3))))
  (pss_cons (ps_if (pt_cmpR op_gt (pe_ix ix_tup (pv 0) pe_int (fun _ _ => rfl)) pe_int (nomark _))
    (pss_one (ps_ret (pe_and (pe_cmpR op_gt (pv 2) pe_int (nomark _)) (pe_one (pe_cmpR op_gt (pv 4) pe_int (nomark _))))))
    pss_nil)
  (pss_one (ps_ret (pe_or (pe_cmpR op_ge (pv 2) pe_int (nomark _)) (pe_one (pe_cmpR op_lt (pv 4) pe_int (nomark _)))))))))), ?_⟩
  obtain ⟨bu, bv, _⟩ := root_bd ok h8
  dsimp only at bu bv h8 hT
  refine ⟨_, rfl, d, _, rfl, hD, rfl, _, _, rfl, _, _, rfl, rfl, ?_⟩
  cases b with
  | false =>
    refine ⟨_, rfl, t, _, _, _, rfl, rfl, hT, rfl, rfl, _, rfl, iteT ?_⟩
    exact ⟨_, rfl, t, _, _, _, rfl, rfl, hT, rfl, _, rfl, _, _, rfl, rfl, bu.mulOkS bq, _, rfl, _, rfl, t, _, _, _, rfl, rfl, hT, rfl, _, _, rfl, rfl, bp.mulOkS bv, _, _, rfl, rfl, k⟩
  | true =>
    refine ⟨_, rfl, t, _, _, _, rfl, rfl, hT, rfl, rfl, _, rfl, iteF ?_⟩
    refine ⟨_, rfl, _, rfl, _, _, rfl, rfl, bp.mulOkS bp, _, rfl, t, _, _, _, rfl, rfl, hT, rfl, _, rfl, _, _, rfl, rfl, bv.mulOkS bq, _, rfl, _, _, rfl, rfl, (bv.mul bq).mulOkS bq, _, _, rfl, rfl, ?_⟩
    rcases ok.1 with e | e
    · subst e
      refine ⟨_, rfl, t, _, _, _, rfl, rfl, hT, rfl, _, _, rfl, rfl, _, rfl, iteT ?_⟩
      have kk : ltR (true, 1, v) p q = decide (p > 0 ∧ p * p - v * q * q > 0) := le_far_pos hq
      rw [kk] at k
      refine ⟨_, rfl, _, _, rfl, rfl, _, rfl, ite2 (fun z => ?_) (fun z => ?_)⟩
      · have z' : (0 : Int) < p := of_decide_eq_true z
        refine ⟨_, rfl, _, _, rfl, rfl, ?_⟩
        have e2 : decide (p > 0 ∧ p * p - v * q * q > 0) = decide (0 < p * p - v * q * q) := decide_eq_decide.mpr ⟨fun h => h.2, fun h => ⟨z', h⟩⟩
        rw [e2] at k
        exact k
      · have z' : ¬ (0 : Int) < p := of_decide_eq_false (Bool.eq_false_iff.mpr z)
        have e2 : decide (p > 0 ∧ p * p - v * q * q > 0) = false := decide_eq_false fun h => z' h.1
        rw [e2] at k
        exact k
    · subst e
      refine ⟨_, rfl, t, _, _, _, rfl, rfl, hT, rfl, _, _, rfl, rfl, _, rfl, iteF ?_⟩
      have kk : ltR (true, -1, v) p q = decide (p ≥ 0 ∨ p * p - v * q * q < 0) := le_far_neg hq
      rw [kk] at k
      refine ⟨_, rfl, _, _, rfl, rfl, _, rfl, ite2 (fun z => ?_) (fun z => ?_)⟩
      · have z' : (0 : Int) ≤ p := of_decide_eq_true z
        have e2 : decide (p ≥ 0 ∨ p * p - v * q * q < 0) = true := decide_eq_true (.inl z')
        rw [e2] at k
        exact k
      · have z' : ¬ (0 : Int) ≤ p := of_decide_eq_false (Bool.eq_false_iff.mpr z)
        refine ⟨_, rfl, _, _, rfl, rfl, ?_⟩
        have e2 : decide (p ≥ 0 ∨ p * p - v * q * q < 0) = decide (p * p - v * q * q < 0) := decide_eq_decide.mpr ⟨fun h => h.elim (fun y => absurd y z') id, .inr⟩
        rw [e2] at k
        exact k

theorem scUp : FnScope ["_law_root", "_law_place"] ["_law_root", "_law_place"] (defScope sUpTo) := ⟨rfl, rfl, rfl, by decide +kernel, rfl, by decide +kernel, by decide +kernel⟩
theorem ok_upto (F_law_before : FnAt P w K mg base 1 "_law_before" ["_law_root", "_law_place"] (spBefore K)) (F : Fun K "_law_up_to" "_law_up_to" sUpTo f fd) : FnOk P w K mg base CX0 2 f fd ["_law_root", "_law_place"] (spUpTo K) := by
  refine F.ok scUp (fun vs H Q E h => ?_) (fun cdv A outer s H vs Q E hr h => ?_)
  · obtain ⟨t, d, r, n, p, q, B, rfl, _⟩ := h
    rfl
  obtain ⟨t, d, ⟨b, u, v⟩, n, p, q, B, rfl, hT, hD, ok, h8, hq, bp, bq, hB, k⟩ := h
  refine ⟨_, (pss_cons (ps_if (PW.pt (pw_and (pt_cmpR op_eq (pe_ix ix_tup (pv 0) pe_int (fun _ _ => rfl)) pe_str (nomark _)) (pw_and1 (pt_cmpR op_eq (pe_op op_mulK (pe_ix ix_tup (pv 0) pe_int (fun _ _ => rfl)) (pe_ix ix_tup (pv 1) pe_int (fun _ _ => rfl))) (pe_op op_mulK (pe_ix ix_tup (pv 1) pe_int (fun _ _ => rfl)) (pe_ix ix_tup (pv 0) pe_int (fun _ _ => rfl))) (nomark _)))))
    (pss_one (ps_ret pe_bl))
    pss_nil)
  (pss_one (ps_ret (pe_callF F_law_before hr rfl (pa_cons (pv 0) (pa_cons (pv 1) pa_nil)))))), ?_⟩
  obtain ⟨bu, bv, _⟩ := root_bd ok h8
  dsimp only at bu bv
  cases b with
  | false =>
    have kk : leR (false, u, v) (plc p q) = decide (u * q ≤ p * v) := le_at hq
    rw [kk] at k
    refine ⟨_, rfl, t, _, _, _, rfl, rfl, hT, rfl, rfl, _, rfl, iteT ?_⟩
    refine ⟨_, rfl, t, _, _, _, rfl, rfl, hT, rfl, _, rfl, d, _, _, _, rfl, rfl, hD, rfl, _, _, rfl, rfl, bu.mulOkS bq, _, rfl, d, _, _, _, rfl, rfl, hD, rfl, _, rfl, t, _, _, _, rfl, rfl, hT, rfl, _, _, rfl, rfl, bp.mulOkS bv, rfl, _, rfl, ite2 (fun z => ?_) (fun z => ?_)⟩
    · have z' := of_decide_eq_true z
      injection z' with z'
      have z2 : u * q = p * v := z'
      rw [decide_eq_true (by omega)] at k
      exact k
    · have z2 : ¬ u * q = p * v := fun e => z (decide_eq_true (by show V.int (u * q) = V.int (p * v); rw [e]))
      refine ⟨_, rfl, _, rfl, t, d, (false, u, v), n, p, q, B, rfl, hT, hD, ok, h8, hq, bp, bq, hB, ?_⟩
      have e2 : ltR (false, u, v) p q = decide (u * q ≤ p * v) := by
        show decide (u * q < p * v) = decide (u * q ≤ p * v)
        exact decide_eq_decide.mpr (by omega)
      rw [e2]
      exact k
  | true =>
    refine ⟨_, rfl, t, _, _, _, rfl, rfl, hT, rfl, rfl, _, rfl, iteF (iteF ?_)⟩
    exact ⟨_, rfl, _, rfl, t, d, (true, u, v), n, p, q, B, rfl, hT, hD, ok, h8, hq, bp, bq, hB, k⟩

theorem scKn : FnScope ["_law_rows", "_law_roots", "_law_factor", "_law_times"] ["_law_rows"] (defScope sKnown) := ⟨rfl, rfl, rfl, by decide +kernel, rfl, by decide +kernel, by decide +kernel⟩
theorem rootsT_snoc (rows : List (List Int × Nat)) (p : List Int × Nat) : rootsT (rows ++ [p]) = rootsT rows ++ (rootsF p.1).map fun r => (r, p.2) := by
  unfold rootsT
  rw [List.flatMap_append]
  simp
theorem rootsT_few {rows : List (List Int × Nat)} (hf : ∀ p ∈ rows, Fac p.1) : (rootsT rows).length ≤ 2 * rows.length := by
  induction rows with
  | nil => exact Nat.zero_le _
  | cons p rows ih =>
    have h1 := ih fun q hq => hf q (List.mem_cons_of_mem _ hq)
    have h2 : (rootsF p.1).length ≤ 2 := by
      rcases hf p List.mem_cons_self with ⟨b, a, e, _⟩ | ⟨x, _, e⟩
      · rw [e]; exact Nat.le_succ 1
      · rw [e]; unfold rootsF; dsimp only; split
        · exact Nat.le_refl 2
        · exact Nat.zero_le 2
    show ((rootsF p.1).map _ ++ rootsT rows).length ≤ _
    rw [List.length_append, List.length_map, List.length_cons]
    omega
theorem ok_known (B : Bl mg) (F : Fun K "_law_known_roots" "_law_known_roots" sKnown f fd) : FnOk P w K mg base CX0 1 f fd ["_law_rows"] (spKnown K) := by
  refine F.ok scKn (fun vs H Q E h => ?_) (fun cdv A outer s H vs Q E hr h => ?_)
  · obtain ⟨a, ws, rows, rfl, _⟩ := h
    rfl
  obtain ⟨a, ws, rows, rfl, hA, hR, hf, hz, k⟩ := h
  refine ⟨_, (pss_cons (ps_set (i := 1) scKn.nd rfl (Or.inl rfl) (pe_lst pa_nil))
  (pss_cons (ps_for PassesOwn.never rfl (pi_list (pv 0)) (pg_tup rfl (pgs_cons (pg_name (i := 2) scKn.nd rfl (Or.inl rfl)) (pgs_cons (pg_name (i := 3) scKn.nd rfl (Or.inl rfl)) pgs_nil)))
    (pss_one (ps_if (pt_cmpR op_eq (pe_callB call_len_seq rfl B.len_ bt_len (pa_cons (pv 2) pa_nil)) pe_int (nomark _))
      (pss_one (ps_expr (pe_bm PySem.F.plainAttrs_list PySem.F.slot_list_append PySem.F.type_list_append mt_append (pv 1) (pa_cons (pe_tup (pa_cons pe_str (pa_cons (pe_op op_sub pe_int (pe_ix ix_list (pv 2) pe_int (fun _ _ => rfl))) (pa_cons (pe_ix ix_list (pv 2) pe_int (fun _ _ => rfl)) (pa_cons (pv 3) pa_nil))))) pa_nil))))
      (pss_one (ps_if (pt_cmpR op_lt (pe_ix ix_list (pv 2) pe_int (fun _ _ => rfl)) pe_int (nomark _))
        (pss_cons (ps_expr (pe_bm PySem.F.plainAttrs_list PySem.F.slot_list_append PySem.F.type_list_append mt_append (pv 1) (pa_cons (pe_tup (pa_cons pe_str (pa_cons (pe_un un_neg pe_int) (pa_cons (pe_op op_sub pe_int (pe_ix ix_list (pv 2) pe_int (fun _ _ => rfl))) (pa_cons (pv 3) pa_nil))))) pa_nil)))
        (pss_one (ps_expr (pe_bm PySem.F.plainAttrs_list PySem.F.slot_list_append PySem.F.type_list_append mt_append (pv 1) (pa_cons (pe_tup (pa_cons pe_str (pa_cons pe_int (pa_cons (pe_op op_sub pe_int (pe_ix ix_list (pv 2) pe_int (fun _ _ => rfl))) (pa_cons (pv 3) pa_nil))))) pa_nil)))))
        pss_nil)))))
  (pss_one (ps_ret (pv 1))))), ?_⟩
  refine ⟨Nat.zero_le _, fun r nr => ?_⟩
  have s0 : Same H (upd H r (.lst [])) := same_new nr _
  have e0 : upd H r (.lst []) r = some (.lst []) := upd_same
  generalize upd H r (.lst []) = G0 at s0 e0 ⊢
  have w1 := hR.1
  refine ⟨_, rfl, a, rfl, ⟨_, s0.seq hA⟩, for_list (K := K) (a := a) (xs := ws)
    (fun i σ H2 => ∃ (zs : List V) (v2 v3 : Option V), σ = [some (.ref a), some (.ref r), v2, v3] ∧ Same H H2 ∧ H2 r = some (.lst zs) ∧ zs.length ≤ 2 * i ∧ ∀ G : Hp, (∀ b o, b ≠ r → H2 b = some o → G b = some o) → RootsAt G zs (rootsT (rows.take i)))
    ⟨[], none, none, rfl, s0, e0, Nat.zero_le _, fun G _ => RootsAt.nil G⟩ (fun i σ H2 _ ⟨_, _, _, _, s, _⟩ => s.seq hA) ?_ ?_⟩
  · rintro i v σ H2 hi ⟨zs, v2, v3, rfl, s2, h2, hzl, hzs⟩
    have hil : i < ws.length := (List.getElem?_eq_some_iff.mp hi).1
    obtain ⟨p, hp, t, u, rfl, htt, hu2⟩ := (hR.mono s2).get hi
    have cs := rootsT_snoc (rows.take i) p
    rw [← take_snoc hp] at cs
    refine ⟨t, _, rfl, SqT.of htt, rfl, _, _, rfl, _, _, rfl, rfl, ?_⟩
    refine ⟨_, rfl, u, _, rfl, .inl (SqL.of hu2), rfl, _, rfl, ?_⟩
    have hl : (p.1.map V.int).length = p.1.length := List.length_map _

    have more : ∀ (G : Hp) (xs : List V) (rs : List ((Bool × Int × Int) × Nat)) (x : (Bool × Int × Int) × Nat) (t8 : Addr), G r = some (.lst xs) → Same H G → (∀ b o, b ≠ r → H2 b = some o → G b = some o) → (∀ G' : Hp, (∀ b o, b ≠ r → G b = some o → G' b = some o) → RootsAt G' xs rs) → G t8 = none →
        ∃ G9 : Hp, G9 = upd (upd G t8 (.tup [.str (kindS x.1.1), .int x.1.2.1, .int x.1.2.2, .int (x.2 : Int)])) r (.lst (xs ++ [.ref t8])) ∧ G9 r = some (.lst (xs ++ [.ref t8])) ∧ Same H G9 ∧ (∀ b o, b ≠ r → G b = some o → G9 b = some o) ∧ ∀ G' : Hp, (∀ b o, b ≠ r → G9 b = some o → G' b = some o) → RootsAt G' (xs ++ [.ref t8]) (rs ++ [x]) := by
      intro G xs rs x t8 hG sG kG hx n8
      have t8r : t8 ≠ r := fun e => by rw [e, hG] at n8; cases n8
      have kk : ∀ b o, b ≠ r → G b = some o → upd (upd G t8 (.tup [.str (kindS x.1.1), .int x.1.2.1, .int x.1.2.2, .int (x.2 : Int)])) r (.lst (xs ++ [.ref t8])) b = some o := fun b o nb e => by
        rw [upd_ne nb, upd_ne (ne_of_none e n8)]
        exact e
      refine ⟨_, rfl, upd_same, fun b o e => kk b o (ne_of_none e nr) (sG _ _ e), kk, fun G' k' => ?_⟩
      refine (hx G' fun b o nb e => k' b o nb (kk b o nb e)).snoc ⟨t8, rfl, k' _ _ t8r ?_⟩
      rw [upd_ne t8r, upd_same]
    rcases hf p (List.mem_of_getElem? hp) with ⟨b, c, e, hlin, _⟩ | ⟨x, hx, e⟩
    · rw [e] at hl cs hu2
      have cs' : rootsT (rows.take (i + 1)) = rootsT (rows.take i) ++ [((false, 0 - b, c), p.2)] := cs
      rw [e]
      refine iteT ⟨_, rfl, .inl ⟨rfl, _, SqL.of h2⟩, _, rfl, u, _, _, _, rfl, rfl, SqL.of hu2, rfl, _, _, rfl, rfl, _, rfl, u, _, _, _, rfl, rfl, SqL.of hu2, rfl, _, rfl, (by show 4 ≤ sizeLine; decide), fun t8 n8 => ?_⟩
      obtain ⟨G9, e9, g1, g2, g3, g4⟩ := more H2 zs _ ((false, 0 - b, c), p.2) t8 h2 s2 (fun b o _ e => e) hzs n8
      have h28 : upd H2 t8 (.tup [.str (kindS false), .int (0 - b), .int c, .int (p.2 : Int)]) r = some (.lst zs) := by
        rw [upd_ne (ne_of_none h2 n8)]; exact h2
      refine ⟨r, _, _, rfl, rfl, h28, small1000 (by omega), ?_⟩
      rw [cs']
      subst e9
      exact ⟨_, _, _, rfl, g2, g1, by rw [List.length_append, List.length_singleton]; omega, g4⟩
    · rw [e] at hl cs hu2
      rw [e]
      refine iteF ⟨_, rfl, u, _, _, _, rfl, rfl, SqL.of hu2, rfl, _, _, rfl, rfl, _, rfl, ite2 (fun z => ?_) (fun z => ?_)⟩
      · have z' : x.1 < 0 := of_decide_eq_true z
        have cs' : rootsT (rows.take (i + 1)) = rootsT (rows.take i) ++ [((true, -1, 0 - x.1), p.2)] ++ [((true, 1, 0 - x.1), p.2)] := by
          rw [cs]
          unfold rootsF
          dsimp only
          rw [if_pos z', List.append_assoc]
          rfl
        refine ⟨_, rfl, .inl ⟨rfl, _, SqL.of h2⟩, _, rfl, _, rfl, u, _, _, _, rfl, rfl, SqL.of hu2, rfl, _, _, rfl, rfl, _, rfl, (by show 4 ≤ sizeLine; decide), fun t8 n8 => ?_⟩
        obtain ⟨G9, e9, g1, g2, g3, g4⟩ := more H2 zs _ ((true, -1, 0 - x.1), p.2) t8 h2 s2 (fun b o _ e => e) hzs n8
        have h28 : upd H2 t8 (.tup [.str (kindS true), .int (-1), .int (0 - x.1), .int (p.2 : Int)]) r = some (.lst zs) := by
          rw [upd_ne (ne_of_none h2 n8)]; exact h2
        refine ⟨r, _, _, rfl, rfl, h28, small1000 (by omega), ?_⟩
        have ur : u ≠ r := fun e => by
          rw [e, h2] at hu2
          have : (HO.lst zs) = IL [x.1, x.2, 1] := Option.some.inj hu2
          obtain ⟨p', hp', t', u', et', ht', hu'⟩ := hR.get hi
          cases et'
          have h3 := s2 _ _ ht'
          rw [htt] at h3
          have e4 := Option.some.inj h3
          injection e4 with e4
          injection e4 with e5 _
          injection e5 with e5
          rw [← e5, e, nr] at hu'
          cases hu'
        subst e9
        have hu9 := g3 _ _ ur hu2
        refine ⟨_, rfl, .inl ⟨rfl, _, SqL.of g1⟩, _, rfl, u, _, _, _, rfl, rfl, SqL.of hu9, rfl, _, _, rfl, rfl, _, rfl, (by show 4 ≤ sizeLine; decide), fun t9 n9 => ?_⟩
        obtain ⟨G10, e10, k1, k2, k3, k4⟩ := more _ _ _ ((true, 1, 0 - x.1), p.2) t9 g1 g2 g3 g4 n9
        have h29 := k1
        refine ⟨r, _, _, rfl, rfl, (by rw [upd_ne (ne_of_none g1 n9)]; exact g1), small1000 (by rw [List.length_append, List.length_singleton]; omega), ?_⟩
        rw [cs']
        subst e10
        exact ⟨_, _, _, rfl, k2, k1, by simp; omega, k4⟩
      · have z' : ¬ x.1 < 0 := of_decide_eq_false (Bool.eq_false_iff.mpr z)
        have cs' : rootsT (rows.take (i + 1)) = rootsT (rows.take i) := by
          rw [cs]
          unfold rootsF
          dsimp only
          rw [if_neg z']
          simp
        rw [cs']
        exact ⟨zs, _, _, rfl, s2, h2, by omega, hzs⟩
  · rintro σ H2 ⟨zs, v2, v3, rfl, s2, h2, hzl, hzs⟩
    rw [w1, List.take_length] at hzs
    exact ⟨_, rfl, k r H2 zs nr s2 h2 (hzs H2 fun _ _ _ e => e)⟩

theorem scCF : FnScope ["fine"] ["fine"] (defScope sCheckFine) := ⟨rfl, rfl, rfl, by decide +kernel, rfl, by decide +kernel, by decide +kernel⟩
theorem ok_cf (F : Fun K "check_fine" "check_fine" sCheckFine f fd) : FnOk P w K mg base CX0 1 f fd ["fine"] spCheckFine := by
  refine F.ok scCF (fun vs H Q E h => ?_) (fun cdv A outer s H vs Q E hr h => ?_)
  · obtain ⟨k, rfl, _⟩ := h
    rfl
  obtain ⟨k, rfl, hk, q⟩ := h
  refine ⟨_, (pss_one (ps_if (pt_cmpR op_lt (pv 0) pe_int (nomark _))
    (pss_one (ps_never))
    pss_nil)), ?_⟩
  refine ⟨_, rfl, _, _, rfl, rfl, _, rfl, ?_⟩
  refine ite2 (fun z => ?_) (fun z => q)
  exact absurd (of_decide_eq_true z) (by omega)

theorem scIP : FnScope ["place", "parts"] ["place", "parts"] (defScope sInParts) := ⟨rfl, rfl, rfl, by decide +kernel, rfl, by decide +kernel, by decide +kernel⟩
theorem ok_inparts (hN : base.NoSeer) (hT : P.given.tree = none) (F : Fun K "in_parts" "in_parts" sInParts f fd) : FnOk P w K mg base CX0 40 f fd ["place", "parts"] (spInParts K) := by
  refine F.ok scIP (fun vs H Q E h => ?_) (fun cdv A outer s H vs Q E hr h => ?_)
  · obtain ⟨d, t, q, P, B, rfl, _⟩ := h
    rfl
  obtain ⟨d, t, q, P, B, rfl, hD, hq, hP, bt, bP, hB, k⟩ := h
  have hdp : (A.deeper (PyProof.Rows.envOfC "in_parts" (defScope sInParts) s.heap.objs.size f cdv)).depth + 100 < recursionLimit := by have := hr.dp; omega
  refine ⟨_, (pss_one (ps_ret (pe_op op_mulK (pe_ix ix_tup (pv 0) pe_int (fun _ _ => rfl)) (pe_op (op_fdivS hN hT rfl rfl rfl rfl rfl hdp) (pv 1) (pe_ix ix_tup (pv 0) pe_int (fun _ _ => rfl)))))), ?_⟩
  have b2 : Bd B (P / q) := by
    have h0 := Int.ediv_nonneg hP (by omega : 0 ≤ q)
    have h1 := Int.ediv_le_self q hP
    unfold Bd at *
    omega
  exact ⟨_, rfl, d, _, _, _, rfl, rfl, hD, rfl, _, rfl, _, rfl, d, _, _, _, rfl, rfl, hD, rfl, _, _, rfl, rfl, hq, _, _, rfl, rfl, bt.mulOkS b2, k⟩

theorem scMid : FnScope ["low", "high", "parts", "first", "last"] ["low", "high"] (defScope sMiddle) := ⟨rfl, rfl, rfl, by decide +kernel, rfl, by decide +kernel, by decide +kernel⟩
theorem mx_if (a b : Int) : (if b > a then b else a) = max a b := by
  split <;> omega
theorem ok_middle (hmax : mg "max" = none) (F_in_parts : FnAt P w K mg base 40 "in_parts" ["place", "parts"] (spInParts K)) (F : Fun K "middle" "middle" sMiddle f fd) : FnOk P w K mg base CX0 41 f fd ["low", "high"] (spMiddle K) := by
  refine F.ok scMid (fun vs H Q E h => ?_) (fun cdv A outer s H vs Q E hr h => ?_)
  · obtain ⟨d, e, lo, hi, B, rfl, _⟩ := h
    rfl
  obtain ⟨d, e, lo, hi, B, rfl, hD, hE, l0, h0, b1, b2, b3, b4, hB, k⟩ := h
  refine ⟨_, (pss_cons (ps_set (i := 2) scMid.nd rfl (Or.inl rfl) (pe_callB (call_max2 rfl) rfl hmax PyProof.Rows.boot_max (pa_cons (pe_ix ix_tup (pv 0) pe_int (fun _ _ => rfl)) (pa_cons (pe_ix ix_tup (pv 1) pe_int (fun _ _ => rfl)) pa_nil))))
  (pss_cons (ps_set (i := 3) scMid.nd rfl (Or.inl rfl) (pe_callF F_in_parts hr rfl (pa_cons (pv 0) (pa_cons (pv 2) pa_nil))))
  (pss_cons (ps_set (i := 4) scMid.nd rfl (Or.inl rfl) (pe_callF F_in_parts hr rfl (pa_cons (pv 1) (pa_cons (pv 2) pa_nil))))
  (pss_cons (ps_if (pt_cmpR op_gt (pe_op op_sub (pv 4) (pv 3)) pe_int (nomark _))
    (pss_one (ps_ret (pe_tup (pa_cons (pe_op op_fdivK (pe_op op_add (pv 3) (pv 4)) pe_int) (pa_cons (pv 2) pa_nil)))))
    pss_nil)
  (pss_one (ps_ret (pe_tup (pa_cons (pe_op op_add (pv 3) (pv 4)) (pa_cons (pe_op op_mulK pe_int (pv 2)) pa_nil))))))))), ?_⟩
  have bP : Bd B (max lo.2 hi.2) := by
    rcases (by omega : max lo.2 hi.2 = lo.2 ∨ max lo.2 hi.2 = hi.2) with q | q <;> rw [q] <;> assumption
  refine ⟨_, rfl, d, _, _, _, rfl, rfl, hD, rfl, _, rfl, e, _, _, _, rfl, rfl, hE, rfl, _, _, rfl, ?_⟩
  rw [mx_if]
  refine ⟨_, rfl, _, rfl, d, lo.1, lo.2, max lo.2 hi.2, B, rfl, hD, l0, by omega, b1, bP, hB, ?_⟩
  refine ⟨_, rfl, _, rfl, e, hi.1, hi.2, max lo.2 hi.2, B, rfl, hE, h0, by omega, b3, bP, hB, ?_⟩
  refine ⟨_, rfl, _, rfl, _, _, rfl, rfl, _, _, rfl, rfl, _, rfl, ite2 (fun z => ?_) (fun z => ?_)⟩
  · have z' : 1 < inP hi.1 hi.2 (max lo.2 hi.2) - inP lo.1 lo.2 (max lo.2 hi.2) := of_decide_eq_true z
    refine ⟨_, rfl, _, rfl, _, _, rfl, rfl, _, _, rfl, rfl, divLit (by decide) (by decide), _, rfl, (by show 2 ≤ sizeLine; decide), fun r n => ?_⟩
    refine k r _ n (same_new n _) ?_
    rw [upd_same]
    unfold midP
    rw [if_pos z']
    rfl
  · have z' : ¬ 1 < inP hi.1 hi.2 (max lo.2 hi.2) - inP lo.1 lo.2 (max lo.2 hi.2) := of_decide_eq_false (Bool.eq_false_iff.mpr z)
    refine ⟨_, rfl, _, rfl, _, _, rfl, rfl, _, rfl, _, _, rfl, rfl, IntMulOk.of_left (intBits_le_64 (by decide) (by decide)), (by show 2 ≤ sizeLine; decide), fun r n => ?_⟩
    refine k r _ n (same_new n _) ?_
    rw [upd_same]
    unfold midP
    rw [if_neg z']
    rfl

theorem scLg : FnScope ["low", "high", "fine", "parts"] ["low", "high", "fine"] (defScope sLonger) := ⟨rfl, rfl, rfl, by decide +kernel, rfl, by decide +kernel, by decide +kernel⟩
theorem inP_bd {t q P : Int} {B : Nat} (hq : 0 < q) (hP : 0 ≤ P) (bt : Bd B t) (bP : Bd B P) : Bd (B + B) (inP t q P) := by
  have h0 := Int.ediv_nonneg hP (by omega : 0 ≤ q)
  have h1 := Int.ediv_le_self q hP
  have b2 : Bd B (P / q) := by unfold Bd at *; omega
  exact bt.mul b2
theorem ok_longer (hmax : mg "max" = none) (F_in_parts : FnAt P w K mg base 40 "in_parts" ["place", "parts"] (spInParts K)) (F : Fun K "is_longer" "is_longer" sLonger f fd) : FnOk P w K mg base CX0 41 f fd ["low", "high", "fine"] (spLonger K) := by
  refine F.ok scLg (fun vs H Q E h => ?_) (fun cdv A outer s H vs Q E hr h => ?_)
  · obtain ⟨d, e, lo, hi, fine, B, rfl, _⟩ := h
    rfl
  obtain ⟨d, e, lo, hi, fine, B, rfl, hD, hE, l0, h0, b1, b2, b3, b4, bf, hB, k⟩ := h
  refine ⟨_, (pss_cons (ps_set (i := 3) scLg.nd rfl (Or.inl rfl) (pe_callB (call_max2 rfl) rfl hmax PyProof.Rows.boot_max (pa_cons (pe_ix ix_tup (pv 0) pe_int (fun _ _ => rfl)) (pa_cons (pe_ix ix_tup (pv 1) pe_int (fun _ _ => rfl)) pa_nil))))
  (pss_one (ps_ret (pe_cmpR op_gt (pe_op op_mulK (pe_op op_sub (pe_callF F_in_parts hr rfl (pa_cons (pv 1) (pa_cons (pv 3) pa_nil))) (pe_callF F_in_parts hr rfl (pa_cons (pv 0) (pa_cons (pv 3) pa_nil)))) (pv 2)) (pv 3) (nomark _))))), ?_⟩
  have bP : Bd B (max lo.2 hi.2) := by
    rcases (by omega : max lo.2 hi.2 = lo.2 ∨ max lo.2 hi.2 = hi.2) with q | q <;> rw [q] <;> assumption
  have c1 := inP_bd h0 (by omega : 0 ≤ max lo.2 hi.2) b3 bP
  have c2 := inP_bd l0 (by omega : 0 ≤ max lo.2 hi.2) b1 bP
  refine ⟨_, rfl, d, _, _, _, rfl, rfl, hD, rfl, _, rfl, e, _, _, _, rfl, rfl, hE, rfl, _, _, rfl, ?_⟩
  rw [mx_if]
  refine ⟨_, rfl, _, rfl, e, hi.1, hi.2, max lo.2 hi.2, B, rfl, hE, h0, by omega, b3, bP, hB, ?_⟩
  exact ⟨_, rfl, _, rfl, d, lo.1, lo.2, max lo.2 hi.2, B, rfl, hD, l0, by omega, b1, bP, hB, _, _, rfl, rfl, _, rfl, _, _, rfl, rfl, (c1.sub c2).mulOkS bf, _, rfl, _, _, rfl, rfl, k⟩

theorem scNr : FnScope ["curve", "low", "high", "fine", "bottom", "top", "sign_beyond", "place", "sign"] ["curve", "low", "high", "fine"] (defScope sNarrowed) := ⟨rfl, rfl, rfl, by decide +kernel, rfl, by decide +kernel, by decide +kernel⟩
theorem ok_narrowed (F_sign_at : FnAt P w K mg base 2 "sign_at" ["curve", "place"] (spSignAtS K)) (F_middle : FnAt P w K mg base 41 "middle" ["low", "high"] (spMiddle K)) (F_is_longer : FnAt P w K mg base 41 "is_longer" ["low", "high", "fine"] (spLonger K)) (F : Fun K "narrowed" "narrowed" sNarrowed f fd) : FnOk P w K mg base CX0 42 f fd ["curve", "low", "high", "fine"] (spNarrowed K) := by
  refine F.ok scNr (fun vs H Q E h => ?_) (fun cdv A outer s H vs Q E hr h => ?_)
  · obtain ⟨a, d, e, s, l, F, Pm, E, lo, hi, bE, bP, B, rfl, _⟩ := h
    rfl
  obtain ⟨a, d, e, sc, l, Fi, Pm, Ed, lo, hi, bE, bP, B, rfl, hA, hD, hE, S, ok1, ok2, hlt, one, hz, bs, hbE, hbP, hBB, hB, k⟩ := h
  refine ⟨_, (pss_cons (ps_set (i := 4) scNr.nd rfl (Or.inl rfl) (pv 1))
  (pss_cons (ps_set (i := 5) scNr.nd rfl (Or.inl rfl) (pv 2))
  (pss_cons (ps_set (i := 6) scNr.nd rfl (Or.inl rfl) (pe_callF F_sign_at hr rfl (pa_cons (pv 0) (pa_cons (pv 5) pa_nil))))
  (pss_cons (ps_while PassesOwn.never (pt_val (pe_callF F_is_longer hr rfl (pa_cons (pv 4) (pa_cons (pv 5) (pa_cons (pv 3) pa_nil)))))
    (pss_cons (ps_set (i := 7) scNr.nd rfl (Or.inl rfl) (pe_callF F_middle hr rfl (pa_cons (pv 4) (pa_cons (pv 5) pa_nil))))
    (pss_cons (ps_set (i := 8) scNr.nd rfl (Or.inl rfl) (pe_callF F_sign_at hr rfl (pa_cons (pv 0) (pa_cons (pv 7) pa_nil))))
    (pss_one (ps_if (PW.pt (pw_or (pt_cmpR op_eq (pv 8) pe_int (nomark _)) (pw_or1 (pt_cmpR op_eq (pv 8) (pv 6) (nomark _)))))
      (pss_one (ps_set (i := 5) scNr.nd rfl (Or.inl rfl) (pv 7)))
      (pss_one (ps_set (i := 4) scNr.nd rfl (Or.inl rfl) (pv 7))))))))
  (pss_one (ps_ret (pe_tup (pa_cons (pv 4) (pa_cons (pv 5) pa_nil))))))))), ?_⟩
  have bds : ∀ {p : Int × Int}, PlOk Fi Pm Ed p → Bd B p.1 ∧ Bd B p.2 ∧ 0 < p.2 := fun h => by
    obtain ⟨x1, x2, x3⟩ := h.bd hbE hbP
    exact ⟨x1.mono hBB, x2.mono (by omega), x3⟩
  have bF : Bd B Fi := by
    have g := ok1.pr.ge
    have g0 := ok1.pr.1
    obtain ⟨_, x2, _⟩ := bds ok1
    unfold Bd at *
    omega
  obtain ⟨c1, c2, c3⟩ := bds ok2
  refine ⟨_, rfl, _, rfl, _, rfl, _, rfl, a, e, sc, hi.1, hi.2, B, rfl, hA, SqT.of hE, hz, bs, c1, c2, hB, S.good, c3, ?_⟩
  rw [sgn_hv c3]
  obtain ⟨k0, hk0⟩ := pw43_ex ((pl hi - pl lo) * (Fi : Rat))
  refine ⟨fun N σ H2 => ∃ (rb rt : Addr) (b t : Int × Int) (v7 v8 : Option V), σ = [some (.ref a), some (.ref d), some (.ref e), some (.int Fi), some (.ref rb), some (.ref rt), some (.int (rs (ev (pl hi) sc))), v7, v8] ∧ Same H H2 ∧ H2 rb = some (TP2 b) ∧ H2 rt = some (TP2 t) ∧ Fen sc l Fi Pm Ed lo hi b t ∧ (pl t - pl b) * (Fi : Rat) ≤ pw43 N,
    ⟨k0, d, e, lo, hi, none, none, rfl, Same.refl _, hD, hE, ⟨ok1, ok2, by grind, hlt, by grind, rfl, rfl⟩, hk0⟩, ?_⟩
  rintro N σ H2 ⟨rb, rt, b, t, v7, v8, rfl, s2, eb, et, fe, hN⟩
  obtain ⟨x1, x2, x3⟩ := bds fe.ok1
  obtain ⟨y1, y2, y3⟩ := bds fe.ok2
  refine ⟨_, rfl, _, rfl, _, rfl, rb, rt, b, t, Fi, B, rfl, SqT.of eb, SqT.of et, x3, y3, x1, x2, y1, y2, bF, hB, _, rfl, ite2 (fun z => ?_) (fun z => ?_)⟩
  · have lg := (longer_ok fe.ok1.pr fe.ok2.pr Fi).mp (of_decide_eq_true z)
    obtain ⟨N', rfl⟩ : ∃ N', N = N' + 1 := by
      cases N with
      | zero =>
        exfalso
        have : pw43 0 = 1 := rfl
        rw [this] at hN
        grind
      | succ n => exact ⟨n, rfl⟩
    have hN2 : (pl t - pl b) * (Fi : Rat) ≤ pw43 N' * 4 / 3 := hN
    obtain ⟨m1, m2, m3, m4, m5, _⟩ := mid_ok fe.ok1.pr fe.ok2.pr fe.h2
    have mo := mid_plok fe.ok1 fe.ok2 fe.h2 (mid_narrow fe.ok1 fe.ok2 fe.h2 lg)
    obtain ⟨w1, w2, w3⟩ := bds mo
    have F0 : (0 : Rat) < (Fi : Rat) := by have := one_le_cast fe.ok1.pr.1; grind
    have f1 := fe.h1
    have f3 := fe.h3
    have fv1 := fe.v1
    have fv2 := fe.v2
    have n4 := Rat.mul_le_mul_of_nonneg_right m4 (c := (Fi : Rat)) (by grind)
    have n5 := Rat.mul_le_mul_of_nonneg_right m5 (c := (Fi : Rat)) (by grind)
    have he : rs (ev (pl hi) sc) = rs (ev (pl t) sc) ∨ ∃ t', pl t < t' ∧ Vc (pl t) (sc :: l) = Vc t' (sc :: l) ∧ rs (ev (pl hi) sc) = rs (ev t' sc) := by
      rcases (by grind : pl t = pl hi ∨ pl t < pl hi) with q | q
      · left; rw [q]
      · exact .inr ⟨pl hi, q, fv2, rfl⟩
    have hs := half_sign S.good S.ne S.st S.cop m1 m2 (by omega) he
    refine ⟨fun σ' H' => ∃ (rb rt : Addr) (b t : Int × Int) (v7 v8 : Option V), σ' = [some (.ref a), some (.ref d), some (.ref e), some (.int Fi), some (.ref rb), some (.ref rt), some (.int (rs (ev (pl hi) sc))), v7, v8] ∧ Same H H' ∧ H' rb = some (TP2 b) ∧ H' rt = some (TP2 t) ∧ Fen sc l Fi Pm Ed lo hi b t ∧ (pl t - pl b) * (Fi : Rat) ≤ pw43 N', fun σ' H' h => ⟨N', by omega, h⟩, ?_⟩
    refine ⟨_, rfl, _, rfl, rb, rt, b, t, B, rfl, SqT.of eb, SqT.of et, x3, y3, x1, x2, y1, y2, hB, fun rm G1 nm s1 em => ?_⟩
    refine ⟨_, rfl, _, rfl, a, rm, sc, (midP b t).1, (midP b t).2, B, rfl, (s2.trans s1).seq hA, SqT.of em, hz, bs, w1, w2, hB, S.good, w3, ?_⟩
    rw [sgn_hv w3]
    have inj : ∀ {u v : Int}, V.int u = V.int v → u = v := fun e => by injection e

    have up : (rs (ev (pl (midP b t)) sc) = 0 ∨ rs (ev (pl (midP b t)) sc) = rs (ev (pl hi) sc)) → Fen sc l Fi Pm Ed lo hi b (midP b t) := fun h => ⟨fe.ok1, mo, f1, m1, by grind, fv1, by have := hs.1 h; omega⟩
    have dn : ¬ (rs (ev (pl (midP b t)) sc) = 0 ∨ rs (ev (pl (midP b t)) sc) = rs (ev (pl hi) sc)) → Fen sc l Fi Pm Ed lo hi (midP b t) t := fun h => ⟨mo, fe.ok2, by grind, m2, f3, by have := hs.2 h; omega, fv2⟩
    refine ⟨_, rfl, rfl, _, rfl, ite2 (fun y => ?_) (fun y => ?_)⟩
    · have y' := inj (of_decide_eq_true y)
      exact ⟨_, rfl, rb, rm, b, midP b t, _, _, rfl, s2.trans s1, s1 _ _ eb, em, up (.inl y'), by grind⟩
    · have y' : ¬ rs (ev (pl (midP b t)) sc) = 0 := fun e => y (decide_eq_true (by show V.int _ = V.int 0; rw [show rs (ev (plc (midP b t).1 (midP b t).2) sc) = 0 from e]))
      refine ⟨_, rfl, _, rfl, rfl, _, rfl, ite2 (fun x => ?_) (fun x => ?_)⟩
      · have x' := inj (of_decide_eq_true x)
        exact ⟨_, rfl, rb, rm, b, midP b t, _, _, rfl, s2.trans s1, s1 _ _ eb, em, up (.inr x'), by grind⟩
      · have x' : ¬ rs (ev (pl (midP b t)) sc) = rs (ev (pl hi) sc) := fun e => x (decide_eq_true (by show V.int _ = V.int _; rw [show rs (ev (plc (midP b t).1 (midP b t).2) sc) = rs (ev (pl hi) sc) from e]))
        exact ⟨_, rfl, rm, rt, midP b t, t, _, _, rfl, s2.trans s1, em, s1 _ _ et, dn (fun h => h.elim y' x'), by grind⟩
  · have lg : ¬ 1 < (pl t - pl b) * (Fi : Rat) := fun h => z (decide_eq_true ((longer_ok fe.ok1.pr fe.ok2.pr Fi).mpr h))
    refine ⟨_, rfl, _, rfl, (by show 2 ≤ sizeLine; decide), fun r n => ?_⟩
    have sr := same_new n (.tup [.ref rb, .ref rt])
    exact k r rb rt _ b t (s2.free n) (s2.trans sr) upd_same (sr _ _ eb) (sr _ _ et) fe (by grind)

theorem scOE : FnScope ["links", "low", "high", "found", "start", "ends", "end", "roots", "place"] ["links", "low", "high"] (defScope sOneEach) := ⟨rfl, rfl, rfl, by decide +kernel, rfl, by decide +kernel, by decide +kernel⟩
theorem ok_oneeach (B : Bl mg) (F_changes_along : FnAt P w K mg base 3 "changes_along" ["links", "place"] (spAlong K)) (F_middle : FnAt P w K mg base 41 "middle" ["low", "high"] (spMiddle K)) (F : Fun K "one_root_each" "one_root_each" sOneEach f fd) : FnOk P w K mg base CX0 42 f fd ["links", "low", "high"] (spOneEach K) := by
  refine F.ok scOE (fun vs H Q E h => ?_) (fun cdv A outer s H vs Q E hr h => ?_)
  · obtain ⟨a, d, e, ws, s, l, F, Pm, E, S, lo, hi, bE, bP, B, rfl, _⟩ := h
    rfl
  obtain ⟨a, d, e, ws, sc, l, Fi, Pm, Ed, Sg, lo, hi, bE, bP, BB, rfl, hA, hL, hls, hz, hD, hE, S, ok1, ok2, hlt, sep, S0, hS, few, hbE, hbP, hBB, hB, k⟩ := h
  refine ⟨_, (pss_cons (ps_set (i := 3) scOE.nd rfl (Or.inl rfl) (pe_lst pa_nil))
  (pss_cons (ps_set (i := 4) scOE.nd rfl (Or.inl rfl) (pe_tup (pa_cons (pv 1) (pa_cons (pe_callF F_changes_along hr rfl (pa_cons (pv 0) (pa_cons (pv 1) pa_nil))) pa_nil))))
  (pss_cons (ps_set (i := 5) scOE.nd rfl (Or.inl rfl) (pe_lst (pa_cons (pe_tup (pa_cons (pv 2) (pa_cons (pe_callF F_changes_along hr rfl (pa_cons (pv 0) (pa_cons (pv 2) pa_nil))) pa_nil))) pa_nil)))
  (pss_cons (ps_while PassesOwn.never (pt_cmpR op_gt (pe_callB call_len_seq rfl B.len_ bt_len (pa_cons (pv 5) pa_nil)) pe_int (nomark _))
    (pss_cons (ps_set (i := 6) scOE.nd rfl (Or.inl rfl) (pe_ix ix_list (pv 5) (pe_un un_neg pe_int) (fun _ _ => rfl)))
    (pss_cons (ps_set (i := 7) scOE.nd rfl (Or.inl rfl) (pe_op op_sub (pe_ix ix_tup (pv 4) pe_int (fun _ _ => rfl)) (pe_ix ix_tup (pv 6) pe_int (fun _ _ => rfl))))
    (pss_one (ps_if (pt_cmpR op_gt (pv 7) pe_int (nomark _))
      (pss_cons (ps_set (i := 8) scOE.nd rfl (Or.inl rfl) (pe_callF F_middle hr rfl (pa_cons (pe_ix ix_tup (pv 4) pe_int (fun _ _ => rfl)) (pa_cons (pe_ix ix_tup (pv 6) pe_int (fun _ _ => rfl)) pa_nil))))
      (pss_one (ps_expr (pe_bm PySem.F.plainAttrs_list PySem.F.slot_list_append PySem.F.type_list_append mt_append (pv 5) (pa_cons (pe_tup (pa_cons (pv 8) (pa_cons (pe_callF F_changes_along hr rfl (pa_cons (pv 0) (pa_cons (pv 8) pa_nil))) pa_nil))) pa_nil)))))
      (pss_cons (ps_J (ps_if (pt_cmpR op_eq (pv 7) pe_int (nomark _))
        (pss_one (ps_expr (pe_bm PySem.F.plainAttrs_list PySem.F.slot_list_append PySem.F.type_list_append mt_append (pv 3) (pa_cons (pe_tup (pa_cons (pe_ix ix_tup (pv 4) pe_int (fun _ _ => rfl)) (pa_cons (pe_ix ix_tup (pv 6) pe_int (fun _ _ => rfl)) pa_nil))) pa_nil))))
        pss_nil))
      (pss_one (ps_set (i := 4) scOE.nd rfl (Or.inl rfl) (pe_bm0 PySem.F.plainAttrs_list PySem.F.slot_list_pop PySem.F.type_list_pop mt_pop (pv 5))))))))))
  (pss_one (ps_ret (pv 3))))))), ?_⟩
  have bds : ∀ {p : Int × Int}, PlOk Fi Pm Ed p → Bd BB p.1 ∧ Bd BB p.2 ∧ 0 < p.2 := fun h => by
    obtain ⟨x1, x2, x3⟩ := h.bd hbE hbP
    exact ⟨x1.mono hBB, x2.mono (by omega), x3⟩

  have vlp : ∀ {p : Int × Int}, 0 < p.2 → chg 0 ((sc :: l).map fun u => sgn (hv p.1 p.2 u)) = Vc (pl p) (sc :: l) := fun h => chg_vc h _
  obtain ⟨l1, l2, l3⟩ := bds ok1
  obtain ⟨g1, g2, g3⟩ := bds ok2
  refine ⟨Nat.zero_le _, fun rf nf => ?_⟩
  have s1 : Same H (upd H rf (.lst [])) := same_new nf _
  have e1 : upd H rf (.lst []) rf = some (.lst []) := upd_same
  generalize upd H rf (.lst []) = G1 at s1 e1 ⊢
  refine ⟨_, rfl, _, rfl, _, rfl, a, d, ws, sc :: l, lo.1, lo.2, BB, rfl, SqL.of (s1 _ _ hA), hL.mono s1, hls, hz, SqT.of (s1 _ _ hD), l1, l2, hB, l3, ?_⟩
  rw [vlp l3]
  refine ⟨(by show 2 ≤ sizeLine; decide), fun ts nts => ?_⟩
  have s2 : Same G1 (upd G1 ts (.tup [.ref d, .int (Vc (pl lo) (sc :: l))])) := same_new nts _
  have e2 : upd G1 ts (.tup [.ref d, .int (Vc (pl lo) (sc :: l))]) ts = some (.tup [.ref d, .int (Vc (pl lo) (sc :: l))]) := upd_same
  generalize upd G1 ts (.tup [.ref d, .int (Vc (pl lo) (sc :: l))]) = G2 at s2 e2 ⊢
  have s12 := s1.trans s2
  refine ⟨_, rfl, _, rfl, _, rfl, a, e, ws, sc :: l, hi.1, hi.2, BB, rfl, SqL.of (s12 _ _ hA), hL.mono s12, hls, hz, SqT.of (s12 _ _ hE), g1, g2, hB, g3, ?_⟩
  rw [vlp g3]
  refine ⟨(by show 2 ≤ sizeLine; decide), fun te nte => ?_⟩
  have s3 : Same G2 (upd G2 te (.tup [.ref e, .int (Vc (pl hi) (sc :: l))])) := same_new nte _
  have e3 : upd G2 te (.tup [.ref e, .int (Vc (pl hi) (sc :: l))]) te = some (.tup [.ref e, .int (Vc (pl hi) (sc :: l))]) := upd_same
  generalize upd G2 te (.tup [.ref e, .int (Vc (pl hi) (sc :: l))]) = G3 at s3 e3 ⊢
  refine ⟨(by show 1 ≤ sizeLine; decide), fun re ne => ?_⟩
  have s4 : Same G3 (upd G3 re (.lst [.ref te])) := same_new ne _
  have e4 : upd G3 re (.lst [.ref te]) re = some (.lst [.ref te]) := upd_same
  generalize upd G3 re (.lst [.ref te]) = G4 at s4 e4 ⊢
  have s24 := s2.trans (s3.trans s4)
  have sA : Same H G4 := s1.trans s24
  have nre : H re = none := (s12.trans s3).free ne
  have rfe : rf ≠ re := fun z => by rw [← z] at ne; rw [s3 _ _ (s2 _ _ e1)] at ne; cases ne
  have k0b := gap_turns ok1 ok2 hlt S0 hS hbE hbP
  refine ⟨fun N σ H2 => ∃ (ts p0 : Addr) (x : Int × Int) (ws' : List V) (es : List (Int × Int)) (ks : List Nat) (zs : List V) (ps : List ((Int × Int) × (Int × Int))) (v6 v7 v8 : Option V), σ = [some (.ref a), some (.ref d), some (.ref e), some (.ref rf), some (.ref ts), some (.ref re), v6, v7, v8] ∧ Same H H2 ∧ H2 ts = some (.tup [.ref p0, .int (Vc (pl x) (sc :: l))]) ∧ H2 p0 = some (TP2 x) ∧ PlOk Fi Pm Ed x ∧
      H2 re = some (.lst ws') ∧ EndsAt H2 (fun p => Vc (pl p) (sc :: l)) ws' es ∧ (∀ p ∈ es, PlOk Fi Pm Ed p) ∧ Gp Sg (pl x) es ks ∧ Dep (3 * (bE + bP)) ks ∧ ks.length = es.length ∧ (es = [] → pl x = pl hi) ∧ (∀ p, es.getLast? = some p → pl p = pl hi) ∧ H2 rf = some (.lst zs) ∧ PairsAt H2 zs ps ∧ Row sc l Fi Pm Ed (Vc (pl lo) (sc :: l)) (pl lo) (pl x) ps ∧ N = (ks.map turns).sum ∧ pl lo ≤ pl x,
    ⟨_, ts, d, lo, [.ref te], [hi], [3 * (bE + bP)], [], [], none, none, none, rfl, sA, s4 _ _ (s3 _ _ e2), sA _ _ hD, ok1, e4, EndsAt.snoc [] [] te e hi .nil (s4 _ _ e3) (sA _ _ hE), (fun p hp => by rw [List.mem_singleton.mp hp]; exact ok2), ⟨hlt, k0b, trivial⟩, ⟨by show 0 + 1 + _ ≤ _; omega, trivial⟩, rfl, (fun z => by cases z), (fun p hp => by cases hp; rfl), s24 _ _ e1, PairsAt.nil _, ⟨(fun p hp => nomatch hp), (fun i p hp => by simp at hp), (fun i p q hp => by simp at hp), by simp⟩, rfl, by grind⟩, ?_⟩
  rintro N σ H2 ⟨ts, p0, x, ws', es, ks, zs, ps, v6, v7, v8, rfl, s5, e5, e6, okx, e7, hE', oks, hg, hdep, hkl, hend, hlast, e8, hP, hrow, rfl, hlox⟩
  have lw := hE'.length
  refine ⟨_, rfl, re, _, rfl, .inl (SqL.of e7), _, _, rfl, rfl, _, rfl, ite2 (fun z => ?_) (fun z => ?_)⟩
  · have z' : (0 : Int) < ((ws'.length : Nat) : Int) := of_decide_eq_true z
    cases hE' with
    | nil => exact absurd z' (by decide)
    | snoc ws0 es0 t p en hE0 h1 h2 =>
      cases ks with
      | nil => exact absurd hg (by simp [Gp])
      | cons k1 ks =>
        obtain ⟨hg1, hg2, hg3⟩ := hg
        obtain ⟨hd1, hd2⟩ := hdep
        have okn := oks en List.mem_cons_self
        obtain ⟨x1, x2, x3⟩ := bds okx
        obtain ⟨y1, y2, y3⟩ := bds okn
        have vm := V_mono S.good S.ne S.st S.cop (x := pl x) (y := pl en) (by grind)
        have lks : ks.length = es0.length := by simpa using hkl
        have hrow' := hrow
        have hsum : (((k1 :: ks).map turns).sum) = turns k1 + (ks.map turns).sum := by simp
        rw [hsum]
        have tp := turns_pos k1
        refine ⟨fun σ' H' => ∃ N', N' < turns k1 + (ks.map turns).sum ∧ ∃ (ts p0 : Addr) (x : Int × Int) (ws' : List V) (es : List (Int × Int)) (ks : List Nat) (zs : List V) (ps : List ((Int × Int) × (Int × Int))) (v6 v7 v8 : Option V), σ' = [some (.ref a), some (.ref d), some (.ref e), some (.ref rf), some (.ref ts), some (.ref re), v6, v7, v8] ∧ Same H H' ∧ H' ts = some (.tup [.ref p0, .int (Vc (pl x) (sc :: l))]) ∧ H' p0 = some (TP2 x) ∧ PlOk Fi Pm Ed x ∧
          H' re = some (.lst ws') ∧ EndsAt H' (fun p => Vc (pl p) (sc :: l)) ws' es ∧ (∀ p ∈ es, PlOk Fi Pm Ed p) ∧ Gp Sg (pl x) es ks ∧ Dep (3 * (bE + bP)) ks ∧ ks.length = es.length ∧ (es = [] → pl x = pl hi) ∧ (∀ p, es.getLast? = some p → pl p = pl hi) ∧ H' rf = some (.lst zs) ∧ PairsAt H' zs ps ∧ Row sc l Fi Pm Ed (Vc (pl lo) (sc :: l)) (pl lo) (pl x) ps ∧ N' = (ks.map turns).sum ∧ pl lo ≤ pl x, fun σ' H' h => h, ?_⟩
        refine ⟨_, rfl, _, rfl, re, _, _, _, rfl, rfl, SqL.of e7, atI_last _ _, ?_⟩
        refine ⟨_, rfl, ts, _, _, _, rfl, rfl, SqT.of e5, rfl, _, rfl, t, _, _, _, rfl, rfl, SqT.of h1, rfl, _, _, rfl, rfl, ?_⟩
        refine ⟨_, rfl, _, _, rfl, rfl, _, rfl, ite2 (fun y => ?_) (fun y => ?_)⟩
        ·
          have y' : 1 < Vc (pl x) (sc :: l) - Vc (pl en) (sc :: l) := of_decide_eq_true y
          have sp1 := sep (pl x) (pl en) (by grind) (by omega)
          obtain ⟨m1, m2, m3, m4, m5, _⟩ := mid_ok okx.pr okn.pr hg1
          have mo := mid_plok okx okn hg1 (mid_apart okx okn hg1 (by grind) hS)
          obtain ⟨w1, w2, w3⟩ := bds mo
          obtain ⟨k2, rfl⟩ : ∃ k2, k1 = k2 + 1 := by
            cases k1 with
            | zero =>
              exfalso
              have : pw43 0 = 1 := rfl
              rw [this] at hg2
              grind
            | succ n => exact ⟨n, rfl⟩
          refine ⟨_, rfl, ts, _, _, _, rfl, rfl, SqT.of e5, rfl, _, rfl, t, _, _, _, rfl, rfl, SqT.of h1, rfl, p0, p, x, en, BB, rfl, SqT.of e6, SqT.of h2, x3, y3, x1, x2, y1, y2, hB, fun rm G6 nm s6 em => ?_⟩
          have sH := s5.trans s6
          refine ⟨_, rfl, .inl ⟨rfl, _, SqL.of (s6 _ _ e7)⟩, _, rfl, _, rfl, _, rfl, a, rm, ws, sc :: l, (midP x en).1, (midP x en).2, BB, rfl, SqL.of (sH _ _ hA), hL.mono sH, hls, hz, SqT.of em, w1, w2, hB, w3, ?_⟩
          rw [vlp w3]
          refine ⟨(by show 2 ≤ sizeLine; decide), fun tm ntm => ?_⟩
          have s7 : Same G6 (upd G6 tm (.tup [.ref rm, .int (Vc (pl (midP x en)) (sc :: l))])) := same_new ntm _
          have em7 : upd G6 tm (.tup [.ref rm, .int (Vc (pl (midP x en)) (sc :: l))]) tm = some (.tup [.ref rm, .int (Vc (pl (midP x en)) (sc :: l))]) := upd_same
          generalize upd G6 tm (.tup [.ref rm, .int (Vc (pl (midP x en)) (sc :: l))]) = G7 at s7 em7 ⊢
          have s67 := s6.trans s7
          have lw0 : (ws0 ++ [V.ref t]).length ≤ 3 * (bE + bP) + 1 := by rw [lw, List.length_cons, ← lks]; omega
          refine ⟨re, _, _, rfl, rfl, s67 _ _ e7, Nat.lt_of_le_of_lt (Nat.le_trans lw0 (by omega : 3 * (bE + bP) + 1 ≤ 3000001)) (by decide), ?_⟩
          have kp : ∀ b o, b ≠ re → G7 b = some o → upd G7 re (.lst (ws0 ++ [.ref t] ++ [.ref tm])) b = some o := fun b o nb q => by rw [upd_ne nb]; exact q
          have hre : ∃ xs, G7 re = some (.lst xs) := ⟨_, s67 _ _ e7⟩
          have hre2 : ∃ xs, H2 re = some (.lst xs) := ⟨_, e7⟩
          have keep : ∀ b o, b ≠ re → H2 b = some o → upd G7 re (.lst (ws0 ++ [.ref t] ++ [.ref tm])) b = some o := fun b o nb q => kp b o nb (s67 _ _ q)
          have nl : ∀ {b : Addr} {o : HO}, G7 b = some o → (∀ xs, o ≠ .lst xs) → b ≠ re := fun h hn z => by
            rw [z] at h
            obtain ⟨xs, hx⟩ := hre
            rw [hx] at h
            exact hn xs (Option.some.inj h).symm
          have gs := Gp.split (S := Sg) (x := pl x) (e := en) (m := midP x en) (es := es0) (k := k2) (ks := ks) ⟨hg1, hg2, hg3⟩ S0 m1 m2 m4 m5
          refine ⟨_, ?_, ts, p0, x, _, midP x en :: en :: es0, k2 :: k2 :: ks, zs, ps, _, _, _, rfl, fun b o q => keep b o (ne_of_none q nre) (s5 _ _ q), keep _ _ (nl (s67 _ _ e5) (fun xs h => by cases h)) e5, keep _ _ (nl (s67 _ _ e6) (fun xs h => by cases h)) e6, okx, upd_same,
            EndsAt.snoc _ _ tm rm _ ((EndsAt.snoc ws0 es0 t p en hE0 h1 h2).mono keep hre2) (kp _ _ (nl em7 (fun xs h => by cases h)) em7) (kp _ _ (nl (s7 _ _ em) (fun xs h => by cases h)) (s7 _ _ em)), ?_, gs, ⟨by simp at hd1 ⊢; omega, by omega, hd2⟩, by simp [lks], (fun q => by cases q), ?_, keep _ _ rfe e8, hP.mono keep hre2, hrow, rfl, hlox⟩
          · simp only [List.map_cons, List.sum_cons, turns]
            omega
          · intro q hq
            rcases List.mem_cons.mp hq with r | r
            · rw [r]; exact mo
            · exact oks q r
          · intro q hq
            rw [List.getLast?_cons_cons] at hq
            exact hlast q hq
        ·
          have y' : ¬ 1 < Vc (pl x) (sc :: l) - Vc (pl en) (sc :: l) := of_decide_eq_false (Bool.eq_false_iff.mpr y)
          have rfl' := hrow
          refine ⟨fun σ' H' => ∃ (zs : List V) (ps : List ((Int × Int) × (Int × Int))) (v7 : Option V), σ' = [some (.ref a), some (.ref d), some (.ref e), some (.ref rf), some (.ref ts), some (.ref re), some (.ref t), v7, v8] ∧ (∀ b o, b ≠ rf → H2 b = some o → H' b = some o) ∧ H' rf = some (.lst zs) ∧ PairsAt H' zs ps ∧ Row sc l Fi Pm Ed (Vc (pl lo) (sc :: l)) (pl lo) (pl en) ps, ?_, ?_⟩
          · refine ⟨_, rfl, rfl, _, rfl, ite2 (fun u => ?_) (fun u => ?_)⟩
            · have u' : Vc (pl x) (sc :: l) - Vc (pl en) (sc :: l) = 1 := by
                have := of_decide_eq_true u
                injection this
              refine ⟨_, rfl, .inl ⟨rfl, _, SqL.of e8⟩, _, rfl, ts, _, _, _, rfl, rfl, SqT.of e5, rfl, _, rfl, t, _, _, _, rfl, rfl, SqT.of h1, rfl, (by show 2 ≤ sizeLine; decide), fun tp' ntp => ?_⟩
              have s7 : Same H2 (upd H2 tp' (.tup [.ref p0, .ref p])) := same_new ntp _
              have e77 : upd H2 tp' (.tup [.ref p0, .ref p]) tp' = some (.tup [.ref p0, .ref p]) := upd_same
              generalize upd H2 tp' (.tup [.ref p0, .ref p]) = G7 at s7 e77 ⊢
              have lzs := hP.1
              have num := hrow.num
              have vm2 := V_mono S.good S.ne S.st S.cop (x := pl en) (y := pl hi) (by
                have := okn.hi
                cases h9 : es0.getLast? with
                | none =>
                  have : es0 = [] := List.getLast?_eq_none_iff.mp h9
                  subst this
                  have := hlast en rfl
                  grind
                | some q =>
                  have h10 : (en :: es0).getLast? = some q := by
                    cases es0 with
                    | nil => cases h9
                    | cons b bs => rw [List.getLast?_cons_cons]; exact h9
                  have := hlast q h10
                  rw [← this]
                  exact Gp.le_last hg3 h9)
              refine ⟨rf, _, _, rfl, rfl, s7 _ _ e8, small1000 (by omega), ?_⟩
              have kp : ∀ b o, b ≠ rf → G7 b = some o → upd G7 rf (.lst (zs ++ [.ref tp'])) b = some o := fun b o nb q => by rw [upd_ne nb]; exact q
              have hrf : ∃ xs, H2 rf = some (.lst xs) := ⟨_, e8⟩
              have keep : ∀ b o, b ≠ rf → H2 b = some o → upd G7 rf (.lst (zs ++ [.ref tp'])) b = some o := fun b o nb q => kp b o nb (s7 _ _ q)
              have nl : ∀ {b : Addr} {o : HO}, G7 b = some o → (∀ xs, o ≠ .lst xs) → b ≠ rf := fun h hn z => by
                rw [z, s7 _ _ e8] at h
                exact hn zs (Option.some.inj h).symm
              refine ⟨_, ps ++ [(x, en)], _, rfl, keep, upd_same, (hP.mono keep hrf).snoc ⟨tp', p0, p, rfl, kp _ _ (nl e77 (fun xs h => by cases h)) e77, keep _ _ (nl (s7 _ _ e6) (fun xs h => by cases h)) e6, keep _ _ (nl (s7 _ _ h2) (fun xs h => by cases h)) h2⟩, ?_⟩
              exact Row.snoc hrow okx okn hlox hg1 u'
            · have u' : ¬ Vc (pl x) (sc :: l) - Vc (pl en) (sc :: l) = 1 := fun q => u (decide_eq_true (by show V.int _ = V.int 1; rw [q]))
              refine ⟨zs, ps, _, rfl, fun b o _ q => q, e8, hP, ?_⟩
              refine ⟨fun q hq => ?_, hrow.at_, hrow.up, ?_⟩
              · obtain ⟨a1, a2, a3, a4, a5⟩ := hrow.ok q hq
                exact ⟨a1, a2, a3, a4, by grind⟩
              · have := hrow.num
                omega
          · rintro σ' H' ⟨zs', ps', w7, rfl, keep, f8, hP', hrow2⟩
            have hrf : ∃ xs, H2 rf = some (.lst xs) := ⟨_, e8⟩
            have f7 := keep _ _ rfe.symm e7
            refine ⟨_, rfl, .inl ⟨rfl, _, SqL.of f7⟩, re, _, .ref t, rfl, rfl, f7, (by simp), ?_⟩
            have ed : (ws0 ++ [V.ref t]).dropLast = ws0 := by simp
            rw [ed]
            have kp : ∀ b o, b ≠ re → H' b = some o → upd H' re (.lst ws0) b = some o := fun b o nb q => by rw [upd_ne nb]; exact q
            have hre : ∃ xs, H' re = some (.lst xs) := ⟨_, f7⟩
            have nl : ∀ {b : Addr} {o : HO}, H2 b = some o → (∀ xs, o ≠ .lst xs) → b ≠ re ∧ b ≠ rf := fun h hn => ⟨fun z => by
              rw [z, e7] at h
              exact hn _ (Option.some.inj h).symm, fun z => by
              rw [z, e8] at h
              exact hn _ (Option.some.inj h).symm⟩
            have k2 : ∀ {b : Addr} {o : HO}, H2 b = some o → (∀ xs, o ≠ .lst xs) → upd H' re (.lst ws0) b = some o := fun h hn => kp _ _ (nl h hn).1 (keep _ _ (nl h hn).2 h)
            refine ⟨_, ?_, t, p, en, ws0, es0, ks, zs', ps', _, _, _, rfl, fun b o q => kp b o (ne_of_none q nre) (keep b o (ne_of_none q nf) (s5 _ _ q)), k2 h1 (fun xs h => by cases h), k2 h2 (fun xs h => by cases h), okn, upd_same, (hE0.mono keep hrf).mono kp hre, (fun q hq => oks q (List.mem_cons_of_mem _ hq)), hg3, hd2, lks, fun q => ?_, fun q hq => ?_, kp _ _ rfe f8, hP'.mono kp hre, hrow2, rfl, by grind⟩
            · omega
            · subst q
              exact hlast en rfl
            · refine hlast q ?_
              cases es0 with
              | nil => cases hq
              | cons b bs => rw [List.getLast?_cons_cons]; exact hq
  · have z' : ¬ (0 : Int) < ((ws'.length : Nat) : Int) := of_decide_eq_false (Bool.eq_false_iff.mpr z)
    have es0 : es = [] := List.eq_nil_of_length_eq_zero (by omega)
    have ex := hend es0
    rw [ex] at hrow
    exact ⟨_, rfl, k rf H2 zs ps nf s5 e8 hP hrow⟩

theorem scSt : FnScope ["curve", "fine", "links", "edge", "apart"] ["curve", "fine"] (defScope sStretches) := ⟨rfl, rfl, rfl, by decide +kernel, rfl, by decide +kernel, by decide +kernel⟩
noncomputable def twoOf (G : Hp) (v : Option V) : St := match v with
  | some (.ref t) => match G t with
    | some (.tup [u, w]) => [some u, some w]
    | _ => [none, none]
  | _ => [none, none]
theorem twoOf_len (G : Hp) (v : Option V) : (twoOf G v).length = 2 := by
  unfold twoOf
  split
  · split <;> rfl
  · rfl
theorem ok_stretches (F_check_curve : FnAt P w K mg base 1 "check_curve" ["curve"] (spCheckCurve K)) (F_check_not_nought : FnAt P w K mg base 1 "check_not_nought" ["curve"] (spCheckNN K)) (F_check_fine : FnAt P w K mg base 1 "check_fine" ["fine"] spCheckFine) (F_chain : FnAt P w K mg base 44 "chain" ["curve"] (spChain K)) (F_reach : FnAt P w K mg base 40 "reach" ["curve"] (spReach K))
    (F_one_root_each : FnAt P w K mg base 42 "one_root_each" ["links", "low", "high"] (spOneEach K)) (F_narrowed : FnAt P w K mg base 42 "narrowed" ["curve", "low", "high", "fine"] (spNarrowed K)) (F : Fun K "stretches" "stretches" sStretches f fd) : FnOk P w K mg base CX0 45 f fd ["curve", "fine"] (spStretches K) := by
  refine F.ok scSt (fun vs H Q E h => ?_) (fun cdv A outer s H vs Q E hr h => ?_)
  · obtain ⟨a, c, p, L, ps, Ls, B, bP, F, Pm, S, rfl, _⟩ := h
    rfl
  obtain ⟨a, c, p, L, ps, Ls, BB, bP, Fi, Pm, Sg, rfl, hA, z, F0, hFP, S0, hSP, hbP, hBB, bF, hch, k⟩ := h
  refine ⟨_, (pss_cons (ps_expr (pe_callF F_check_curve hr rfl (pa_cons (pv 0) pa_nil)))
  (pss_cons (ps_expr (pe_callF F_check_not_nought hr rfl (pa_cons (pv 0) pa_nil)))
  (pss_cons (ps_expr (pe_callF F_check_fine hr rfl (pa_cons (pv 1) pa_nil)))
  (pss_cons (ps_set (i := 2) scSt.nd rfl (Or.inr rfl) (pe_callF F_chain hr rfl (pa_cons (pv 0) pa_nil)))
  (pss_cons (ps_set (i := 3) scSt.nd rfl (Or.inl rfl) (pe_op op_mulK (pe_callF F_reach hr rfl (pa_cons (pv 0) pa_nil)) (pv 1)))
  (pss_cons (ps_set (i := 4) scSt.nd rfl (Or.inl rfl) (pe_callF F_one_root_each hr rfl (pa_cons (pv 2) (pa_cons (pe_tup (pa_cons (pe_un un_neg (pv 3)) (pa_cons (pv 1) pa_nil))) (pa_cons (pe_tup (pa_cons (pv 3) (pa_cons (pv 1) pa_nil))) pa_nil)))))
  (pss_one (ps_ret (pe_lcg2 (x := "low") (y := "high") (N := ["links", "fine"]) (fr := [2, 1]) (compOkG (by with_unfolding_all rfl) (by decide +kernel) rfl (by decide +kernel) (by decide +kernel) (allC rfl (allC rfl all0)) rfl ⟨⟨rfl, rfl, rfl⟩, ⟨rfl, rfl, rfl⟩, trivial⟩ rfl rfl) rfl rfl (pi_list (pv 4)) (fun _ _ _ _ _ => pts0) (fun _ _ _ _ _ => pe_callF F_narrowed hr rfl (pa_cons (pe_ix (r := rIxL K) ix_list (pv 2) pe_int (fun _ _ => rfl)) (pa_cons (pv 0) (pa_cons (pv 1) (pa_cons (pv 3) pa_nil)))))))))))))), ?_⟩
  have hg := z.grow
  have hm := z.most
  have h30 := z.ls30
  have hl := z.len
  have hl3 := z.l30
  obtain ⟨br, r2⟩ := reach_bd z.good z.ne z.bd
  refine ⟨_, rfl, a, c, rfl, hA, z.good, ?_⟩
  refine ⟨_, rfl, a, c, rfl, hA, z.ne, ?_⟩
  refine ⟨_, rfl, _, rfl, F0, ?_⟩
  refine ⟨_, rfl, a, c, p, L, ps, Ls, rfl, hA, z.good, z.ne, z.len, z.l30, z.bd, z.room, z.sim, h30, by omega, fun r1 H1 ws ls n1 s1 hchain e1 hls hlg hw => ?_⟩
  obtain ⟨sc, l, hsim, rfl, hst⟩ := id hchain
  obtain ⟨stm, sep, few⟩ := hch sc l hchain
  refine ⟨_, rfl, a, c, rfl, s1.seq hA, z.good, z.ne, by omega, fun H2 s2 => ?_⟩
  refine ⟨_, rfl, _, _, rfl, rfl, (br.mono (by omega : p + 2 ≤ BB)).mulOkS bF, ?_⟩
  have s12 := s1.trans s2
  obtain ⟨pe1, pe2⟩ := pl_edge (E := reachL c) F0
  refine ⟨_, rfl, _, rfl, _, rfl, _, rfl, (by show 2 ≤ sizeLine; decide), fun t1 m1 => ?_⟩
  have s3 : Same H2 (upd H2 t1 (.tup [.int (-(reachL c * Fi)), .int Fi])) := same_new m1 _
  have e3 : upd H2 t1 (.tup [.int (-(reachL c * Fi)), .int Fi]) t1 = some (TP2 (-(reachL c * Fi), Fi)) := upd_same
  generalize upd H2 t1 (.tup [.int (-(reachL c * Fi)), .int Fi]) = G3 at s3 e3 ⊢
  refine ⟨_, rfl, _, rfl, (by show 2 ≤ sizeLine; decide), fun t2 m2 => ?_⟩
  have s4 : Same G3 (upd G3 t2 (.tup [.int (reachL c * Fi), .int Fi])) := same_new m2 _
  have e4 : upd G3 t2 (.tup [.int (reachL c * Fi), .int Fi]) t2 = some (TP2 (reachL c * Fi, Fi)) := upd_same
  generalize upd G3 t2 (.tup [.int (reachL c * Fi), .int Fi]) = G4 at s4 e4 ⊢
  have s24 := s2.trans (s3.trans s4)
  have E0 : (0 : Rat) < ((reachL c : Int) : Rat) := by have := one_le_cast (k := reachL c) (by omega); grind
  have o1 : PlOk Fi Pm (reachL c) (-(reachL c * Fi), Fi) := ⟨Pr.self F0, hFP, by rw [pe2]; grind, by rw [pe2]; grind⟩
  have o2 : PlOk Fi Pm (reachL c) (reachL c * Fi, Fi) := ⟨Pr.self F0, hFP, by rw [pe1]; grind, by rw [pe1]; grind⟩
  refine ⟨r1, t1, t2, ws, sc, l, Fi, Pm, reachL c, Sg, _, _, p + 2, bP, BB, rfl, s24 _ _ e1, hls.mono s24, fun u hu => ?_, by omega, s4 _ _ e3, e4, stm, o1, o2, by rw [pe1, pe2]; grind, sep, S0, hSP, by rw [pe1, pe2]; exact few, br, hbP, hBB, hm, fun r5 G5 zs ps0 n5 s5 e5 hP0 hrow0 => ?_⟩
  · obtain ⟨u1, u2, u3, u4⟩ := hlg u hu
    exact ⟨u1, by omega, fun x hx => (u4 x hx).mono hg⟩
  rw [pe1, pe2] at hrow0
  have s25 := s24.trans s5
  have e15 := s25 _ _ e1
  have hls5 := hls.mono s25
  have sA : Same H G5 := s1.trans s25
  have lzs := hP0.1
  have num := hrow0.num
  have a0 : ∃ gs, atI ws 0 = some (.ref gs) ∧ G5 gs = some (IL sc) := by
    have lw : ws.length = (sc :: l).length := hls.1
    have h0 : 0 < ws.length := by rw [lw]; simp
    obtain ⟨l0, gs, x1, x2, x3⟩ := hls5.get (List.getElem?_eq_getElem h0)
    cases x1
    exact ⟨gs, by rw [← x2]; exact atI_nat (List.getElem?_eq_getElem h0), x3⟩
  obtain ⟨gs, ags, egs⟩ := a0
  have bsc := hlg sc List.mem_cons_self
  refine ⟨_, rfl, r5, rfl, ⟨_, SqL.of e5⟩, lcg_all (K := K) (xs := ["low", "high"]) (ws := zs) (fun _ => true) (fun D i v H => ∀ q, ps0[i]? = some q → ∃ (t a b : Addr) (q' : (Int × Int) × (Int × Int)), t ≠ D ∧ a ≠ D ∧ b ≠ D ∧ v = .ref t ∧ H t = some (.tup [.ref a, .ref b]) ∧ H a = some (TP2 q'.1) ∧ H b = some (TP2 q'.2) ∧ Fen sc l Fi Pm (reachL c) q.1 q.2 q'.1 q'.2 ∧ (pl q'.2 - pl q'.1) * (Fi : Rat) ≤ 1) (fun i => twoOf G5 zs[i]?) (SqL.of e5) (by omega) (fun D i v H1 H2 kp h q hq => ?_) (fun _ => twoOf_len _ _) ?_ ?_ ?_ ?_⟩
  · obtain ⟨t, a, b, q', d1, d2, d3, ev, x1, x2, x3, x4, x5⟩ := h q hq
    exact ⟨t, a, b, q', d1, d2, d3, ev, kp _ _ d1 x1, kp _ _ d2 x2, kp _ _ d3 x3, x4, x5⟩
  · intro i y σ0 H6 Q2 hy s6 l0 q2
    obtain ⟨q, hq, t, a', b', rfl, x1, x2, x3⟩ := hP0.get hy
    have l0' : σ0.length = 2 := l0
    obtain ⟨u, v, rfl⟩ : ∃ u v, σ0 = [u, v] := by
      match σ0, l0' with
      | [u, v], _ => exact ⟨u, v, rfl⟩
    have e2 : twoOf G5 zs[i]? = [some (.ref a'), some (.ref b')] := by rw [hy]; unfold twoOf; dsimp only; rw [x1]
    rw [e2] at q2
    exact ⟨t, _, rfl, SqT.of (s6 _ _ x1), rfl, _, _, rfl, _, _, rfl, rfl, q2⟩
  · intro i y H6 Q2 hy s6 q2
    exact q2 H6 (Same.refl _)
  · intro D acc i y H6 Q2 hD hd hy _ s6 q2
    obtain ⟨q, hq, t, a', b', rfl, x1, x2, x3⟩ := hP0.get hy
    have e2 : twoOf G5 zs[i]? = [some (.ref a'), some (.ref b')] := by rw [hy]; unfold twoOf; dsimp only; rw [x1]
    rw [e2]
    obtain ⟨k1, k2, k3, k4, k5⟩ := hrow0.ok q (List.mem_of_getElem? hq)
    obtain ⟨v1, v2⟩ := hrow0.at_ i q hq
    refine ⟨_, rfl, r1, _, _, _, rfl, rfl, SqL.of (s6 _ _ e15), ags, _, rfl, _, rfl, _, rfl, gs, a', b', sc, l, Fi, Pm, reachL c, q.1, q.2, p + 2, bP, BB, rfl, SqL.of (s6 _ _ egs), s6 _ _ x2, s6 _ _ x3, stm, k1, k2, k4, by omega, by have := bsc.2.2.1; omega, fun x hx => (bsc.2.2.2 x hx).mono hg, br, hbP, hBB, hm, fun rr rb rt H7 b t n7 s7 y1 y2 y3 fen yl => ?_⟩
    refine q2 _ H7 s7 fun q' hq' => ?_
    rw [hq] at hq'
    cases hq'
    have hD7 := s7 _ _ hd
    exact ⟨rr, rb, rt, (b, t), (fun e => by rw [e, hd] at n7; cases n7), (fun e => by rw [e, hD7] at y2; cases y2), (fun e => by rw [e, hD7] at y3; cases y3), rfl, y1, y2, y3, fen, yl⟩
  · intro r7 G7 vs n7 s7 e7 hl7 hr7
    have fl : (List.range zs.length).filter (fun _ => true) = List.range zs.length := List.filter_eq_self.mpr fun _ _ => rfl
    rw [fl] at hl7 hr7
    rw [List.length_range] at hl7

    have ex : ∀ i : Nat, ∃ q' : (Int × Int) × (Int × Int), ∀ (q : (Int × Int) × (Int × Int)) (v : V), ps0[i]? = some q → vs[i]? = some v → PairAt G7 v q' ∧ Fen sc l Fi Pm (reachL c) q.1 q.2 q'.1 q'.2 ∧ (pl q'.2 - pl q'.1) * (Fi : Rat) ≤ 1 := fun i => by
      by_cases hi : i < ps0.length
      · have hv : i < vs.length := by omega
        obtain ⟨t, a, b, q', _, _, _, ev, x1, x2, x3, x4, x5⟩ := hr7 i vs[i] i (List.getElem?_eq_getElem hv) (by rw [List.getElem?_range (by omega)]) ps0[i] (List.getElem?_eq_getElem hi)
        refine ⟨q', fun q v hq hv' => ?_⟩
        rw [List.getElem?_eq_getElem hi] at hq
        cases hq
        rw [List.getElem?_eq_getElem hv] at hv'
        cases hv'
        exact ⟨⟨t, a, b, ev, x1, x2, x3⟩, x4, x5⟩
      · exact ⟨default, fun q v hq => absurd (List.getElem?_eq_some_iff.mp hq).1 hi⟩
    obtain ⟨qf, hqf⟩ := Classical.axiomOfChoice ex
    have get : ∀ {i : Nat} {q' : (Int × Int) × (Int × Int)}, ((List.range ps0.length).map qf)[i]? = some q' → ∃ (hi : i < ps0.length) (hv : i < vs.length), q' = qf i ∧ PairAt G7 (vs[i]'hv) q' ∧ Fen sc l Fi Pm (reachL c) (ps0[i]'hi).1 (ps0[i]'hi).2 q'.1 q'.2 ∧ (pl q'.2 - pl q'.1) * (Fi : Rat) ≤ 1 := fun {i q'} hq => by
      have hi : i < ps0.length := by
        have := (List.getElem?_eq_some_iff.mp hq).1
        simpa using this
      have hv : i < vs.length := by omega
      rw [List.getElem?_map, List.getElem?_range hi] at hq
      have eq : q' = qf i := (Option.some.inj hq).symm
      obtain ⟨x1, x2, x3⟩ := hqf i ps0[i] vs[i] (List.getElem?_eq_getElem hi) (List.getElem?_eq_getElem hv)
      rw [← eq] at x1 x2 x3
      exact ⟨hi, hv, eq, x1, x2, x3⟩
    refine k r7 G7 vs ((List.range ps0.length).map qf) sc l (sA.free n7) (sA.trans s7) e7 ⟨by simp; omega, fun i v q' hv hq => ?_⟩ hchain ⟨fun q' hq' => ?_, fun i q' hq' => ?_, fun i q1 q2 h1 h2 => ?_, ?_⟩ fun q' hq' => ?_
    · obtain ⟨hi, hv', eq, x1, _⟩ := get hq
      rw [List.getElem?_eq_getElem hv'] at hv
      cases hv
      exact x1
    · obtain ⟨i, hi, e⟩ := List.mem_iff_getElem.mp hq'
      obtain ⟨hi', hv', _, _, fe, _⟩ := get (List.getElem?_eq_some_iff.mpr ⟨hi, e⟩)
      obtain ⟨k1, k2, k3, k4, k5⟩ := hrow0.ok ps0[i] (List.getElem_mem hi')
      have := fe.h1
      have := fe.h3
      exact ⟨fe.ok1, fe.ok2, by grind, fe.h2, by grind⟩
    · obtain ⟨hi', hv', _, _, fe, _⟩ := get hq'
      obtain ⟨v1, v2⟩ := hrow0.at_ i ps0[i] (List.getElem?_eq_getElem hi')
      exact ⟨by rw [fe.v1]; exact v1, by rw [fe.v2]; exact v2⟩
    · obtain ⟨i1, _, _, _, fe1, _⟩ := get h1
      obtain ⟨i2, _, _, _, fe2, _⟩ := get h2
      have := hrow0.up i ps0[i] ps0[i + 1] (List.getElem?_eq_getElem i1) (List.getElem?_eq_getElem i2)
      have := fe1.h3
      have := fe2.h1
      grind
    · rw [List.length_map, List.length_range]
      exact num
    · obtain ⟨i, hi, e⟩ := List.mem_iff_getElem.mp hq'
      obtain ⟨_, _, _, _, _, yl⟩ := get (List.getElem?_eq_some_iff.mpr ⟨hi, e⟩)
      exact yl

theorem scLs : FnScope ["_law_one", "_law_other"] ["_law_one", "_law_other"] (defScope sLess) := ⟨rfl, rfl, rfl, by decide +kernel, rfl, by decide +kernel, by decide +kernel⟩
theorem ok_less (F_law_before : FnAt P w K mg base 1 "_law_before" ["_law_root", "_law_place"] (spBefore K)) (F : Fun K "_law_less" "_law_less" sLess f fd) : FnOk P w K mg base CX0 2 f fd ["_law_one", "_law_other"] (spLess K) := by
  refine F.ok scLs (fun vs H Q E h => ?_) (fun cdv A outer s H vs Q E hr h => ?_)
  · obtain ⟨t, u, r, s, n, m, rfl, _⟩ := h
    rfl
  obtain ⟨t, u, ⟨b, r1, r2⟩, ⟨b', s1, s2⟩, n, m, rfl, hT, hU, okr, r8, oks, s8, k⟩ := h
  refine ⟨_, (pss_cons (ps_if (pt_cmpR op_eq (pe_ix ix_tup (pv 0) pe_int (fun _ _ => rfl)) pe_str (nomark _))
    (pss_cons (ps_if (pt_cmpR op_eq (pe_ix ix_tup (pv 1) pe_int (fun _ _ => rfl)) pe_str (nomark _))
      (pss_one (ps_ret (pe_cmpR op_lt (pe_op op_mulK (pe_ix ix_tup (pv 0) pe_int (fun _ _ => rfl)) (pe_ix ix_tup (pv 1) pe_int (fun _ _ => rfl))) (pe_op op_mulK (pe_ix ix_tup (pv 1) pe_int (fun _ _ => rfl)) (pe_ix ix_tup (pv 0) pe_int (fun _ _ => rfl))) (nomark _))))
      pss_nil)
    (pss_one (ps_ret (pe_not (pe_callF F_law_before hr rfl (pa_cons (pv 1) (pa_cons (pe_tup (pa_cons (pe_ix ix_tup (pv 0) pe_int (fun _ _ => rfl)) (pa_cons (pe_ix ix_tup (pv 0) pe_int (fun _ _ => rfl)) pa_nil))) pa_nil)))))))
    pss_nil)
  (pss_cons (ps_if (pt_cmpR op_eq (pe_ix ix_tup (pv 1) pe_int (fun _ _ => rfl)) pe_str (nomark _))
    (pss_one (ps_ret (pe_callF F_law_before hr rfl (pa_cons (pv 0) (pa_cons (pe_tup (pa_cons (pe_ix ix_tup (pv 1) pe_int (fun _ _ => rfl)) (pa_cons (pe_ix ix_tup (pv 1) pe_int (fun _ _ => rfl)) pa_nil))) pa_nil)))))
    pss_nil)
  (pss_one (ps_ret (pe_cmpR op_lt (pe_op op_mulK (pe_ix ix_tup (pv 0) pe_int (fun _ _ => rfl)) (pe_ix ix_tup (pv 0) pe_int (fun _ _ => rfl))) (pe_op op_mulK (pe_ix ix_tup (pv 1) pe_int (fun _ _ => rfl)) (pe_ix ix_tup (pv 1) pe_int (fun _ _ => rfl))) (nomark _)))))), ?_⟩
  obtain ⟨br1, br2, r0⟩ := root_bd okr r8
  obtain ⟨bs1, bs2, s0⟩ := root_bd oks s8
  dsimp only at br1 br2 r0 bs1 bs2 s0
  cases b with
  | false =>
    refine ⟨_, rfl, t, _, _, _, rfl, rfl, hT, rfl, rfl, _, rfl, iteT ?_⟩
    cases b' with
    | false =>
      refine ⟨_, rfl, u, _, _, _, rfl, rfl, hU, rfl, rfl, _, rfl, iteT ?_⟩
      exact ⟨_, rfl, t, _, _, _, rfl, rfl, hT, rfl, _, rfl, u, _, _, _, rfl, rfl, hU, rfl, _, _, rfl, rfl, br1.mulOkS bs2, _, rfl, u, _, _, _, rfl, rfl, hU, rfl, _, rfl, t, _, _, _, rfl, rfl, hT, rfl, _, _, rfl, rfl, bs1.mulOkS br2, _, _, rfl, rfl, k H (Same.refl _)⟩
    | true =>
      refine ⟨_, rfl, u, _, _, _, rfl, rfl, hU, rfl, rfl, _, rfl, iteF ?_⟩
      refine ⟨_, rfl, _, rfl, t, _, _, _, rfl, rfl, hT, rfl, _, rfl, t, _, _, _, rfl, rfl, hT, rfl, (by show 2 ≤ sizeLine; decide), fun tp ntp => ?_⟩
      have sN := same_new ntp (.tup [.int r1, .int r2])
      exact ⟨u, tp, (true, s1, s2), m, r1, r2, 20, rfl, sN.tup hU, SqT.of upd_same, oks, s8, r0, br1, br2, by decide, _, rfl, k _ sN⟩
  | true =>
    refine ⟨_, rfl, t, _, _, _, rfl, rfl, hT, rfl, rfl, _, rfl, iteF ?_⟩
    cases b' with
    | false =>
      refine ⟨_, rfl, u, _, _, _, rfl, rfl, hU, rfl, rfl, _, rfl, iteT ?_⟩
      refine ⟨_, rfl, _, rfl, u, _, _, _, rfl, rfl, hU, rfl, _, rfl, u, _, _, _, rfl, rfl, hU, rfl, (by show 2 ≤ sizeLine; decide), fun tp ntp => ?_⟩
      have sN := same_new ntp (.tup [.int s1, .int s2])
      exact ⟨t, tp, (true, r1, r2), n, s1, s2, 20, rfl, sN.tup hT, SqT.of upd_same, okr, r8, s0, bs1, bs2, by decide, k _ sN⟩
    | true =>
      refine ⟨_, rfl, u, _, _, _, rfl, rfl, hU, rfl, rfl, _, rfl, iteF ?_⟩
      exact ⟨_, rfl, t, _, _, _, rfl, rfl, hT, rfl, _, rfl, t, _, _, _, rfl, rfl, hT, rfl, _, _, rfl, rfl, br1.mulOkS br2, _, rfl, u, _, _, _, rfl, rfl, hU, rfl, _, rfl, u, _, _, _, rfl, rfl, hU, rfl, _, _, rfl, rfl, bs1.mulOkS bs2, _, _, rfl, rfl, k H (Same.refl _)⟩

theorem scIO : FnScope ["_law_roots", "_law_made", "_law_root", "_law_spot"] ["_law_roots"] (defScope sInOrder) := ⟨rfl, rfl, rfl, by decide +kernel, rfl, by decide +kernel, by decide +kernel⟩
theorem ok_inorder (B : Bl mg) (F_law_less : FnAt P w K mg base 2 "_law_less" ["_law_one", "_law_other"] (spLess K)) (F : Fun K "_law_in_order" "_law_in_order" sInOrder f fd) : FnOk P w K mg base CX0 3 f fd ["_law_roots"] (spInOrder K) := by
  refine F.ok scIO (fun vs H Q E h => ?_) (fun cdv A outer s H vs Q E hr h => ?_)
  · obtain ⟨a, ws, rs, rfl, _⟩ := h
    rfl
  obtain ⟨a, ws, rs, rfl, hA, hZ, ok, dif, hz, k⟩ := h
  refine ⟨_, (pss_cons (ps_set (i := 1) scIO.nd rfl (Or.inl rfl) (pe_op op_rep (pe_lst (pa_cons pe_non pa_nil)) (pe_callB call_len_seq rfl B.len_ bt_len (pa_cons (pv 0) pa_nil))))
  (pss_cons (ps_for PassesOwn.never rfl (pi_list (pv 0)) (pg_name (i := 2) scIO.nd rfl (Or.inr rfl))
    (pss_cons (ps_set (i := 3) scIO.nd rfl (Or.inl rfl) (pe_callB call_len_seq rfl B.len_ bt_len (pa_cons (pe_lcg (xs := ["_law_other"]) (N := ["_law_root"]) (fr := [2]) (compOkG (by with_unfolding_all rfl) (by decide +kernel) rfl (by decide +kernel) (by decide +kernel) (allC rfl all0) rfl ⟨⟨rfl, rfl, rfl⟩, trivial⟩ rfl rfl) (pi_list (pv 0)) (fun _ _ _ _ _ => pg_name (i := 0) (show List.Nodup (["_law_other", "_law_root"] : List Str) from by decide +kernel) rfl (Or.inl rfl)) (fun _ _ _ _ _ => pts1 (pt_val (pe_callF F_law_less hr rfl (pa_cons (pv 0) (pa_cons (pv 1) pa_nil))))) (fun _ _ _ _ _ => pv 0)) pa_nil)))
    (pss_one (ps_asg (pv 2) (pg_sub (pv 1) (pv 3) set_list)))))
  (pss_one (ps_ret (pv 1))))), ?_⟩
  have lz := hZ.1
  have hx : ∀ r ∈ rs.map (·.1), RootX r := fun r hr => by
    obtain ⟨q, hq, rfl⟩ := List.mem_map.mp hr
    exact (ok q hq).2.2
  refine ⟨by show 1 ≤ sizeLine; decide, fun pz hp => ?_⟩
  have s1 : Same H (upd H pz (.lst [.non])) := same_new hp _
  refine ⟨_, rfl, a, _, rfl, .inl (s1.seq (SqL.of hA)), pz, _, _, rfl, rfl, upd_same, by omega, by omega, ?_, fun r hr1 => ?_⟩
  · show 1 * _ ≤ sizeLine
    rw [Nat.one_mul]
    exact small (by omega)
  have nr : H r = none := s1.free hr1
  have g0 : Same H (upd (upd H pz (.lst [.non])) r (.lst (List.replicate (((ws.length : Nat) : Int)).toNat [V.non]).flatten)) := s1.trans (same_new hr1 _)
  have e0 : upd (upd H pz (.lst [.non])) r (.lst (List.replicate (((ws.length : Nat) : Int)).toNat [V.non]).flatten) r = some (.lst (List.replicate (((ws.length : Nat) : Int)).toNat [V.non]).flatten) := upd_same
  have lm : (List.replicate (((ws.length : Nat) : Int)).toNat [V.non]).flatten.length = ws.length := by rw [len_rep]; simp
  generalize (List.replicate (((ws.length : Nat) : Int)).toNat [V.non]).flatten = m0 at *
  generalize upd (upd H pz (.lst [.non])) r (.lst m0) = G0 at g0 e0 ⊢
  refine ⟨_, rfl, a, rfl, ⟨_, SqL.of (g0 _ _ hA)⟩, for_list (K := K) (a := a) (xs := ws)
    (fun i σ H2 => ∃ (ms : List V) (v2 v3 : Option V), σ = [some (.ref a), some (.ref r), v2, v3] ∧ Same H H2 ∧ H2 r = some (.lst ms) ∧ ms.length = ws.length ∧ ∀ (j : Nat) (q : (Bool × Int × Int) × Nat) (v : V), j < i → rs[j]? = some q → ws[j]? = some v → ms[spotR (rs.map (·.1)) q.1]? = some v)
    ⟨m0, none, none, rfl, g0, e0, lm, fun j q v hj => absurd hj (Nat.not_lt_zero _)⟩ (fun i σ H2 _ ⟨_, _, _, _, s, _⟩ => SqL.of (s _ _ hA)) ?_ ?_⟩
  · rintro i v σ H2 hi ⟨ms, v2, v3, rfl, s2, h2, hml, hms⟩
    have hil : i < ws.length := (List.getElem?_eq_some_iff.mp hi).1
    obtain ⟨q, hq, tq, rfl, htq⟩ := (hZ.mono s2).get hi
    obtain ⟨ok1, ok2, ok3⟩ := ok q (List.mem_of_getElem? hq)
    have hA2 := s2 _ _ hA
    have hZ2 := hZ.mono s2
    refine ⟨_, rfl, a, rfl, ⟨_, SqL.of hA2⟩, lcg_all (K := K) (xs := ["_law_other"]) (ws := ws) (fun j => lessR (rs.getD j default).1 q.1) (fun _ _ _ _ => True) (fun j => [ws[j]?]) (SqL.of hA2) (by omega) (fun _ _ _ _ _ _ _ => trivial) (fun _ => rfl) ?_ ?_ ?_ ?_⟩
    · intro j y σ0 H6 Q2 hy s6 l0 q2
      obtain ⟨u, rfl⟩ := List.length_eq_one_iff.mp l0
      rw [hy] at q2
      exact q2
    · intro j y H6 Q2 hy s6 q2
      obtain ⟨o, ho, to, rfl, hto⟩ := hZ2.get hy
      obtain ⟨oo1, oo2, _⟩ := ok o (List.mem_of_getElem? ho)
      rw [hy]
      refine ⟨_, rfl, _, rfl, to, tq, o.1, q.1, _, _, rfl, SqT.of (s6 _ _ hto), SqT.of (s6 _ _ htq), oo1, oo2, ok1, ok2, fun H7 s7 => ?_⟩
      have q3 := q2 H7 s7
      rw [List.getD_eq_getElem?_getD, ho] at q3
      exact ⟨_, rfl, q3⟩
    · intro D acc j y H6 Q2 hD hd hy _ s6 q2
      rw [hy]
      exact ⟨_, rfl, q2 _ H6 (Same.refl _) trivial⟩
    · intro D H3 vs nD s3 eD hl _
      have es : ((vs.length : Nat) : Int) = ((spotR (rs.map (·.1)) q.1 : Nat) : Int) := by
        rw [hl, lz]
        have := filter_range (rs) default (fun o => lessR o.1 q.1)
        rw [this]
        unfold spotR
        rw [List.filter_map, List.length_map]
        rfl
      refine ⟨D, _, rfl, .inl (SqL.of eD), ?_⟩
      rw [es]
      have sl := spot_lt (rs := rs.map (·.1)) (r := q.1) (List.mem_map.mpr ⟨q, List.mem_of_getElem? hq, rfl⟩)
      rw [List.length_map, ← lz] at sl
      generalize hsp : spotR (rs.map (·.1)) q.1 = sp at *
      have h23 := s3 _ _ h2
      have hset : ixN ms.length ((sp : Nat) : Int) = some sp := by
        unfold ixN
        rw [if_pos (by omega), if_pos (by omega)]
        congr 1
      refine ⟨_, rfl, _, rfl, _, rfl, r, _, _, _, rfl, rfl, h23, hset, ?_⟩
      refine ⟨ms.set sp (.ref tq), _, _, rfl, fun b o e => ?_, upd_same, by rw [List.length_set]; exact hml, fun j q' v hj hq' hv => ?_⟩
      · rw [upd_ne (ne_of_none e nr)]
        exact s3 _ _ (s2 _ _ e)
      · by_cases ej : j = i
        · subst ej
          rw [hq] at hq'
          cases hq'
          rw [hi] at hv
          cases hv
          rw [hsp, List.getElem?_set_self (by omega)]
        · have jl : j < i := by omega
          have hjr : j < rs.length := (List.getElem?_eq_some_iff.mp hq').1
          have hir : i < rs.length := (List.getElem?_eq_some_iff.mp hq).1
          have ne : spotR (rs.map (·.1)) q'.1 ≠ sp := fun e => by
            rw [← hsp] at e
            have j1 : (rs.map (·.1))[j]'(by simpa using hjr) = q'.1 := by
              rw [List.getElem_map]
              have := (List.getElem?_eq_some_iff.mp hq').2
              rw [this]
            have i1 : (rs.map (·.1))[i]'(by simpa using hir) = q.1 := by
              rw [List.getElem_map]
              have := (List.getElem?_eq_some_iff.mp hq).2
              rw [this]
            rw [← j1, ← i1] at e
            exact ej (spot_inj hx dif _ _ e)
          rw [List.getElem?_set_ne (fun e => ne e.symm)]
          exact hms j q' v jl hq' hv
  · rintro σ H2 ⟨ms, v2, v3, rfl, s2, h2, hml, hms⟩
    have hn : ∀ kk, kk < rs.length → ∃ j, j < rs.length ∧ ∀ q, rs[j]? = some q → spotR (rs.map (·.1)) q.1 = kk := fun kk hk => by
      obtain ⟨j, hj, e⟩ := pigeon (n := rs.length) (g := fun j => spotR (rs.map (·.1)) (rs.getD j default).1) (fun j hj => by
        have := spot_lt (rs := rs.map (·.1)) (r := (rs.getD j default).1) (List.mem_map.mpr ⟨rs.getD j default, by rw [List.getD_eq_getElem?_getD, List.getElem?_eq_getElem hj]; exact List.getElem_mem hj, rfl⟩)
        simpa using this) (fun i j hi hj e => by
        have i1 : (rs.map (·.1))[i]'(by simpa using hi) = (rs.getD i default).1 := by simp [List.getD_eq_getElem?_getD, hi]
        have j1 : (rs.map (·.1))[j]'(by simpa using hj) = (rs.getD j default).1 := by simp [List.getD_eq_getElem?_getD, hj]
        exact spot_inj hx dif (by simpa using hi) (by simpa using hj) (by rw [i1, j1]; exact e)) hk
      refine ⟨j, hj, fun q hq => ?_⟩
      rw [List.getD_eq_getElem?_getD, hq] at e
      exact e

    obtain ⟨g, hg⟩ : ∃ g : Nat → Nat, ∀ kk, kk < rs.length → g kk < rs.length ∧ ∀ q, rs[g kk]? = some q → spotR (rs.map (·.1)) q.1 = kk := by
      refine ⟨fun kk => if h : kk < rs.length then Classical.choose (hn kk h) else 0, fun kk hk => ?_⟩
      simp only [hk, dif_pos]
      exact Classical.choose_spec (hn kk hk)
    refine ⟨_, rfl, k r H2 ms ((List.range rs.length).map fun kk => rs.getD (g kk) default) nr s2 h2 ⟨by simp [hml, lz], fun i v q hv hq => ?_⟩ ⟨by simp, fun kk q hq => ?_⟩⟩
    · have hi : i < rs.length := by
        have := (List.getElem?_eq_some_iff.mp hv).1
        omega
      rw [List.getElem?_map, List.getElem?_range hi] at hq
      have eq : q = rs.getD (g i) default := (Option.some.inj hq).symm
      obtain ⟨g1, g2⟩ := hg i hi
      have hgq : rs[g i]? = some q := by rw [eq, List.getD_eq_getElem?_getD, List.getElem?_eq_getElem g1]; rfl
      have gw : g i < ws.length := by omega
      have h3 := hms (g i) q _ gw hgq (List.getElem?_eq_getElem gw)
      rw [g2 q hgq, hv] at h3
      cases h3
      exact (hZ.mono s2).2 (g i) _ q (List.getElem?_eq_getElem gw) hgq
    · have hk : kk < rs.length := by
        have := (List.getElem?_eq_some_iff.mp hq).1
        simpa using this
      rw [List.getElem?_map, List.getElem?_range hk] at hq
      have eq : q = rs.getD (g kk) default := (Option.some.inj hq).symm
      obtain ⟨g1, g2⟩ := hg kk hk
      have hgq : rs[g kk]? = some q := by rw [eq, List.getD_eq_getElem?_getD, List.getElem?_eq_getElem g1]; rfl
      exact ⟨List.mem_of_getElem? hgq, g2 q hgq⟩

theorem scAny : FnScope ["_law_cell", "_law_size"] ["_law_cell"] (defScope sAny) := ⟨rfl, rfl, rfl, by decide +kernel, rfl, by decide +kernel, by decide +kernel⟩
theorem ok_any (F : Fun K "_law_any" "_law_any" sAny f fd) : FnOk P w K mg base CX0 1 f fd ["_law_cell"] spAny := by
  refine F.ok scAny (fun vs H Q E h => ?_) (fun cdv A outer s H vs Q E hr h => ?_)
  · obtain ⟨c, rfl, _⟩ := h
    rfl
  obtain ⟨c, rfl, q⟩ := h
  refine ⟨_, (pss_cons (ps_set (i := 1) scAny.nd rfl (Or.inl rfl) (pe_op op_mod (pe_op op_fdivK (pv 0) pe_int) (pe_op op_pow pe_int pe_int)))
  (pss_one (ps_ret (pe_op op_mulK (pv 1) (pe_ix ix_list (pe_lst (pa_cons pe_int (pa_cons (pe_un un_neg pe_int) pa_nil))) (pe_op op_mod (pv 0) pe_int) (fun _ _ => rfl)))))), ?_⟩
  have h10 : (0 : Int) < 10 ^ (59 : Int).toNat := by decide
  refine ⟨_, rfl, _, _, rfl, rfl, divLit (by decide) (by decide), _, _, rfl, rfl, ⟨by decide, by decide, by decide⟩, _, _, rfl, rfl, h10, ?_⟩
  refine ⟨_, rfl, _, rfl, (by show 2 ≤ sizeLine; decide), fun p hp => ?_⟩
  obtain ⟨e, he, hb⟩ : ∃ e : Int, atI ([.int 1, .int (-1)] : List V) (c % 2) = some (.int e) ∧ Bd 1 e := by
    rcases (by omega : c % 2 = 0 ∨ c % 2 = 1) with h | h
    · rw [h]; exact ⟨1, rfl, by unfold Bd; decide⟩
    · rw [h]; exact ⟨-1, rfl, by unfold Bd; decide⟩
  have b1 : Bd 197 (c / 2 % 10 ^ (59 : Int).toNat) := by
    have h1 := Int.emod_nonneg (c / 2) (Int.ne_of_gt h10)
    have h2 := Int.emod_lt_of_pos (c / 2) h10
    have h3 : (10 : Int) ^ (59 : Int).toNat = 100000000000000000000000000000000000000000000000000000000000 := by decide
    rw [h3] at h1 h2 ⊢
    unfold Bd
    omega
  refine ⟨_, rfl, _, _, rfl, rfl, (by show (0 : Int) < 2; decide), p, _, _, _, rfl, rfl, SqL.of upd_same, he, _, _, rfl, rfl, b1.mulOk hb, ?_⟩
  exact q _ _ (same_new hp _) ((b1.mul hb).mono (by decide))

theorem scPlace : FnScope ["_law_cell", "_law_other", "_law_tops", "_law_top", "_law_parts"] ["_law_cell", "_law_other"] (defScope sPlace) := ⟨rfl, rfl, rfl, by decide +kernel, rfl, by decide +kernel, by decide +kernel⟩
theorem ok_place (B : Bl mg) (F_law_any : FnAt P w K mg base 1 "_law_any" ["_law_cell"] spAny) (F : Fun K "_law_drawn_place" "_law_drawn_place" sPlace f fd) : FnOk P w K mg base CX0 2 f fd ["_law_cell", "_law_other"] spPlace := by
  refine F.ok scPlace (fun vs H Q E h => ?_) (fun cdv A outer s H vs Q E hr h => ?_)
  · obtain ⟨a, b, rfl, _⟩ := h
    rfl
  obtain ⟨a, b, rfl, q⟩ := h
  refine ⟨_, (pss_cons (ps_set (i := 2) scPlace.nd rfl (Or.inl rfl) (pe_lst (pa_cons (pe_op op_sub (pe_op op_mod (pv 0) pe_int) pe_int) (pa_cons pe_int (pa_cons (pe_callF F_law_any hr rfl (pa_cons (pv 0) pa_nil)) (pa_cons (pe_op op_pow pe_int pe_int) (pa_cons (pe_un un_neg (pe_op op_pow pe_int pe_int)) (pa_cons (pe_op op_sub (pe_op op_mod (pv 0) pe_int) pe_int) pa_nil))))))))
  (pss_cons (ps_set (i := 3) scPlace.nd rfl (Or.inl rfl) (pe_ix ix_list (pv 2) (pe_op op_mod (pe_op op_fdivK (pv 1) pe_int) pe_int) (fun _ _ => rfl)))
  (pss_cons (ps_set (i := 4) scPlace.nd rfl (Or.inl rfl) (pe_op op_add pe_int (pe_op op_mod (pv 1) pe_int)))
  (pss_cons (ps_if (pt_cmpR op_eq (pe_op op_mod (pv 1) pe_int) pe_int (nomark _))
    (pss_one (ps_set (i := 4) scPlace.nd rfl (Or.inl rfl) (pe_op op_add pe_int (pe_callB call_abs rfl B.abs_ bt_abs (pa_cons (pe_callF F_law_any hr rfl (pa_cons (pv 1) pa_nil)) pa_nil)))))
    pss_nil)
  (pss_one (ps_ret (pe_tup (pa_cons (pv 3) (pa_cons (pv 4) pa_nil))))))))), ?_⟩
  refine ⟨_, rfl, _, _, rfl, rfl, (by show (0 : Int) < 25; decide), _, _, rfl, rfl, _, rfl, _, rfl, fun H1 v1 s1 b1 => ?_⟩
  refine ⟨_, _, rfl, rfl, ⟨by decide, by decide, by decide⟩, _, _, rfl, rfl, ⟨by decide, by decide, by decide⟩, _, rfl, _, rfl, _, _, rfl, rfl, (by show (0 : Int) < 13; decide), _, _, rfl, rfl, (by show 6 ≤ sizeLine; decide), fun l hl => ?_⟩
  obtain ⟨e, he, hb⟩ : ∃ e : Int, atI ([.int (a % 25 - 12), .int 0, .int v1, .int (10 ^ (9 : Int).toNat), .int (-10 ^ (9 : Int).toNat), .int (a % 13 - 6)] : List V) (b / 4 % 6) = some (.int e) ∧ Bd 200 e := by
    rcases (by omega : b / 4 % 6 = 0 ∨ b / 4 % 6 = 1 ∨ b / 4 % 6 = 2 ∨ b / 4 % 6 = 3 ∨ b / 4 % 6 = 4 ∨ b / 4 % 6 = 5) with h | h | h | h | h | h
    · rw [h]; exact ⟨_, rfl, Bd.of_le 25 (by omega) (by decide)⟩
    · rw [h]; exact ⟨_, rfl, Bd.zero _⟩
    · rw [h]; exact ⟨_, rfl, b1.mono (by decide)⟩
    · rw [h]; exact ⟨_, rfl, Bd.of_le 1000000000 (by decide) (by decide)⟩
    · rw [h]; exact ⟨_, rfl, Bd.of_le 1000000000 (by decide) (by decide)⟩
    · rw [h]; exact ⟨_, rfl, Bd.of_le 13 (by omega) (by decide)⟩
  refine ⟨_, rfl, _, rfl, _, _, rfl, rfl, divLit (by decide) (by decide), _, _, rfl, rfl, (by show (0 : Int) < 6; decide), l, _, _, _, rfl, rfl, SqL.of upd_same, he, ?_⟩
  refine ⟨_, rfl, _, _, rfl, rfl, (by show (0 : Int) < 4; decide), _, _, rfl, rfl, ?_⟩
  refine ⟨_, rfl, _, _, rfl, rfl, (by show (0 : Int) < 13; decide), rfl, _, rfl, ?_⟩
  have s2 : Same H (upd H1 l (.lst [.int (a % 25 - 12), .int 0, .int v1, .int (10 ^ (9 : Int).toNat), .int (-10 ^ (9 : Int).toNat), .int (a % 13 - 6)])) := s1.trans (same_new hl _)
  refine ite2 (fun _ => ?_) (fun _ => ?_)
  · refine ⟨_, rfl, _, rfl, fun H3 v3 s3 b3 => ?_⟩
    refine ⟨_, rfl, _, _, rfl, rfl, ?_⟩
    refine ⟨_, rfl, _, rfl, (by show 2 ≤ sizeLine; decide), fun r hr3 => ?_⟩
    refine q r _ e (1 + if v3 < 0 then -v3 else v3) ((s2.trans s3).trans (same_new hr3 _)) ((s2.trans s3).free hr3) upd_same hb ?_ ?_
    · have b4 : Bd 199 (if v3 < 0 then -v3 else v3) := by split <;> first | exact b3.neg | exact b3
      exact Bd.add (Bd.of_le 1 (by decide) (by decide)) b4
    · split <;> omega
  · refine ⟨_, rfl, _, rfl, (by show 2 ≤ sizeLine; decide), fun r hr3 => ?_⟩
    exact q r _ e (1 + b % 4) (s2.trans (same_new hr3 _)) (s2.free hr3) upd_same hb (Bd.of_le 5 (by omega) (by decide)) (by omega)

theorem scCS : FnScope ["low", "high"] ["low", "high"] (defScope sCheckStretch) := ⟨rfl, rfl, rfl, by decide +kernel, rfl, by decide +kernel, by decide +kernel⟩
theorem ok_cs (F_check_place : FnAt P w K mg base 1 "check_place" ["place"] (spCheckPlace K)) (F : Fun K "check_stretch" "check_stretch" sCheckStretch f fd) : FnOk P w K mg base CX0 2 f fd ["low", "high"] (spCheckStretch K) := by
  refine F.ok scCS (fun vs H Q E h => ?_) (fun cdv A outer s H vs Q E hr h => ?_)
  · obtain ⟨d, e, p, q, r, t, B, rfl, _⟩ := h
    rfl
  obtain ⟨d, e, p, q, r, t, B, rfl, hD, hE, hq, ht, bp, bq, br, bt, hB, hle, k⟩ := h
  refine ⟨_, (pss_cons (ps_expr (pe_callF F_check_place hr rfl (pa_cons (pv 0) pa_nil)))
  (pss_cons (ps_expr (pe_callF F_check_place hr rfl (pa_cons (pv 1) pa_nil)))
  (pss_one (ps_if (pt_cmpR op_lt (pe_op op_mulK (pe_ix ix_tup (pv 1) pe_int (fun _ _ => rfl)) (pe_ix ix_tup (pv 0) pe_int (fun _ _ => rfl))) (pe_op op_mulK (pe_ix ix_tup (pv 0) pe_int (fun _ _ => rfl)) (pe_ix ix_tup (pv 1) pe_int (fun _ _ => rfl))) (nomark _))
    (pss_one (ps_never))
    pss_nil)))), ?_⟩
  refine ⟨_, rfl, d, p, q, rfl, hD, hq, ?_⟩
  refine ⟨_, rfl, e, r, t, rfl, hE, ht, ?_⟩
  refine ⟨_, rfl, e, _, _, _, rfl, rfl, hE, rfl, _, rfl, d, _, _, _, rfl, rfl, hD, rfl, _, _, rfl, rfl, br.mulOkS bq, _, rfl, d, _, _, _, rfl, rfl, hD, rfl, _, rfl, e, _, _, _, rfl, rfl, hE, rfl, _, _, rfl, rfl, bp.mulOkS bt, _, _, rfl, rfl, _, rfl, ite2 (fun z => ?_) (fun z => ?_)⟩
  · have z' : r * q < p * t := of_decide_eq_true z
    omega
  · exact k

theorem scRA : FnScope ["links", "low", "high"] ["links", "low", "high"] (defScope sRAlong) := ⟨rfl, rfl, rfl, by decide +kernel, rfl, by decide +kernel, by decide +kernel⟩
theorem ok_ra (F_changes_along : FnAt P w K mg base 3 "changes_along" ["links", "place"] (spAlong K)) (F : Fun K "roots_along" "roots_along" sRAlong f fd) : FnOk P w K mg base CX0 4 f fd ["links", "low", "high"] (spRAlong K) := by
  refine F.ok scRA (fun vs H Q E h => ?_) (fun cdv A outer s H vs Q E hr h => ?_)
  · obtain ⟨a, d, e, ws, ls, p, q, r, t, B, rfl, _⟩ := h
    rfl
  obtain ⟨a, d, e, ws, ls, p, q, r, t, B, rfl, hA, hL, hls, hz, hD, hE, bp, bq, br, bt, hB, hq, ht, k⟩ := h
  refine ⟨_, (pss_one (ps_ret (pe_op op_sub (pe_callF F_changes_along hr rfl (pa_cons (pv 0) (pa_cons (pv 1) pa_nil))) (pe_callF F_changes_along hr rfl (pa_cons (pv 0) (pa_cons (pv 2) pa_nil)))))), ?_⟩
  refine ⟨_, rfl, _, rfl, a, d, ws, ls, p, q, B, rfl, hA, hL, hls, hz, hD, bp, bq, hB, hq, ?_⟩
  refine ⟨_, rfl, _, rfl, a, e, ws, ls, r, t, B, rfl, hA, hL, hls, hz, hE, br, bt, hB, ht, _, _, rfl, rfl, ?_⟩
  rw [← chg_vc hq, ← chg_vc ht] at k
  exact k

theorem scFT : FnScope ["curve", "chains", "rest"] ["curve"] (defScope sForTimes) := ⟨rfl, rfl, rfl, by decide +kernel, rfl, by decide +kernel, by decide +kernel⟩
theorem ok_fortimes (B : Bl mg) (F_chain : FnAt P w K mg base 44 "chain" ["curve"] (spChain K)) (F_shared : FnAt P w K mg base 42 "shared" ["curve", "other"] (spSharedZ K)) (F_slope : FnAt P w K mg base 2 "slope" ["curve"] (spSlope K)) (F : Fun K "chains_for_times" "chains_for_times" sForTimes f fd) :
    FnOk P w K mg base CX0 45 f fd ["curve"] (spForTimes K) := by
  refine F.ok scFT (fun vs H Q E h => ?_) (fun cdv A outer s H vs Q E hr h => ?_)
  · obtain ⟨a, c, scale, rows, rfl, _⟩ := h
    rfl
  obtain ⟨a, c, scale, rows, rfl, hA, g, q⟩ := h
  refine ⟨_, (pss_cons (ps_set (i := 1) scFT.nd rfl (Or.inl rfl) (pe_lst pa_nil))
  (pss_cons (ps_set (i := 2) scFT.nd rfl (Or.inl rfl) (pv 0))
  (pss_cons (ps_while PassesOwn.never (pt_cmpR op_gt (pe_callB call_len_seq rfl B.len_ bt_len (pa_cons (pv 2) pa_nil)) pe_int (nomark _))
    (pss_cons (ps_expr (pe_bm PySem.F.plainAttrs_list PySem.F.slot_list_append PySem.F.type_list_append mt_append (pv 1) (pa_cons (pe_callF F_chain hr rfl (pa_cons (pv 2) pa_nil)) pa_nil)))
    (pss_one (ps_set (i := 2) scFT.nd rfl (Or.inl rfl) (pe_callF F_shared hr rfl (pa_cons (pv 2) (pa_cons (pe_callF F_slope hr rfl (pa_cons (pv 2) pa_nil)) pa_nil)))))))
  (pss_one (ps_ret (pv 1)))))), ?_⟩
  refine ⟨(by show 0 ≤ sizeLine; decide), fun r hr0 => ?_⟩
  have g0 : Same H (upd H r (.lst [])) := same_new hr0 _
  have e0 : upd H r (.lst []) r = some (.lst []) := upd_same
  generalize upd H r (.lst []) = G0 at g0 e0 ⊢
  have t1 : totN rows ≤ 6 := by have := tot_le (m := 3) fun p hp => (g.ok.1 p hp).2.2.1; have := g.few; omega
  refine ⟨_, rfl, ?_⟩
  refine ⟨fun m σ H2 => ∃ (rr : Addr) (ck : List Int) (sk : Int) (rk : List (List Int × Nat)) (ws : List V) (lss : List (List (List Int))), m = mxT rk ∧ σ = [some (.ref a), some (.ref r), some (.ref rr)] ∧ Same H H2 ∧
      (∀ H3 : Hp, (∀ b o, b ≠ r → H2 b = some o → H3 b = some o) → Same H H3 → SqL K H3 rr (ck.map V.int)) ∧ Got8 sk rk ck ∧ H2 r = some (.lst ws) ∧ (∀ H3 : Hp, (∀ b o, b ≠ r → H2 b = some o → H3 b = some o) → ChainsAt H3 ws lss) ∧ Fit 891184 lss ∧
      (∀ lss', ChT rk lss' → ChT rows (lss ++ lss')) ∧ lss.length + mxT rk ≤ 6,
    ⟨mxT rows, a, c, scale, rows, [], [], rfl, rfl, g0, fun H3 _ s3 => s3.seq hA, g, e0, fun H3 _ => ChainsAt.nil H3, fun ls h => (nomatch h), fun lss' h => h, by show 0 + totN rows ≤ 6; omega⟩, ?_⟩
  rintro m σ H2 ⟨rr, ck, sk, rk, ws, lss, rfl, rfl, s2, hR, gk, er, hC, hF, hT, h6⟩
  have z := gk.szs
  have hR2 := hR H2 (fun b o _ e => e) s2
  have hC2 := hC H2 (fun b o _ e => e)
  have hl : (ck.map V.int).length = ck.length := List.length_map _
  have c1 := List.length_pos_iff.mpr z.ne
  refine ⟨_, rfl, rr, _, rfl, .inl hR2, _, _, rfl, rfl, _, rfl, ite2 (fun y => ?_) (fun y => ?_)⟩
  · have y' : (1 : Int) < (((ck.map V.int).length : Nat) : Int) := of_decide_eq_true y
    rw [hl] at y'
    have rne : rk ≠ [] := fun e => by have := gk.len.mpr e; omega
    obtain ⟨cm, gn, hsame⟩ := gk.next
    have hlt := mxT_dec (fun p hp => (gk.hr p hp).2) rne
    have lw := hC2.1
    have gr := z.grow
    have mo := z.most
    have lk := z.len
    refine ⟨fun σ' H' => ∃ (rg rc : Addr) (ws' : List V) (ls : List (List Int)), σ' = [some (.ref a), some (.ref r), some (.ref rg)] ∧ Same H H' ∧ H' rg = some (IL cm) ∧ rg ≠ r ∧ H' r = some (.lst (ws ++ [.ref rc])) ∧ (∀ b o, b ≠ r → H2 b = some o → H' b = some o) ∧ rc ≠ r ∧ H' rc = some (.lst ws') ∧ (∀ G : Hp, (∀ b o, b ≠ r → H' b = some o → G b = some o) → ListsAt G ws' ls) ∧ Chain ck ls ∧ ls.length ≤ 1000 ∧ ∀ l ∈ ls, GoodL l ∧ l.length ≤ 64 ∧ ∀ x ∈ l, Bd 891184 x, ?_, ?_⟩
    · rintro σ' H' ⟨rg, rc, ws', ls, rfl, s3, eg, ng, er', keep, nc, ec, hL, hch, l1, l2⟩
      refine ⟨mxT (dec rk), hlt, rg, cm, 1, dec rk, ws ++ [.ref rc], lss ++ [ls], rfl, rfl, s3, fun H3 k _ => SqL.of (k _ _ ng eg), gn, er', fun H3 k => ?_, fun u hu => ?_, fun lss' h => ?_, by rw [List.length_append, List.length_singleton]; omega⟩
      · exact (hC H3 fun b o hb e => k b o hb (keep b o hb e)).snoc (k _ _ nc ec) (hL H3 k)
      · rcases List.mem_append.mp hu with hu | hu
        · exact hF u hu
        · rw [List.mem_singleton.mp hu]; exact ⟨l1, l2⟩
      · rw [List.append_assoc]
        exact hT _ (.cons (gk.count hch) (fun p hp => (gk.hr p hp).2) h)
    · refine ⟨_, rfl, .inl ⟨rfl, _, SqL.of er⟩, _, rfl, rr, ck, 115, 7, 73, 7, rfl, hR2, z.good, z.ne, z.len, z.l30, z.bd, z.room, z.sim, z.ls30, by omega, fun rc H3 ws' ls n3 s3 hch e3 hL hl3 hw3 => ?_⟩
      have er3 := s3 _ _ er
      have ncr : rc ≠ r := fun e => by rw [e, er] at n3; cases n3
      refine ⟨r, _, _, rfl, rfl, er3, by rw [lw]; exact small1000 (by omega), ?_⟩
      have k3 : ∀ b o, b ≠ r → H2 b = some o → upd H3 r (.lst (ws ++ [.ref rc])) b = some o := fun b o hb e => by rw [upd_ne hb]; exact s3 _ _ e
      have k3' : ∀ b o, b ≠ r → H3 b = some o → upd H3 r (.lst (ws ++ [.ref rc])) b = some o := fun b o hb e => by rw [upd_ne hb]; exact e
      have sH3 : Same H (upd H3 r (.lst (ws ++ [.ref rc]))) := fun b o e => by rw [upd_ne (ne_of_none e hr0)]; exact s3 _ _ (s2 _ _ e)
      have eu : upd H3 r (.lst (ws ++ [.ref rc])) r = some (.lst (ws ++ [.ref rc])) := upd_same
      have hLoff : ∀ G : Hp, (∀ b o, b ≠ r → upd H3 r (.lst (ws ++ [.ref rc])) b = some o → G b = some o) → ListsAt G ws' ls := fun G k => hL.off (fun l hl' => (hl3 l hl').2.1) er3 hC2.refs fun b o hb e => k b o hb (k3' b o hb e)
      have ec3 := k3' _ _ ncr e3
      generalize upd H3 r (.lst (ws ++ [.ref rc])) = G3 at k3 sH3 eu hLoff ec3 ⊢
      have hR3 := hR G3 k3 sH3
      have lls := hL.1
      refine ⟨_, rfl, _, rfl, rr, ck, rfl, hR3, z.good, by omega, fun rs H4 n4 s4 e4 => ?_⟩
      have bs : ∀ x ∈ slopeL ck, Bd (115 + 5) x := fun x hx => by
        obtain ⟨i, hi, rfl⟩ := List.mem_map.mp hx
        have hi' : i < ck.length - 1 := List.mem_range.mp hi
        have b1 : Bd 5 (1 + (i : Int)) := Bd.of_le 30 (by omega) (by decide)
        exact (b1.mul (z.bd _ (gmem (by omega)))).mono (by omega)
      have hroom := z.room
      refine ⟨rr, rs, ck, slopeL ck, 7, 6, 115, 120, rfl, s4.seq hR3, SqL.of e4, z.good, slope_good z.good, z.len, by rw [slope_length]; omega, by omega, by omega, z.bd, bs, by decide +kernel, fun rg H5 sg n5 s5 hsh bg e5 => ?_⟩
      rw [hsame sg hsh] at e5
      have s45 := s4.trans s5
      have er5 := s45 _ _ eu
      refine ⟨rg, rc, ws', ls, rfl, sH3.trans s45, e5, fun e => ?_, er5, fun b o hb e => s45 _ _ (k3 b o hb e), ncr, s45 _ _ ec3, fun G k => hLoff G fun b o hb e => k b o hb (s45 _ _ e), hch, by omega, fun l hl' => ?_⟩
      · rw [e, s4 _ _ eu] at n5; cases n5
      · obtain ⟨a1, _, a3, a4⟩ := hl3 l hl'
        exact ⟨a1, by omega, fun x hx => (a4 x hx).mono gr⟩
  · have y' : ¬ (1 : Int) < (((ck.map V.int).length : Nat) : Int) := of_decide_eq_false (Bool.eq_false_iff.mpr y)
    rw [hl] at y'
    have e : rk = [] := gk.len.mp (by omega)
    subst e
    have := hT [] .nil
    rw [List.append_nil] at this
    exact ⟨_, rfl, q r H2 ws lss hr0 s2 er hC2 this hF (by omega)⟩

theorem scTA : FnScope ["chains", "low", "high"] ["chains", "low", "high"] (defScope sTAlong) := ⟨rfl, rfl, rfl, by decide +kernel, rfl, by decide +kernel, by decide +kernel⟩
theorem ok_talong (hsum : mg "sum" = none) (F_roots_along : FnAt P w K mg base 4 "roots_along" ["links", "low", "high"] (spRAlong K)) (F : Fun K "times_along" "times_along" sTAlong f fd) : FnOk P w K mg base CX0 5 f fd ["chains", "low", "high"] (spTAlong K) := by
  refine F.ok scTA (fun vs H Q E h => ?_) (fun cdv A outer s H vs Q E hr h => ?_)
  · obtain ⟨a, d, e, ws, lss, p, q, r, t, rfl, _⟩ := h
    rfl
  obtain ⟨a, d, e, ws, lss, p, q, r, t, rfl, hA, hC, hF, h6, hD, hE, bp, bq, br, bt, hq, ht, k⟩ := h
  refine ⟨_, (pss_one (ps_ret (pe_callB (call_sum rfl) rfl hsum bt_sum (pa_cons (pe_lcg (xs := ["links"]) (N := ["low", "high"]) (fr := [1, 2]) (compOkG (by with_unfolding_all rfl) (by decide +kernel) rfl (by decide +kernel) (by decide +kernel) (allC rfl (allC rfl all0)) rfl ⟨⟨rfl, rfl, rfl⟩, ⟨rfl, rfl, rfl⟩, trivial⟩ rfl rfl) (pi_list (pv 0))
    (fun _ _ _ _ _ => pg_name (i := 0) (show List.Nodup (["links", "low", "high"] : List Str) from by decide +kernel) rfl (Or.inl rfl)) (fun _ _ _ _ _ => pts0) (fun _ _ _ _ _ => pe_callF F_roots_along hr rfl (pa_cons (pv 0) (pa_cons (pv 1) (pa_cons (pv 2) pa_nil))))) pa_nil)))), ?_⟩
  have lw := hC.1
  refine ⟨_, rfl, a, rfl, ⟨_, SqL.of hA⟩, lcg_all (K := K) (xs := ["links"]) (ws := ws) (fun _ => true) (fun _ i v _ => v = .int ((lss.map fun ls => Vc (plc p q) ls - Vc (plc r t) ls).getD i 0)) (fun i => [ws[i]?]) (SqL.of hA) (by omega) (fun _ _ _ _ _ _ h => h) (fun _ => rfl) ?_ ?_ ?_ ?_⟩
  · intro i y σ0 H6 Q2 hy s6 l0 q2
    obtain ⟨u, rfl⟩ := List.length_eq_one_iff.mp l0
    rw [hy] at q2
    exact q2
  · intro i y H6 Q2 hy s6 q2
    exact q2 H6 (Same.refl _)
  · intro D acc i y H6 Q2 hD6 hd hy _ s6 q2
    obtain ⟨ls, g, ws', hp, rfl, k1, k2⟩ := hC.get hy
    obtain ⟨f1, f2⟩ := hF ls (List.mem_of_getElem? hp)
    have l2 := k2.1
    rw [hy]
    refine ⟨_, rfl, _, rfl, _, rfl, g, d, e, ws', ls, p, q, r, t, 891184, rfl, SqL.of (s6 _ _ k1), k2.mono s6, f2, by omega, s6.tup hD, s6.tup hE, bp, bq, br, bt, by decide, hq, ht, ?_⟩
    refine q2 _ H6 (Same.refl _) ?_
    rw [List.getD_eq_getElem?_getD, List.getElem?_map, hp]
    rfl
  · intro D H6 vs n6 s6 e6 hl6 hr6
    have ev : vs = ((lss.map fun ls => Vc (plc p q) ls - Vc (plc r t) ls)).map V.int := by
      have hf : ((List.range ws.length).filter fun _ => true) = List.range ws.length := List.filter_eq_self.mpr fun _ _ => rfl
      rw [hf] at hl6 hr6
      refine List.ext_getElem (by rw [hl6]; simp [lw]) fun i h1 h2 => ?_
      have := hr6 i vs[i] i (List.getElem?_eq_getElem h1) (List.getElem?_range (by rw [hl6, List.length_range] at h1; exact h1))
      rw [this]
      have h3 : i < (lss.map fun ls => Vc (plc p q) ls - Vc (plc r t) ls).length := by simpa using h2
      rw [List.getElem_map, List.getD_eq_getElem?_getD, List.getElem?_eq_getElem h3]
      rfl
    rw [ev] at e6
    exact ⟨D, _, rfl, SqL.of e6, k H6 s6⟩

theorem scWT : FnScope ["curve", "low", "high"] ["curve", "low", "high"] (defScope sWithTimes) := ⟨rfl, rfl, rfl, by decide +kernel, rfl, by decide +kernel, by decide +kernel⟩
theorem ok_withtimes (F_check_curve : FnAt P w K mg base 1 "check_curve" ["curve"] (spCheckCurve K)) (F_check_not_nought : FnAt P w K mg base 1 "check_not_nought" ["curve"] (spCheckNN K)) (F_check_stretch : FnAt P w K mg base 2 "check_stretch" ["low", "high"] (spCheckStretch K)) (F_times_along : FnAt P w K mg base 5 "times_along" ["chains", "low", "high"] (spTAlong K)) (F_chains_for_times : FnAt P w K mg base 45 "chains_for_times" ["curve"] (spForTimes K))
    (F : Fun K "roots_with_times" "roots_with_times" sWithTimes f fd) : FnOk P w K mg base CX0 46 f fd ["curve", "low", "high"] (spWithTimes K) := by
  refine F.ok scWT (fun vs H Q E h => ?_) (fun cdv A outer s H vs Q E hr h => ?_)
  · obtain ⟨a, d, e, c, scale, rows, p, q, r, t, rfl, _⟩ := h
    rfl
  obtain ⟨a, d, e, c, scale, rows, p, q, r, t, rfl, hA, g, hD, hE, bp, bq, br, bt, hq, ht, hle, k⟩ := h
  refine ⟨_, (pss_cons (ps_expr (pe_callF F_check_curve hr rfl (pa_cons (pv 0) pa_nil)))
  (pss_cons (ps_expr (pe_callF F_check_not_nought hr rfl (pa_cons (pv 0) pa_nil)))
  (pss_cons (ps_expr (pe_callF F_check_stretch hr rfl (pa_cons (pv 1) (pa_cons (pv 2) pa_nil))))
  (pss_one (ps_ret (pe_callF F_times_along hr rfl (pa_cons (pe_callF F_chains_for_times hr rfl (pa_cons (pv 0) pa_nil)) (pa_cons (pv 1) (pa_cons (pv 2) pa_nil))))))))), ?_⟩
  have z := g.szs
  refine ⟨_, rfl, a, c, rfl, hA, z.good, ?_⟩
  refine ⟨_, rfl, a, c, rfl, hA, z.ne, ?_⟩
  refine ⟨_, rfl, _, rfl, d, e, p, q, r, t, 891184, rfl, hD, hE, hq, ht, bp, bq, br, bt, by decide, hle, ?_⟩
  refine ⟨_, rfl, a, c, scale, rows, rfl, hA, g, fun r1 H1 ws lss n1 s1 e1 hC hT hF h6 => ?_⟩
  refine ⟨_, rfl, _, rfl, r1, d, e, ws, lss, p, q, r, t, rfl, e1, hC, hF, h6, s1.tup hD, s1.tup hE, bp, bq, br, bt, hq, ht, fun H2 s2 => ?_⟩
  rw [hT.sum ((plc_le hq ht).mpr hle)]
  exact k H2 (s1.trans s2)

theorem scOv : FnScope ["curve", "chains", "sign", "signs", "low", "high"] ["curve"] (defScope sOver) := ⟨rfl, rfl, rfl, by decide +kernel, rfl, by decide +kernel, by decide +kernel⟩
theorem ok_over (F_check_curve : FnAt P w K mg base 1 "check_curve" ["curve"] (spCheckCurve K)) (F_check_not_nought : FnAt P w K mg base 1 "check_not_nought" ["curve"] (spCheckNN K)) (F_chains_for_times : FnAt P w K mg base 45 "chains_for_times" ["curve"] (spForTimes K)) (F_sign_at : FnAt P w K mg base 2 "sign_at" ["curve", "place"] (spSignAtS K)) (F_reach : FnAt P w K mg base 40 "reach" ["curve"] (spReach K))
    (F_stretches : FnAt P w K mg base 45 "stretches" ["curve", "fine"] (spStretches K)) (F_times_along : FnAt P w K mg base 5 "times_along" ["chains", "low", "high"] (spTAlong K)) (F : Fun K "signs_over" "signs_over" sOver f fd) : FnOk P w K mg base CX0 46 f fd ["curve"] (spOver K) := by
  refine F.ok scOv (fun vs H Q E h => ?_) (fun cdv A outer s H vs Q E hr h => ?_)
  · obtain ⟨a, c, scale, rows, rfl, _⟩ := h
    rfl
  obtain ⟨a, c, scale, rows, rfl, hA, g, q⟩ := h
  refine ⟨_, (pss_cons (ps_expr (pe_callF F_check_curve hr rfl (pa_cons (pv 0) pa_nil)))
  (pss_cons (ps_expr (pe_callF F_check_not_nought hr rfl (pa_cons (pv 0) pa_nil)))
  (pss_cons (ps_set (i := 1) scOv.nd rfl (Or.inl rfl) (pe_callF F_chains_for_times hr rfl (pa_cons (pv 0) pa_nil)))
  (pss_cons (ps_set (i := 2) scOv.nd rfl (Or.inl rfl) (pe_callF F_sign_at hr rfl (pa_cons (pv 0) (pa_cons (pe_tup (pa_cons (pe_un un_neg (pe_callF F_reach hr rfl (pa_cons (pv 0) pa_nil))) (pa_cons pe_int pa_nil))) pa_nil))))
  (pss_cons (ps_set (i := 3) scOv.nd rfl (Or.inl rfl) (pe_lst (pa_cons (pv 2) pa_nil)))
  (pss_cons (ps_for PassesOwn.never rfl (pi_list (pe_callF F_stretches hr rfl (pa_cons (pv 0) (pa_cons pe_int pa_nil)))) (pg_tup rfl (pgs_cons (pg_name (i := 4) scOv.nd rfl (Or.inl rfl)) (pgs_cons (pg_name (i := 5) scOv.nd rfl (Or.inl rfl)) pgs_nil)))
    (pss_cons (ps_if (pt_cmpR op_eq (pe_op op_mod (pe_callF F_times_along hr rfl (pa_cons (pv 1) (pa_cons (pv 4) (pa_cons (pv 5) pa_nil)))) pe_int) pe_int (nomark _))
      (pss_one (ps_set (i := 2) scOv.nd rfl (Or.inl rfl) (pe_un un_neg (pv 2))))
      pss_nil)
    (pss_one (ps_expr (pe_bm PySem.F.plainAttrs_list PySem.F.slot_list_append PySem.F.type_list_append mt_append (pv 3) (pa_cons (pv 2) pa_nil))))))
  (pss_one (ps_ret (pv 3))))))))), ?_⟩
  have z := g.szs
  have hl := z.len
  obtain ⟨br, r2⟩ := reach_bd z.good z.ne z.bd
  refine ⟨_, rfl, a, c, rfl, hA, z.good, ?_⟩
  refine ⟨_, rfl, a, c, rfl, hA, z.ne, ?_⟩
  refine ⟨_, rfl, a, c, scale, rows, rfl, hA, g, fun r1 H1 ws lss n1 s1 e1 hC hT hF h6 => ?_⟩
  refine ⟨_, rfl, _, rfl, a, c, rfl, s1.seq hA, z.good, z.ne, by omega, fun H2 s2 => ?_⟩
  refine ⟨_, rfl, (by show 2 ≤ sizeLine; decide), fun t1 m1 => ?_⟩
  have s3 : Same H2 (upd H2 t1 (.tup [.int (-reachL c), .int 1])) := same_new m1 _
  have e3 : upd H2 t1 (.tup [.int (-reachL c), .int 1]) t1 = some (.tup [.int (-reachL c), .int 1]) := upd_same
  generalize upd H2 t1 (.tup [.int (-reachL c), .int 1]) = G3 at s3 e3 ⊢
  have s13 := s1.trans (s2.trans s3)
  have s03 := s2.trans s3
  refine ⟨a, t1, c, -reachL c, 1, 891184, rfl, s13.seq hA, SqT.of e3, by omega, fun x hx => (z.bd x hx).mono (by decide), (br.neg).mono (by decide), (by unfold Bd; exact Nat.lt_of_lt_of_le (by decide : (1 : Int).natAbs < 2 ^ 1) (Nat.pow_le_pow_right (by decide) (by decide))), by decide, z.good, by decide, ?_⟩
  rw [g.start]
  have cC := hC.mono s03
  have e13 := s03 _ _ e1
  generalize hs0 : sgn scale * (-1) ^ (c.length - 1) = s0 at q ⊢
  refine ⟨_, rfl, (by show 1 ≤ sizeLine; decide), fun r3 n3 => ?_⟩
  have s4 : Same G3 (upd G3 r3 (.lst [.int s0])) := same_new n3 _
  have e4 : upd G3 r3 (.lst [.int s0]) r3 = some (IL [s0]) := upd_same
  generalize upd G3 r3 (.lst [.int s0]) = G4 at s4 e4 ⊢
  have s14 := s13.trans s4
  refine ⟨_, rfl, a, c, 115, 7, 73, 7, 891184, 10, 1, 1000, 101, rfl, s14.seq hA, z, by decide, by decide, by decide, by decide, (by unfold Bd; decide), by decide, (by unfold Bd; exact Nat.lt_of_lt_of_le (by decide : (1 : Int).natAbs < 2 ^ 1) (Nat.pow_le_pow_right (by decide) (by decide))), fun s l h => g.stm h, fun r6 G6 zs ps sc l n6 s6 e6 hP hch hrow hfine => ?_⟩
  have e46 := s6 _ _ e4
  have nr : r6 ≠ r3 := fun e => by rw [e, e4] at n6; cases n6
  have sG := s4.trans s6
  obtain ⟨al1, al2⟩ := rows_all g.hr g.ok.2 g.s0 g.mc hch
  have hxy : -((reachL c : Int) : Rat) ≤ ((reachL c : Int) : Rat) := by
    have := one_le_cast (k := reachL c) (by omega)
    grind
  have tot := rows_count g.hr g.ok.2 g.s0 g.mc hch hxy
  rw [al1, al2] at tot
  have num := hrow.num
  have few := rootsAll_few g.fac
  have g2 := g.few
  have lz := hP.1
  have lps : ps.length = (rootsAll rows).length := by omega
  obtain ⟨T, hTd⟩ : ∃ T : List Int, T = ps.map fun q => timesN rows (pl q.2) - timesN rows (pl q.1) := ⟨_, rfl⟩
  have lT : T.length = ps.length := by rw [hTd, List.length_map]
  refine ⟨r6, rfl, ⟨_, SqL.of e6⟩, for_list (K := K) (xs := zs)
    (fun i σ H5 => ∃ (v4 v5 : Option V), σ = [some (.ref a), some (.ref r1), some (.int (lastS s0 (T.take i))), some (.ref r3), v4, v5] ∧ Same G3 H5 ∧ H5 r3 = some (IL (scanS s0 (T.take i))) ∧ H5 r6 = some (.lst zs) ∧ PairsAt H5 zs ps)
    ⟨none, none, rfl, sG, e46, e6, hP⟩ (fun i σ H5 _ ⟨_, _, _, _, _, e, _⟩ => SqL.of e) ?_ ?_⟩
  · rintro i x σ H5 hx ⟨v4, v5, rfl, s5, e5, e65, hP5⟩
    obtain ⟨q1, hq, t, a1, b1, rfl, x1, x2, x3⟩ := hP5.get hx
    have hi : i < ps.length := (List.getElem?_eq_some_iff.mp hq).1
    obtain ⟨o1, o2, k3, k4, k5⟩ := hrow.ok q1 (List.mem_of_getElem? hq)
    obtain ⟨c1, c2, c3⟩ := o1.bd br (bP := 10) (by unfold Bd; decide)
    obtain ⟨d1, d2, d3⟩ := o2.bd br (bP := 10) (by unfold Bd; decide)
    have hTi : T[i]? = some (timesN rows (pl q1.2) - timesN rows (pl q1.1)) := by rw [hTd, List.getElem?_map, hq]; rfl
    have htk : T.take (i + 1) = T.take i ++ [timesN rows (pl q1.2) - timesN rows (pl q1.1)] := by rw [List.take_add_one, hTi]; rfl
    refine ⟨t, _, rfl, SqT.of x1, rfl, _, _, rfl, _, _, rfl, rfl, ?_⟩
    refine ⟨_, rfl, _, rfl, _, rfl, r1, a1, b1, ws, lss, q1.1.1, q1.1.2, q1.2.1, q1.2.2, rfl, s5 _ _ e13, cC.mono s5, hF, h6, SqT.of x2, SqT.of x3, c1.mono (by decide), c2.mono (by decide), d1.mono (by decide), d2.mono (by decide), c3, d3, fun H7 s7 => ?_⟩
    have hle : plc q1.1.1 q1.1.2 ≤ plc q1.2.1 q1.2.2 := by
      have : pl q1.1 < pl q1.2 := k4
      exact Rat.le_of_lt this
    rw [hT.sum hle]
    have sz : ((scanS s0 (T.take i)).map V.int).length < sizeLine := by rw [List.length_map, scanS_length, List.length_take]; exact small1000 (by omega)
    have fin : ∀ sg : Int, sg = lastS s0 (T.take (i + 1)) → ∃ (v4 v5 : Option V), [some (V.ref a), some (.ref r1), some (.int sg), some (.ref r3), some (.ref a1), some (.ref b1)] = [some (V.ref a), some (.ref r1), some (.int (lastS s0 (T.take (i + 1)))), some (.ref r3), v4, v5] ∧ Same G3 (upd H7 r3 (.lst ((scanS s0 (T.take i)).map V.int ++ [V.int sg]))) ∧ upd H7 r3 (.lst ((scanS s0 (T.take i)).map V.int ++ [V.int sg])) r3 = some (IL (scanS s0 (T.take (i + 1)))) ∧ upd H7 r3 (.lst ((scanS s0 (T.take i)).map V.int ++ [V.int sg])) r6 = some (.lst zs) ∧ PairsAt (upd H7 r3 (.lst ((scanS s0 (T.take i)).map V.int ++ [V.int sg]))) zs ps := by
      intro sg hsg
      refine ⟨_, _, by rw [hsg], fun b o e => ?_, ?_, ?_, ?_⟩
      · rw [upd_ne (ne_of_none e n3)]
        exact s7 _ _ (s5 _ _ e)
      · rw [upd_same, map_snoc, hsg, htk, scanS_snoc]
      · rw [upd_ne nr]; exact s7 _ _ e65
      · refine ⟨hP5.1, fun j v p hv hp => ?_⟩
        obtain ⟨t', a', b', ev, y1, y2, y3⟩ := hP5.2 j v p hv hp
        have ne : ∀ b xs, H5 b = some (.tup xs) → b ≠ r3 := fun b xs e z' => by rw [z', e5] at e; cases e
        exact ⟨t', a', b', ev, by rw [upd_ne (ne _ _ y1)]; exact s7 _ _ y1, by rw [upd_ne (ne _ _ y2)]; exact s7 _ _ y2, by rw [upd_ne (ne _ _ y3)]; exact s7 _ _ y3⟩
    refine ⟨_, _, rfl, rfl, (by show (0 : Int) < 2; decide), rfl, _, rfl, ite2 (fun y => ?_) (fun y => ?_)⟩
    · have y' := of_decide_eq_true y
      injection y' with y'
      refine ⟨_, rfl, _, rfl, ?_⟩
      exact ⟨_, rfl, .inl ⟨rfl, _, SqL.of (s7 _ _ e5)⟩, _, rfl, r3, _, _, rfl, rfl, s7 _ _ e5, sz, fin _ (by rw [htk, lastS_snoc]; exact (if_pos y').symm)⟩
    · have y' : ¬ (timesN rows (pl q1.2) - timesN rows (pl q1.1)) % 2 = 1 := fun e => y (decide_eq_true (congrArg V.int e))
      exact ⟨_, rfl, .inl ⟨rfl, _, SqL.of (s7 _ _ e5)⟩, _, rfl, r3, _, _, rfl, rfl, s7 _ _ e5, sz, fin _ (by rw [htk, lastS_snoc]; exact (if_neg y').symm)⟩
  · rintro σ H5 ⟨v4, v5, rfl, s5, e5, e65, hP5⟩
    rw [lz, ← lT, List.take_length] at e5
    refine ⟨_, rfl, q r3 H5 _ (s13.free n3) (s13.trans s5) e5 fun so hO => ?_⟩
    congr 1
    have lso : so.length = ps.length := by
      rw [hO.1, lps, ← rootsT_fst', List.length_map]
    refine List.ext_getElem (by rw [lT, List.length_map, lso]) fun i h1 h2 => ?_
    have hi : i < ps.length := by rw [← lT]; exact h1
    have hi2 : i < so.length := by omega
    have hq : ps[i]? = some ps[i] := List.getElem?_eq_getElem hi
    obtain ⟨o1, o2, k3, k4, k5⟩ := hrow.ok ps[i] (List.mem_of_getElem? hq)
    obtain ⟨v1, v2⟩ := hrow.at_ i ps[i] hq
    have n1 : (numR (rootsAll rows) (pl ps[i].1) : Int) = i := by
      have := rows_count g.hr g.ok.2 g.s0 g.mc hch (x := -((reachL c : Int) : Rat)) (y := pl ps[i].1) k3
      rw [al2, rowsN_eq, numR_sum] at this
      omega
    have n2 : (numR (rootsAll rows) (pl ps[i].2) : Int) = i + 1 := by
      have := rows_count g.hr g.ok.2 g.s0 g.mc hch (x := -((reachL c : Int) : Rat)) (y := pl ps[i].2) (by grind)
      rw [al2, rowsN_eq, numR_sum] at this
      omega
    have key := one_in g.fac g.ok.2 hO (Rat.le_of_lt k4) n1 n2 (List.getElem?_eq_getElem hi2)
    have e1 : T[i] = timesN rows (pl ps[i].2) - timesN rows (pl ps[i].1) := by
      subst hTd
      rw [List.getElem_map]
    rw [e1, key, List.getElem_map]

theorem rootsT_fst (rows : List (List Int × Nat)) : (rootsT rows).map (·.1) = rootsAll rows := by
  unfold rootsT rootsAll
  induction rows with
  | nil => rfl
  | cons p rows ih =>
    rw [List.flatMap_cons, List.flatMap_cons, List.map_append, ih, List.map_map]
    congr 1
    exact List.map_id _
theorem rootsT_ok {rows : List (List Int × Nat)} (hf : ∀ p ∈ rows, Fac p.1) : ∀ r ∈ rootsT rows, RootOk r.1 ∧ r.1.2.2 ≤ 8 := fun r hr => by
  obtain ⟨p, hp, h⟩ := List.mem_flatMap.mp hr
  obtain ⟨x, hx, rfl⟩ := List.mem_map.mp h
  refine ⟨roots_ok (hf p hp) x hx, ?_⟩
  rcases hf p hp with ⟨b, a, e, hl, _⟩ | ⟨y, hy, e⟩
  · rw [e] at hx
    rw [List.mem_singleton.mp (show x ∈ [(false, 0 - b, a)] from hx)]
    show a ≤ 8
    rcases hl with r | ⟨r, _⟩ | ⟨r, _⟩ <;> omega
  · rw [e] at hx
    unfold rootsF at hx
    dsimp only at hx
    obtain ⟨q1, _⟩ := QL_range y hy
    split at hx
    · rcases List.mem_cons.mp hx with r | r
      · rw [r]; show 0 - y.1 ≤ 8; omega
      · rw [List.mem_singleton.mp r]; show 0 - y.1 ≤ 8; omega
    · cases hx

theorem one_pow' (m : Nat) : (1 : Int) ^ m = 1 := by
  induction m with
  | zero => rfl
  | succ m ih => rw [Int.pow_succ, ih]; rfl
theorem scLaw : FnScope ["_law_script", "_law_rows", "_law_scale", "_law_curve", "_law_roots", "_law_handed", "_law_sign", "_law_due", "_law_root", "_law_low", "_law_high", "_law_total", "_law_found"] ["_law_script"] (defScope sLaw) := ⟨rfl, rfl, rfl, by decide +kernel, rfl, by decide +kernel, by decide +kernel⟩
theorem ok_law (B : Bl mg) (F_law_whole : FnAt P w K mg base 1 "_law_whole" ["_law_found"] spWhole) (F_law_at : FnAt P w K mg base 1 "_law_at" ["_law_script", "_law_k"] (spAt K)) (F_law_factors : FnAt P w K mg base 2 "_law_factors" ["_law_cells", "_law_most"] (spFactors K))
    (F_law_built : FnAt P w K mg base 2 "_law_built" ["_law_rows", "_law_scale"] (spBuilt K)) (F_law_times_over : FnAt P w K mg base 1 "_law_times_over" ["_law_cell"] spTimesOver)
    (F_law_numbers_are : FnAt P w K mg base 2 "_law_numbers_are" ["_law_found", "_law_due"] (spAre K)) (F_law_known_roots : FnAt P w K mg base 1 "_law_known_roots" ["_law_rows"] (spKnown K)) (F_law_in_order : FnAt P w K mg base 3 "_law_in_order" ["_law_roots"] (spInOrder K)) (F_law_up_to : FnAt P w K mg base 2 "_law_up_to" ["_law_root", "_law_place"] (spUpTo K)) (F_law_drawn_place : FnAt P w K mg base 2 "_law_drawn_place" ["_law_cell", "_law_other"] spPlace)
    (F_signs_over : FnAt P w K mg base 46 "signs_over" ["curve"] (spOver K)) (F_roots_with_times : FnAt P w K mg base 46 "roots_with_times" ["curve", "low", "high"] (spWithTimes K)) (F : Fun K "law" "law" sLaw f fd) : FnOk P w K mg base CX0 47 f fd ["_law_script"] (spLaw K) := by
  refine F.ok scLaw (fun vs H Q E h => ?_) (fun cdv A outer s H vs Q E hr h => ?_)
  · obtain ⟨a, ns, rfl, _⟩ := h
    rfl
  obtain ⟨a, ns, rfl, hS, h63, k⟩ := h
  refine ⟨_, (pss_cons (ps_set (i := 1) scLaw.nd rfl (Or.inl rfl) (pe_callF F_law_factors hr rfl (pa_cons (pe_slice sl_list (pv 0) (po_some pe_int) (po_some pe_int)) (pa_cons pe_int pa_nil))))
  (pss_cons (ps_set (i := 2) scLaw.nd rfl (Or.inl rfl) (pe_callF F_law_times_over hr rfl (pa_cons (pe_callF F_law_at hr rfl (pa_cons (pv 0) (pa_cons pe_int pa_nil))) pa_nil)))
  (pss_cons (ps_set (i := 3) scLaw.nd rfl (Or.inl rfl) (pe_callF F_law_built hr rfl (pa_cons (pv 1) (pa_cons (pv 2) pa_nil))))
  (pss_cons (ps_set (i := 4) scLaw.nd rfl (Or.inl rfl) (pe_callF F_law_in_order hr rfl (pa_cons (pe_callF F_law_known_roots hr rfl (pa_cons (pv 1) pa_nil)) pa_nil)))
  (pss_cons (ps_set (i := 5) scLaw.nd rfl (Or.inl rfl) (pe_callTy call_list_of rfl B.list_ bt_list (pa_cons (pv 3) pa_nil)))
  (pss_cons (ps_set (i := 6) scLaw.nd rfl (Or.inl rfl) (pe_op op_sub (pe_callTy call_int1 rfl B.int_ bt_int (pa_cons (pe_cmpR op_gt (pv 2) pe_int (nomark _)) pa_nil)) (pe_callTy call_int1 rfl B.int_ bt_int (pa_cons (pe_cmpR op_lt (pv 2) pe_int (nomark _)) pa_nil))))
  (pss_cons (ps_J (ps_if (pt_cmpR op_eq (pe_op op_mod (pe_callB call_len_seq rfl B.len_ bt_len (pa_cons (pv 3) pa_nil)) pe_int) pe_int (nomark _))
    (pss_one (ps_set (i := 6) scLaw.nd rfl (Or.inl rfl) (pe_op op_sub pe_int (pv 6))))
    pss_nil))
  (pss_cons (ps_set (i := 7) scLaw.nd rfl (Or.inl rfl) (pe_lst (pa_cons (pv 6) pa_nil)))
  (pss_cons (ps_for PassesOwn.never rfl (pi_list (pv 4)) (pg_name (i := 8) scLaw.nd rfl (Or.inl rfl))
    (pss_cons (ps_if (pt_cmpR op_eq (pe_op op_mod (pe_ix ix_tup (pv 8) pe_int (fun _ _ => rfl)) pe_int) pe_int (nomark _))
      (pss_one (ps_set (i := 6) scLaw.nd rfl (Or.inl rfl) (pe_op op_sub pe_int (pv 6))))
      pss_nil)
    (pss_one (ps_expr (pe_bm PySem.F.plainAttrs_list PySem.F.slot_list_append PySem.F.type_list_append mt_append (pv 7) (pa_cons (pv 6) pa_nil))))))
  (pss_cons (ps_if (pt_not (pt_val (pe_callF F_law_numbers_are hr rfl (pa_cons (pe_callF F_signs_over hr rfl (pa_cons (pv 5) pa_nil)) (pa_cons (pv 7) pa_nil)))))
    (pss_one (ps_ret pe_bl))
    pss_nil)
  (pss_cons (ps_set (i := 9) scLaw.nd rfl (Or.inl rfl) (pe_callF F_law_drawn_place hr rfl (pa_cons (pe_callF F_law_at hr rfl (pa_cons (pv 0) (pa_cons pe_int pa_nil))) (pa_cons (pe_callF F_law_at hr rfl (pa_cons (pv 0) (pa_cons pe_int pa_nil))) pa_nil))))
  (pss_cons (ps_set (i := 10) scLaw.nd rfl (Or.inl rfl) (pe_callF F_law_drawn_place hr rfl (pa_cons (pe_callF F_law_at hr rfl (pa_cons (pv 0) (pa_cons pe_int pa_nil))) (pa_cons (pe_callF F_law_at hr rfl (pa_cons (pv 0) (pa_cons pe_int pa_nil))) pa_nil))))
  (pss_cons (ps_J (ps_if (pt_cmpR op_lt (pe_op op_mulK (pe_ix ix_tup (pv 10) pe_int (fun _ _ => rfl)) (pe_ix ix_tup (pv 9) pe_int (fun _ _ => rfl))) (pe_op op_mulK (pe_ix ix_tup (pv 9) pe_int (fun _ _ => rfl)) (pe_ix ix_tup (pv 10) pe_int (fun _ _ => rfl))) (nomark _))
    (pss_one (ps_par (i := 9) (j := 10) rfl scLaw.nd rfl rfl (by decide) rfl rfl (pa_cons (pv 10) (pa_cons (pv 9) pa_nil)) rfl))
    pss_nil))
  (pss_cons (ps_set (i := 11) scLaw.nd rfl (Or.inl rfl) pe_int)
  (pss_cons (ps_for PassesOwn.never rfl (pi_list (pv 4)) (pg_name (i := 8) scLaw.nd rfl (Or.inl rfl))
    (pss_one (ps_if (PW.pt (pw_and (pt_val (pe_callF F_law_up_to hr rfl (pa_cons (pv 8) (pa_cons (pv 10) pa_nil)))) (pw_and1 (pt_not (pt_val (pe_callF F_law_up_to hr rfl (pa_cons (pv 8) (pa_cons (pv 9) pa_nil))))))))
      (pss_one (ps_set (i := 11) scLaw.nd rfl (Or.inl rfl) (pe_op op_add (pv 11) (pe_ix ix_tup (pv 8) pe_int (fun _ _ => rfl)))))
      pss_nil)))
  (pss_cons (ps_set (i := 12) scLaw.nd rfl (Or.inl rfl) (pe_callF F_roots_with_times hr rfl (pa_cons (pv 5) (pa_cons (pv 9) (pa_cons (pv 10) pa_nil)))))
  (pss_one (ps_ret (pe_and (pe_callF F_law_whole hr rfl (pa_cons (pv 12) pa_nil)) (pe_and (pe_cmpR op_eq (pv 12) (pv 11) (nomark _)) (pe_one (pe_callF F_law_numbers_are hr rfl (pa_cons (pv 5) (pa_cons (pv 3) pa_nil)))))))))))))))))))))))), ?_⟩
  obtain ⟨cs1, e1, l1⟩ := cut_ints ns (lo := 5) (hi := 7) (m := 2) (by decide) (by decide) (by decide)
  refine ⟨_, rfl, _, rfl, _, rfl, a, _, rfl, hS, fun p1 hp1 => ?_⟩
  have s1 : Same H (upd H p1 (.lst (cutV (ns.map V.int) (some 5) (some 7)))) := same_new hp1 _
  have f1 : upd H p1 (.lst (cutV (ns.map V.int) (some 5) (some 7))) p1 = some (IL cs1) := by rw [upd_same, e1]
  generalize upd H p1 (.lst (cutV (ns.map V.int) (some 5) (some 7))) = G1 at s1 f1 ⊢
  refine ⟨p1, cs1, 3, rfl, SqL.of f1, by omega, .inr rfl, fun r1 G2 ws1 rows n1 s2 h1 hR1 ok1 lr1 _ => ?_⟩
  have s12 := s1.trans s2
  have w1 := hR1.1
  have t1 : totN rows ≤ 6 := by have := tot_le (m := 3) fun p hp => (ok1.1 p hp).2.2.1; omega
  have d1 : degN rows ≤ 6 := by have := deg_le (m := 3) fun p hp => (ok1.1 p hp).2.2.2; omega
  have hf : ∀ p ∈ rows, Fac p.1 := fun p hp => (ok1.1 p hp).1
  refine ⟨_, rfl, a, ns, 0, rfl, s12.seq hS, by decide, _, rfl, fun G3 scale s3 k0 bk => ?_⟩
  refine ⟨_, rfl, _, rfl, r1, ws1, rows, scale, rfl, SqL.of (s3 _ _ h1), hR1.mono s3, hf, k0, bk, by omega, by omega, by omega, fun r2 G4 c n2 s4 e2 mc => ?_⟩
  have s34 := s3.trans s4
  have g : Got8 scale rows c := ⟨k0, ok1, by omega, mc⟩
  have z := g.szs
  have lc := z.len
  have c1 := List.length_pos_iff.mpr z.ne
  have few := rootsT_few hf
  refine ⟨_, rfl, r1, ws1, rows, rfl, SqL.of (s34 _ _ h1), hR1.mono s34, hf, by omega, fun r3 G5 zs n3 s5 e3 hZ => ?_⟩
  have lz := hZ.1
  refine ⟨r3, zs, rootsT rows, rfl, e3, hZ, fun r hr => ?_, by rw [rootsT_fst]; exact rows_diff hf ok1.2, by omega, fun r4 G6 ys so n4 s6 e4 hY hO => ?_⟩
  · obtain ⟨x1, x2⟩ := rootsT_ok hf r hr
    exact ⟨x1, x2, rootsAll_x hf r.1 (by rw [← rootsT_fst]; exact List.mem_map.mpr ⟨r, hr, rfl⟩)⟩
  have s16 := s12.trans (s34.trans (s5.trans s6))
  have c6 := s6 _ _ (s5 _ _ e2)
  have ly := hY.1
  have lso := hO.1
  refine ⟨_, rfl, r2, _, rfl, .inl (SqL.of c6), fun r5 n5 => ?_⟩
  have s7 : Same G6 (upd G6 r5 (.lst (c.map V.int))) := same_new n5 _
  have e5 : upd G6 r5 (.lst (c.map V.int)) r5 = some (IL c) := upd_same
  generalize upd G6 r5 (.lst (c.map V.int)) = G7 at s7 e5 ⊢
  have s17 := s16.trans s7
  have c7 := s7 _ _ c6
  have e47 := s7 _ _ e4
  have hY7 := hY.mono s7
  have hl : (c.map V.int).length = c.length := List.length_map _
  have es : ((if decide (0 < scale) = true then (1 : Int) else 0) - (if decide (scale < 0) = true then (1 : Int) else 0)) = sgn scale := by
    unfold sgn
    by_cases x1 : 0 < scale
    · have x2 : ¬ scale < 0 := by omega
      simp [x1, x2]
    · have x2 : scale < 0 := by omega
      simp [x1, x2]
  refine ⟨_, rfl, _, _, rfl, rfl, .inr ⟨_, rfl, _, rfl, _, _, rfl, rfl, .inr ⟨_, rfl, _, _, rfl, rfl, ?_⟩⟩⟩
  dsimp only
  rw [es]
  obtain ⟨s0, hs0⟩ : ∃ s0 : Int, s0 = sgn scale * (-1) ^ (c.length - 1) := ⟨_, rfl⟩
  refine ⟨fun σ' H' => σ' = [some (.ref a), some (.ref r1), some (.int scale), some (.ref r2), some (.ref r4), some (.ref r5), some (.int s0), none, none, none, none, none, none] ∧ H' = G7, ?_, ?_⟩
  · refine ⟨_, rfl, r2, _, rfl, .inl (SqL.of c7), _, _, rfl, rfl, (by show (0 : Int) < 2; decide), rfl, _, rfl, ite2 (fun y => ?_) (fun y => ?_)⟩
    · have y' := of_decide_eq_true y
      injection y' with y'
      rw [hl] at y'
      refine ⟨_, rfl, _, _, rfl, rfl, ?_, rfl⟩
      have : (-1 : Int) ^ (c.length - 1) = -1 := by
        obtain ⟨m, hm⟩ : ∃ m, c.length - 1 = 2 * m + 1 := ⟨(c.length - 2) / 2, by omega⟩
        rw [hm, Int.pow_succ, Int.pow_mul, show ((-1 : Int) ^ 2) = 1 from rfl, one_pow']; rfl
      rw [hs0, this, show sgn scale * -1 = 0 - sgn scale by omega]
      rfl
    · have y' : ¬ ((((c.map V.int).length : Nat) : Int) % 2 = 0) := fun e => y (decide_eq_true (congrArg V.int e))
      rw [hl] at y'
      have : (-1 : Int) ^ (c.length - 1) = 1 := by
        obtain ⟨m, hm⟩ : ∃ m, c.length - 1 = 2 * m := ⟨(c.length - 1) / 2, by omega⟩
        rw [hm, Int.pow_mul, show ((-1 : Int) ^ 2) = 1 from rfl, one_pow']
      refine ⟨?_, rfl⟩
      rw [hs0, this, Int.mul_one]
      rfl
  rintro σ1 H1' ⟨rfl, rfl⟩
  refine ⟨_, rfl, (by show 1 ≤ sizeLine; decide), fun r7 n7 => ?_⟩
  have s8 : Same H1' (upd H1' r7 (.lst [.int s0])) := same_new n7 _
  have e7 : upd H1' r7 (.lst [.int s0]) r7 = some (IL [s0]) := upd_same
  generalize upd H1' r7 (.lst [.int s0]) = G8 at s8 e7 ⊢
  have n47 : r4 ≠ r7 := fun e => by rw [e, n7] at e47; cases e47
  obtain ⟨T, hT⟩ : ∃ T : List Int, T = so.map fun r => (r.2 : Int) := ⟨_, rfl⟩
  have lT : T.length = so.length := by rw [hT, List.length_map]
  refine ⟨_, rfl, r4, rfl, ⟨_, SqL.of (s8 _ _ e47)⟩, for_list (K := K) (xs := ys)
    (fun i σ H5 => ∃ v8 : Option V, σ = [some (.ref a), some (.ref r1), some (.int scale), some (.ref r2), some (.ref r4), some (.ref r5), some (.int (lastS s0 (T.take i))), some (.ref r7), v8, none, none, none, none] ∧ Same H1' H5 ∧ H5 r7 = some (IL (scanS s0 (T.take i))))
    ⟨none, rfl, s8, e7⟩ (fun i σ H5 _ ⟨_, _, s5', _⟩ => SqL.of (s5' _ _ e47)) ?_ ?_⟩
  · rintro i x σ H5 hx ⟨v8, rfl, s9, e9⟩
    obtain ⟨rt, hrt, tt, rfl, htt⟩ := (hY7.mono s9).get hx
    have hi : i < so.length := (List.getElem?_eq_some_iff.mp hrt).1
    have hTi : T[i]? = some (rt.2 : Int) := by rw [hT, List.getElem?_map, hrt]; rfl
    have htk : T.take (i + 1) = T.take i ++ [(rt.2 : Int)] := take_snoc hTi
    have sz : ((scanS s0 (T.take i)).map V.int).length < sizeLine := by rw [List.length_map, scanS_length, List.length_take]; exact small1000 (by omega)
    have fin : ∀ sg : Int, sg = lastS s0 (T.take (i + 1)) → ∃ v8 : Option V, [some (V.ref a), some (.ref r1), some (.int scale), some (.ref r2), some (.ref r4), some (.ref r5), some (.int sg), some (.ref r7), some (.ref tt), none, none, none, none] = [some (V.ref a), some (.ref r1), some (.int scale), some (.ref r2), some (.ref r4), some (.ref r5), some (.int (lastS s0 (T.take (i + 1)))), some (.ref r7), v8, none, none, none, none] ∧ Same H1' (upd H5 r7 (.lst ((scanS s0 (T.take i)).map V.int ++ [V.int sg]))) ∧ upd H5 r7 (.lst ((scanS s0 (T.take i)).map V.int ++ [V.int sg])) r7 = some (IL (scanS s0 (T.take (i + 1)))) := by
      intro sg hsg
      refine ⟨_, by rw [hsg], fun b o e => ?_, ?_⟩
      · rw [upd_ne (ne_of_none e n7)]
        exact s9 _ _ e
      · rw [upd_same, map_snoc, hsg, htk, scanS_snoc]
    refine ⟨_, rfl, tt, _, _, _, rfl, rfl, SqT.of htt, rfl, _, _, rfl, rfl, (by show (0 : Int) < 2; decide), rfl, _, rfl, ite2 (fun y => ?_) (fun y => ?_)⟩
    · have y' := of_decide_eq_true y
      injection y' with y'
      refine ⟨_, rfl, _, _, rfl, rfl, ?_⟩
      exact ⟨_, rfl, .inl ⟨rfl, _, SqL.of e9⟩, _, rfl, r7, _, _, rfl, rfl, e9, sz, fin _ (by rw [htk, lastS_snoc, if_pos y']; omega)⟩
    · have y' : ¬ ((rt.2 : Int) % 2 = 1) := fun e => y (decide_eq_true (congrArg V.int e))
      exact ⟨_, rfl, .inl ⟨rfl, _, SqL.of e9⟩, _, rfl, r7, _, _, rfl, rfl, e9, sz, fin _ (by rw [htk, lastS_snoc, if_neg y'])⟩
  rintro σ2 H5 ⟨v8, rfl, s9, e9⟩
  rw [ly, ← lT, List.take_length] at e9
  refine ⟨_, rfl, r5, c, scale, rows, rfl, SqL.of (s9 _ _ e5), g, fun r8 G9 out n8 s10 e8 hout => ?_⟩
  have eo := hout so hO
  rw [← hs0, ← hT] at eo
  subst eo
  refine ⟨_, rfl, r8, r7, _, rfl, SqL.of e8, SqL.of (s10 _ _ e9), by rw [scanS_length]; omega, true, rfl, iteF ?_⟩
  have sA := (s17.trans s9).trans s10
  refine ⟨_, rfl, a, ns, 1, rfl, sA.seq hS, by decide, _, rfl, a, ns, 2, rfl, sA.seq hS, by decide, _, _, rfl, fun r9 G10 x q s11 n9 e9' bx bq hq0 => ?_⟩
  have sB := sA.trans s11
  refine ⟨_, rfl, a, ns, 3, rfl, sB.seq hS, by decide, _, rfl, a, ns, 4, rfl, sB.seq hS, by decide, _, _, rfl, fun r10 G11 r t s12' n10 e10 br bt ht0 => ?_⟩
  have e9'' := s12' _ _ e9'
  have s7b := s9.trans (s10.trans (s11.trans s12'))
  refine ⟨fun σ' H' => ∃ (rl rh : Addr) (x q r t : Int), σ' = [some (.ref a), some (.ref r1), some (.int scale), some (.ref r2), some (.ref r4), some (.ref r5), some (.int (lastS s0 (T.take ys.length))), some (.ref r7), v8, some (.ref rl), some (.ref rh), none, none] ∧ H' = G11 ∧ G11 rl = some (.tup [.int x, .int q]) ∧ G11 rh = some (.tup [.int r, .int t]) ∧ 0 < q ∧ 0 < t ∧ x * t ≤ r * q ∧ Bd 200 x ∧ Bd 200 q ∧ Bd 200 r ∧ Bd 200 t, ?_, ?_⟩
  · refine ⟨_, rfl, r10, _, _, _, rfl, rfl, SqT.of e10, rfl, _, rfl, r9, _, _, _, rfl, rfl, SqT.of e9'', rfl, _, _, rfl, rfl, br.mulOkS bq, _, rfl, r9, _, _, _, rfl, rfl, SqT.of e9'', rfl, _, rfl, r10, _, _, _, rfl, rfl, SqT.of e10, rfl, _, _, rfl, rfl, bx.mulOkS bt, _, _, rfl, rfl, _, rfl, ite2 (fun y => ?_) (fun y => ?_)⟩
    · have y' : r * q < x * t := of_decide_eq_true y
      exact ⟨_, rfl, _, rfl, _, _, rfl, r10, r9, r, t, x, q, rfl, rfl, e10, e9'', ht0, hq0, by omega, br, bt, bx, bq⟩
    · have y' : ¬ r * q < x * t := of_decide_eq_false (Bool.eq_false_iff.mpr y)
      exact ⟨r9, r10, x, q, r, t, rfl, rfl, e9'', e10, hq0, ht0, by omega, bx, bq, br, bt⟩
  clear e10 e9'' e9' bx bq br bt hq0 ht0
  rintro σ3 H6 ⟨rl, rh, x, q, r, t, rfl, rfl, el, eh, hq, ht, hle, bx, bq, br, bt⟩
  have hxy : plc x q ≤ plc r t := (plc_le hq ht).mpr hle
  have e4b := s7b _ _ e47
  have hYb := hY7.mono s7b
  refine ⟨_, rfl, r4, rfl, ⟨_, SqL.of e4b⟩, for_list (K := K) (a := r4) (xs := ys)
    (fun i σ H5 => ∃ v8 : Option V, σ = [some (.ref a), some (.ref r1), some (.int scale), some (.ref r2), some (.ref r4), some (.ref r5), some (.int (lastS s0 (T.take ys.length))), some (.ref r7), v8, some (.ref rl), some (.ref rh), some (.int ((so.take i).map (wt (plc x q) (plc r t))).sum), none] ∧ H5 = H6)
    ⟨_, rfl, rfl⟩ (fun i σ H5 _ ⟨_, _, e⟩ => by rw [e]; exact SqL.of e4b) ?_ ?_⟩
  · rintro i v σ H7 hi ⟨w8, rfl, rfl⟩
    obtain ⟨rt, hrt, tt, rfl, htt⟩ := hYb.get hi
    obtain ⟨ok1', ok2'⟩ := rootsT_ok hf rt (hO.2 i rt hrt).1
    rw [take_snoc hrt, List.map_append, List.sum_append]
    have hw : ([rt].map (wt (plc x q) (plc r t))).sum = wt (plc x q) (plc r t) rt := by simp
    rw [hw]
    refine ⟨_, rfl, _, rfl, tt, rh, rt.1, _, r, t, 210, rfl, SqT.of htt, SqT.of eh, ok1', ok2', ht, br.mono (by decide), bt.mono (by decide), by decide, _, rfl, ?_⟩
    cases c1 : leR rt.1 (plc r t) with
    | false =>
      refine iteF (iteF ⟨some (.ref tt), ?_, rfl⟩)
      rw [show wt (plc x q) (plc r t) rt = 0 from by unfold wt; rw [c1]; rfl, Int.add_zero]
      rfl
    | true =>
      refine iteT ⟨_, rfl, _, rfl, tt, rl, rt.1, _, x, q, 210, rfl, SqT.of htt, SqT.of el, ok1', ok2', hq, bx.mono (by decide), bq.mono (by decide), by decide, _, rfl, ?_⟩
      cases c2 : leR rt.1 (plc x q) with
      | false =>
        refine iteT ⟨_, rfl, _, rfl, tt, _, _, _, rfl, rfl, SqT.of htt, rfl, _, _, rfl, rfl, some (.ref tt), ?_, rfl⟩
        rw [show wt (plc x q) (plc r t) rt = (rt.2 : Int) from by unfold wt; rw [c1, c2]; rfl]
        rfl
      | true =>
        refine iteF ⟨some (.ref tt), ?_, rfl⟩
        rw [show wt (plc x q) (plc r t) rt = 0 from by unfold wt; rw [c1, c2]; rfl, Int.add_zero]
        rfl
  · rintro σ H7 ⟨w8, rfl, rfl⟩
    have hx : ∀ r ∈ (rootsT rows).map (·.1), RootX r := by rw [rootsT_fst']; exact rootsAll_x hf
    have hd : ((rootsT rows).map (·.1)).Pairwise DiffR := by rw [rootsT_fst']; exact rows_diff hf ok1.2
    rw [ly, List.take_length, ord_sum hO hx hd, times_due hf hxy]
    have e5b := s7b _ _ e5
    have c7b := s7b _ _ c7
    refine ⟨_, rfl, _, rfl, _, rfl, r5, rl, rh, c, scale, rows, x, q, r, t, rfl, SqL.of e5b, g, SqT.of el, SqT.of eh, bx.mono (by decide), bq.mono (by decide), br.mono (by decide), bt.mono (by decide), hq, ht, hle, fun G12 s13 => ?_⟩
    refine ⟨_, rfl, _, rfl, true, rfl, iteT ?_⟩
    refine ⟨_, rfl, _, rfl, rfl, true, by rw [decide_eq_true rfl], iteT ?_⟩
    exact ⟨_, rfl, _, rfl, r5, r2, c, rfl, SqL.of (s13 _ _ e5b), SqL.of (s13 _ _ c7b), by omega, k _⟩

end
end K8
namespace K8
open PySem L2 Zf
theorem all_mk {l : PySem.W.OpenLaw} {w : World} {K : PySem.W.Frag} {h : Heap} {mg : Str → Option Value} {fa f1 f2 f3 f4 f5 f6 f7 f8 f9 f10 f11 f12 f13 f14 f15 f16 f17 f18 f19 f20 f21 f22 f23 f24 f25 f26 f27 f28 f29 f30 f31 f32 f33 f34 f35 f36 f37 f38 f39 f40 f41 f42 f43 f44 f45 f46 f47 f48 : Addr} (X : K.In h) (G : h.Ns mainGlobals mg) (hfa : mg "law" = some (.ref fa))
    {od1 an1 od2 an2 od3 an3 od4 an4 od5 an5 od6 an6 od7 an7 od8 an8 od9 an9 od10 an10 od11 an11 od12 an12 od13 an13 od14 an14 od15 an15 od16 an16 od17 an17 od18 an18 od19 an19 od20 an20 od21 an21 od22 an22 od23 an23 od24 an24 od25 an25 od26 an26 od27 an27 od28 an28 od29 an29 od30 an30 od31 an31 od32 an32 od33 an33 od34 an34 od35 an35 od36 an36 od37 an37 od38 an38 od39 an39 od40 an40 od41 an41 od42 an42 od43 an43 od44 an44 od45 an45 od46 an46 od47 an47 od48 an48 : Option Addr} {sl1 sl2 sl3 sl4 sl5 sl6 sl7 sl8 sl9 sl10 sl11 sl12 sl13 sl14 sl15 sl16 sl17 sl18 sl19 sl20 sl21 sl22 sl23 sl24 sl25 sl26 sl27 sl28 sl29 sl30 sl31 sl32 sl33 sl34 sl35 sl36 sl37 sl38 sl39 sl40 sl41 sl42 sl43 sl44 sl45 sl46 sl47 sl48 : Array (Option Value)} {oc1 kV1 dc1 pm1 cd1 ct1 oc2 kV2 dc2 pm2 cd2 ct2 oc3 kV3 dc3 pm3 cd3 ct3 oc4 kV4 dc4 pm4 cd4 ct4 oc5 kV5 dc5 pm5 cd5 ct5 oc6 kV6 dc6 pm6 cd6 ct6 oc7 kV7 dc7 pm7 cd7 ct7 oc8 kV8 dc8 pm8 cd8 ct8 oc9 kV9 dc9 pm9 cd9 ct9 oc10 kV10 dc10 pm10 cd10 ct10 oc11 kV11 dc11 pm11 cd11 ct11 oc12 kV12 dc12 pm12 cd12 ct12 oc13 kV13 dc13 pm13 cd13 ct13 oc14 kV14 dc14 pm14 cd14 ct14 oc15 kV15 dc15 pm15 cd15 ct15 oc16 kV16 dc16 pm16 cd16 ct16 oc17 kV17 dc17 pm17 cd17 ct17 oc18 kV18 dc18 pm18 cd18 ct18 oc19 kV19 dc19 pm19 cd19 ct19 oc20 kV20 dc20 pm20 cd20 ct20 oc21 kV21 dc21 pm21 cd21 ct21 oc22 kV22 dc22 pm22 cd22 ct22 oc23 kV23 dc23 pm23 cd23 ct23 oc24 kV24 dc24 pm24 cd24 ct24 oc25 kV25 dc25 pm25 cd25 ct25 oc26 kV26 dc26 pm26 cd26 ct26 oc27 kV27 dc27 pm27 cd27 ct27 oc28 kV28 dc28 pm28 cd28 ct28 oc29 kV29 dc29 pm29 cd29 ct29 oc30 kV30 dc30 pm30 cd30 ct30 oc31 kV31 dc31 pm31 cd31 ct31 oc32 kV32 dc32 pm32 cd32 ct32 oc33 kV33 dc33 pm33 cd33 ct33 oc34 kV34 dc34 pm34 cd34 ct34 oc35 kV35 dc35 pm35 cd35 ct35 oc36 kV36 dc36 pm36 cd36 ct36 oc37 kV37 dc37 pm37 cd37 ct37 oc38 kV38 dc38 pm38 cd38 ct38 oc39 kV39 dc39 pm39 cd39 ct39 oc40 kV40 dc40 pm40 cd40 ct40 oc41 kV41 dc41 pm41 cd41 ct41 oc42 kV42 dc42 pm42 cd42 ct42 oc43 kV43 dc43 pm43 cd43 ct43 oc44 kV44 dc44 pm44 cd44 ct44 oc45 kV45 dc45 pm45 cd45 ct45 oc46 kV46 dc46 pm46 cd46 ct46 oc47 kV47 dc47 pm47 cd47 ct47 oc48 kV48 dc48 pm48 cd48 ct48 : Value}
    (a1 : PySem.W.nsIn K mainGlobals "_law_whole" = some (some (.ref f1))) (l1 : K.lookup f1 = some ⟨oc1, od1, .func (PySem.W.fnOf "_law_whole" "_law_whole" (defArgs sWhole) (defBody sWhole) (defScope sWhole) .none kV1 dc1 pm1 an1 cd1 ct1), sl1⟩) (c1 : PySem.W.codeIn K cd1 "_law_whole" = true) (k1 : PySem.W.keepIn K (.ref f1) = true)
    (a2 : PySem.W.nsIn K mainGlobals "_law_at" = some (some (.ref f2))) (l2 : K.lookup f2 = some ⟨oc2, od2, .func (PySem.W.fnOf "_law_at" "_law_at" (defArgs sAt) (defBody sAt) (defScope sAt) .none kV2 dc2 pm2 an2 cd2 ct2), sl2⟩) (c2 : PySem.W.codeIn K cd2 "_law_at" = true) (k2 : PySem.W.keepIn K (.ref f2) = true)
    (a3 : PySem.W.nsIn K mainGlobals "_law_numbers_are" = some (some (.ref f3))) (l3 : K.lookup f3 = some ⟨oc3, od3, .func (PySem.W.fnOf "_law_numbers_are" "_law_numbers_are" (defArgs sAre) (defBody sAre) (defScope sAre) .none kV3 dc3 pm3 an3 cd3 ct3), sl3⟩) (c3 : PySem.W.codeIn K cd3 "_law_numbers_are" = true) (k3 : PySem.W.keepIn K (.ref f3) = true)
    (a4 : PySem.W.nsIn K mainGlobals "_law_in_both" = some (some (.ref f4))) (l4 : K.lookup f4 = some ⟨oc4, od4, .func (PySem.W.fnOf "_law_in_both" "_law_in_both" (defArgs sInBoth) (defBody sInBoth) (defScope sInBoth) .none kV4 dc4 pm4 an4 cd4 ct4), sl4⟩) (c4 : PySem.W.codeIn K cd4 "_law_in_both" = true) (k4 : PySem.W.keepIn K (.ref f4) = true)
    (a5 : PySem.W.nsIn K mainGlobals "_law_product" = some (some (.ref f5))) (l5 : K.lookup f5 = some ⟨oc5, od5, .func (PySem.W.fnOf "_law_product" "_law_product" (defArgs sProduct) (defBody sProduct) (defScope sProduct) .none kV5 dc5 pm5 an5 cd5 ct5), sl5⟩) (c5 : PySem.W.codeIn K cd5 "_law_product" = true) (k5 : PySem.W.keepIn K (.ref f5) = true)
    (a6 : PySem.W.nsIn K mainGlobals "_law_factors" = some (some (.ref f6))) (l6 : K.lookup f6 = some ⟨oc6, od6, .func (PySem.W.fnOf "_law_factors" "_law_factors" (defArgs sFactors) (defBody sFactors) (defScope sFactors) .none kV6 dc6 pm6 an6 cd6 ct6), sl6⟩) (c6 : PySem.W.codeIn K cd6 "_law_factors" = true) (k6 : PySem.W.keepIn K (.ref f6) = true)
    (a7 : PySem.W.nsIn K mainGlobals "_law_built" = some (some (.ref f7))) (l7 : K.lookup f7 = some ⟨oc7, od7, .func (PySem.W.fnOf "_law_built" "_law_built" (defArgs sBuilt) (defBody sBuilt) (defScope sBuilt) .none kV7 dc7 pm7 an7 cd7 ct7), sl7⟩) (c7 : PySem.W.codeIn K cd7 "_law_built" = true) (k7 : PySem.W.keepIn K (.ref f7) = true)
    (a8 : PySem.W.nsIn K mainGlobals "_law_times_over" = some (some (.ref f8))) (l8 : K.lookup f8 = some ⟨oc8, od8, .func (PySem.W.fnOf "_law_times_over" "_law_times_over" (defArgs sTimesOver) (defBody sTimesOver) (defScope sTimesOver) .none kV8 dc8 pm8 an8 cd8 ct8), sl8⟩) (c8 : PySem.W.codeIn K cd8 "_law_times_over" = true) (k8 : PySem.W.keepIn K (.ref f8) = true)
    (a9 : PySem.W.nsIn K mainGlobals "check_curve" = some (some (.ref f9))) (l9 : K.lookup f9 = some ⟨oc9, od9, .func (PySem.W.fnOf "check_curve" "check_curve" (defArgs sCheckCurve) (defBody sCheckCurve) (defScope sCheckCurve) .none kV9 dc9 pm9 an9 cd9 ct9), sl9⟩) (c9 : PySem.W.codeIn K cd9 "check_curve" = true) (k9 : PySem.W.keepIn K (.ref f9) = true)
    (a10 : PySem.W.nsIn K mainGlobals "check_not_nought" = some (some (.ref f10))) (l10 : K.lookup f10 = some ⟨oc10, od10, .func (PySem.W.fnOf "check_not_nought" "check_not_nought" (defArgs sCheckNN) (defBody sCheckNN) (defScope sCheckNN) .none kV10 dc10 pm10 an10 cd10 ct10), sl10⟩) (c10 : PySem.W.codeIn K cd10 "check_not_nought" = true) (k10 : PySem.W.keepIn K (.ref f10) = true)
    (a11 : PySem.W.nsIn K mainGlobals "check_place" = some (some (.ref f11))) (l11 : K.lookup f11 = some ⟨oc11, od11, .func (PySem.W.fnOf "check_place" "check_place" (defArgs sCheckPlace) (defBody sCheckPlace) (defScope sCheckPlace) .none kV11 dc11 pm11 an11 cd11 ct11), sl11⟩) (c11 : PySem.W.codeIn K cd11 "check_place" = true) (k11 : PySem.W.keepIn K (.ref f11) = true)
    (a12 : PySem.W.nsIn K mainGlobals "sign_of" = some (some (.ref f12))) (l12 : K.lookup f12 = some ⟨oc12, od12, .func (PySem.W.fnOf "sign_of" "sign_of" (defArgs sSignOf) (defBody sSignOf) (defScope sSignOf) .none kV12 dc12 pm12 an12 cd12 ct12), sl12⟩) (c12 : PySem.W.codeIn K cd12 "sign_of" = true) (k12 : PySem.W.keepIn K (.ref f12) = true)
    (a13 : PySem.W.nsIn K mainGlobals "sign_at" = some (some (.ref f13))) (l13 : K.lookup f13 = some ⟨oc13, od13, .func (PySem.W.fnOf "sign_at" "sign_at" (defArgs sSignAt) (defBody sSignAt) (defScope sSignAt) .none kV13 dc13 pm13 an13 cd13 ct13), sl13⟩) (c13 : PySem.W.codeIn K cd13 "sign_at" = true) (k13 : PySem.W.keepIn K (.ref f13) = true)
    (a14 : PySem.W.nsIn K mainGlobals "slope" = some (some (.ref f14))) (l14 : K.lookup f14 = some ⟨oc14, od14, .func (PySem.W.fnOf "slope" "slope" (defArgs sSlope) (defBody sSlope) (defScope sSlope) .none kV14 dc14 pm14 an14 cd14 ct14), sl14⟩) (c14 : PySem.W.codeIn K cd14 "slope" = true) (k14 : PySem.W.keepIn K (.ref f14) = true)
    (a15 : PySem.W.nsIn K mainGlobals "greatest_in_both" = some (some (.ref f15))) (l15 : K.lookup f15 = some ⟨oc15, od15, .func (PySem.W.fnOf "greatest_in_both" "greatest_in_both" (defArgs sGib) (defBody sGib) (defScope sGib) .none kV15 dc15 pm15 an15 cd15 ct15), sl15⟩) (c15 : PySem.W.codeIn K cd15 "greatest_in_both" = true) (k15 : PySem.W.keepIn K (.ref f15) = true)
    (a16 : PySem.W.nsIn K mainGlobals "plain" = some (some (.ref f16))) (l16 : K.lookup f16 = some ⟨oc16, od16, .func (PySem.W.fnOf "plain" "plain" (defArgs sPlain) (defBody sPlain) (defScope sPlain) .none kV16 dc16 pm16 an16 cd16 ct16), sl16⟩) (c16 : PySem.W.codeIn K cd16 "plain" = true) (k16 : PySem.W.keepIn K (.ref f16) = true)
    (a17 : PySem.W.nsIn K mainGlobals "taken_off" = some (some (.ref f17))) (l17 : K.lookup f17 = some ⟨oc17, od17, .func (PySem.W.fnOf "taken_off" "taken_off" (defArgs sTaken) (defBody sTaken) (defScope sTaken) .none kV17 dc17 pm17 an17 cd17 ct17), sl17⟩) (c17 : PySem.W.codeIn K cd17 "taken_off" = true) (k17 : PySem.W.keepIn K (.ref f17) = true)
    (a18 : PySem.W.nsIn K mainGlobals "trimmed" = some (some (.ref f18))) (l18 : K.lookup f18 = some ⟨oc18, od18, .func (PySem.W.fnOf "trimmed" "trimmed" (defArgs sTrimmed) (defBody sTrimmed) (defScope sTrimmed) .none kV18 dc18 pm18 an18 cd18 ct18), sl18⟩) (c18 : PySem.W.codeIn K cd18 "trimmed" = true) (k18 : PySem.W.keepIn K (.ref f18) = true)
    (a19 : PySem.W.nsIn K mainGlobals "without_last" = some (some (.ref f19))) (l19 : K.lookup f19 = some ⟨oc19, od19, .func (PySem.W.fnOf "without_last" "without_last" (defArgs sWithout) (defBody sWithout) (defScope sWithout) .none kV19 dc19 pm19 an19 cd19 ct19), sl19⟩) (c19 : PySem.W.codeIn K cd19 "without_last" = true) (k19 : PySem.W.keepIn K (.ref f19) = true)
    (a20 : PySem.W.nsIn K mainGlobals "left" = some (some (.ref f20))) (l20 : K.lookup f20 = some ⟨oc20, od20, .func (PySem.W.fnOf "left" "left" (defArgs sLeft) (defBody sLeft) (defScope sLeft) .none kV20 dc20 pm20 an20 cd20 ct20), sl20⟩) (c20 : PySem.W.codeIn K cd20 "left" = true) (k20 : PySem.W.keepIn K (.ref f20) = true)
    (a21 : PySem.W.nsIn K mainGlobals "with_last_above" = some (some (.ref f21))) (l21 : K.lookup f21 = some ⟨oc21, od21, .func (PySem.W.fnOf "with_last_above" "with_last_above" (defArgs sAbove) (defBody sAbove) (defScope sAbove) .none kV21 dc21 pm21 an21 cd21 ct21), sl21⟩) (c21 : PySem.W.codeIn K cd21 "with_last_above" = true) (k21 : PySem.W.keepIn K (.ref f21) = true)
    (a22 : PySem.W.nsIn K mainGlobals "shared" = some (some (.ref f22))) (l22 : K.lookup f22 = some ⟨oc22, od22, .func (PySem.W.fnOf "shared" "shared" (defArgs sShared) (defBody sShared) (defScope sShared) .none kV22 dc22 pm22 an22 cd22 ct22), sl22⟩) (c22 : PySem.W.codeIn K cd22 "shared" = true) (k22 : PySem.W.keepIn K (.ref f22) = true)
    (a23 : PySem.W.nsIn K mainGlobals "divided_out" = some (some (.ref f23))) (l23 : K.lookup f23 = some ⟨oc23, od23, .func (PySem.W.fnOf "divided_out" "divided_out" (defArgs sDivided) (defBody sDivided) (defScope sDivided) .none kV23 dc23 pm23 an23 cd23 ct23), sl23⟩) (c23 : PySem.W.codeIn K cd23 "divided_out" = true) (k23 : PySem.W.keepIn K (.ref f23) = true)
    (a24 : PySem.W.nsIn K mainGlobals "simple" = some (some (.ref f24))) (l24 : K.lookup f24 = some ⟨oc24, od24, .func (PySem.W.fnOf "simple" "simple" (defArgs sSimple) (defBody sSimple) (defScope sSimple) .none kV24 dc24 pm24 an24 cd24 ct24), sl24⟩) (c24 : PySem.W.codeIn K cd24 "simple" = true) (k24 : PySem.W.keepIn K (.ref f24) = true)
    (a25 : PySem.W.nsIn K mainGlobals "changes_along" = some (some (.ref f25))) (l25 : K.lookup f25 = some ⟨oc25, od25, .func (PySem.W.fnOf "changes_along" "changes_along" (defArgs sAlong) (defBody sAlong) (defScope sAlong) .none kV25 dc25 pm25 an25 cd25 ct25), sl25⟩) (c25 : PySem.W.codeIn K cd25 "changes_along" = true) (k25 : PySem.W.keepIn K (.ref f25) = true)
    (a26 : PySem.W.nsIn K mainGlobals "chain" = some (some (.ref f26))) (l26 : K.lookup f26 = some ⟨oc26, od26, .func (PySem.W.fnOf "chain" "chain" (defArgs sChain) (defBody sChain) (defScope sChain) .none kV26 dc26 pm26 an26 cd26 ct26), sl26⟩) (c26 : PySem.W.codeIn K cd26 "chain" = true) (k26 : PySem.W.keepIn K (.ref f26) = true)
    (a27 : PySem.W.nsIn K mainGlobals "reach" = some (some (.ref f27))) (l27 : K.lookup f27 = some ⟨oc27, od27, .func (PySem.W.fnOf "reach" "reach" (defArgs sReach) (defBody sReach) (defScope sReach) .none kV27 dc27 pm27 an27 cd27 ct27), sl27⟩) (c27 : PySem.W.codeIn K cd27 "reach" = true) (k27 : PySem.W.keepIn K (.ref f27) = true)
    (a28 : PySem.W.nsIn K mainGlobals "_law_before" = some (some (.ref f28))) (l28 : K.lookup f28 = some ⟨oc28, od28, .func (PySem.W.fnOf "_law_before" "_law_before" (defArgs sBefore) (defBody sBefore) (defScope sBefore) .none kV28 dc28 pm28 an28 cd28 ct28), sl28⟩) (c28 : PySem.W.codeIn K cd28 "_law_before" = true) (k28 : PySem.W.keepIn K (.ref f28) = true)
    (a29 : PySem.W.nsIn K mainGlobals "_law_up_to" = some (some (.ref f29))) (l29 : K.lookup f29 = some ⟨oc29, od29, .func (PySem.W.fnOf "_law_up_to" "_law_up_to" (defArgs sUpTo) (defBody sUpTo) (defScope sUpTo) .none kV29 dc29 pm29 an29 cd29 ct29), sl29⟩) (c29 : PySem.W.codeIn K cd29 "_law_up_to" = true) (k29 : PySem.W.keepIn K (.ref f29) = true)
    (a30 : PySem.W.nsIn K mainGlobals "_law_known_roots" = some (some (.ref f30))) (l30 : K.lookup f30 = some ⟨oc30, od30, .func (PySem.W.fnOf "_law_known_roots" "_law_known_roots" (defArgs sKnown) (defBody sKnown) (defScope sKnown) .none kV30 dc30 pm30 an30 cd30 ct30), sl30⟩) (c30 : PySem.W.codeIn K cd30 "_law_known_roots" = true) (k30 : PySem.W.keepIn K (.ref f30) = true)
    (a31 : PySem.W.nsIn K mainGlobals "check_fine" = some (some (.ref f31))) (l31 : K.lookup f31 = some ⟨oc31, od31, .func (PySem.W.fnOf "check_fine" "check_fine" (defArgs sCheckFine) (defBody sCheckFine) (defScope sCheckFine) .none kV31 dc31 pm31 an31 cd31 ct31), sl31⟩) (c31 : PySem.W.codeIn K cd31 "check_fine" = true) (k31 : PySem.W.keepIn K (.ref f31) = true)
    (a32 : PySem.W.nsIn K mainGlobals "in_parts" = some (some (.ref f32))) (l32 : K.lookup f32 = some ⟨oc32, od32, .func (PySem.W.fnOf "in_parts" "in_parts" (defArgs sInParts) (defBody sInParts) (defScope sInParts) .none kV32 dc32 pm32 an32 cd32 ct32), sl32⟩) (c32 : PySem.W.codeIn K cd32 "in_parts" = true) (k32 : PySem.W.keepIn K (.ref f32) = true)
    (a33 : PySem.W.nsIn K mainGlobals "middle" = some (some (.ref f33))) (l33 : K.lookup f33 = some ⟨oc33, od33, .func (PySem.W.fnOf "middle" "middle" (defArgs sMiddle) (defBody sMiddle) (defScope sMiddle) .none kV33 dc33 pm33 an33 cd33 ct33), sl33⟩) (c33 : PySem.W.codeIn K cd33 "middle" = true) (k33 : PySem.W.keepIn K (.ref f33) = true)
    (a34 : PySem.W.nsIn K mainGlobals "is_longer" = some (some (.ref f34))) (l34 : K.lookup f34 = some ⟨oc34, od34, .func (PySem.W.fnOf "is_longer" "is_longer" (defArgs sLonger) (defBody sLonger) (defScope sLonger) .none kV34 dc34 pm34 an34 cd34 ct34), sl34⟩) (c34 : PySem.W.codeIn K cd34 "is_longer" = true) (k34 : PySem.W.keepIn K (.ref f34) = true)
    (a35 : PySem.W.nsIn K mainGlobals "narrowed" = some (some (.ref f35))) (l35 : K.lookup f35 = some ⟨oc35, od35, .func (PySem.W.fnOf "narrowed" "narrowed" (defArgs sNarrowed) (defBody sNarrowed) (defScope sNarrowed) .none kV35 dc35 pm35 an35 cd35 ct35), sl35⟩) (c35 : PySem.W.codeIn K cd35 "narrowed" = true) (k35 : PySem.W.keepIn K (.ref f35) = true)
    (a36 : PySem.W.nsIn K mainGlobals "one_root_each" = some (some (.ref f36))) (l36 : K.lookup f36 = some ⟨oc36, od36, .func (PySem.W.fnOf "one_root_each" "one_root_each" (defArgs sOneEach) (defBody sOneEach) (defScope sOneEach) .none kV36 dc36 pm36 an36 cd36 ct36), sl36⟩) (c36 : PySem.W.codeIn K cd36 "one_root_each" = true) (k36 : PySem.W.keepIn K (.ref f36) = true)
    (a37 : PySem.W.nsIn K mainGlobals "stretches" = some (some (.ref f37))) (l37 : K.lookup f37 = some ⟨oc37, od37, .func (PySem.W.fnOf "stretches" "stretches" (defArgs sStretches) (defBody sStretches) (defScope sStretches) .none kV37 dc37 pm37 an37 cd37 ct37), sl37⟩) (c37 : PySem.W.codeIn K cd37 "stretches" = true) (k37 : PySem.W.keepIn K (.ref f37) = true)
    (a38 : PySem.W.nsIn K mainGlobals "_law_less" = some (some (.ref f38))) (l38 : K.lookup f38 = some ⟨oc38, od38, .func (PySem.W.fnOf "_law_less" "_law_less" (defArgs sLess) (defBody sLess) (defScope sLess) .none kV38 dc38 pm38 an38 cd38 ct38), sl38⟩) (c38 : PySem.W.codeIn K cd38 "_law_less" = true) (k38 : PySem.W.keepIn K (.ref f38) = true)
    (a39 : PySem.W.nsIn K mainGlobals "_law_in_order" = some (some (.ref f39))) (l39 : K.lookup f39 = some ⟨oc39, od39, .func (PySem.W.fnOf "_law_in_order" "_law_in_order" (defArgs sInOrder) (defBody sInOrder) (defScope sInOrder) .none kV39 dc39 pm39 an39 cd39 ct39), sl39⟩) (c39 : PySem.W.codeIn K cd39 "_law_in_order" = true) (k39 : PySem.W.keepIn K (.ref f39) = true)
    (a40 : PySem.W.nsIn K mainGlobals "_law_any" = some (some (.ref f40))) (l40 : K.lookup f40 = some ⟨oc40, od40, .func (PySem.W.fnOf "_law_any" "_law_any" (defArgs sAny) (defBody sAny) (defScope sAny) .none kV40 dc40 pm40 an40 cd40 ct40), sl40⟩) (c40 : PySem.W.codeIn K cd40 "_law_any" = true) (k40 : PySem.W.keepIn K (.ref f40) = true)
    (a41 : PySem.W.nsIn K mainGlobals "_law_drawn_place" = some (some (.ref f41))) (l41 : K.lookup f41 = some ⟨oc41, od41, .func (PySem.W.fnOf "_law_drawn_place" "_law_drawn_place" (defArgs sPlace) (defBody sPlace) (defScope sPlace) .none kV41 dc41 pm41 an41 cd41 ct41), sl41⟩) (c41 : PySem.W.codeIn K cd41 "_law_drawn_place" = true) (k41 : PySem.W.keepIn K (.ref f41) = true)
    (a42 : PySem.W.nsIn K mainGlobals "check_stretch" = some (some (.ref f42))) (l42 : K.lookup f42 = some ⟨oc42, od42, .func (PySem.W.fnOf "check_stretch" "check_stretch" (defArgs sCheckStretch) (defBody sCheckStretch) (defScope sCheckStretch) .none kV42 dc42 pm42 an42 cd42 ct42), sl42⟩) (c42 : PySem.W.codeIn K cd42 "check_stretch" = true) (k42 : PySem.W.keepIn K (.ref f42) = true)
    (a43 : PySem.W.nsIn K mainGlobals "roots_along" = some (some (.ref f43))) (l43 : K.lookup f43 = some ⟨oc43, od43, .func (PySem.W.fnOf "roots_along" "roots_along" (defArgs sRAlong) (defBody sRAlong) (defScope sRAlong) .none kV43 dc43 pm43 an43 cd43 ct43), sl43⟩) (c43 : PySem.W.codeIn K cd43 "roots_along" = true) (k43 : PySem.W.keepIn K (.ref f43) = true)
    (a44 : PySem.W.nsIn K mainGlobals "chains_for_times" = some (some (.ref f44))) (l44 : K.lookup f44 = some ⟨oc44, od44, .func (PySem.W.fnOf "chains_for_times" "chains_for_times" (defArgs sForTimes) (defBody sForTimes) (defScope sForTimes) .none kV44 dc44 pm44 an44 cd44 ct44), sl44⟩) (c44 : PySem.W.codeIn K cd44 "chains_for_times" = true) (k44 : PySem.W.keepIn K (.ref f44) = true)
    (a45 : PySem.W.nsIn K mainGlobals "times_along" = some (some (.ref f45))) (l45 : K.lookup f45 = some ⟨oc45, od45, .func (PySem.W.fnOf "times_along" "times_along" (defArgs sTAlong) (defBody sTAlong) (defScope sTAlong) .none kV45 dc45 pm45 an45 cd45 ct45), sl45⟩) (c45 : PySem.W.codeIn K cd45 "times_along" = true) (k45 : PySem.W.keepIn K (.ref f45) = true)
    (a46 : PySem.W.nsIn K mainGlobals "roots_with_times" = some (some (.ref f46))) (l46 : K.lookup f46 = some ⟨oc46, od46, .func (PySem.W.fnOf "roots_with_times" "roots_with_times" (defArgs sWithTimes) (defBody sWithTimes) (defScope sWithTimes) .none kV46 dc46 pm46 an46 cd46 ct46), sl46⟩) (c46 : PySem.W.codeIn K cd46 "roots_with_times" = true) (k46 : PySem.W.keepIn K (.ref f46) = true)
    (a47 : PySem.W.nsIn K mainGlobals "signs_over" = some (some (.ref f47))) (l47 : K.lookup f47 = some ⟨oc47, od47, .func (PySem.W.fnOf "signs_over" "signs_over" (defArgs sOver) (defBody sOver) (defScope sOver) .none kV47 dc47 pm47 an47 cd47 ct47), sl47⟩) (c47 : PySem.W.codeIn K cd47 "signs_over" = true) (k47 : PySem.W.keepIn K (.ref f47) = true)
    (a48 : PySem.W.nsIn K mainGlobals "law" = some (some (.ref f48))) (l48 : K.lookup f48 = some ⟨oc48, od48, .func (PySem.W.fnOf "law" "law" (defArgs sLaw) (defBody sLaw) (defScope sLaw) .none kV48 dc48 pm48 an48 cd48 ct48), sl48⟩) (c48 : PySem.W.codeIn K cd48 "law" = true) (k48 : PySem.W.keepIn K (.ref f48) = true)
    (z1 : PySem.W.nsIn K mainGlobals "len" = some none)
    (z2 : PySem.W.nsIn K mainGlobals "abs" = some none)
    (z3 : PySem.W.nsIn K mainGlobals "range" = some none)
    (z4 : PySem.W.nsIn K mainGlobals "list" = some none)
    (z5 : PySem.W.nsIn K mainGlobals "int" = some none)
    (z6 : PySem.W.nsIn K mainGlobals "bool" = some none)
    (z7 : PySem.W.nsIn K mainGlobals "isinstance" = some none)
    (z8 : PySem.W.nsIn K mainGlobals "sorted" = some none)
    (z9 : PySem.W.nsIn K mainGlobals "min" = some none)
    (z10 : PySem.W.nsIn K mainGlobals "enumerate" = some none)
    (z11 : PySem.W.nsIn K mainGlobals "max" = some none)
    (z12 : PySem.W.nsIn K mainGlobals "sum" = some none)
    (hT : l.prog.given.tree = none)
    : ∃ fd : FuncData, (∀ (s : Shared) (v : Value), BindsTo s fd ⟨[v], []⟩ [("_law_script", v)]) ∧ ∀ base : Heap, K.In base → base.Ns mainGlobals mg → base.NoSeer → FnOk l.prog w K mg base CX0 47 fa fd ["_law_script"] (spLaw K) := by
  have e := hfa.symm.trans (PySem.W.mg_of X G a48)
  cases e
  have B : Bl mg := ⟨PySem.W.mg_none_of X G z1, PySem.W.mg_none_of X G z2, PySem.W.mg_none_of X G z3, PySem.W.mg_none_of X G z4, PySem.W.mg_none_of X G z5, PySem.W.mg_none_of X G z6, PySem.W.mg_none_of X G z7, PySem.W.mg_none_of X G z8, PySem.W.mg_none_of X G z9, PySem.W.mg_none_of X G z10⟩
  have hmax : mg "max" = none := PySem.W.mg_none_of X G z11
  have hsum : mg "sum" = none := PySem.W.mg_none_of X G z12
  have F1 := fun_mk (st := sWhole) l1 c1 k1
  have F2 := fun_mk (st := sAt) l2 c2 k2
  have F3 := fun_mk (st := sAre) l3 c3 k3
  have F4 := fun_mk (st := sInBoth) l4 c4 k4
  have F5 := fun_mk (st := sProduct) l5 c5 k5
  have F6 := fun_mk (st := sFactors) l6 c6 k6
  have F7 := fun_mk (st := sBuilt) l7 c7 k7
  have F8 := fun_mk (st := sTimesOver) l8 c8 k8
  have F9 := fun_mk (st := sCheckCurve) l9 c9 k9
  have F10 := fun_mk (st := sCheckNN) l10 c10 k10
  have F11 := fun_mk (st := sCheckPlace) l11 c11 k11
  have F12 := fun_mk (st := sSignOf) l12 c12 k12
  have F13 := fun_mk (st := sSignAt) l13 c13 k13
  have F14 := fun_mk (st := sSlope) l14 c14 k14
  have F15 := fun_mk (st := sGib) l15 c15 k15
  have F16 := fun_mk (st := sPlain) l16 c16 k16
  have F17 := fun_mk (st := sTaken) l17 c17 k17
  have F18 := fun_mk (st := sTrimmed) l18 c18 k18
  have F19 := fun_mk (st := sWithout) l19 c19 k19
  have F20 := fun_mk (st := sLeft) l20 c20 k20
  have F21 := fun_mk (st := sAbove) l21 c21 k21
  have F22 := fun_mk (st := sShared) l22 c22 k22
  have F23 := fun_mk (st := sDivided) l23 c23 k23
  have F24 := fun_mk (st := sSimple) l24 c24 k24
  have F25 := fun_mk (st := sAlong) l25 c25 k25
  have F26 := fun_mk (st := sChain) l26 c26 k26
  have F27 := fun_mk (st := sReach) l27 c27 k27
  have F28 := fun_mk (st := sBefore) l28 c28 k28
  have F29 := fun_mk (st := sUpTo) l29 c29 k29
  have F30 := fun_mk (st := sKnown) l30 c30 k30
  have F31 := fun_mk (st := sCheckFine) l31 c31 k31
  have F32 := fun_mk (st := sInParts) l32 c32 k32
  have F33 := fun_mk (st := sMiddle) l33 c33 k33
  have F34 := fun_mk (st := sLonger) l34 c34 k34
  have F35 := fun_mk (st := sNarrowed) l35 c35 k35
  have F36 := fun_mk (st := sOneEach) l36 c36 k36
  have F37 := fun_mk (st := sStretches) l37 c37 k37
  have F38 := fun_mk (st := sLess) l38 c38 k38
  have F39 := fun_mk (st := sInOrder) l39 c39 k39
  have F40 := fun_mk (st := sAny) l40 c40 k40
  have F41 := fun_mk (st := sPlace) l41 c41 k41
  have F42 := fun_mk (st := sCheckStretch) l42 c42 k42
  have F43 := fun_mk (st := sRAlong) l43 c43 k43
  have F44 := fun_mk (st := sForTimes) l44 c44 k44
  have F45 := fun_mk (st := sTAlong) l45 c45 k45
  have F46 := fun_mk (st := sWithTimes) l46 c46 k46
  have F47 := fun_mk (st := sOver) l47 c47 k47
  have F48 := fun_mk (st := sLaw) l48 c48 k48
  have b1 := F1.binds (ps := ["_law_found"]) fun _ _ _ _ _ _ us hl => by1 (us := us) hl (fun _ => rfl)
  have b2 := F2.binds (ps := ["_law_script", "_law_k"]) fun _ _ _ _ _ _ us hl => by2 (us := us) hl (fun _ _ => rfl)
  have b3 := F3.binds (ps := ["_law_found", "_law_due"]) fun _ _ _ _ _ _ us hl => by2 (us := us) hl (fun _ _ => rfl)
  have b4 := F4.binds (ps := ["_law_one", "_law_other"]) fun _ _ _ _ _ _ us hl => by2 (us := us) hl (fun _ _ => rfl)
  have b5 := F5.binds (ps := ["_law_one", "_law_other"]) fun _ _ _ _ _ _ us hl => by2 (us := us) hl (fun _ _ => rfl)
  have b6 := F6.binds (ps := ["_law_cells", "_law_most"]) fun _ _ _ _ _ _ us hl => by2 (us := us) hl (fun _ _ => rfl)
  have b7 := F7.binds (ps := ["_law_rows", "_law_scale"]) fun _ _ _ _ _ _ us hl => by2 (us := us) hl (fun _ _ => rfl)
  have b8 := F8.binds (ps := ["_law_cell"]) fun _ _ _ _ _ _ us hl => by1 (us := us) hl (fun _ => rfl)
  have b9 := F9.binds (ps := ["curve"]) fun _ _ _ _ _ _ us hl => by1 (us := us) hl (fun _ => rfl)
  have b10 := F10.binds (ps := ["curve"]) fun _ _ _ _ _ _ us hl => by1 (us := us) hl (fun _ => rfl)
  have b11 := F11.binds (ps := ["place"]) fun _ _ _ _ _ _ us hl => by1 (us := us) hl (fun _ => rfl)
  have b12 := F12.binds (ps := ["number"]) fun _ _ _ _ _ _ us hl => by1 (us := us) hl (fun _ => rfl)
  have b13 := F13.binds (ps := ["curve", "place"]) fun _ _ _ _ _ _ us hl => by2 (us := us) hl (fun _ _ => rfl)
  have b14 := F14.binds (ps := ["curve"]) fun _ _ _ _ _ _ us hl => by1 (us := us) hl (fun _ => rfl)
  have b15 := F15.binds (ps := ["first", "second"]) fun _ _ _ _ _ _ us hl => by2 (us := us) hl (fun _ _ => rfl)
  have b16 := F16.binds (ps := ["curve"]) fun _ _ _ _ _ _ us hl => by1 (us := us) hl (fun _ => rfl)
  have b17 := F17.binds (ps := ["numbers", "other", "factor", "shift"]) fun _ _ _ _ _ _ us hl => by4 (us := us) hl (fun _ _ _ _ => rfl)
  have b18 := F18.binds (ps := ["numbers"]) fun _ _ _ _ _ _ us hl => by1 (us := us) hl (fun _ => rfl)
  have b19 := F19.binds (ps := ["curve", "other"]) fun _ _ _ _ _ _ us hl => by2 (us := us) hl (fun _ _ => rfl)
  have b20 := F20.binds (ps := ["curve", "other"]) fun _ _ _ _ _ _ us hl => by2 (us := us) hl (fun _ _ => rfl)
  have b21 := F21.binds (ps := ["curve"]) fun _ _ _ _ _ _ us hl => by1 (us := us) hl (fun _ => rfl)
  have b22 := F22.binds (ps := ["curve", "other"]) fun _ _ _ _ _ _ us hl => by2 (us := us) hl (fun _ _ => rfl)
  have b23 := F23.binds (ps := ["curve", "other"]) fun _ _ _ _ _ _ us hl => by2 (us := us) hl (fun _ _ => rfl)
  have b24 := F24.binds (ps := ["curve"]) fun _ _ _ _ _ _ us hl => by1 (us := us) hl (fun _ => rfl)
  have b25 := F25.binds (ps := ["links", "place"]) fun _ _ _ _ _ _ us hl => by2 (us := us) hl (fun _ _ => rfl)
  have b26 := F26.binds (ps := ["curve"]) fun _ _ _ _ _ _ us hl => by1 (us := us) hl (fun _ => rfl)
  have b27 := F27.binds (ps := ["curve"]) fun _ _ _ _ _ _ us hl => by1 (us := us) hl (fun _ => rfl)
  have b28 := F28.binds (ps := ["_law_root", "_law_place"]) fun _ _ _ _ _ _ us hl => by2 (us := us) hl (fun _ _ => rfl)
  have b29 := F29.binds (ps := ["_law_root", "_law_place"]) fun _ _ _ _ _ _ us hl => by2 (us := us) hl (fun _ _ => rfl)
  have b30 := F30.binds (ps := ["_law_rows"]) fun _ _ _ _ _ _ us hl => by1 (us := us) hl (fun _ => rfl)
  have b31 := F31.binds (ps := ["fine"]) fun _ _ _ _ _ _ us hl => by1 (us := us) hl (fun _ => rfl)
  have b32 := F32.binds (ps := ["place", "parts"]) fun _ _ _ _ _ _ us hl => by2 (us := us) hl (fun _ _ => rfl)
  have b33 := F33.binds (ps := ["low", "high"]) fun _ _ _ _ _ _ us hl => by2 (us := us) hl (fun _ _ => rfl)
  have b34 := F34.binds (ps := ["low", "high", "fine"]) fun _ _ _ _ _ _ us hl => by3 (us := us) hl (fun _ _ _ => rfl)
  have b35 := F35.binds (ps := ["curve", "low", "high", "fine"]) fun _ _ _ _ _ _ us hl => by4 (us := us) hl (fun _ _ _ _ => rfl)
  have b36 := F36.binds (ps := ["links", "low", "high"]) fun _ _ _ _ _ _ us hl => by3 (us := us) hl (fun _ _ _ => rfl)
  have b37 := F37.binds (ps := ["curve", "fine"]) fun _ _ _ _ _ _ us hl => by2 (us := us) hl (fun _ _ => rfl)
  have b38 := F38.binds (ps := ["_law_one", "_law_other"]) fun _ _ _ _ _ _ us hl => by2 (us := us) hl (fun _ _ => rfl)
  have b39 := F39.binds (ps := ["_law_roots"]) fun _ _ _ _ _ _ us hl => by1 (us := us) hl (fun _ => rfl)
  have b40 := F40.binds (ps := ["_law_cell"]) fun _ _ _ _ _ _ us hl => by1 (us := us) hl (fun _ => rfl)
  have b41 := F41.binds (ps := ["_law_cell", "_law_other"]) fun _ _ _ _ _ _ us hl => by2 (us := us) hl (fun _ _ => rfl)
  have b42 := F42.binds (ps := ["low", "high"]) fun _ _ _ _ _ _ us hl => by2 (us := us) hl (fun _ _ => rfl)
  have b43 := F43.binds (ps := ["links", "low", "high"]) fun _ _ _ _ _ _ us hl => by3 (us := us) hl (fun _ _ _ => rfl)
  have b44 := F44.binds (ps := ["curve"]) fun _ _ _ _ _ _ us hl => by1 (us := us) hl (fun _ => rfl)
  have b45 := F45.binds (ps := ["chains", "low", "high"]) fun _ _ _ _ _ _ us hl => by3 (us := us) hl (fun _ _ _ => rfl)
  have b46 := F46.binds (ps := ["curve", "low", "high"]) fun _ _ _ _ _ _ us hl => by3 (us := us) hl (fun _ _ _ => rfl)
  have b47 := F47.binds (ps := ["curve"]) fun _ _ _ _ _ _ us hl => by1 (us := us) hl (fun _ => rfl)
  refine ⟨PySem.W.fnOf "law" "law" (defArgs sLaw) (defBody sLaw) (defScope sLaw) .none kV48 dc48 pm48 an48 cd48 ct48, fun s v => .of_eq rfl, fun base _ _ hN => ?_⟩
  have A_whole : FnAt l.prog w K mg base 1 "_law_whole" ["_law_found"] spWhole := ⟨f1, _, ok_whole B F1, b1, k1, PySem.W.mg_of X G a1⟩
  have A_at : FnAt l.prog w K mg base 1 "_law_at" ["_law_script", "_law_k"] (spAt K) := ⟨f2, _, ok_at B F2, b2, k2, PySem.W.mg_of X G a2⟩
  have A_are : FnAt l.prog w K mg base 2 "_law_numbers_are" ["_law_found", "_law_due"] (spAre K) := ⟨f3, _, ok_are B A_whole F3, b3, k3, PySem.W.mg_of X G a3⟩
  have A_inb : FnAt l.prog w K mg base 1 "_law_in_both" ["_law_one", "_law_other"] spInBoth := ⟨f4, _, ok_inb B F4, b4, k4, PySem.W.mg_of X G a4⟩
  have A_pro : FnAt l.prog w K mg base 1 "_law_product" ["_law_one", "_law_other"] (spProduct K) := ⟨f5, _, ok_pro B F5, b5, k5, PySem.W.mg_of X G a5⟩
  have A_fac : FnAt l.prog w K mg base 2 "_law_factors" ["_law_cells", "_law_most"] (spFactors K) := ⟨f6, _, ok_factors B A_inb F6, b6, k6, PySem.W.mg_of X G a6⟩
  have A_bui : FnAt l.prog w K mg base 2 "_law_built" ["_law_rows", "_law_scale"] (spBuilt K) := ⟨f7, _, ok_built B A_pro F7, b7, k7, PySem.W.mg_of X G a7⟩
  have A_tov : FnAt l.prog w K mg base 1 "_law_times_over" ["_law_cell"] spTimesOver := ⟨f8, _, ok_timesover F8, b8, k8, PySem.W.mg_of X G a8⟩
  have A_cc : FnAt l.prog w K mg base 1 "check_curve" ["curve"] (spCheckCurve K) := ⟨f9, _, ok_cc B F9, b9, k9, PySem.W.mg_of X G a9⟩
  have A_nn : FnAt l.prog w K mg base 1 "check_not_nought" ["curve"] (spCheckNN K) := ⟨f10, _, ok_nn B F10, b10, k10, PySem.W.mg_of X G a10⟩
  have A_cp : FnAt l.prog w K mg base 1 "check_place" ["place"] (spCheckPlace K) := ⟨f11, _, ok_cp F11, b11, k11, PySem.W.mg_of X G a11⟩
  have A_so : FnAt l.prog w K mg base 1 "sign_of" ["number"] spSignOf := ⟨f12, _, ok_so F12, b12, k12, PySem.W.mg_of X G a12⟩
  have A_sa : FnAt l.prog w K mg base 2 "sign_at" ["curve", "place"] (spSignAtS K) := ⟨f13, _, ok_saS B A_cc A_cp A_so F13, b13, k13, PySem.W.mg_of X G a13⟩
  have A_slope : FnAt l.prog w K mg base 2 "slope" ["curve"] (spSlope K) := ⟨f14, _, ok_slope B A_cc F14, b14, k14, PySem.W.mg_of X G a14⟩
  have A_gib : FnAt l.prog w K mg base 1 "greatest_in_both" ["first", "second"] spGib := ⟨f15, _, ok_gib B F15, b15, k15, PySem.W.mg_of X G a15⟩
  have A_plain : FnAt l.prog w K mg base 40 "plain" ["curve"] (spPlainS K) := ⟨f16, _, ok_plainS hN hT A_cc A_gib F16, b16, k16, PySem.W.mg_of X G a16⟩
  have A_taken : FnAt l.prog w K mg base 1 "taken_off" ["numbers", "other", "factor", "shift"] (spTakenS K) := ⟨f17, _, ok_takenS B F17, b17, k17, PySem.W.mg_of X G a17⟩
  have A_trim : FnAt l.prog w K mg base 1 "trimmed" ["numbers"] (spTrimmed K) := ⟨f18, _, ok_trimmed B F18, b18, k18, PySem.W.mg_of X G a18⟩
  have A_without : FnAt l.prog w K mg base 2 "without_last" ["curve", "other"] (spWithoutS K) := ⟨f19, _, ok_withoutS B A_trim A_taken F19, b19, k19, PySem.W.mg_of X G a19⟩
  have A_left : FnAt l.prog w K mg base 41 "left" ["curve", "other"] (spLeftS K) := ⟨f20, _, ok_leftS B A_cc A_nn A_without A_plain F20, b20, k20, PySem.W.mg_of X G a20⟩
  have A_above : FnAt l.prog w K mg base 1 "with_last_above" ["curve"] (spAbove K) := ⟨f21, _, ok_above B F21, b21, k21, PySem.W.mg_of X G a21⟩
  have A_shared : FnAt l.prog w K mg base 42 "shared" ["curve", "other"] (spSharedZ K) := ⟨f22, _, ok_sharedZ B A_cc A_left A_plain A_above F22, b22, k22, PySem.W.mg_of X G a22⟩
  have A_div : FnAt l.prog w K mg base 40 "divided_out" ["curve", "other"] (spDivided K) := ⟨f23, _, ok_divided hN hT B A_taken F23, b23, k23, PySem.W.mg_of X G a23⟩
  have A_simple : FnAt l.prog w K mg base 43 "simple" ["curve"] (spSimple K) := ⟨f24, _, ok_simple A_cc A_nn A_plain A_slope A_shared A_div F24, b24, k24, PySem.W.mg_of X G a24⟩
  have A_along : FnAt l.prog w K mg base 3 "changes_along" ["links", "place"] (spAlong K) := ⟨f25, _, ok_along B A_sa F25, b25, k25, PySem.W.mg_of X G a25⟩
  have A_chain : FnAt l.prog w K mg base 44 "chain" ["curve"] (spChain K) := ⟨f26, _, ok_chain B A_cc A_nn A_plain A_slope A_simple A_left F26, b26, k26, PySem.W.mg_of X G a26⟩
  have A_reach : FnAt l.prog w K mg base 40 "reach" ["curve"] (spReach K) := ⟨f27, _, ok_reach hN hT B hmax A_cc A_nn F27, b27, k27, PySem.W.mg_of X G a27⟩
  have A_before : FnAt l.prog w K mg base 1 "_law_before" ["_law_root", "_law_place"] (spBefore K) := ⟨f28, _, ok_before F28, b28, k28, PySem.W.mg_of X G a28⟩
  have A_upto : FnAt l.prog w K mg base 2 "_law_up_to" ["_law_root", "_law_place"] (spUpTo K) := ⟨f29, _, ok_upto A_before F29, b29, k29, PySem.W.mg_of X G a29⟩
  have A_known : FnAt l.prog w K mg base 1 "_law_known_roots" ["_law_rows"] (spKnown K) := ⟨f30, _, ok_known B F30, b30, k30, PySem.W.mg_of X G a30⟩
  have A_cf : FnAt l.prog w K mg base 1 "check_fine" ["fine"] spCheckFine := ⟨f31, _, ok_cf F31, b31, k31, PySem.W.mg_of X G a31⟩
  have A_inparts : FnAt l.prog w K mg base 40 "in_parts" ["place", "parts"] (spInParts K) := ⟨f32, _, ok_inparts hN hT F32, b32, k32, PySem.W.mg_of X G a32⟩
  have A_middle : FnAt l.prog w K mg base 41 "middle" ["low", "high"] (spMiddle K) := ⟨f33, _, ok_middle hmax A_inparts F33, b33, k33, PySem.W.mg_of X G a33⟩
  have A_longer : FnAt l.prog w K mg base 41 "is_longer" ["low", "high", "fine"] (spLonger K) := ⟨f34, _, ok_longer hmax A_inparts F34, b34, k34, PySem.W.mg_of X G a34⟩
  have A_narrowed : FnAt l.prog w K mg base 42 "narrowed" ["curve", "low", "high", "fine"] (spNarrowed K) := ⟨f35, _, ok_narrowed A_sa A_middle A_longer F35, b35, k35, PySem.W.mg_of X G a35⟩
  have A_oneeach : FnAt l.prog w K mg base 42 "one_root_each" ["links", "low", "high"] (spOneEach K) := ⟨f36, _, ok_oneeach B A_along A_middle F36, b36, k36, PySem.W.mg_of X G a36⟩
  have A_stretches : FnAt l.prog w K mg base 45 "stretches" ["curve", "fine"] (spStretches K) := ⟨f37, _, ok_stretches A_cc A_nn A_cf A_chain A_reach A_oneeach A_narrowed F37, b37, k37, PySem.W.mg_of X G a37⟩
  have A_less : FnAt l.prog w K mg base 2 "_law_less" ["_law_one", "_law_other"] (spLess K) := ⟨f38, _, ok_less A_before F38, b38, k38, PySem.W.mg_of X G a38⟩
  have A_inorder : FnAt l.prog w K mg base 3 "_law_in_order" ["_law_roots"] (spInOrder K) := ⟨f39, _, ok_inorder B A_less F39, b39, k39, PySem.W.mg_of X G a39⟩
  have A_any : FnAt l.prog w K mg base 1 "_law_any" ["_law_cell"] spAny := ⟨f40, _, ok_any F40, b40, k40, PySem.W.mg_of X G a40⟩
  have A_place : FnAt l.prog w K mg base 2 "_law_drawn_place" ["_law_cell", "_law_other"] spPlace := ⟨f41, _, ok_place B A_any F41, b41, k41, PySem.W.mg_of X G a41⟩
  have A_cs : FnAt l.prog w K mg base 2 "check_stretch" ["low", "high"] (spCheckStretch K) := ⟨f42, _, ok_cs A_cp F42, b42, k42, PySem.W.mg_of X G a42⟩
  have A_ra : FnAt l.prog w K mg base 4 "roots_along" ["links", "low", "high"] (spRAlong K) := ⟨f43, _, ok_ra A_along F43, b43, k43, PySem.W.mg_of X G a43⟩
  have A_ft : FnAt l.prog w K mg base 45 "chains_for_times" ["curve"] (spForTimes K) := ⟨f44, _, ok_fortimes B A_chain A_shared A_slope F44, b44, k44, PySem.W.mg_of X G a44⟩
  have A_ta : FnAt l.prog w K mg base 5 "times_along" ["chains", "low", "high"] (spTAlong K) := ⟨f45, _, ok_talong hsum A_ra F45, b45, k45, PySem.W.mg_of X G a45⟩
  have A_wt : FnAt l.prog w K mg base 46 "roots_with_times" ["curve", "low", "high"] (spWithTimes K) := ⟨f46, _, ok_withtimes A_cc A_nn A_cs A_ta A_ft F46, b46, k46, PySem.W.mg_of X G a46⟩
  have A_ov : FnAt l.prog w K mg base 46 "signs_over" ["curve"] (spOver K) := ⟨f47, _, ok_over A_cc A_nn A_ft A_sa A_reach A_stretches A_ta F47, b47, k47, PySem.W.mg_of X G a47⟩
  exact ok_law B A_whole A_at A_fac A_bui A_tov A_are A_known A_inorder A_upto A_place A_ov A_wt F48

theorem walk {l : PySem.W.OpenLaw} {q : Program} {loose : List Str} {XP : (Str → Option Value) → Heap → Prop} {YP : World → Heap → Prop} {d : DefRec} {K : Params → PySem.W.Frag} (hn : l.most = some 63) (himp : PyProof.Rows.importsNone q = true) (hdf : d.params.defaults = [])
    (hY : ∀ (w : World) (h : Heap), YP w h → (K w.params).In h)
    (F : ∀ (w : World) (mg : Str → Option Value) (fa : Addr) (h : Heap), (K w.params).In h → h.Ns mainGlobals mg → mg d.name = some (.ref fa) →
      ∃ fd : FuncData, (∀ (s : Shared) (u : Value), BindsTo s fd ⟨[u], []⟩ [("_law_script", u)]) ∧ ∀ base : Heap, (K w.params).In base → base.Ns mainGlobals mg → base.NoSeer → FnOk l.prog w (K w.params) mg base CX0 47 fa fd ["_law_script"] (spLaw (K w.params))) :
    PySem.W.WalkO q loose XP YP l.row.toRowW d [] (fun f vs => PySem.call f vs) :=
  L2.walk_ofS (n := 63) (k := 47) (x := "_law_script") (CX := fun _ => CX0) (sp := fun w => spLaw (K w.params)) hn (by decide) himp hdf ⟨rfl, by decide, by decide⟩ hY F (fun _ _ a ns hl _ hS => ⟨a, ns, rfl, hS, hl, fun _ => rfl⟩) fun _ _ _ _ _ z => z
end K8
open PySem PySem.W PyProof.Rows
set_option maxRecDepth 100000 in
set_option maxHeartbeats 0 in
theorem PySem.Challenge.cw_zerofence_k08_whole_times_and_signs_holds : PySem.Challenge.rw_zerofence_k08_whole_times_and_signs.Holds := by
  w_on; o_law; k_head; (case hw => w_witness2)
  k_fill
  refine K8.walk (l := PySem.Challenge.rw_zerofence_k08_whole_times_and_signs) rfl (by decide +kernel) rfl (fun w h Y => PySem.W.kIn_of Y) ?F
  case F =>
    intro w mg fa h KX G hmg
    refine' K8.all_mk KX G hmg ?a1 ?l1 ?c1 ?k1 ?a2 ?l2 ?c2 ?k2 ?a3 ?l3 ?c3 ?k3 ?a4 ?l4 ?c4 ?k4 ?a5 ?l5 ?c5 ?k5 ?a6 ?l6 ?c6 ?k6 ?a7 ?l7 ?c7 ?k7 ?a8 ?l8 ?c8 ?k8 ?a9 ?l9 ?c9 ?k9 ?a10 ?l10 ?c10 ?k10 ?a11 ?l11 ?c11 ?k11 ?a12 ?l12 ?c12 ?k12 ?a13 ?l13 ?c13 ?k13 ?a14 ?l14 ?c14 ?k14 ?a15 ?l15 ?c15 ?k15 ?a16 ?l16 ?c16 ?k16 ?a17 ?l17 ?c17 ?k17 ?a18 ?l18 ?c18 ?k18 ?a19 ?l19 ?c19 ?k19 ?a20 ?l20 ?c20 ?k20 ?a21 ?l21 ?c21 ?k21 ?a22 ?l22 ?c22 ?k22 ?a23 ?l23 ?c23 ?k23 ?a24 ?l24 ?c24 ?k24 ?a25 ?l25 ?c25 ?k25 ?a26 ?l26 ?c26 ?k26 ?a27 ?l27 ?c27 ?k27 ?a28 ?l28 ?c28 ?k28 ?a29 ?l29 ?c29 ?k29 ?a30 ?l30 ?c30 ?k30 ?a31 ?l31 ?c31 ?k31 ?a32 ?l32 ?c32 ?k32 ?a33 ?l33 ?c33 ?k33 ?a34 ?l34 ?c34 ?k34 ?a35 ?l35 ?c35 ?k35 ?a36 ?l36 ?c36 ?k36 ?a37 ?l37 ?c37 ?k37 ?a38 ?l38 ?c38 ?k38 ?a39 ?l39 ?c39 ?k39 ?a40 ?l40 ?c40 ?k40 ?a41 ?l41 ?c41 ?k41 ?a42 ?l42 ?c42 ?k42 ?a43 ?l43 ?c43 ?k43 ?a44 ?l44 ?c44 ?k44 ?a45 ?l45 ?c45 ?k45 ?a46 ?l46 ?c46 ?k46 ?a47 ?l47 ?c47 ?k47 ?a48 ?l48 ?c48 ?k48 ?z1 ?z2 ?z3 ?z4 ?z5 ?z6 ?z7 ?z8 ?z9 ?z10 ?z11 ?z12 rfl
    (case a1 => k_is)
    (case l1 => k_is)
    (case c1 => k_is)
    (case k1 => k_is)
    (case a2 => k_is)
    (case l2 => k_is)
    (case c2 => k_is)
    (case k2 => k_is)
    (case a3 => k_is)
    (case l3 => k_is)
    (case c3 => k_is)
    (case k3 => k_is)
    (case a4 => k_is)
    (case l4 => k_is)
    (case c4 => k_is)
    (case k4 => k_is)
    (case a5 => k_is)
    (case l5 => k_is)
    (case c5 => k_is)
    (case k5 => k_is)
    (case a6 => k_is)
    (case l6 => k_is)
    (case c6 => k_is)
    (case k6 => k_is)
    (case a7 => k_is)
    (case l7 => k_is)
    (case c7 => k_is)
    (case k7 => k_is)
    (case a8 => k_is)
    (case l8 => k_is)
    (case c8 => k_is)
    (case k8 => k_is)
    (case a9 => k_is)
    (case l9 => k_is)
    (case c9 => k_is)
    (case k9 => k_is)
    (case a10 => k_is)
    (case l10 => k_is)
    (case c10 => k_is)
    (case k10 => k_is)
    (case a11 => k_is)
    (case l11 => k_is)
    (case c11 => k_is)
    (case k11 => k_is)
    (case a12 => k_is)
    (case l12 => k_is)
    (case c12 => k_is)
    (case k12 => k_is)
    (case a13 => k_is)
    (case l13 => k_is)
    (case c13 => k_is)
    (case k13 => k_is)
    (case a14 => k_is)
    (case l14 => k_is)
    (case c14 => k_is)
    (case k14 => k_is)
    (case a15 => k_is)
    (case l15 => k_is)
    (case c15 => k_is)
    (case k15 => k_is)
    (case a16 => k_is)
    (case l16 => k_is)
    (case c16 => k_is)
    (case k16 => k_is)
    (case a17 => k_is)
    (case l17 => k_is)
    (case c17 => k_is)
    (case k17 => k_is)
    (case a18 => k_is)
    (case l18 => k_is)
    (case c18 => k_is)
    (case k18 => k_is)
    (case a19 => k_is)
    (case l19 => k_is)
    (case c19 => k_is)
    (case k19 => k_is)
    (case a20 => k_is)
    (case l20 => k_is)
    (case c20 => k_is)
    (case k20 => k_is)
    (case a21 => k_is)
    (case l21 => k_is)
    (case c21 => k_is)
    (case k21 => k_is)
    (case a22 => k_is)
    (case l22 => k_is)
    (case c22 => k_is)
    (case k22 => k_is)
    (case a23 => k_is)
    (case l23 => k_is)
    (case c23 => k_is)
    (case k23 => k_is)
    (case a24 => k_is)
    (case l24 => k_is)
    (case c24 => k_is)
    (case k24 => k_is)
    (case a25 => k_is)
    (case l25 => k_is)
    (case c25 => k_is)
    (case k25 => k_is)
    (case a26 => k_is)
    (case l26 => k_is)
    (case c26 => k_is)
    (case k26 => k_is)
    (case a27 => k_is)
    (case l27 => k_is)
    (case c27 => k_is)
    (case k27 => k_is)
    (case a28 => k_is)
    (case l28 => k_is)
    (case c28 => k_is)
    (case k28 => k_is)
    (case a29 => k_is)
    (case l29 => k_is)
    (case c29 => k_is)
    (case k29 => k_is)
    (case a30 => k_is)
    (case l30 => k_is)
    (case c30 => k_is)
    (case k30 => k_is)
    (case a31 => k_is)
    (case l31 => k_is)
    (case c31 => k_is)
    (case k31 => k_is)
    (case a32 => k_is)
    (case l32 => k_is)
    (case c32 => k_is)
    (case k32 => k_is)
    (case a33 => k_is)
    (case l33 => k_is)
    (case c33 => k_is)
    (case k33 => k_is)
    (case a34 => k_is)
    (case l34 => k_is)
    (case c34 => k_is)
    (case k34 => k_is)
    (case a35 => k_is)
    (case l35 => k_is)
    (case c35 => k_is)
    (case k35 => k_is)
    (case a36 => k_is)
    (case l36 => k_is)
    (case c36 => k_is)
    (case k36 => k_is)
    (case a37 => k_is)
    (case l37 => k_is)
    (case c37 => k_is)
    (case k37 => k_is)
    (case a38 => k_is)
    (case l38 => k_is)
    (case c38 => k_is)
    (case k38 => k_is)
    (case a39 => k_is)
    (case l39 => k_is)
    (case c39 => k_is)
    (case k39 => k_is)
    (case a40 => k_is)
    (case l40 => k_is)
    (case c40 => k_is)
    (case k40 => k_is)
    (case a41 => k_is)
    (case l41 => k_is)
    (case c41 => k_is)
    (case k41 => k_is)
    (case a42 => k_is)
    (case l42 => k_is)
    (case c42 => k_is)
    (case k42 => k_is)
    (case a43 => k_is)
    (case l43 => k_is)
    (case c43 => k_is)
    (case k43 => k_is)
    (case a44 => k_is)
    (case l44 => k_is)
    (case c44 => k_is)
    (case k44 => k_is)
    (case a45 => k_is)
    (case l45 => k_is)
    (case c45 => k_is)
    (case k45 => k_is)
    (case a46 => k_is)
    (case l46 => k_is)
    (case c46 => k_is)
    (case k46 => k_is)
    (case a47 => k_is)
    (case l47 => k_is)
    (case c47 => k_is)
    (case k47 => k_is)
    (case a48 => k_is)
    (case l48 => k_is)
    (case c48 => k_is)
    (case k48 => k_is)
    (case z1 => k_is)
    (case z2 => k_is)
    (case z3 => k_is)
    (case z4 => k_is)
    (case z5 => k_is)
    (case z6 => k_is)
    (case z7 => k_is)
    (case z8 => k_is)
    (case z9 => k_is)
    (case z10 => k_is)
    (case z11 => k_is)
    (case z12 => k_is)


