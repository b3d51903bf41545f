/-
  How float64 words stand to each other: whole numbers below 2^53 as the numbers do; any int64, made a float64, stands to a small whole number as it stood before.
-/
import Derived.Test.YthofgjphoahkfaaFloat
namespace Go.Proofs.Ythofgjphoahkfaa.Fl
open Ieee

theorem compare_mul (x y c : Int) (hc : 0 < c) : compare (x * c) (y * c) = compare x y := by
  have h1 : (x * c < y * c) ↔ x < y := ⟨fun h => Int.lt_of_mul_lt_mul_right h (Int.le_of_lt hc), fun h => Int.mul_lt_mul_of_pos_right h hc⟩
  have h2 : (x * c = y * c) ↔ x = y := ⟨fun h => Int.eq_of_mul_eq_mul_right (by omega) h, fun h => by rw [h]⟩
  show compareOfLessAndEq _ _ = compareOfLessAndEq _ _
  unfold compareOfLessAndEq
  by_cases hlt : x < y
  · rw [if_pos hlt, if_pos (h1.2 hlt)]
  · rw [if_neg hlt, if_neg (fun h => hlt (h1.1 h))]
    by_cases he : x = y
    · rw [if_pos he, if_pos (h2.2 he)]
    · rw [if_neg he, if_neg (fun h => he (h2.1 h))]

theorem order_rep {a b : Nat} {x y : Int} (ha : Rep a x) (hb : Rep b y) : double.order a b = some (compare x y) := by
  obtain ⟨s, m, k, ra, hx⟩ := ha
  obtain ⟨t, n, l, rb, hy⟩ := hb
  have hj : (min (-(k : Int)) (-(l : Int))) = -((max k l : Nat) : Int) := by omega
  have ek : (-(k : Int) - -((max k l : Nat) : Int)).toNat = max k l - k := by omega
  have el : (-(l : Int) - -((max k l : Nat) : Int)).toNat = max k l - l := by omega
  unfold Format.order
  rw [ra, rb]
  show some (compare (signed s (m * 2 ^ k) (-(k : Int) - min (-(k : Int)) (-(l : Int))).toNat) (signed t (n * 2 ^ l) (-(l : Int) - min (-(k : Int)) (-(l : Int))).toNat)) = _
  rw [hj, ek, el, signed_eq s m k _ (Nat.le_max_left _ _), signed_eq t n l _ (Nat.le_max_right _ _), ← hx, ← hy]
  have hpos : 0 < ((2 ^ max k l : Nat) : Int) := by have := Nat.two_pow_pos (max k l); omega
  rw [compare_mul _ _ _ hpos]

theorem cmp_lt {x y : Int} (h : x < y) : compare x y = .lt := by
  show compareOfLessAndEq _ _ = _
  unfold compareOfLessAndEq; rw [if_pos h]

theorem cmp_gt {x y : Int} (h : y < x) : compare x y = .gt := by
  show compareOfLessAndEq _ _ = _
  unfold compareOfLessAndEq; rw [if_neg (by omega), if_neg (by omega)]

theorem cmp_eq {x y : Int} (h : x = y) : compare x y = .eq := by
  show compareOfLessAndEq _ _ = _
  unfold compareOfLessAndEq; rw [if_neg (by omega), if_pos h]

/-- A great whole number: its word reads so that it is 2^52 and more away from nought. -/
def Big (b : Nat) (s : Bool) : Prop := ∃ (K E : Nat), double.read b = .number s K (E : Int) ∧ 4503599627370496 ≤ K

theorem far_mul (K c : Nat) (y : Int) (P : Nat) (hP : 0 < P) (hK : 4503599627370496 ≤ K) (hc : P ≤ c) (h1 : -4503599627370496 < y) (h2 : y < 4503599627370496) : y * (P : Int) < ((K * c : Nat) : Int) ∧ -((K * c : Nat) : Int) < y * (P : Int) := by
  have h : 4503599627370496 * P ≤ K * c := Nat.mul_le_mul hK hc
  have h' : ((4503599627370496 * P : Nat) : Int) ≤ ((K * c : Nat) : Int) := by omega
  have e1 : y * (P : Int) ≤ 4503599627370495 * (P : Int) := Int.mul_le_mul_of_nonneg_right (by omega) (by omega)
  have e2 : -4503599627370495 * (P : Int) ≤ y * (P : Int) := Int.mul_le_mul_of_nonneg_right (by omega) (by omega)
  constructor <;> omega

theorem order_big {a b : Nat} {s : Bool} {y : Int} (ha : Big a s) (hb : Rep b y) (h1 : -4503599627370496 < y) (h2 : y < 4503599627370496) :
    double.order a b = some (if s then .lt else .gt) ∧ double.order b a = some (if s then .gt else .lt) := by
  obtain ⟨K, E, ra, hK⟩ := ha
  obtain ⟨t, n, l, rb, hy⟩ := hb
  have m1 : min (E : Int) (-(l : Int)) = -(l : Int) := by omega
  have m2 : min (-(l : Int)) (E : Int) = -(l : Int) := by omega
  have e1 : ((E : Int) - -(l : Int)).toNat = E + l := by omega
  have e2 : (-(l : Int) - -(l : Int)).toNat = l - l := by omega
  have hs : signed t (n * 2 ^ l) (l - l) = y * ((2 ^ l : Nat) : Int) := by rw [signed_eq t n l l (Nat.le_refl _), ← hy]
  have hbg : signed s K (E + l) = (if s then -((K * 2 ^ (E + l) : Nat) : Int) else ((K * 2 ^ (E + l) : Nat) : Int)) := by
    unfold signed
    rw [Nat.shiftLeft_eq]
  have hf := far_mul K (2 ^ (E + l)) y (2 ^ l) (Nat.two_pow_pos _) hK (Nat.pow_le_pow_right (by omega) (by omega)) h1 h2
  constructor
  · unfold Format.order
    rw [ra, rb]
    show some (compare (signed s K ((E : Int) - min (E : Int) (-(l : Int))).toNat) (signed t (n * 2 ^ l) (-(l : Int) - min (E : Int) (-(l : Int))).toNat)) = _
    rw [m1, e1, e2, hs, hbg]
    cases s
    · rw [if_neg (by decide), if_neg (by decide), cmp_gt hf.1]
    · rw [if_pos rfl, if_pos rfl, cmp_lt hf.2]
  · unfold Format.order
    rw [ra, rb]
    show some (compare (signed t (n * 2 ^ l) (-(l : Int) - min (-(l : Int)) (E : Int)).toNat) (signed s K ((E : Int) - min (-(l : Int)) (E : Int)).toNat)) = _
    rw [m2, e1, e2, hs, hbg]
    cases s
    · rw [if_neg (by decide), if_neg (by decide), cmp_lt hf.1]
    · rw [if_pos rfl, if_pos rfl, cmp_gt hf.2]

theorem cut_bd (neg : Bool) (m d : Nat) (hm : m ≠ 0) (hd : m.log2 = d + 52) : 4503599627370496 ≤ Toward.even.cut neg m d ∧ Toward.even.cut neg m d ≤ 9007199254740992 := by
  have hg : (1 <<< min d (m.log2 + 2)) = 2 ^ d := by rw [Nat.shiftLeft_eq, Nat.one_mul, Nat.min_eq_left (by omega)]
  have lo : 4503599627370496 ≤ m / 2 ^ d := by
    rw [Nat.le_div_iff_mul_le (Nat.two_pow_pos d)]
    have h := Nat.log2_self_le hm
    rw [hd, Nat.pow_add] at h
    have e : (2 : Nat) ^ 52 = 4503599627370496 := by decide
    rw [e] at h
    rw [Nat.mul_comm]; exact h
  have hi : m / 2 ^ d < 9007199254740992 := by
    rw [Nat.div_lt_iff_lt_mul (Nat.two_pow_pos d)]
    have h := (Nat.log2_lt hm).1 (Nat.lt_succ_self m.log2)
    rw [hd, show (d + 52).succ = d + 53 from rfl, Nat.pow_add] at h
    have e : (2 : Nat) ^ 53 = 9007199254740992 := by decide
    rw [e] at h
    rw [Nat.mul_comm]; exact h
  unfold Toward.cut
  simp only [hg]
  have : ∀ b : Bool, b.toNat ≤ 1 := by decide
  have h1 := this (decide (2 ^ d < 2 * (m % 2 ^ d)) || (2 ^ d == 2 * (m % 2 ^ d) && m / 2 ^ d % 2 == 1))
  constructor <;> omega

theorem big_int (n : Int) (h : 9007199254740992 ≤ n.natAbs) (h2 : n.natAbs ≤ 9223372036854775808) : Big (floatOfInt .f64 n) (decide (n < 0)) := by
  show Big (double.nearest (decide (n < 0)) n.natAbs 0) _
  generalize n.natAbs = m at *
  generalize decide (n < 0) = neg at *
  have hm : m ≠ 0 := by omega
  have l1 : 53 ≤ m.log2 := (Nat.le_log2 hm).2 (by simpa using h)
  have l2 : m.log2 < 64 := (Nat.log2_lt hm).2 (by have e : (2 : Nat) ^ 64 = 18446744073709551616 := by decide
                                                  omega)
  obtain ⟨d, hd⟩ : ∃ d, m.log2 = d + 52 := ⟨m.log2 - 52, by omega⟩
  have hb := cut_bd neg m d hm hd
  have hf : ((double.fractionBits : Nat) : Int) = 52 := rfl
  unfold Format.nearest
  rw [if_neg hm]
  simp only [least, binade_eq, inf_eq]
  have hlast : max ((0 : Int) + ((m.log2 : Nat) : Int) - ((double.fractionBits : Nat) : Int)) (-1074) = (d : Int) := by rw [hf, hd]; omega
  rw [hlast]
  have e1 : ((0 : Int) - (d : Int)).toNat = 0 := by omega
  have e2 : ((d : Int) - 0).toNat = d := by omega
  have e3 : ((d : Int) - (-1074)).toNat = d + 1074 := by omega
  rw [e1, e2, e3, Nat.shiftLeft_zero]
  generalize Toward.even.cut neg m d = q at hb
  rw [Nat.min_eq_left (by omega)]
  generalize hR : (d + 1074) * 4503599627370496 + q = R
  have r1 : 1076 * 4503599627370496 ≤ R := by omega
  have r2 : R < 9218868437227405312 := by omega
  have w1 : (double.word neg R) / 9223372036854775808 % 2 = neg.toNat := by
    unfold Format.word; rw [weight_eq]
    cases neg
    · rw [if_neg (by decide)]; show _ = 0; omega
    · rw [if_pos rfl]; show _ = 1; omega
  have w2 : (double.word neg R) % 9223372036854775808 = R := by
    unfold Format.word; rw [weight_eq]
    cases neg
    · rw [if_neg (by decide)]; omega
    · rw [if_pos rfl]; omega
  refine ⟨4503599627370496 + R % 4503599627370496, R / 4503599627370496 - 1075, ?_, by omega⟩
  unfold Format.read
  simp only [weight_eq, binade_eq, inf_eq, least, w1, w2]
  rw [if_neg (by omega), if_pos r2]
  have e7 : (-1074 : Int) + ((R / 4503599627370496 - 1 : Nat) : Int) = ((R / 4503599627370496 - 1075 : Nat) : Int) := by omega
  rw [e7]
  cases neg <;> rfl

/-- An int64, made a float64, stands to a small number as it stood before. -/
theorem order_int (n : Int) (h1 : -9223372036854775808 ≤ n) (h2 : n ≤ 9223372036854775807) {b : Nat} {y : Int} (hb : Rep b y) (h3 : -4503599627370496 < y) (h4 : y < 4503599627370496) :
    double.order (floatOfInt .f64 n) b = some (compare n y) ∧ double.order b (floatOfInt .f64 n) = some (compare y n) := by
  by_cases hs : n.natAbs < 9007199254740992
  · exact ⟨order_rep (rep_int n (by omega) (by omega)) hb, order_rep hb (rep_int n (by omega) (by omega))⟩
  · obtain ⟨e1, e2⟩ := order_big (big_int n (by omega) (by omega)) hb h3 h4
    rw [e1, e2]
    by_cases hn : n < 0
    · simp only [hn, decide_true, if_true]
      rw [cmp_lt (show n < y by omega), cmp_gt (show n < y by omega)]
      exact ⟨rfl, rfl⟩
    · simp only [hn, decide_false]
      rw [cmp_gt (show y < n by omega), cmp_lt (show y < n by omega)]
      exact ⟨rfl, rfl⟩

theorem rep_24 : Rep 4627448617123184640 24 := ⟨false, 24, 48, by rfl, by rfl⟩
theorem rep_16 : Rep 4625196817309499392 16 := ⟨false, 16, 48, by rfl, by rfl⟩

theorem beq_lt (x y : Int) : ((some (compare x y) : Option Ordering) == some .lt) = decide (x < y) := by
  by_cases h : x < y
  · rw [cmp_lt h, decide_eq_true h]; rfl
  · rw [decide_eq_false h]
    by_cases he : x = y
    · rw [cmp_eq he]; rfl
    · rw [cmp_gt (by omega)]; rfl

theorem beq_ge (x y : Int) : ((some (compare x y) : Option Ordering) == some .gt || (some (compare x y) : Option Ordering) == some .eq) = decide (y ≤ x) := by
  by_cases h : x < y
  · rw [cmp_lt h, decide_eq_false (by omega)]; rfl
  · rw [decide_eq_true (by omega)]
    by_cases he : x = y
    · rw [cmp_eq he]; rfl
    · rw [cmp_gt (by omega)]; rfl

theorem beq_eq (x y : Int) : ((some (compare x y) : Option Ordering) == some .eq) = decide (x = y) := by
  by_cases h : x < y
  · rw [cmp_lt h, decide_eq_false (by omega)]; rfl
  · by_cases he : x = y
    · rw [cmp_eq he, decide_eq_true he]; rfl
    · rw [cmp_gt (by omega), decide_eq_false he]; rfl

end Go.Proofs.Ythofgjphoahkfaa.Fl
