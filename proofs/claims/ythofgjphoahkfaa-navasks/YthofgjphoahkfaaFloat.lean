/-
  Whole numbers of less than 2^53 are kept exactly by float64: what adding, taking away, multiplying and converting back give, and what multiplying a complex number by i gives.
-/
import Derived.WalkLawsBesides
namespace Go.Proofs.Ythofgjphoahkfaa.Fl
open Ieee

theorem log2_mul (m k : Nat) (h : m ≠ 0) : (m * 2 ^ k).log2 = m.log2 + k := by
  have hp : 0 < 2 ^ k := Nat.two_pow_pos k
  have hne : m * 2 ^ k ≠ 0 := Nat.mul_ne_zero h (by omega)
  apply Nat.le_antisymm
  · have : (m * 2 ^ k).log2 < m.log2 + 1 + k := (Nat.log2_lt hne).2 (by rw [Nat.pow_add]; exact Nat.mul_lt_mul_of_pos_right ((Nat.log2_lt h).1 (Nat.lt_succ_self _)) hp)
    omega
  · exact (Nat.le_log2 hne).2 (by rw [Nat.pow_add]; exact Nat.mul_le_mul_right _ (Nat.log2_self_le h))

theorem cut_exact (way : Toward) (hw : way = .even ∨ way = .zero) (neg : Bool) (q d : Nat) : way.cut neg (q * 2 ^ d) d = q := by
  have key : ∀ g : Nat, 0 < g → g = 2 ^ min d ((q * 2 ^ d).log2 + 2) → q * 2 ^ d / g = q ∧ q * 2 ^ d % g = 0 := by
    intro g hg e
    by_cases h : q = 0
    · subst h; simp
    · rw [log2_mul q d h, Nat.min_eq_left (by omega)] at e
      subst e
      exact ⟨Nat.mul_div_cancel _ hg, Nat.mul_mod_left _ _⟩
  have hg : (1 <<< min d ((q * 2 ^ d).log2 + 2)) = 2 ^ min d ((q * 2 ^ d).log2 + 2) := by rw [Nat.shiftLeft_eq, Nat.one_mul]
  have hp : 0 < (1 <<< min d ((q * 2 ^ d).log2 + 2)) := by rw [hg]; exact Nat.two_pow_pos _
  obtain ⟨h1, h2⟩ := key _ hp hg
  unfold Toward.cut
  simp only [h1, h2]
  generalize (1 <<< min d ((q * 2 ^ d).log2 + 2)) = g at hp
  rcases hw with rfl | rfl
  · have : ¬ (g < 2 * 0) := by omega
    have e : (g == 2 * 0) = false := by simp; omega
    simp [e]
  · simp

/-- A word that stands for a whole number. -/
def Rep (b : Nat) (n : Int) : Prop := ∃ (s : Bool) (m k : Nat), double.read b = .number s (m * 2 ^ k) (-(k : Int)) ∧ n = (if s then -(m : Int) else m)

theorem least : double.leastPlace = -1074 := by decide
theorem binade_eq : double.binade = 4503599627370496 := by decide
theorem inf_eq : double.infRung = 9218868437227405312 := by decide
theorem weight_eq : double.signWeight = 9223372036854775808 := by decide

theorem read_word (neg : Bool) (L K : Nat) (h1 : 4503599627370496 ≤ K) (h2 : K < 9007199254740992) (hL : L ≤ 52) :
    double.read (double.word neg ((L + 1022) * 4503599627370496 + K)) = .number neg K ((L : Int) - 52) := by
  have hr : (L + 1022) * 4503599627370496 + K < 9218868437227405312 := by omega
  have e1 : (double.word neg ((L + 1022) * 4503599627370496 + K)) / 9223372036854775808 % 2 = neg.toNat := by
    unfold Format.word; rw [weight_eq]
    cases neg
    · rw [if_neg (by decide)]; show _ = 0; omega
    · rw [if_pos rfl]; show _ = 1; omega
  have e2 : (double.word neg ((L + 1022) * 4503599627370496 + K)) % 9223372036854775808 = (L + 1022) * 4503599627370496 + K := by
    unfold Format.word; rw [weight_eq]
    cases neg
    · rw [if_neg (by decide)]; omega
    · rw [if_pos rfl]; omega
  have e3 : (L + 1022) * 4503599627370496 + K = (L + 1023) * 4503599627370496 + (K - 4503599627370496) := by omega
  have e4 : ((L + 1023) * 4503599627370496 + (K - 4503599627370496)) % 4503599627370496 = K - 4503599627370496 := by omega
  have e5 : ((L + 1023) * 4503599627370496 + (K - 4503599627370496)) / 4503599627370496 = L + 1023 := by omega
  unfold Format.read
  simp only [weight_eq, binade_eq, inf_eq, least, e1, e2]
  rw [if_neg (by omega), if_pos hr, e3, e4, e5]
  have e6 : 4503599627370496 + (K - 4503599627370496) = K := Nat.add_sub_of_le h1
  have e7 : (-1074 : Int) + ((L + 1023 - 1 : Nat) : Int) = (L : Int) - 52 := by omega
  rw [e6, e7]
  cases neg <;> rfl

theorem read_zero (neg : Bool) : double.read (double.word neg 0) = .number neg 0 (-1074) := by
  cases neg <;> rfl

theorem read_zero' (neg : Bool) (K : Nat) (hK : K = 1074) : double.read (double.word neg 0) = .number neg (0 * 2 ^ K) (-(K : Int)) := by
  rw [read_zero, Nat.zero_mul, hK]; rfl

theorem rep_zero (neg : Bool) : Rep (double.word neg 0) (if neg then -((0 : Nat) : Int) else ((0 : Nat) : Int)) := by
  obtain ⟨K, hK⟩ : ∃ K : Nat, K = 1074 := ⟨_, rfl⟩
  exact ⟨neg, 0, K, read_zero' neg K hK, rfl⟩

theorem sgn (v c : Int) (hc : 0 < c) : decide (v * c < 0) = decide (v < 0) := by
  by_cases hn : v < 0
  · have : v * c < 0 := Int.mul_neg_of_neg_of_pos hn hc
    simp [this, hn]
  · have : ¬ v * c < 0 := by
      have := Int.mul_nonneg (a := v) (b := c) (by omega) (by omega)
      omega
    simp [this, hn]

theorem nearest_eq (neg : Bool) (m k : Nat) (hm : m ≠ 0) (hlt : m < 9007199254740992) :
    double.nearest neg (m * 2 ^ k) (-(k : Int)) = double.word neg ((m.log2 + 1022) * 4503599627370496 + m * 2 ^ (52 - m.log2)) ∧ m.log2 ≤ 52 ∧ 4503599627370496 ≤ m * 2 ^ (52 - m.log2) ∧ m * 2 ^ (52 - m.log2) < 9007199254740992 := by
  have hL : m.log2 ≤ 52 := by
    have := (Nat.log2_lt hm (k := 53)).2 (by simpa using hlt)
    omega
  have hp : ∀ a : Nat, 0 < 2 ^ a := Nat.two_pow_pos
  have k1 : 4503599627370496 ≤ m * 2 ^ (52 - m.log2) := by
    have h := Nat.mul_le_mul_right (2 ^ (52 - m.log2)) (Nat.log2_self_le hm)
    rw [← Nat.pow_add, show m.log2 + (52 - m.log2) = 52 from by omega] at h
    simpa using h
  have k2 : m * 2 ^ (52 - m.log2) < 9007199254740992 := by
    have h := Nat.mul_lt_mul_of_pos_right ((Nat.log2_lt hm).1 (Nat.lt_succ_self m.log2)) (hp (52 - m.log2))
    rw [← Nat.pow_add, show m.log2 + 1 + (52 - m.log2) = 53 from by omega] at h
    simpa using h
  refine ⟨?_, hL, k1, k2⟩
  have hne : m * 2 ^ k ≠ 0 := Nat.mul_ne_zero hm (by have := hp k; omega)
  unfold Format.nearest
  rw [if_neg hne]
  simp only [least, binade_eq, inf_eq, log2_mul m k hm]
  have hf : ((double.fractionBits : Nat) : Int) = 52 := rfl
  have hlast : max (-(k : Int) + ((m.log2 + k : Nat) : Int) - ((double.fractionBits : Nat) : Int)) (-1074) = (m.log2 : Int) - 52 := by rw [hf]; omega
  rw [hlast]
  have ha : (-(k : Int) - ((m.log2 : Int) - 52)).toNat = 52 - m.log2 - k := by omega
  have hb : ((m.log2 : Int) - 52 - -(k : Int)).toNat = k - (52 - m.log2) := by omega
  have hc : ((m.log2 : Int) - 52 - (-1074)).toNat = m.log2 + 1022 := by omega
  rw [ha, hb, hc]
  have hs : (m * 2 ^ k) <<< (52 - m.log2 - k) = (m * 2 ^ (52 - m.log2)) * 2 ^ (k - (52 - m.log2)) := by
    rw [Nat.shiftLeft_eq, Nat.mul_assoc, Nat.mul_assoc, ← Nat.pow_add, ← Nat.pow_add, show k + (52 - m.log2 - k) = 52 - m.log2 + (k - (52 - m.log2)) from by omega]
  rw [hs, cut_exact .even (Or.inl rfl), Nat.min_eq_left (by omega)]

theorem rep_write (neg : Bool) (m k : Nat) (hlt : m < 9007199254740992) : Rep (double.write (.number neg (m * 2 ^ k) (-(k : Int)))) (if neg then -(m : Int) else m) := by
  show Rep (double.nearest neg (m * 2 ^ k) (-(k : Int))) _
  by_cases hm : m = 0
  · subst hm
    have e : double.nearest neg (0 * 2 ^ k) (-(k : Int)) = double.word neg 0 := by
      unfold Format.nearest; rw [if_pos (by simp)]
    rw [e]
    exact rep_zero neg
  · obtain ⟨e, hL, k1, k2⟩ := nearest_eq neg m k hm hlt
    rw [e]
    refine ⟨neg, m, 52 - m.log2, ?_, rfl⟩
    rw [read_word neg _ _ k1 k2 hL, show (m.log2 : Int) - 52 = -((52 - m.log2 : Nat) : Int) from by omega]

theorem rep_int (n : Int) (h1 : -9007199254740992 < n) (h2 : n < 9007199254740992) : Rep (floatOfInt .f64 n) n := by
  have h := rep_write (decide (n < 0)) n.natAbs 0 (by omega)
  have e : (if decide (n < 0) = true then -(n.natAbs : Int) else (n.natAbs : Int)) = n := by
    by_cases hn : n < 0 <;> simp [hn] <;> omega
  rw [e] at h
  have h' : Rep (double.write (.number (decide (n < 0)) n.natAbs 0)) n := by simpa using h
  exact h'

theorem shl (m k j : Nat) (h : k ≤ j) : (m * 2 ^ k) <<< (j - k) = m * 2 ^ j := by
  rw [Nat.shiftLeft_eq, Nat.mul_assoc, ← Nat.pow_add, show k + (j - k) = j from by omega]

theorem signed_eq (s : Bool) (m k j : Nat) (h : k ≤ j) : signed s (m * 2 ^ k) (j - k) = (if s then -(m : Int) else m) * ((2 ^ j : Nat) : Int) := by
  unfold signed
  rw [shl m k j h]
  cases s
  · simp
  · simp [Int.neg_mul]

theorem sum_rep (s t : Bool) (m k n l : Nat) (x y : Int) (hx : x = (if s then -(m : Int) else m)) (hy : y = (if t then -(n : Int) else n)) (h1 : -9007199254740992 < x + y) (h2 : x + y < 9007199254740992) :
    ∃ d, Datum.sum (.number s (m * 2 ^ k) (-(k : Int))) (.number t (n * 2 ^ l) (-(l : Int))) = some d ∧ Rep (double.write d) (x + y) := by
  have hj : (min (-(k : Int)) (-(l : Int))) = -((max k l : Nat) : Int) := by omega
  have ek : (-(k : Int) - -((max k l : Nat) : Int)).toNat = max k l - k := by omega
  have el : (-(l : Int) - -((max k l : Nat) : Int)).toNat = max k l - l := by omega
  have et : signed s (m * 2 ^ k) (max k l - k) + signed t (n * 2 ^ l) (max k l - l) = (x + y) * ((2 ^ max k l : Nat) : Int) := by
    rw [signed_eq s m k _ (Nat.le_max_left _ _), signed_eq t n l _ (Nat.le_max_right _ _), ← hx, ← hy, Int.add_mul]
  refine ⟨_, rfl, ?_⟩
  simp only [hj, ek, el, et]
  generalize hJ : max k l = j
  have hpos : 0 < ((2 ^ j : Nat) : Int) := by have := Nat.two_pow_pos j; omega
  have hna : ((x + y) * ((2 ^ j : Nat) : Int)).natAbs = (x + y).natAbs * 2 ^ j := by rw [Int.natAbs_mul, Int.natAbs_natCast]
  rw [hna]
  generalize hv : x + y = v at *
  by_cases h0 : v = 0
  · subst h0
    simp only [Int.zero_mul, if_true]
    have h := rep_write (s && t) 0 j (by omega)
    simpa using h
  · have hne : v * ((2 ^ j : Nat) : Int) ≠ 0 := Int.mul_ne_zero h0 (by omega)
    rw [if_neg hne]
    have hs := sgn v _ hpos
    rw [hs]
    have h := rep_write (decide (v < 0)) v.natAbs j (by omega)
    have e : (if decide (v < 0) = true then -(v.natAbs : Int) else (v.natAbs : Int)) = v := by
      by_cases hn : v < 0 <;> simp [hn] <;> omega
    rw [e] at h
    exact h

theorem rep_add {a b : Nat} {x y : Int} (ha : Rep a x) (hb : Rep b y) (h1 : -9007199254740992 < x + y) (h2 : x + y < 9007199254740992) : ∃ r, floatBits .add .f64 a b = some r ∧ Rep r (x + y) := by
  obtain ⟨s, m, k, ra, hx⟩ := ha
  obtain ⟨t, n, l, rb, hy⟩ := hb
  obtain ⟨d, hd, hr⟩ := sum_rep s t m k n l x y hx hy h1 h2
  refine ⟨double.write d, ?_, hr⟩
  show double.add a b = _
  unfold Format.add
  rw [ra, rb, hd]
  rfl

theorem rep_sub {a b : Nat} {x y : Int} (ha : Rep a x) (hb : Rep b y) (h1 : -9007199254740992 < x - y) (h2 : x - y < 9007199254740992) : ∃ r, floatBits .sub .f64 a b = some r ∧ Rep r (x - y) := by
  obtain ⟨s, m, k, ra, hx⟩ := ha
  obtain ⟨t, n, l, rb, hy⟩ := hb
  have hy' : -y = (if (!t) = true then -(n : Int) else n) := by rw [hy]; cases t <;> simp
  rw [Int.sub_eq_add_neg] at *
  obtain ⟨d, hd, hr⟩ := sum_rep s (!t) m k n l x (-y) hx hy' h1 h2
  refine ⟨double.write d, ?_, hr⟩
  show double.sub a b = _
  unfold Format.sub
  rw [ra, rb]
  show (Datum.sum _ (.number (!t) (n * 2 ^ l) (-(l : Int)))).map _ = _
  rw [hd]
  rfl

theorem rep_mul {a b : Nat} {x y : Int} (ha : Rep a x) (hb : Rep b y) (h : (x * y).natAbs < 9007199254740992) : ∃ r, floatBits .mul .f64 a b = some r ∧ Rep r (x * y) := by
  obtain ⟨s, m, k, ra, hx⟩ := ha
  obtain ⟨t, n, l, rb, hy⟩ := hb
  have hn : (x * y).natAbs = m * n := by
    rw [hx, hy, Int.natAbs_mul]
    cases s <;> cases t <;> simp
  have hxy : x * y = (if (s ^^ t) = true then -((m * n : Nat) : Int) else ((m * n : Nat) : Int)) := by
    rw [hx, hy]
    cases s <;> cases t <;> simp [Int.neg_mul, Int.mul_neg]
  refine ⟨double.write (.number (s ^^ t) ((m * n) * 2 ^ (k + l)) (-((k + l : Nat) : Int))), ?_, ?_⟩
  · show double.mul a b = _
    unfold Format.mul
    rw [ra, rb]
    show some (double.write (.number (s ^^ t) (m * 2 ^ k * (n * 2 ^ l)) (-(k : Int) + -(l : Int)))) = _
    rw [show m * 2 ^ k * (n * 2 ^ l) = m * n * 2 ^ (k + l) from by rw [Nat.pow_add]; ac_rfl, show -(k : Int) + -(l : Int) = -((k + l : Nat) : Int) from by omega]
  · rw [hxy]
    exact rep_write _ _ _ (by omega)

theorem rep_toInt {b : Nat} {n : Int} (h : Rep b n) (h1 : -9007199254740992 < n) (h2 : n < 9007199254740992) : floatToIntVal .f64 b .i64 = some n := by
  obtain ⟨s, m, k, rb, hn⟩ := h
  have e : (FloatKind.f64.decode b).toInt .zero = some n := by
    show (double.read b).toInt .zero = some n
    rw [rb]
    show some (signed s (Toward.zero.cut s ((m * 2 ^ k) <<< (-(k : Int)).toNat) (- -(k : Int)).toNat) 0) = some n
    have e1 : (-(k : Int)).toNat = 0 := by omega
    have e2 : (- -(k : Int)).toNat = k := by omega
    rw [e1, e2, Nat.shiftLeft_zero, cut_exact .zero (Or.inr rfl)]
    unfold signed
    rw [Nat.shiftLeft_zero, hn]
  unfold floatToIntVal
  rw [e]
  have hmin : IntKind.i64.min = -9223372036854775808 := by decide
  have hmax : IntKind.i64.max = 9223372036854775807 := by decide
  simp only [hmin, hmax]
  rw [if_pos ⟨by omega, by omega⟩]

theorem rep_0 : Rep 0 0 := rep_zero false
theorem rep_1 : Rep 4607182418800017408 1 := ⟨false, 1, 52, by rfl, by rfl⟩

/-- times i: a quarter turn. -/
theorem times_i {a b : Nat} {x y : Int} (ha : Rep a x) (hb : Rep b y) (hx1 : -9007199254740992 < x) (hx2 : x < 9007199254740992) (hy1 : -9007199254740992 < y) (hy2 : y < 9007199254740992) :
    ∃ r i, cMulBits a b 0 4607182418800017408 = some (r, i) ∧ Rep r (0 - y) ∧ Rep i x := by
  obtain ⟨ac, e1, r1⟩ := rep_mul ha rep_0 (by simp)
  obtain ⟨bd, e2, r2⟩ := rep_mul hb rep_1 (by rw [Int.mul_one]; omega)
  obtain ⟨ad, e3, r3⟩ := rep_mul ha rep_1 (by rw [Int.mul_one]; omega)
  obtain ⟨bc, e4, r4⟩ := rep_mul hb rep_0 (by simp)
  rw [Int.mul_zero] at r1 r4
  rw [Int.mul_one] at r2 r3
  obtain ⟨re, e5, r5⟩ := rep_sub r1 r2 (by omega) (by omega)
  obtain ⟨im, e6, r6⟩ := rep_add r3 r4 (by omega) (by omega)
  rw [Int.add_zero] at r6
  refine ⟨re, im, ?_, r5, r6⟩
  unfold cMulBits
  simp [e1, e2, e3, e4, e5, e6]

end Go.Proofs.Ythofgjphoahkfaa.Fl
