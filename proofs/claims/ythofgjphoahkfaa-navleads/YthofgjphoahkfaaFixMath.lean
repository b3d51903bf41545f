/-
  Plain arithmetic for the chapter of parts: quotients rounded down, remainders, square roots found bit by bit, quarter turns.
-/
import Derived.Laws.BitsAllLaws
namespace Go.Proofs.Ythofgjphoahkfaa.Fx

/-! ### quotients -/
theorem dvd_tmod (a b : Int) : b ∣ a ↔ a.tmod b = 0 := Int.dvd_iff_tmod_eq_zero

theorem floor_less (n b : Int) (hb : b ≠ 0) (h1 : n.tmod b ≠ 0) (h2 : decide (n < 0) ≠ decide (b < 0)) : n.tdiv b - 1 = n.fdiv b := by
  have hd : ¬ b ∣ n := fun h => h1 ((dvd_tmod n b).1 h)
  rw [Int.fdiv_eq_tdiv, if_neg hd]
  by_cases hn : 0 ≤ n
  · have hb0 : b < 0 := by
      have e : decide (n < 0) = false := by simp; omega
      rw [e] at h2
      have : decide (b < 0) = true := by cases h : decide (b < 0) <;> simp_all
      simpa using this
    rw [if_pos hn, if_neg (by omega)]
  · have hb0 : 0 < b := by
      have e : decide (n < 0) = true := by simp; omega
      rw [e] at h2
      have : decide (b < 0) = false := by cases h : decide (b < 0) <;> simp_all
      have : ¬ b < 0 := by simpa using this
      omega
    rw [if_neg hn, if_pos (by omega), Int.sign_eq_one_of_pos hb0]

theorem floor_same (n b : Int) (h : n.tmod b = 0 ∨ decide (n < 0) = decide (b < 0)) : n.tdiv b = n.fdiv b := by
  rw [Int.fdiv_eq_tdiv]
  by_cases hd : b ∣ n
  · rw [if_pos hd]; omega
  · have h1 : n.tmod b ≠ 0 := fun e => hd ((dvd_tmod n b).2 e)
    have h2 : decide (n < 0) = decide (b < 0) := h.resolve_left h1
    have h3 : n < 0 ↔ b < 0 := decide_eq_decide.1 h2
    rw [if_neg hd]
    by_cases hn : 0 ≤ n
    · rw [if_pos hn, if_pos (by omega)]; omega
    · have hb : b < 0 := h3.1 (by omega)
      rw [if_neg hn, if_neg (by omega), Int.sign_eq_neg_one_of_neg hb]; omega

theorem tdiv_bd (n b m : Int) (h1 : -m ≤ n) (h2 : n ≤ m) : -m ≤ n.tdiv b ∧ n.tdiv b ≤ m := by
  have := Int.natAbs_tdiv_le_natAbs n b
  omega

theorem down_less (p q : Int) (hq : 0 < q) (h : p.tmod q < 0) : p.tdiv q - 1 = p.fdiv q := by
  refine floor_less p q (by omega) (by omega) ?_
  have hp : p < 0 := by
    apply Int.not_le.1
    intro h0
    have := Int.tmod_nonneg q h0
    omega
  simp [hp]; omega

theorem down_same (p q : Int) (hq : 0 < q) (h : 0 ≤ p.tmod q) : p.tdiv q = p.fdiv q := by
  refine floor_same p q ?_
  by_cases hp : 0 ≤ p
  · right
    have e1 : ¬ p < 0 := by omega
    have e2 : ¬ q < 0 := by omega
    simp [e1, e2]
  · left
    have h2 := Int.tmod_nonneg (a := -p) q (by omega)
    rw [Int.neg_tmod] at h2
    omega

theorem fdiv_pos (a b : Int) (hb : 0 ≤ b) : a.fdiv b = a / b := Int.fdiv_eq_ediv_of_nonneg a hb

theorem fdiv_neg_neg (a b : Int) : (0 - a).fdiv (0 - b) = a.fdiv b := by
  rw [Int.zero_sub, Int.zero_sub]
  rcases Int.lt_trichotomy b 0 with h | h | h
  · rw [Int.fdiv_eq_ediv, Int.fdiv_eq_ediv, if_pos (Or.inl (by omega)), Int.ediv_neg]
    by_cases hd : b ∣ a
    · rw [if_pos (Or.inr hd)]
      obtain ⟨c, rfl⟩ := hd
      rw [show -(b * c) = b * (-c) from by rw [Int.mul_neg], Int.mul_ediv_cancel_left _ (by omega), Int.mul_ediv_cancel_left _ (by omega)]
      omega
    · rw [if_neg (by omega)]
      have e1 := Int.mul_ediv_add_emod a b
      have e2 := Int.mul_ediv_add_emod (-a) b
      have m1 := Int.emod_nonneg a (b := b) (by omega)
      have m2 := Int.emod_nonneg (-a) (b := b) (by omega)
      have l1 := Int.emod_lt a (b := b) (by omega)
      have l2 := Int.emod_lt (-a) (b := b) (by omega)
      have z1 : a % b ≠ 0 := fun e => hd (Int.dvd_of_emod_eq_zero e)
      have hs : b * (a / b + -a / b) = -(a % b + -a % b) := by rw [Int.mul_add]; omega
      have hpos : 0 < a % b + -a % b := by omega
      have hlt : a % b + -a % b < 2 * (-b) := by omega
      have : a / b + -a / b = 1 := by
        generalize a / b + -a / b = v at hs
        generalize a % b + -a % b = u at hs hpos hlt
        have hv1 : 0 < v := by
          apply Int.not_le.1; intro hv
          have := Int.mul_nonneg_of_nonpos_of_nonpos (a := b) (b := v) (by omega) hv
          omega
        have hv2 : v < 2 := by
          apply Int.not_le.1; intro hv
          have h2 : b * v ≤ b * 2 := Int.mul_le_mul_of_nonpos_left (by omega) hv
          omega
        omega
      omega
  · subst h; simp
  · rw [Int.fdiv_eq_ediv, Int.fdiv_eq_ediv, if_pos (Or.inl (by omega : (0:Int) ≤ b)), Int.ediv_neg]
    by_cases hd : b ∣ a
    · rw [if_pos (Or.inr (by obtain ⟨c, rfl⟩ := hd; exact ⟨c, by rw [Int.neg_mul]⟩))]
      obtain ⟨c, rfl⟩ := hd
      rw [show -(b * c) = b * (-c) from by rw [Int.mul_neg], Int.mul_ediv_cancel_left _ (by omega), Int.mul_ediv_cancel_left _ (by omega)]
      omega
    · rw [if_neg (by
        rintro (h' | h')
        · omega
        · exact hd (by obtain ⟨c, hc⟩ := h'; exact ⟨c, by rw [Int.neg_mul] at hc; omega⟩))]
      have e1 := Int.mul_ediv_add_emod a b
      have e2 := Int.mul_ediv_add_emod (-a) b
      have m1 := Int.emod_nonneg a (b := b) (by omega)
      have m2 := Int.emod_nonneg (-a) (b := b) (by omega)
      have l1 := Int.emod_lt_of_pos a h
      have l2 := Int.emod_lt_of_pos (-a) h
      have z1 : a % b ≠ 0 := fun e => hd (Int.dvd_of_emod_eq_zero e)
      have hs : b * (a / b + -a / b) = -(a % b + -a % b) := by rw [Int.mul_add]; omega
      have hpos : 0 < a % b + -a % b := by omega
      have hlt : a % b + -a % b < 2 * b := by omega
      have : a / b + -a / b = -1 := by
        generalize a / b + -a / b = v at hs
        generalize a % b + -a % b = u at hs hpos hlt
        have hv1 : v < 0 := by
          apply Int.not_le.1; intro hv
          have := Int.mul_nonneg (a := b) (b := v) (by omega) hv
          omega
        have hv2 : -2 < v := by
          apply Int.not_le.1; intro hv
          have h2 : b * v ≤ b * (-2) := Int.mul_le_mul_of_nonneg_left hv (by omega)
          omega
        omega
      omega

/-! ### remainders -/
theorem within_neg (a n : Int) (hn : 0 < n) (h : a.tmod n < 0) : a.tmod n + n = a % n := by
  have := Int.emod_nonneg a (b := n) (by omega)
  have := Int.emod_lt_of_pos a hn
  have e := Int.emod_eq_tmod (a := a) (b := n)
  by_cases hc : 0 ≤ a ∨ n ∣ a
  · rw [if_pos hc] at e; omega
  · rw [if_neg hc] at e; omega

theorem within_pos (a n : Int) (hn : 0 < n) (h : 0 ≤ a.tmod n) : a.tmod n = a % n := by
  have := Int.emod_lt_of_pos a hn
  have e := Int.emod_eq_tmod (a := a) (b := n)
  by_cases hc : 0 ≤ a ∨ n ∣ a
  · rw [if_pos hc] at e; omega
  · rw [if_neg hc] at e; omega

theorem and3 (q : Int) : bits .and .i64 q 3 = q % 4 := by
  show IntKind.i64.wrap ((BitVec.ofInt 64 q &&& BitVec.ofInt 64 3).toNat : Int) = _
  have e3 : (BitVec.ofInt 64 3).toNat = 2 ^ 2 - 1 := by decide
  rw [BitVec.toNat_and, e3, Nat.and_two_pow_sub_one_eq_mod, BitVec.toNat_ofInt]
  have hw : ∀ x : Int, 0 ≤ x → x < 4 → IntKind.i64.wrap x = x := by
    intro x h1 h2
    simp [IntKind.wrap, IntKind.bits, IntKind.signed]
    omega
  rw [hw _ (by omega) (by omega)]
  omega

/-! ### roots -/
def isRoot (n r : Int) : Prop := 0 ≤ r ∧ r * r ≤ n ∧ n < (r + 1) * (r + 1)

theorem root_one {n r s : Int} (hr : isRoot n r) (hs : isRoot n s) : r = s := by
  obtain ⟨r0, r1, r2⟩ := hr
  obtain ⟨s0, s1, s2⟩ := hs
  rcases Int.lt_trichotomy r s with h | h | h
  · have := Int.mul_self_le_mul_self (a := r + 1) (b := s) (by omega) (by omega)
    omega
  · exact h
  · have := Int.mul_self_le_mul_self (a := s + 1) (b := r) (by omega) (by omega)
    omega

def RI (n P B : Int) : Prop := ∃ k q : Nat, k ≤ 32 ∧ P = ((q * 2 ^ k : Nat) : Int) ∧ B = ((2 ^ k / 2 : Nat) : Int) ∧ P * P ≤ n ∧ n < (((q + 1) * 2 ^ k : Nat) : Int) * (((q + 1) * 2 ^ k : Nat) : Int) ∧ (q + 1) * 2 ^ k ≤ 4294967296

theorem RI_start (n : Int) (h0 : 0 ≤ n) (h1 : n < 18446744073709551616) : RI n 0 2147483648 :=
  ⟨32, 0, by omega, by simp, by decide, by omega, by simpa using h1, by decide⟩

theorem pow_half (k : Nat) : 2 ^ (k + 1) / 2 = 2 ^ k := by rw [Nat.pow_succ]; omega

theorem RI_bounds {n P B : Int} (h : RI n P B) : 0 ≤ P ∧ P < 4294967296 ∧ 0 ≤ B ∧ B ≤ 2147483648 ∧ P + B < 4294967296 := by
  obtain ⟨k, q, hk, rfl, rfl, _, _, hb⟩ := h
  have hp := Nat.two_pow_pos k
  rw [Nat.add_mul, Nat.one_mul] at hb
  have h32 : 2 ^ k ≤ 2 ^ 32 := Nat.pow_le_pow_right (by omega) hk
  have e32 : 2 ^ 32 = 4294967296 := by decide
  generalize q * 2 ^ k = u at *
  generalize 2 ^ k = v at *
  refine ⟨by omega, by omega, by omega, by omega, ?_⟩
  omega

theorem RI_succ {n P B : Int} (h : RI n P B) (hB : 0 < B) : ∃ j q : Nat, j + 1 ≤ 32 ∧ P = ((q * 2 ^ (j + 1) : Nat) : Int) ∧ B = ((2 ^ j : Nat) : Int) ∧ P * P ≤ n ∧ n < (((q + 1) * 2 ^ (j + 1) : Nat) : Int) * (((q + 1) * 2 ^ (j + 1) : Nat) : Int) ∧ (q + 1) * 2 ^ (j + 1) ≤ 4294967296 := by
  obtain ⟨k, q, hk, hP, hb, r⟩ := h
  cases k with
  | zero => exfalso; rw [hb] at hB; simp at hB
  | succ j => exact ⟨j, q, hk, hP, by rw [hb, pow_half], r⟩

theorem RI_or {n P B : Int} (h : RI n P B) (hB : 0 < B) : bits .or .u64 P B = P + B := by
  have hb := RI_bounds h
  obtain ⟨j, q, hj, rfl, rfl, _⟩ := RI_succ h hB
  rw [u64_or_nat _ _ (by omega) (by omega), nat_join (j + 1) _ _ (by rw [Nat.mul_mod_left]) (by have := Nat.two_pow_pos j; rw [Nat.pow_succ]; omega)]
  omega

theorem RI_sq {n P B : Int} (h : RI n P B) : 0 ≤ (P + B) * (P + B) ∧ (P + B) * (P + B) ≤ 18446744073709551615 := by
  obtain ⟨h1, h2, h3, h4, h5⟩ := RI_bounds h
  have a := Int.mul_nonneg (a := P + B) (b := P + B) (by omega) (by omega)
  have b := Int.mul_self_le_mul_self (a := P + B) (b := 4294967295) (by omega) (by omega)
  omega

theorem half_pow (j : Nat) : ((2 ^ j : Nat) : Int) / 2 = ((2 ^ j / 2 : Nat) : Int) := by omega

theorem RI_yes {n P B : Int} (h : RI n P B) (hB : 0 < B) (hy : (P + B) * (P + B) ≤ n) : RI n (P + B) (B / 2) := by
  obtain ⟨j, q, hj, rfl, rfl, _, hu, hb⟩ := RI_succ h hB
  have e1 : (2 * q + 1) * 2 ^ j = q * 2 ^ (j + 1) + 2 ^ j := by rw [Nat.pow_succ, Nat.add_mul, Nat.one_mul]; ac_rfl
  have e2 : (2 * q + 1 + 1) * 2 ^ j = (q + 1) * 2 ^ (j + 1) := by rw [Nat.pow_succ, show 2 * q + 1 + 1 = 2 * (q + 1) from by omega]; ac_rfl
  refine ⟨j, 2 * q + 1, by omega, by rw [e1]; omega, half_pow j, hy, ?_, ?_⟩
  · rw [e2]; exact hu
  · rw [e2]; exact hb

theorem RI_no {n P B : Int} (h : RI n P B) (hB : 0 < B) (hy : n < (P + B) * (P + B)) : RI n P (B / 2) := by
  obtain ⟨j, q, hj, rfl, rfl, hp, hu, hb⟩ := RI_succ h hB
  have e1 : (2 * q) * 2 ^ j = q * 2 ^ (j + 1) := by rw [Nat.pow_succ]; ac_rfl
  have e2 : (2 * q + 1) * 2 ^ j = q * 2 ^ (j + 1) + 2 ^ j := by rw [Nat.pow_succ, Nat.add_mul, Nat.one_mul]; ac_rfl
  have e3 : (q + 1) * 2 ^ (j + 1) = q * 2 ^ (j + 1) + 2 ^ j + 2 ^ j := by rw [Nat.pow_succ, Nat.add_mul, Nat.one_mul]; omega
  refine ⟨j, 2 * q, by omega, by rw [e1], half_pow j, hp, ?_, ?_⟩
  · rw [e2, Int.natCast_add]; exact hy
  · rw [e2]; rw [e3] at hb; omega

theorem RI_end {n P B : Int} (h : RI n P B) (hB : B ≤ 0) : isRoot n P := by
  have hb := RI_bounds h
  obtain ⟨k, q, hk, hP, hb', hp, hu, _⟩ := h
  cases k with
  | zero => 
    refine ⟨hb.1, hp, ?_⟩
    simp only [Nat.pow_zero, Nat.mul_one] at hP hu
    rw [hP]
    exact hu
  | succ j => 
    have := Nat.two_pow_pos j
    rw [pow_half] at hb'
    omega

theorem RI_cap {n P B : Int} (hn : n ≤ 9223372036854775807) (hc : 3037000499 < P + B) : n < (P + B) * (P + B) := by
  have := Int.mul_self_le_mul_self (a := 3037000500) (b := P + B) (by omega) (by omega)
  omega

theorem RI_small {n P B : Int} (h : RI n P B) (hc : P + B ≤ 3037000499) : 0 ≤ (P + B) * (P + B) ∧ (P + B) * (P + B) ≤ 9223372036854775807 := by
  obtain ⟨h1, h2, h3, h4, h5⟩ := RI_bounds h
  have a := Int.mul_nonneg (a := P + B) (b := P + B) (by omega) (by omega)
  have b := Int.mul_self_le_mul_self (a := P + B) (b := 3037000499) (by omega) (by omega)
  omega

/-! ### products -/
theorem mul_bd (a b m : Int) (hm : 0 ≤ m) (a1 : -m ≤ a) (a2 : a ≤ m) (b1 : -m ≤ b) (b2 : b ≤ m) : -(m * m) ≤ a * b ∧ a * b ≤ m * m := by
  have h : (a * b).natAbs ≤ m.natAbs * m.natAbs := by
    rw [Int.natAbs_mul]
    exact Nat.mul_le_mul (by omega) (by omega)
  have e : ((m.natAbs * m.natAbs : Nat) : Int) = m * m := by
    rw [Int.natCast_mul, Int.natAbs_of_nonneg hm]
  generalize m * m = M at *
  generalize a * b = p at *
  generalize m.natAbs * m.natAbs = q at *
  omega

/-! ### turns -/
/-- a step, turned by k quarters. -/
def turned : Nat → Int × Int → Int × Int
  | 0, p => p
  | k + 1, p => (0 - (turned k p).2, (turned k p).1)

theorem turned_4 (p : Int × Int) : turned 4 p = p := by
  simp [turned]

theorem turned_2 (p : Int × Int) : turned 2 p = (0 - p.1, 0 - p.2) := by
  simp [turned]

theorem turned_bd (k : Nat) (p : Int × Int) (m : Int) (h1 : -m ≤ p.1) (h2 : p.1 ≤ m) (h3 : -m ≤ p.2) (h4 : p.2 ≤ m) : -m ≤ (turned k p).1 ∧ (turned k p).1 ≤ m ∧ -m ≤ (turned k p).2 ∧ (turned k p).2 ≤ m := by
  induction k with
  | zero => exact ⟨h1, h2, h3, h4⟩
  | succ k ih => 
    simp only [turned]
    omega

/-- the step of an input. -/
def way (n : Int) : Int × Int := if n = 1 then (0, -1) else if n = 2 then (1, 0) else if n = 3 then (0, 1) else if n = 4 then (-1, 0) else (0, 0)

theorem way_turned (n : Int) (h1 : 1 ≤ n) (h2 : n ≤ 4) : turned ((n - 1) % 4).toNat (0, -1) = way n := by
  have : n = 1 ∨ n = 2 ∨ n = 3 ∨ n = 4 := by omega
  rcases this with rfl | rfl | rfl | rfl <;> decide

theorem way_none (n : Int) (h : n < 1 ∨ 4 < n) : way n = (0, 0) := by
  unfold way
  rw [if_neg (by omega), if_neg (by omega), if_neg (by omega), if_neg (by omega)]

theorem way_bd (n : Int) : -1 ≤ (way n).1 ∧ (way n).1 ≤ 1 ∧ -1 ≤ (way n).2 ∧ (way n).2 ≤ 1 := by
  unfold way
  split
  · decide
  · split
    · decide
    · split
      · decide
      · split <;> decide

theorem way_next (n : Int) (h1 : 1 ≤ n) (h2 : n ≤ 4) : turned ((1 : Int) % 4).toNat ((way n).1, (way n).2) = way (n % 4 + 1) := by
  have : n = 1 ∨ n = 2 ∨ n = 3 ∨ n = 4 := by omega
  rcases this with rfl | rfl | rfl | rfl <;> decide

end Go.Proofs.Ythofgjphoahkfaa.Fx
