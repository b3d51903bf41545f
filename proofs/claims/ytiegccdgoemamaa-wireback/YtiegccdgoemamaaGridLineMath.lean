/-
  Lines, as numbers: the cells between two ends.
-/
import Derived.Test.YtiegccdgoemamaaGridCalls
namespace Go.Proofs.Ytiegccdgoemamaa

namespace Gr

theorem near_up (p n d : Int) (hn : 0 < n) (h0 : 0 ≤ p) (h1 : p ≤ n * d) : 0 ≤ near p n ∧ near p n ≤ d := by
  unfold near
  refine ⟨Int.ediv_nonneg (by omega) (by omega), ?_⟩
  have : (2 * p + n) / (2 * n) < d + 1 := Int.ediv_lt_of_lt_mul (by omega) (by
    have : (d + 1) * (2 * n) = 2 * (n * d) + 2 * n := by rw [Int.add_mul, Int.one_mul, Int.mul_comm d, Int.mul_assoc]
    omega)
  omega

theorem near_down (p n d : Int) (hn : 0 < n) (h0 : p ≤ 0) (h1 : n * d ≤ p) : d ≤ near p n ∧ near p n ≤ 0 := by
  unfold near
  constructor
  · refine Int.le_ediv_of_mul_le (by omega) ?_
    have : d * (2 * n) = 2 * (n * d) := by rw [Int.mul_comm d, Int.mul_assoc]
    omega
  · have : (2 * p + n) / (2 * n) < 1 := Int.ediv_lt_of_lt_mul (by omega) (by omega)
    omega

theorem near_mul (n d : Int) (hn : 0 < n) : near (n * d) n = d := by
  unfold near
  have h1 : d ≤ (2 * (n * d) + n) / (2 * n) := by
    refine Int.le_ediv_of_mul_le (by omega) ?_
    have : d * (2 * n) = 2 * (n * d) := by rw [Int.mul_comm d, Int.mul_assoc]
    omega
  have h2 : (2 * (n * d) + n) / (2 * n) < d + 1 := Int.ediv_lt_of_lt_mul (by omega) (by
    have : (d + 1) * (2 * n) = 2 * (n * d) + 2 * n := by rw [Int.add_mul, Int.one_mul, Int.mul_comm d, Int.mul_assoc]
    omega)
  omega

theorem near_step (p d n : Int) (hn : 0 < n) (h1 : -n ≤ d) (h2 : d ≤ n) : near p n - 1 ≤ near (p + d) n ∧ near (p + d) n ≤ near p n + 1 := by
  unfold near
  have a0 := Int.mul_ediv_add_emod (2 * p + n) (2 * n)
  have a1 := Int.emod_nonneg (2 * p + n) (b := 2 * n) (by omega)
  have a2 := Int.emod_lt_of_pos (2 * p + n) (b := 2 * n) (by omega)
  generalize (2 * p + n) / (2 * n) = q at *
  have e1 : (q - 1) * (2 * n) = 2 * n * q - 2 * n := by rw [Int.sub_mul, Int.one_mul, Int.mul_comm q]
  have e2 : (q + 2) * (2 * n) = 2 * n * q + 4 * n := by rw [Int.add_mul, Int.mul_comm q]; omega
  constructor
  · exact Int.le_ediv_of_mul_le (by omega) (by omega)
  · have := Int.ediv_lt_of_lt_mul (a := 2 * (p + d) + n) (b := q + 2) (c := 2 * n) (by omega) (by omega)
    omega

def span (x0 y0 x1 y1 : Int) : Nat := (max (max (x1 - x0) (x0 - x1)) (max (y1 - y0) (y0 - y1))).toNat

def ln (x0 y0 x1 y1 : Int) (k : Nat) : Int :=
  (y0 + near (k * (y1 - y0)) (span x0 y0 x1 y1)) * 24 + (x0 + near (k * (x1 - x0)) (span x0 y0 x1 y1))

theorem part (d n : Int) (k : Nat) (hn : 0 < n) (hk : (k : Int) ≤ n) : (0 ≤ d ∧ 0 ≤ near (k * d) n ∧ near (k * d) n ≤ d) ∨ (d ≤ 0 ∧ d ≤ near (k * d) n ∧ near (k * d) n ≤ 0) := by
  by_cases h : 0 ≤ d
  · left
    have a : 0 ≤ (k : Int) * d := Int.mul_nonneg (by omega) h
    have b : (k : Int) * d ≤ n * d := Int.mul_le_mul_of_nonneg_right hk h
    exact ⟨h, near_up _ _ _ hn a b⟩
  · right
    have a : (k : Int) * -d ≤ n * -d := Int.mul_le_mul_of_nonneg_right hk (by omega)
    have b : 0 ≤ (k : Int) * -d := Int.mul_nonneg (by omega) (by omega)
    rw [Int.mul_neg] at a b
    rw [Int.mul_neg] at a
    exact ⟨by omega, near_down _ _ _ hn (by omega) (by omega)⟩

theorem mul_bd (k : Nat) (d : Int) (hk : k ≤ 23) (h1 : -23 ≤ d) (h2 : d ≤ 23) : -1000 ≤ (k : Int) * d ∧ (k : Int) * d ≤ 1000 := by
  have a : (k : Int) * d ≤ (k : Int) * 23 := Int.mul_le_mul_of_nonneg_left h2 (by omega)
  have b : (k : Int) * (-23) ≤ (k : Int) * d := Int.mul_le_mul_of_nonneg_left h1 (by omega)
  omega

/-- Where both ends are cells: the two coordinates of the k-th cell. -/
theorem ln_parts (x0 y0 x1 y1 : Int) (h0 : inB x0 y0 = true) (h1 : inB x1 y1 = true) (k : Nat) (hk : k ≤ span x0 y0 x1 y1) :
    ∃ x y : Int, ln x0 y0 x1 y1 k = y * 24 + x ∧ x = x0 + near (k * (x1 - x0)) (span x0 y0 x1 y1) ∧ y = y0 + near (k * (y1 - y0)) (span x0 y0 x1 y1) ∧ 0 ≤ x ∧ x < 24 ∧ 0 ≤ y ∧ y < 16 := by
  rw [inB_iff] at h0 h1
  refine ⟨_, _, rfl, rfl, rfl, ?_⟩
  by_cases hn : span x0 y0 x1 y1 = 0
  · obtain rfl : k = 0 := by omega
    rw [hn]
    have e : ∀ p, near p ((0 : Nat) : Int) = 0 := fun p => by simp [near]
    rw [e, e]
    omega
  · have hs : -(span x0 y0 x1 y1 : Int) ≤ x1 - x0 ∧ x1 - x0 ≤ span x0 y0 x1 y1 ∧ -(span x0 y0 x1 y1 : Int) ≤ y1 - y0 ∧ y1 - y0 ≤ span x0 y0 x1 y1 := by unfold span; omega
    have a := part (x1 - x0) (span x0 y0 x1 y1) k (by omega) (by omega)
    have b := part (y1 - y0) (span x0 y0 x1 y1) k (by omega) (by omega)
    omega

theorem span_bd (x0 y0 x1 y1 : Int) (h0 : inB x0 y0 = true) (h1 : inB x1 y1 = true) : span x0 y0 x1 y1 ≤ 23 := by
  rw [inB_iff] at h0 h1
  unfold span
  omega

theorem ln_bd (x0 y0 x1 y1 : Int) (h0 : inB x0 y0 = true) (h1 : inB x1 y1 = true) (k : Nat) (hk : k ≤ span x0 y0 x1 y1) : 0 ≤ ln x0 y0 x1 y1 k ∧ ln x0 y0 x1 y1 k < 384 := by
  obtain ⟨x, y, e, _, _, _, _, _, _⟩ := ln_parts x0 y0 x1 y1 h0 h1 k hk
  omega

theorem near_0 (n : Int) (hn : 0 ≤ n) : near 0 n = 0 := by
  by_cases h : n = 0
  · subst h; rfl
  · have := near_mul n 0 (by omega)
    rwa [Int.mul_zero] at this

theorem ln_first (x0 y0 x1 y1 : Int) : ln x0 y0 x1 y1 0 = y0 * 24 + x0 := by
  unfold ln
  rw [show ((0 : Nat) : Int) = 0 from rfl, Int.zero_mul, Int.zero_mul, near_0 _ (by omega)]
  omega

theorem ln_last (x0 y0 x1 y1 : Int) : ln x0 y0 x1 y1 (span x0 y0 x1 y1) = y1 * 24 + x1 := by
  by_cases hn : span x0 y0 x1 y1 = 0
  · rw [hn, ln_first]
    unfold span at hn
    omega
  · unfold ln
    rw [near_mul _ _ (by omega), near_mul _ _ (by omega)]
    omega

theorem ln_step (x0 y0 x1 y1 : Int) (h0 : inB x0 y0 = true) (h1 : inB x1 y1 = true) (k : Nat) (hk : k + 1 ≤ span x0 y0 x1 y1) :
    -1 ≤ ln x0 y0 x1 y1 (k + 1) % 24 - ln x0 y0 x1 y1 k % 24 ∧ ln x0 y0 x1 y1 (k + 1) % 24 - ln x0 y0 x1 y1 k % 24 ≤ 1 ∧ -1 ≤ ln x0 y0 x1 y1 (k + 1) / 24 - ln x0 y0 x1 y1 k / 24 ∧ ln x0 y0 x1 y1 (k + 1) / 24 - ln x0 y0 x1 y1 k / 24 ≤ 1 ∧ ¬ (ln x0 y0 x1 y1 (k + 1) % 24 - ln x0 y0 x1 y1 k % 24 = 0 ∧ ln x0 y0 x1 y1 (k + 1) / 24 - ln x0 y0 x1 y1 k / 24 = 0) := by
  obtain ⟨xa, ya, ea, ha1, ha2, _⟩ := ln_parts x0 y0 x1 y1 h0 h1 k (by omega)
  obtain ⟨xb, yb, eb, hb1, hb2, _⟩ := ln_parts x0 y0 x1 y1 h0 h1 (k + 1) hk
  have hs : -(span x0 y0 x1 y1 : Int) ≤ x1 - x0 ∧ x1 - x0 ≤ span x0 y0 x1 y1 ∧ -(span x0 y0 x1 y1 : Int) ≤ y1 - y0 ∧ y1 - y0 ≤ span x0 y0 x1 y1 := by unfold span; omega
  have ho : x1 - x0 = span x0 y0 x1 y1 ∨ x1 - x0 = -(span x0 y0 x1 y1 : Int) ∨ y1 - y0 = span x0 y0 x1 y1 ∨ y1 - y0 = -(span x0 y0 x1 y1 : Int) := by unfold span; omega
  generalize span x0 y0 x1 y1 = n at *
  have sx := near_step (k * (x1 - x0)) (x1 - x0) n (by omega) hs.1 hs.2.1
  have sy := near_step (k * (y1 - y0)) (y1 - y0) n (by omega) hs.2.2.1 hs.2.2.2
  have ex : ((k + 1 : Nat) : Int) * (x1 - x0) = k * (x1 - x0) + (x1 - x0) := by rw [Int.natCast_add, Int.add_mul]; omega
  have ey : ((k + 1 : Nat) : Int) * (y1 - y0) = k * (y1 - y0) + (y1 - y0) := by rw [Int.natCast_add, Int.add_mul]; omega
  rw [ex] at hb1
  rw [ey] at hb2
  have hd : ¬ (xb = xa ∧ yb = ya) := by
    rintro ⟨e1, e2⟩
    have m1 : ∀ j : Nat, near (j * (n : Int)) n = j := fun j => by rw [Int.mul_comm]; exact near_mul _ _ (by omega)
    have m2 : ∀ j : Nat, near (j * -(n : Int)) n = -j := fun j => by rw [Int.mul_neg, ← Int.neg_mul, Int.mul_comm]; exact near_mul _ _ (by omega)
    rw [← ex] at hb1
    rw [← ey] at hb2
    rcases ho with h | h | h | h
    · rw [h, m1] at ha1 hb1; omega
    · rw [h, m2] at ha1 hb1; omega
    · rw [h, m1] at ha2 hb2; omega
    · rw [h, m2] at ha2 hb2; omega
  have e1 : ln x0 y0 x1 y1 k % 24 = xa := by omega
  have e2 : ln x0 y0 x1 y1 k / 24 = ya := by omega
  have e3 : ln x0 y0 x1 y1 (k + 1) % 24 = xb := by omega
  have e4 : ln x0 y0 x1 y1 (k + 1) / 24 = yb := by omega
  rw [e1, e2, e3, e4]
  omega

end Gr

end Go.Proofs.Ytiegccdgoemamaa
