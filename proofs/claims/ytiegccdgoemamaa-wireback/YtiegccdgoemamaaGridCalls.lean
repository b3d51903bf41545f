/-
  What the grid's small functions answer, in the program and in the document said again: cells, kinds, the first of a kind. None of them touches the world.
-/
import Derived.Test.YtiegccdgoemamaaGridMem
namespace Go.Proofs.Ytiegccdgoemamaa
open Go.RowKit

theorem Gr.clear_of_no {k : Int} (h : Gr.walkB k = false) : Gr.clearB k = false := by
  simp only [Gr.walkB, Gr.clearB, decide_eq_false_iff_not] at *; omega

theorem Gr.clear_of_yes {k : Int} (h : Gr.walkB k = true) : Gr.clearB k = (k != 2) := by
  simp only [Gr.walkB, decide_eq_true_eq] at h
  rw [Bool.eq_iff_iff]
  simp [Gr.clearB]; omega

theorem Gr.near_neg (p n : Int) (hn : 0 < n) (h : (2 * p + n).tmod (2 * n) < 0) : (2 * p + n).tdiv (2 * n) - 1 = Gr.near p n := by
  unfold Gr.near
  have h0 := Int.mul_tdiv_add_tmod (2 * p + n) (2 * n)
  have h1 := Int.mul_ediv_add_emod (2 * p + n) (2 * n)
  have h2 := Int.emod_nonneg (2 * p + n) (b := 2 * n) (by omega)
  have h3 := Int.emod_lt_of_pos (2 * p + n) (b := 2 * n) (by omega)
  have h4 := Int.lt_tmod_of_pos (2 * p + n) (b := 2 * n) (by omega)
  generalize (2 * p + n).tdiv (2 * n) = q at *
  generalize (2 * p + n) / (2 * n) = r at *
  generalize (2 * p + n).tmod (2 * n) = s at *
  generalize (2 * p + n) % (2 * n) = t at *
  have : (2 * n) * (q - 1) = (2 * n) * q - 2 * n := by rw [Int.mul_sub, Int.mul_one]
  have e : (2 * n) * (q - 1 - r) = t - s - 2 * n := by rw [Int.mul_sub]; omega
  rcases Int.lt_trichotomy (q - 1 - r) 0 with g | g | g
  · have : (2 * n) * (q - 1 - r) ≤ (2 * n) * (-1) := Int.mul_le_mul_of_nonneg_left (by omega) (by omega)
    omega
  · omega
  · have : (2 * n) * 1 ≤ (2 * n) * (q - 1 - r) := Int.mul_le_mul_of_nonneg_left (by omega) (by omega)
    omega

theorem Gr.near_pos (p n : Int) (hn : 0 < n) (h : ¬ (2 * p + n).tmod (2 * n) < 0) : (2 * p + n).tdiv (2 * n) = Gr.near p n := by
  unfold Gr.near
  have h0 := Int.mul_tdiv_add_tmod (2 * p + n) (2 * n)
  have h1 := Int.mul_ediv_add_emod (2 * p + n) (2 * n)
  have h2 := Int.emod_nonneg (2 * p + n) (b := 2 * n) (by omega)
  have h3 := Int.emod_lt_of_pos (2 * p + n) (b := 2 * n) (by omega)
  have h4 := Int.tmod_lt_of_pos (2 * p + n) (b := 2 * n) (by omega)
  generalize (2 * p + n).tdiv (2 * n) = q at *
  generalize (2 * p + n) / (2 * n) = r at *
  generalize (2 * p + n).tmod (2 * n) = s at *
  generalize (2 * p + n) % (2 * n) = t at *
  have e : (2 * n) * (q - r) = t - s := by rw [Int.mul_sub]; omega
  rcases Int.lt_trichotomy (q - r) 0 with g | g | g
  · have : (2 * n) * (q - r) ≤ (2 * n) * (-1) := Int.mul_le_mul_of_nonneg_left (by omega) (by omega)
    omega
  · omega
  · have : (2 * n) * 1 ≤ (2 * n) * (q - r) := Int.mul_le_mul_of_nonneg_left (by omega) (by omega)
    omega

theorem Gr.tdiv_bd (p n : Int) (h1 : -1000 ≤ p) (h2 : p ≤ 1000) (h3 : n ≤ 100) (h4 : 0 < n) : -2100 ≤ (2 * p + n).tdiv (2 * n) ∧ (2 * p + n).tdiv (2 * n) ≤ 2100 := by
  have h : ((2 * p + n).tdiv (2 * n)).natAbs ≤ (2 * p + n).natAbs := by
    rw [Int.natAbs_tdiv]
    exact Nat.div_le_self _ _
  omega

end Go.Proofs.Ytiegccdgoemamaa
