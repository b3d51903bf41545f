/-
  More contracts of package fix and of the document's chapter said again: quotients, roots, distances, turns, ways; and that the chapter's examples hold.
-/
import Derived.Test.YthofgjphoahkfaaFixCalls
namespace Go.Proofs.Ythofgjphoahkfaa
open Go.RowKit

theorem ret_two {a b c : Int} (h : a = b) : Ending.returned (.tuple #[.int .i64 a, .int .i64 c]) = .returned (.tuple #[.int .i64 b, .int .i64 c]) := by rw [h]

theorem sq_bd (dx dy : Int) (h1 : -1048576 ≤ dx) (h2 : dx ≤ 1048576) (h3 : -1048576 ≤ dy) (h4 : dy ≤ 1048576) : 0 ≤ dx * dx ∧ dx * dx ≤ 1099511627776 ∧ 0 ≤ dy * dy ∧ dy * dy ≤ 1099511627776 := by
  have a := Fx.mul_bd dx dx 1048576 (by omega) h1 h2 h1 h2
  have b := Fx.mul_bd dy dy 1048576 (by omega) h3 h4 h3 h4
  have c : 0 ≤ dx * dx := by rcases Int.le_total 0 dx with h | h; exact Int.mul_nonneg h h; exact Int.mul_nonneg_of_nonpos_of_nonpos h h
  have d : 0 ≤ dy * dy := by rcases Int.le_total 0 dy with h | h; exact Int.mul_nonneg h h; exact Int.mul_nonneg_of_nonpos_of_nonpos h h
  omega

theorem turned_1 : Fx.turned ((1 : Int) % 4).toNat (1, 0) = (0, 1) := by decide
theorem root_99 : Fx.isRoot 99 9 := ⟨by omega, by omega, by omega⟩
theorem dist_34 : Fx.isRoot ((3 * 3 + 4 * 4) * 65536) 1280 := ⟨by omega, by omega, by omega⟩

set_option maxHeartbeats 400000 in
theorem way_any (n : Int) (w : World) :
    Calls Try.prog 38 #[.int .i64 n] w fun e w' => e = .returned (.tuple #[.int .i64 (Fx.way n).1, .int .i64 (Fx.way n).2]) ∧ w' = w := by
  by_cases h1 : n < 1
  · rw [Fx.way_none n (Or.inl h1)]
    go_enter Try.func38, Try.ntmps38
    go_wp2
    go_ret2
    exact ⟨rfl, rfl⟩
  · by_cases h2 : 4 < n
    · rw [Fx.way_none n (Or.inr h2)]
      go_enter Try.func38, Try.ntmps38
      go_wp2
      go_ret2
      exact ⟨rfl, rfl⟩
    · rw [← Fx.way_turned n (by omega) (by omega)]
      go_enter Try.func38, Try.ntmps38
      go_wp2_with (go_at_call 46; refine (turn_any 0 (-1) _ _ (by omega) (by omega) (by omega) (by omega)).mono ?_; rintro e w' ⟨rfl, rfl⟩)
      go_ret2
      exact ⟨rfl, rfl⟩

set_option maxHeartbeats 400000 in
theorem refWay_any (n : Int) (w : World) :
    Calls Try.prog 19 #[.int .i64 n] w fun e w' => e = .returned (.tuple #[.int .i64 (Fx.way n).1, .int .i64 (Fx.way n).2]) ∧ w' = w := by
  by_cases h : n = 1 ∨ n = 2 ∨ n = 3 ∨ n = 4
  · rcases h with rfl | rfl | rfl | rfl
    all_goals
      go_enter Try.func19, Try.ntmps19
      go_wp2
      go_ret2
      exact ⟨rfl, rfl⟩
  · have e1 : (n == 1) = false := by simp; omega
    have e2 : (n == 2) = false := by simp; omega
    have e3 : (n == 3) = false := by simp; omega
    have e4 : (n == 4) = false := by simp; omega
    rw [Fx.way_none n (by omega)]
    clear h
    go_enter Try.func19, Try.ntmps19
    go_wp2
    go_ret2
    exact ⟨rfl, rfl⟩

end Go.Proofs.Ythofgjphoahkfaa
