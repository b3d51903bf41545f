/-
  More contracts of package fix and of the document's chapter said again: quotients, roots, distances, turns, ways; and that the chapter's examples hold.
-/
import Derived.Test.YtcpbcehekmegdabFixCalls
namespace Go.Proofs.Ytcpbcehekmegdab
open Go.RowKit

theorem ret_two {a b c : Int} (h : a = b) : Ending.returned (.tuple #[.int .i64 a, .int .i64 c]) = .returned (.tuple #[.int .i64 b, .int .i64 c]) := by rw [h]

theorem sq_bd (dx dy : Int) (h1 : -1048576 ≤ dx) (h2 : dx ≤ 1048576) (h3 : -1048576 ≤ dy) (h4 : dy ≤ 1048576) : 0 ≤ dx * dx ∧ dx * dx ≤ 1099511627776 ∧ 0 ≤ dy * dy ∧ dy * dy ≤ 1099511627776 := by
  have a := Fx.mul_bd dx dx 1048576 (by omega) h1 h2 h1 h2
  have b := Fx.mul_bd dy dy 1048576 (by omega) h3 h4 h3 h4
  have c : 0 ≤ dx * dx := by rcases Int.le_total 0 dx with h | h; exact Int.mul_nonneg h h; exact Int.mul_nonneg_of_nonpos_of_nonpos h h
  have d : 0 ≤ dy * dy := by rcases Int.le_total 0 dy with h | h; exact Int.mul_nonneg h h; exact Int.mul_nonneg_of_nonpos_of_nonpos h h
  omega

set_option maxHeartbeats 400000 in
theorem dist_any (dx dy : Int) (w : World) (h1 : -1048576 ≤ dx) (h2 : dx ≤ 1048576) (h3 : -1048576 ≤ dy) (h4 : dy ≤ 1048576) :
    Calls Try.prog 7 #[.int .i64 dx, .int .i64 dy] w fun e w' => ∃ r, e = .returned (.int .i64 r) ∧ Fx.isRoot ((dx * dx + dy * dy) * 65536) r ∧ w' = w := by
  obtain ⟨a, b, c, d⟩ := sq_bd dx dy h1 h2 h3 h4
  go_enter Try.func7, Try.ntmps7
  go_wp2_with (go_at_call 6; refine (root_any _ _ (by omega) (by omega)).mono ?_; rintro e w' ⟨r, rfl, hr, rfl⟩)
  go_ret
  exact ⟨r, rfl, hr, rfl⟩

theorem turned_1 : Fx.turned ((1 : Int) % 4).toNat (1, 0) = (0, 1) := by decide
theorem root_99 : Fx.isRoot 99 9 := ⟨by omega, by omega, by omega⟩
theorem dist_34 : Fx.isRoot ((3 * 3 + 4 * 4) * 65536) 1280 := ⟨by omega, by omega, by omega⟩

set_option maxHeartbeats 400000 in
theorem known_any (w : World) :
    Calls Try.prog 4 #[] w fun e w' => e = .returned (.bool true) ∧ w' = w := by
  go_enter Try.func4, Try.ntmps4
  go_wp2_with (first
    | (go_at_call 8; refine (turn_any 1 0 1 _ (by omega) (by omega) (by omega) (by omega)).mono ?_; rintro e w' ⟨rfl, rfl⟩; rw [turned_1])
    | (go_at_call 9; refine (mul_any _ _ _ (by omega) (by omega)).mono ?_; rintro e w' ⟨rfl, rfl⟩)
    | (go_at_call 6; refine (root_any _ _ (by omega) (by omega)).mono ?_; rintro e w' ⟨r, rfl, hr, rfl⟩; obtain rfl : r = 9 := Fx.root_one hr root_99; clear hr)
    | (go_at_call 7; refine (dist_any 3 4 _ (by omega) (by omega) (by omega) (by omega)).mono ?_; rintro e w' ⟨r, rfl, hr, rfl⟩; obtain rfl : r = 1280 := Fx.root_one hr dist_34; clear hr))
  go_ret
  exact ⟨rfl, rfl⟩

theorem within_ex (a n : Int) (w : World) (hn : 0 < n) (hn2 : n ≤ 4611686018427387904) :
    Calls Try.prog 5 #[.int .i64 a, .int .i64 n] w fun e w' => ∃ m : Int, e = .returned (.int .i64 m) ∧ 0 ≤ m ∧ m < n ∧ w' = w := by
  refine (within_any a n w hn hn2).mono fun e w' h => ?_
  obtain ⟨rfl, rfl⟩ := h
  exact ⟨_, rfl, Int.emod_nonneg _ (by omega), Int.emod_lt_of_pos _ hn, rfl⟩

end Go.Proofs.Ytcpbcehekmegdab
