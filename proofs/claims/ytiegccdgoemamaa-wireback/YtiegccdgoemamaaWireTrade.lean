/-
  A seat as it is told; a kind; between two bounds.
-/
import Derived.Test.YtiegccdgoemamaaWireMsg
namespace Go.Proofs.Ytiegccdgoemamaa
open Go.RowKit

/-- A seat as it is told. -/
def Wr.trade (n : Int) : Int := if n = -1 then 4 else if n = 4 then -1 else n

set_option maxRecDepth 8000 in
theorem wTraded_any (n : Int) (w : World) (n0 : -9223372036854775808 ≤ n) (n1 : n ≤ 9223372036854775807) :
    Calls Try.prog 65 #[.int .i64 n] w fun e w' => e = .returned (.int .i64 (Wr.trade n)) ∧ w' = w := by
  obtain ⟨m, hm⟩ : ∃ m, Wr.trade n = m := ⟨_, rfl⟩
  have HM := hide hm
  rw [hm]
  clear hm
  go_enter Try.func65, Try.ntmps65
  by_cases h1 : n = -1
  · subst h1
    go_upto_region 9 with fail
    go_wp2
    go_ret
    have := unhide HM
    exact ⟨by rw [← this]; rfl, rfl⟩
  · by_cases h2 : n = 4
    · subst h2
      go_upto_region 9 with fail
      go_wp2
      go_ret
      have := unhide HM
      exact ⟨by rw [← this]; rfl, rfl⟩
    · go_upto_region 9 with fail
      go_wp2
      go_ret
      have := unhide HM
      have hn : m = n := by rw [← this, Wr.trade, if_neg h1, if_neg h2]
      exact ⟨by rw [hn]; rfl, rfl⟩

set_option maxRecDepth 8000 in
theorem wWithin_any (n lo hi : Int) (w : World) :
    Calls Try.prog 55 #[.int .i64 n, .int .i64 lo, .int .i64 hi] w fun e w' => e = .returned (.bool (decide (lo ≤ n) && decide (n ≤ hi))) ∧ w' = w := by
  by_cases h1 : lo ≤ n
  · by_cases h2 : n ≤ hi
    · go_enter Try.func55, Try.ntmps55
      go_wp2
      go_ret
      exact ⟨by simp [h1, h2], rfl⟩
    · go_enter Try.func55, Try.ntmps55
      go_wp2
      go_ret
      exact ⟨by simp [h2], rfl⟩
  · go_enter Try.func55, Try.ntmps55
    go_wp2
    go_ret
    exact ⟨by simp; omega, rfl⟩

set_option maxRecDepth 8000 in
theorem wKind_any (n : Int) (w : World) :
    Calls Try.prog 30 #[.int .i64 n] w fun e w' => e = .returned (.bool (decide (1 ≤ n) && decide (n ≤ 4))) ∧ w' = w := by
  have cw := hide (fun x => wWithin_any n 1 4 x)
  go_enter Try.func30, Try.ntmps30
  go_wp2_with fail
  refine (unhide cw _).mono ?_
  rintro e y ⟨rfl, hy⟩
  rw [hy]
  go_wp2
  go_ret
  exact ⟨rfl, rfl⟩

end Go.Proofs.Ytiegccdgoemamaa
