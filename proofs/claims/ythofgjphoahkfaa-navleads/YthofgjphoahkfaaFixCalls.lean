/-
  What each function of package fix, and of the document's own chapter said again, answers: one contract a function; none of them touches the world.
-/
import Derived.Test.YthofgjphoahkfaaRows
import Derived.WalkKit
import Derived.WalkSpells
import Derived.WalkLawsBesides
import Derived.Test.YthofgjphoahkfaaFloat
import Derived.Test.YthofgjphoahkfaaGridMem
import Derived.Test.YthofgjphoahkfaaFixMath
namespace Go.Proofs.Ythofgjphoahkfaa
open Go.RowKit

set_option maxHeartbeats 400000 in
theorem turn_any (x y q : Int) (w : World) (h1 : -1125899906842624 ≤ x) (h2 : x ≤ 1125899906842624) (h3 : -1125899906842624 ≤ y) (h4 : y ≤ 1125899906842624) :
    Calls Try.prog 46 #[.int .i64 x, .int .i64 y, .int .i64 q] w fun e w' => e = .returned (.tuple #[.int .i64 (Fx.turned (q % 4).toNat (x, y)).1, .int .i64 (Fx.turned (q % 4).toNat (x, y)).2]) ∧ w' = w := by
  have ha := Fx.and3 q
  obtain ⟨m, hm⟩ : ∃ m : Nat, (m : Int) = q % 4 := ⟨(q % 4).toNat, by omega⟩
  have hm4 : m < 4 := by omega
  have hmt : (q % 4).toNat = m := by omega
  rw [← hm] at ha
  rw [hmt]
  have HM := hide hm
  clear hm hmt
  go_enter Try.func46, Try.ntmps46
  go_wp2
  go_loop [8, 16] (fun s i => ∃ (a b k : Nat), k ≤ m ∧ s = .complex .f64 a b ∧ i = .int .i64 k ∧ Fl.Rep a (Fx.turned k (x, y)).1 ∧ Fl.Rep b (Fx.turned k (x, y)).2) (fun _ i => (m - (intOf i).toNat))
  case atStart => exact ⟨_, _, 0, by omega, rfl, rfl, Fl.rep_int x (by omega) (by omega), Fl.rep_int y (by omega) (by omega)⟩
  case round =>
    obtain ⟨a, b, k, hk, rfl, rfl, ra, rb⟩ := hrel
    obtain ⟨b1, b2, b3, b4⟩ := Fx.turned_bd k (x, y) 1125899906842624 h1 h2 h3 h4
    by_cases hlt : k < m
    · obtain ⟨r, i, hmul, rr, ri⟩ := Fl.times_i ra rb (by omega) (by omega) (by omega) (by omega)
      have hrun := fun w : World => run_complex_mul (P := Try.prog) w 55 a b 0 4607182418800017408 r i hmul
      have HR := hide rr
      have HI := hide ri
      clear ra rb rr ri hmul
      go_wp2
      go_round
      case rel => exact ⟨r, i, k + 1, by omega, rfl, by go_num, unhide HR, unhide HI⟩
      case measure => simp [intOf]; omega
    · have e : k = m := by omega
      subst e
      have t1 := Fl.rep_toInt ra (by omega) (by omega)
      have t2 := Fl.rep_toInt rb (by omega) (by omega)
      have hr1 := fun w : World => run_convert_float_int (P := Try.prog) w 65 3 .f64 .i64 a _ (by kernel_rfl) (by kernel_rfl) t1
      have hr2 := fun w : World => run_convert_float_int (P := Try.prog) w 65 3 .f64 .i64 b _ (by kernel_rfl) (by kernel_rfl) t2
      clear t1 t2 ra rb
      go_wp2
      go_ret2
      exact ⟨rfl, rfl⟩
end Go.Proofs.Ythofgjphoahkfaa
