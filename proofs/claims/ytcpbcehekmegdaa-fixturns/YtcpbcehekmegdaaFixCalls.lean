/-
  What each function of package fix, and of the document's own chapter said again, answers: one contract a function; none of them touches the world.
-/
import Derived.Test.YtcpbcehekmegdaaRows
import Derived.WalkKit
import Derived.WalkSpells
import Derived.WalkLawsBesides
import Derived.Test.YtcpbcehekmegdaaFloat
import Derived.Test.YtcpbcehekmegdaaFixMath
namespace Go.Proofs.Ytcpbcehekmegdaa
open Go.RowKit

theorem hide {p : Prop} (h : p) : Hid p := h
theorem unhide {p : Prop} (h : Hid p) : p := h
theorem ret_int {a b : Int} (h : a = b) : Ending.returned (.int .i64 a) = .returned (.int .i64 b) := by rw [h]

set_option maxHeartbeats 400000 in
theorem mul_any (a b : Int) (w : World) (h1 : -4611686018427387904 ≤ a * b) (h2 : a * b ≤ 4611686018427387904) :
    Calls Try.prog 13 #[.int .i64 a, .int .i64 b] w fun e w' => e = .returned (.int .i64 (a * b / 65536)) ∧ w' = w := by
  go_enter Try.func13, Try.ntmps13
  go_wp2
  go_ret
  exact ⟨rfl, rfl⟩

set_option maxHeartbeats 400000 in
theorem down_any (p q : Int) (w : World) (hq : 0 < q) (h1 : -4611686018427387904 ≤ p) (h2 : p ≤ 4611686018427387904) :
    Calls Try.prog 25 #[.int .i64 p, .int .i64 q] w fun e w' => e = .returned (.int .i64 (p.fdiv q)) ∧ w' = w := by
  have hb := Fx.tdiv_bd p q 4611686018427387904 h1 h2
  have hb1 := hb.1
  have hb2 := hb.2
  clear hb
  by_cases h : p.tmod q < 0
  · have hd := hide (Fx.down_less p q hq h)
    go_enter Try.func25, Try.ntmps25
    go_wp2
    go_ret
    exact ⟨ret_int (unhide hd), rfl⟩
  · have hd := hide (Fx.down_same p q hq (by omega))
    go_enter Try.func25, Try.ntmps25
    go_wp2
    go_ret
    exact ⟨ret_int (unhide hd), rfl⟩

set_option maxHeartbeats 400000 in
theorem within_any (a n : Int) (w : World) (hn : 0 < n) (hn2 : n ≤ 4611686018427387904) :
    Calls Try.prog 17 #[.int .i64 a, .int .i64 n] w fun e w' => e = .returned (.int .i64 (a % n)) ∧ w' = w := by
  have h1 := Int.tmod_lt_of_pos a hn
  have h2 := Int.lt_tmod_of_pos a hn
  by_cases h : a.tmod n < 0
  · have hd := hide (Fx.within_neg a n hn h)
    go_enter Try.func17, Try.ntmps17
    go_wp2
    go_ret
    exact ⟨ret_int (unhide hd), rfl⟩
  · have hd := hide (Fx.within_pos a n hn (by omega))
    go_enter Try.func17, Try.ntmps17
    go_wp2
    go_ret
    exact ⟨ret_int (unhide hd), rfl⟩

set_option maxHeartbeats 400000 in
theorem root_any (n : Int) (w : World) (h1 : 0 ≤ n) (h2 : n ≤ 9223372036854775807) :
    Calls Try.prog 15 #[.int .i64 n] w fun e w' => ∃ r, e = .returned (.int .i64 r) ∧ Fx.isRoot n r ∧ w' = w := by
  go_enter Try.func15, Try.ntmps15
  go_wp2
  go_loop [3, 4] (fun r b => ∃ p q : Int, Fx.RI n p q ∧ r = .int .u64 p ∧ b = .int .u64 q) (fun _ b => (intOf b).toNat)
  case atStart => exact ⟨0, _, Fx.RI_start n h1 (by omega), rfl, rfl⟩
  case round =>
    obtain ⟨p, q, hri, rfl, rfl⟩ := hrel
    obtain ⟨hp0, hp1, hq0, hq1, hpq⟩ := Fx.RI_bounds hri
    obtain ⟨hs0, hs1⟩ := Fx.RI_sq hri
    by_cases hq : 0 < q
    · have hor := Fx.RI_or hri hq
      by_cases hy : (p + q) * (p + q) ≤ n
      · go_wp2
        go_round
        case rel => exact ⟨_, _, Fx.RI_yes hri hq hy, rfl, rfl⟩
        case measure => simp [intOf]; omega
      · go_wp2
        go_round
        case rel => exact ⟨_, _, Fx.RI_no hri hq (by omega), rfl, rfl⟩
        case measure => simp [intOf]; omega
    · go_wp2
      go_ret
      exact ⟨p, rfl, Fx.RI_end hri (by omega), rfl⟩

set_option maxHeartbeats 400000 in
theorem root_neg (n : Int) (w : World) (h1 : n < 0) :
    Calls Try.prog 15 #[.int .i64 n] w fun e w' => e = .returned (.int .i64 0) ∧ w' = w := by
  go_enter Try.func15, Try.ntmps15
  go_wp2
  go_ret
  exact ⟨rfl, rfl⟩

set_option maxHeartbeats 400000 in
theorem turn_any (x y q : Int) (w : World) (h1 : -1125899906842624 ≤ x) (h2 : x ≤ 1125899906842624) (h3 : -1125899906842624 ≤ y) (h4 : y ≤ 1125899906842624) :
    Calls Try.prog 20 #[.int .i64 x, .int .i64 y, .int .i64 q] w fun e w' => e = .returned (.tuple #[.int .i64 (Fx.turned (q % 4).toNat (x, y)).1, .int .i64 (Fx.turned (q % 4).toNat (x, y)).2]) ∧ w' = w := by
  have ha := Fx.and3 q
  obtain ⟨m, hm⟩ : ∃ m : Nat, (m : Int) = q % 4 := ⟨(q % 4).toNat, by omega⟩
  have hm4 : m < 4 := by omega
  have hmt : (q % 4).toNat = m := by omega
  rw [← hm] at ha
  rw [hmt]
  have HM := hide hm
  clear hm hmt
  go_enter Try.func20, Try.ntmps20
  go_wp2
  go_loop [8, 16] (fun s i => ∃ (a b k : Nat), k ≤ m ∧ s = .complex .f64 a b ∧ i = .int .i64 k ∧ Fl.Rep a (Fx.turned k (x, y)).1 ∧ Fl.Rep b (Fx.turned k (x, y)).2) (fun _ i => (m - (intOf i).toNat))
  case atStart => exact ⟨_, _, 0, by omega, rfl, rfl, Fl.rep_int x (by omega) (by omega), Fl.rep_int y (by omega) (by omega)⟩
  case round =>
    obtain ⟨a, b, k, hk, rfl, rfl, ra, rb⟩ := hrel
    obtain ⟨b1, b2, b3, b4⟩ := Fx.turned_bd k (x, y) 1125899906842624 h1 h2 h3 h4
    by_cases hlt : k < m
    · obtain ⟨r, i, hmul, rr, ri⟩ := Fl.times_i ra rb (by omega) (by omega) (by omega) (by omega)
      have hrun := fun w : World => run_complex_mul (P := Try.prog) w 38 a b 0 4607182418800017408 r i hmul
      have HR := hide rr
      have HI := hide ri
      clear ra rb rr ri hmul
      go_wp2
      go_round
      case rel => exact ⟨r, i, k + 1, by omega, rfl, by go_num, unhide HR, unhide HI⟩
      case measure => simp [intOf]; omega
    · have e : k = m := by omega
      subst e
      have t1 := Fl.rep_toInt ra (by omega) (by omega)
      have t2 := Fl.rep_toInt rb (by omega) (by omega)
      have hr1 := fun w : World => run_convert_float_int (P := Try.prog) w 39 3 .f64 .i64 a _ (by kernel_rfl) (by kernel_rfl) t1
      have hr2 := fun w : World => run_convert_float_int (P := Try.prog) w 39 3 .f64 .i64 b _ (by kernel_rfl) (by kernel_rfl) t2
      clear t1 t2 ra rb
      go_wp2
      go_ret2
      exact ⟨rfl, rfl⟩
end Go.Proofs.Ytcpbcehekmegdaa
