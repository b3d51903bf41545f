/-
  What the small functions of nav, and of the document's chapter said again, answer: a place as a complex number, the number of a cell, the step of a way, the way to a cell that is next.
-/
import Derived.Test.YthofgjphoahkfaaFixMore
import Derived.Test.YthofgjphoahkfaaFloatOrd
import Derived.Test.YthofgjphoahkfaaGridMem
import Derived.Test.YthofgjphoahkfaaGridSee
namespace Go.Proofs.Ythofgjphoahkfaa
open Go.RowKit

/-- A float64 that stands for a whole number as far as small numbers go. -/
def Fl.Std (a : Nat) (x : Int) : Prop :=
  (∀ b y, Fl.Rep b y → -4503599627370496 < y → y < 4503599627370496 → Ieee.double.order a b = some (compare x y) ∧ Ieee.double.order b a = some (compare y x)) ∧ (-9007199254740992 < x → x < 9007199254740992 → floatToIntVal .f64 a .i64 = some x)

theorem Fl.std_int (x : Int) (h1 : -9223372036854775808 ≤ x) (h2 : x ≤ 9223372036854775807) : Fl.Std (floatOfInt .f64 x) x :=
  ⟨fun _ _ hb h3 h4 => Fl.order_int x h1 h2 hb h3 h4, fun h3 h4 => Fl.rep_toInt (Fl.rep_int x h3 h4) h3 h4⟩

theorem Fl.std_rep {a : Nat} {x : Int} (h : Fl.Rep a x) : Fl.Std a x :=
  ⟨fun _ _ hb _ _ => ⟨Fl.order_rep h hb, Fl.order_rep hb h⟩, fun h3 h4 => Fl.rep_toInt h h3 h4⟩

/-- The number of the cell at a place; -1: there is none. -/
def Nv.num (x y : Int) : Int := if Gr.inB x y = true then y * 24 + x else -1

theorem point_any (x y : Int) (w : World) : Calls Try.prog 26 #[.int .i64 x, .int .i64 y] w fun e w' => e = .returned (.complex .f64 (floatOfInt .f64 x) (floatOfInt .f64 y)) ∧ w' = w := by
  go_enter Try.func26, Try.ntmps26
  go_wp2
  go_ret
  exact ⟨rfl, rfl⟩

set_option maxHeartbeats 800000 in
theorem navNumber_any (a b : Nat) (x y : Int) (w : World) (ha : Fl.Std a x) (hb : Fl.Std b y) : Calls Try.prog 27 #[.complex .f64 a b] w fun e w' => e = .returned (.int .i64 (Nv.num x y)) ∧ w' = w := by
  have k1 : (FloatKind.f64.format.order a 0 == some .lt) = decide (x < 0) := by
    rw [show FloatKind.f64.format = Ieee.double from rfl, (ha.1 0 0 Fl.rep_0 (by omega) (by omega)).1, Fl.beq_lt]
  have k2 : (FloatKind.f64.format.order a 4627448617123184640 == some .gt || FloatKind.f64.format.order a 4627448617123184640 == some .eq) = decide (24 ≤ x) := by
    rw [show FloatKind.f64.format = Ieee.double from rfl, (ha.1 _ 24 Fl.rep_24 (by omega) (by omega)).1, Fl.beq_ge]
  have k3 : (FloatKind.f64.format.order b 0 == some .lt) = decide (y < 0) := by
    rw [show FloatKind.f64.format = Ieee.double from rfl, (hb.1 0 0 Fl.rep_0 (by omega) (by omega)).1, Fl.beq_lt]
  have k4 : (FloatKind.f64.format.order b 4625196817309499392 == some .gt || FloatKind.f64.format.order b 4625196817309499392 == some .eq) = decide (16 ≤ y) := by
    rw [show FloatKind.f64.format = Ieee.double from rfl, (hb.1 _ 16 Fl.rep_16 (by omega) (by omega)).1, Fl.beq_ge]
  by_cases h1 : x < 0
  · rw [decide_eq_true h1] at k1
    have he : Hid (Nv.num x y = -1) := if_neg (by rw [Gr.inB_iff]; omega)
    clear k2 k3 k4 ha hb
    go_enter Try.func27, Try.ntmps27
    go_wp2
    go_ret
    exact ⟨ret_int (unhide he).symm, rfl⟩
  · rw [decide_eq_false h1] at k1
    by_cases h2 : 24 ≤ x
    · rw [decide_eq_true h2] at k2
      have he : Hid (Nv.num x y = -1) := if_neg (by rw [Gr.inB_iff]; omega)
      clear k3 k4 ha hb
      go_enter Try.func27, Try.ntmps27
      go_wp2
      go_ret
      exact ⟨ret_int (unhide he).symm, rfl⟩
    · rw [decide_eq_false h2] at k2
      by_cases h3 : y < 0
      · rw [decide_eq_true h3] at k3
        have he : Hid (Nv.num x y = -1) := if_neg (by rw [Gr.inB_iff]; omega)
        clear k4 ha hb
        go_enter Try.func27, Try.ntmps27
        go_wp2
        go_ret
        exact ⟨ret_int (unhide he).symm, rfl⟩
      · rw [decide_eq_false h3] at k3
        by_cases h4 : 16 ≤ y
        · rw [decide_eq_true h4] at k4
          have he : Hid (Nv.num x y = -1) := if_neg (by rw [Gr.inB_iff]; omega)
          clear ha hb
          go_enter Try.func27, Try.ntmps27
          go_wp2
          go_ret
          exact ⟨ret_int (unhide he).symm, rfl⟩
        · rw [decide_eq_false h4] at k4
          have he : Hid (Nv.num x y = y * 24 + x) := if_pos (by rw [Gr.inB_iff]; omega)
          have t1 := ha.2 (by omega) (by omega)
          have t2 := hb.2 (by omega) (by omega)
          have hr1 := fun w : World => run_convert_float_int (P := Try.prog) w 65 3 .f64 .i64 a _ (by kernel_rfl) (by kernel_rfl) t1
          have hr2 := fun w : World => run_convert_float_int (P := Try.prog) w 65 3 .f64 .i64 b _ (by kernel_rfl) (by kernel_rfl) t2
          clear t1 t2 ha hb
          go_enter Try.func27, Try.ntmps27
          go_wp2
          go_ret
          exact ⟨ret_int (unhide he).symm, rfl⟩

theorem step_any (n : Int) (w : World) : Calls Try.prog 30 #[.int .i64 n] w fun e w' => e = .returned (.complex .f64 (floatOfInt .f64 (Fx.way n).1) (floatOfInt .f64 (Fx.way n).2)) ∧ w' = w := by
  go_enter Try.func30, Try.ntmps30
  go_wp2_with (first | (go_at_call 38; refine (way_any _ _).mono ?_; rintro e w' ⟨rfl, hw⟩; subst w') | (go_at_call 26; refine (point_any _ _ _).mono ?_; rintro e w' ⟨rfl, hw⟩; subst w'))
  go_ret
  exact ⟨rfl, rfl⟩

/-- The way whose step is (dx, dy); 0: there is none. -/
def Nv.besideFrom (dx dy : Int) : Nat → Nat → Int
  | 0, _ => 0
  | m + 1, k => if (Fx.way (k : Int)).1 = dx ∧ (Fx.way (k : Int)).2 = dy then (k : Int) else Nv.besideFrom dx dy m (k + 1)

def Nv.beside (dx dy : Int) : Int := Nv.besideFrom dx dy 4 1

/-- The number of a cell at any place that is an int64's. -/
theorem numberAt_any (x y : Int) (w : World) (h1 : -9223372036854775808 ≤ x) (h2 : x ≤ 9223372036854775807) (h3 : -9223372036854775808 ≤ y) (h4 : y ≤ 9223372036854775807) : Calls Try.prog 27 #[.complex .f64 (floatOfInt .f64 x) (floatOfInt .f64 y)] w fun e w' => e = .returned (.int .i64 (Nv.num x y)) ∧ w' = w :=
  navNumber_any _ _ x y w (Fl.std_int x h1 h2) (Fl.std_int y h3 h4)

theorem step_rep (n : Int) (w : World) : Calls Try.prog 30 #[.int .i64 n] w fun e w' => ∃ a b, e = .returned (.complex .f64 a b) ∧ Fl.Rep a (Fx.way n).1 ∧ Fl.Rep b (Fx.way n).2 ∧ w' = w := by
  have hb := Fx.way_bd n
  refine (step_any n w).mono ?_
  rintro e w' ⟨rfl, rfl⟩
  exact ⟨_, _, rfl, Fl.rep_int _ (by omega) (by omega), Fl.rep_int _ (by omega) (by omega), rfl⟩

theorem wrap64_id (n : Int) (h : -9223372036854775808 ≤ n ∧ n ≤ 9223372036854775807) : wrap64 n = n := by unfold wrap64; omega

theorem wrap64_bd (z : Int) : -9223372036854775808 ≤ wrap64 z ∧ wrap64 z ≤ 9223372036854775807 := by unfold wrap64; omega

theorem Nv.from_hit {dx dy : Int} : ∀ (m k i : Nat), (∀ j, i ≤ j → j < k → ¬ ((Fx.way (j : Int)).1 = dx ∧ (Fx.way (j : Int)).2 = dy)) → ((Fx.way (k : Int)).1 = dx ∧ (Fx.way (k : Int)).2 = dy) → i ≤ k → k < i + m → Nv.besideFrom dx dy m i = (k : Int)
  | 0, k, i, _, _, h1, h2 => by omega
  | m + 1, k, i, hno, hk, h1, h2 => by
      unfold Nv.besideFrom
      by_cases e : i = k
      · rw [e, if_pos hk]
      · rw [if_neg (hno i (Nat.le_refl _) (by omega)), Nv.from_hit m k (i + 1) (fun j hj1 hj2 => hno j (by omega) hj2) hk (by omega) (by omega)]

theorem Nv.from_none {dx dy : Int} : ∀ (m i : Nat), (∀ j, i ≤ j → j < i + m → ¬ ((Fx.way (j : Int)).1 = dx ∧ (Fx.way (j : Int)).2 = dy)) → Nv.besideFrom dx dy m i = 0
  | 0, _, _ => rfl
  | m + 1, i, hno => by
      unfold Nv.besideFrom
      rw [if_neg (hno i (Nat.le_refl _) (by omega)), Nv.from_none m (i + 1) (fun j hj1 hj2 => hno j (by omega) (by omega))]

set_option maxHeartbeats 800000 in
theorem beside_any (x0 y0 x1 y1 : Int) (w : World) :
    Calls Try.prog 15 #[.int .i64 x0, .int .i64 y0, .int .i64 x1, .int .i64 y1] w fun e w' => e = .returned (.int .i64 (Nv.beside (wrap64 (x1 - x0)) (wrap64 (y1 - y0)))) ∧ w' = w := by
  obtain ⟨DX, hx⟩ : ∃ D, D = wrap64 (x1 - x0) := ⟨_, rfl⟩
  obtain ⟨DY, hy⟩ : ∃ D, D = wrap64 (y1 - y0) := ⟨_, rfl⟩
  have bx := hide (Fl.std_int DX (by rw [hx]; exact (wrap64_bd _).1) (by rw [hx]; exact (wrap64_bd _).2))
  have by' := hide (Fl.std_int DY (by rw [hy]; exact (wrap64_bd _).1) (by rw [hy]; exact (wrap64_bd _).2))
  have hx' := hide hx
  have hy' := hide hy
  rw [← hx, ← hy]
  clear hx hy
  go_enter Try.func15, Try.ntmps15
  go_wp2_with (go_at_call 26; refine (point_any _ _ _).mono ?_; rintro e w' ⟨rfl, hw⟩; subst w'; rw [← unhide hx', ← unhide hy'])
  generalize hA : floatOfInt FloatKind.f64 DX = A at bx
  generalize hB : floatOfInt FloatKind.f64 DY = B at by'
  go_loop [10] (fun i => ∃ k : Nat, 1 ≤ k ∧ k ≤ 5 ∧ i = .int .i64 (k : Int) ∧ ∀ j : Nat, 1 ≤ j → j < k → ¬ ((Fx.way (j : Int)).1 = DX ∧ (Fx.way (j : Int)).2 = DY)) (fun i => 5 - (intOf i).toNat)
  case atStart => exact ⟨1, by omega, by omega, rfl, fun j h1 h2 => by omega⟩
  case round =>
    obtain ⟨k, h1, h5, rfl, hno⟩ := hrel
    have hno' := hide hno
    clear hno hA hB
    by_cases hlt : k ≤ 4
    · have hlt' : (k : Int) ≤ 4 := by omega
      have HL := hide hlt
      have H1 := hide h1
      clear hlt h1 h5
      have hwb := hide (Fx.way_bd (k : Int))
      go_wp2_with fail
      refine (step_rep _ _).mono ?_
      rintro e w1 ⟨a, b, rfl, ra, rb, rfl⟩
      have wb := unhide hwb
      have k1 : (FloatKind.f64.format.order a A == some .eq) = decide ((Fx.way (k : Int)).1 = DX) := by
        rw [show FloatKind.f64.format = Ieee.double from rfl, ((unhide bx).1 _ _ ra (by omega) (by omega)).2, Fl.beq_eq]
      have k2 : (FloatKind.f64.format.order b B == some .eq) = decide ((Fx.way (k : Int)).2 = DY) := by
        rw [show FloatKind.f64.format = Ieee.double from rfl, ((unhide by').1 _ _ rb (by omega) (by omega)).2, Fl.beq_eq]
      clear ra rb wb
      by_cases hq : (Fx.way (k : Int)).1 = DX ∧ (Fx.way (k : Int)).2 = DY
      · rw [decide_eq_true hq.1] at k1
        rw [decide_eq_true hq.2] at k2
        have he : Hid (Nv.beside DX DY = (k : Int)) := Nv.from_hit 4 k 1 (unhide hno') hq (unhide H1) (by have := unhide HL; omega)
        clear hq
        go_wp2
        go_ret
        exact ⟨ret_int (unhide he).symm, rfl⟩
      · have k3 : (FloatKind.f64.format.order a A == some .eq && FloatKind.f64.format.order b B == some .eq) = false := by
          rw [k1, k2]
          by_cases h : (Fx.way (k : Int)).1 = DX
          · rw [decide_eq_false (fun h2 => hq ⟨h, h2⟩), Bool.and_false]
          · rw [decide_eq_false h, Bool.false_and]
        have hq' := hide hq
        clear k1 k2 hq
        go_wp2
        go_round
        case rel => exact ⟨k + 1, by have := unhide H1; omega, by have := unhide HL; omega, by go_num, fun j h1 h2 => by
          by_cases e : j = k
          · rw [e]; exact unhide hq'
          · exact unhide hno' j h1 (by omega)⟩
        case measure => have := unhide HL; simp [intOf]; omega
    · have hge : ¬ (k : Int) ≤ 4 := by omega
      have he : Hid (Nv.beside DX DY = 0) := Nv.from_none 4 1 fun j h1 h2 => unhide hno' j h1 (by omega)
      go_wp2
      go_ret
      exact ⟨ret_int (unhide he).symm, rfl⟩

end Go.Proofs.Ythofgjphoahkfaa
