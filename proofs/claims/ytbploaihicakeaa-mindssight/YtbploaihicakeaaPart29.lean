/-
  What the small functions of nav, and of the document's chapter said again, answer: a place as a complex number, the number of a cell, the step of a way, the way to a cell that is next.
  Where entities stand, cell by cell: what nav's taken makes of a list.
  The first step to the nearest of some targets: what it is, and that nav's Toward answers it.
  The nearest cell where nobody stands: what it is, and that nav's Spot answers it.
-/
import Derived.Test.YtbploaihicakeaaPart28
import Derived.Test.YtbploaihicakeaaPart01
import Derived.Test.YtbploaihicakeaaPart02
import Derived.Test.YtbploaihicakeaaPart09
import Derived.Test.YtbploaihicakeaaPart06
import Derived.BigQuiet
namespace Go.Proofs.Ytbploaihicakeaa
open Go.RowKit

/-- A float64 that stands for a whole number as far as small numbers go. -/
def Fl.Std (a : Nat) (x : Int) : Prop :=
  (∀ b y, Fl.Rep b y → -4503599627370496 < y → y < 4503599627370496 → Ieee.double.order a b = some (compare x y) ∧ Ieee.double.order b a = some (compare y x)) ∧ (-9007199254740992 < x → x < 9007199254740992 → floatToIntVal .f64 a .i64 = some x)

theorem Fl.std_int (x : Int) (h1 : -9223372036854775808 ≤ x) (h2 : x ≤ 9223372036854775807) : Fl.Std (floatOfInt .f64 x) x :=
  ⟨fun _ _ hb h3 h4 => Fl.order_int x h1 h2 hb h3 h4, fun h3 h4 => Fl.rep_toInt (Fl.rep_int x h3 h4) h3 h4⟩

theorem Fl.std_rep {a : Nat} {x : Int} (h : Fl.Rep a x) : Fl.Std a x :=
  ⟨fun _ _ hb _ _ => ⟨Fl.order_rep h hb, Fl.order_rep hb h⟩, fun h3 h4 => Fl.rep_toInt h h3 h4⟩

/-- The number of the cell at a place; -1: there is none. -/
def Nv.num (x y : Int) : Int := if Gr.inB x y = true then y * 24 + x else -1

theorem point_any (x y : Int) (w : World) : Calls Try.prog 88 #[.int .i64 x, .int .i64 y] w fun e w' => e = .returned (.complex .f64 (floatOfInt .f64 x) (floatOfInt .f64 y)) ∧ w' = w := by
  go_enter Try.func88, Try.ntmps88
  go_wp2
  go_ret
  exact ⟨rfl, rfl⟩

set_option maxHeartbeats 800000 in
theorem navNumber_any (a b : Nat) (x y : Int) (w : World) (ha : Fl.Std a x) (hb : Fl.Std b y) : Calls Try.prog 90 #[.complex .f64 a b] w fun e w' => e = .returned (.int .i64 (Nv.num x y)) ∧ w' = w := by
  have k1 : (FloatKind.f64.format.order a 0 == some .lt) = decide (x < 0) := by
    rw [show FloatKind.f64.format = Ieee.double from rfl, (ha.1 0 0 Fl.rep_0 (by omega) (by omega)).1, Fl.beq_lt]
  have k2 : (FloatKind.f64.format.order a 4627448617123184640 == some .gt || FloatKind.f64.format.order a 4627448617123184640 == some .eq) = decide (24 ≤ x) := by
    rw [show FloatKind.f64.format = Ieee.double from rfl, (ha.1 _ 24 Fl.rep_24 (by omega) (by omega)).1, Fl.beq_ge]
  have k3 : (FloatKind.f64.format.order b 0 == some .lt) = decide (y < 0) := by
    rw [show FloatKind.f64.format = Ieee.double from rfl, (hb.1 0 0 Fl.rep_0 (by omega) (by omega)).1, Fl.beq_lt]
  have k4 : (FloatKind.f64.format.order b 4625196817309499392 == some .gt || FloatKind.f64.format.order b 4625196817309499392 == some .eq) = decide (16 ≤ y) := by
    rw [show FloatKind.f64.format = Ieee.double from rfl, (hb.1 _ 16 Fl.rep_16 (by omega) (by omega)).1, Fl.beq_ge]
  by_cases h1 : x < 0
  · rw [decide_eq_true h1] at k1
    have he : Hid (Nv.num x y = -1) := if_neg (by rw [Gr.inB_iff]; omega)
    clear k2 k3 k4 ha hb
    go_enter Try.func90, Try.ntmps90
    go_wp2
    go_ret
    exact ⟨ret_int (unhide he).symm, rfl⟩
  · rw [decide_eq_false h1] at k1
    by_cases h2 : 24 ≤ x
    · rw [decide_eq_true h2] at k2
      have he : Hid (Nv.num x y = -1) := if_neg (by rw [Gr.inB_iff]; omega)
      clear k3 k4 ha hb
      go_enter Try.func90, Try.ntmps90
      go_wp2
      go_ret
      exact ⟨ret_int (unhide he).symm, rfl⟩
    · rw [decide_eq_false h2] at k2
      by_cases h3 : y < 0
      · rw [decide_eq_true h3] at k3
        have he : Hid (Nv.num x y = -1) := if_neg (by rw [Gr.inB_iff]; omega)
        clear k4 ha hb
        go_enter Try.func90, Try.ntmps90
        go_wp2
        go_ret
        exact ⟨ret_int (unhide he).symm, rfl⟩
      · rw [decide_eq_false h3] at k3
        by_cases h4 : 16 ≤ y
        · rw [decide_eq_true h4] at k4
          have he : Hid (Nv.num x y = -1) := if_neg (by rw [Gr.inB_iff]; omega)
          clear ha hb
          go_enter Try.func90, Try.ntmps90
          go_wp2
          go_ret
          exact ⟨ret_int (unhide he).symm, rfl⟩
        · rw [decide_eq_false h4] at k4
          have he : Hid (Nv.num x y = y * 24 + x) := if_pos (by rw [Gr.inB_iff]; omega)
          have t1 := ha.2 (by omega) (by omega)
          have t2 := hb.2 (by omega) (by omega)
          have hr1 := fun w : World => run_convert_float_int (P := Try.prog) w 116 3 .f64 .i64 a _ (by kernel_rfl) (by kernel_rfl) t1
          have hr2 := fun w : World => run_convert_float_int (P := Try.prog) w 116 3 .f64 .i64 b _ (by kernel_rfl) (by kernel_rfl) t2
          clear t1 t2 ha hb
          go_enter Try.func90, Try.ntmps90
          go_wp2
          go_ret
          exact ⟨ret_int (unhide he).symm, rfl⟩

theorem step_any (n : Int) (w : World) : Calls Try.prog 89 #[.int .i64 n] w fun e w' => e = .returned (.complex .f64 (floatOfInt .f64 (Fx.way n).1) (floatOfInt .f64 (Fx.way n).2)) ∧ w' = w := by
  go_enter Try.func89, Try.ntmps89
  go_wp2_with (first | (go_at_call 98; refine (way_any _ _).mono ?_; rintro e w' ⟨rfl, hw⟩; subst w') | (go_at_call 88; refine (point_any _ _ _).mono ?_; rintro e w' ⟨rfl, hw⟩; subst w'))
  go_ret
  exact ⟨rfl, rfl⟩

/-- The way whose step is (dx, dy); 0: there is none. -/
def Nv.besideFrom (dx dy : Int) : Nat → Nat → Int
  | 0, _ => 0
  | m + 1, k => if (Fx.way (k : Int)).1 = dx ∧ (Fx.way (k : Int)).2 = dy then (k : Int) else Nv.besideFrom dx dy m (k + 1)

def Nv.beside (dx dy : Int) : Int := Nv.besideFrom dx dy 4 1

/-- The number of a cell at any place that is an int64's. -/
theorem numberAt_any (x y : Int) (w : World) (h1 : -9223372036854775808 ≤ x) (h2 : x ≤ 9223372036854775807) (h3 : -9223372036854775808 ≤ y) (h4 : y ≤ 9223372036854775807) : Calls Try.prog 90 #[.complex .f64 (floatOfInt .f64 x) (floatOfInt .f64 y)] w fun e w' => e = .returned (.int .i64 (Nv.num x y)) ∧ w' = w :=
  navNumber_any _ _ x y w (Fl.std_int x h1 h2) (Fl.std_int y h3 h4)

theorem step_rep (n : Int) (w : World) : Calls Try.prog 89 #[.int .i64 n] w fun e w' => ∃ a b, e = .returned (.complex .f64 a b) ∧ Fl.Rep a (Fx.way n).1 ∧ Fl.Rep b (Fx.way n).2 ∧ w' = w := by
  have hb := Fx.way_bd n
  refine (step_any n w).mono ?_
  rintro e w' ⟨rfl, rfl⟩
  exact ⟨_, _, rfl, Fl.rep_int _ (by omega) (by omega), Fl.rep_int _ (by omega) (by omega), rfl⟩

theorem wrap64_id (n : Int) (h : -9223372036854775808 ≤ n ∧ n ≤ 9223372036854775807) : wrap64 n = n := by unfold wrap64; omega

theorem wrap64_bd (z : Int) : -9223372036854775808 ≤ wrap64 z ∧ wrap64 z ≤ 9223372036854775807 := by unfold wrap64; omega

theorem Nv.from_hit {dx dy : Int} : ∀ (m k i : Nat), (∀ j, i ≤ j → j < k → ¬ ((Fx.way (j : Int)).1 = dx ∧ (Fx.way (j : Int)).2 = dy)) → ((Fx.way (k : Int)).1 = dx ∧ (Fx.way (k : Int)).2 = dy) → i ≤ k → k < i + m → Nv.besideFrom dx dy m i = (k : Int)
  | 0, k, i, _, _, h1, h2 => by omega
  | m + 1, k, i, hno, hk, h1, h2 => by
      unfold Nv.besideFrom
      by_cases e : i = k
      · rw [e, if_pos hk]
      · rw [if_neg (hno i (Nat.le_refl _) (by omega)), Nv.from_hit m k (i + 1) (fun j hj1 hj2 => hno j (by omega) hj2) hk (by omega) (by omega)]

theorem Nv.from_none {dx dy : Int} : ∀ (m i : Nat), (∀ j, i ≤ j → j < i + m → ¬ ((Fx.way (j : Int)).1 = dx ∧ (Fx.way (j : Int)).2 = dy)) → Nv.besideFrom dx dy m i = 0
  | 0, _, _ => rfl
  | m + 1, i, hno => by
      unfold Nv.besideFrom
      rw [if_neg (hno i (Nat.le_refl _) (by omega)), Nv.from_none m (i + 1) (fun j hj1 hj2 => hno j (by omega) (by omega))]

set_option maxHeartbeats 800000 in
theorem beside_any (x0 y0 x1 y1 : Int) (w : World) :
    Calls Try.prog 77 #[.int .i64 x0, .int .i64 y0, .int .i64 x1, .int .i64 y1] w fun e w' => e = .returned (.int .i64 (Nv.beside (wrap64 (x1 - x0)) (wrap64 (y1 - y0)))) ∧ w' = w := by
  obtain ⟨DX, hx⟩ : ∃ D, D = wrap64 (x1 - x0) := ⟨_, rfl⟩
  obtain ⟨DY, hy⟩ : ∃ D, D = wrap64 (y1 - y0) := ⟨_, rfl⟩
  have bx := hide (Fl.std_int DX (by rw [hx]; exact (wrap64_bd _).1) (by rw [hx]; exact (wrap64_bd _).2))
  have by' := hide (Fl.std_int DY (by rw [hy]; exact (wrap64_bd _).1) (by rw [hy]; exact (wrap64_bd _).2))
  have hx' := hide hx
  have hy' := hide hy
  rw [← hx, ← hy]
  clear hx hy
  go_enter Try.func77, Try.ntmps77
  go_wp2_with (go_at_call 88; refine (point_any _ _ _).mono ?_; rintro e w' ⟨rfl, hw⟩; subst w'; rw [← unhide hx', ← unhide hy'])
  generalize hA : floatOfInt FloatKind.f64 DX = A at bx
  generalize hB : floatOfInt FloatKind.f64 DY = B at by'
  go_loop [10] (fun i => ∃ k : Nat, 1 ≤ k ∧ k ≤ 5 ∧ i = .int .i64 (k : Int) ∧ ∀ j : Nat, 1 ≤ j → j < k → ¬ ((Fx.way (j : Int)).1 = DX ∧ (Fx.way (j : Int)).2 = DY)) (fun i => 5 - (intOf i).toNat)
  case atStart => exact ⟨1, by omega, by omega, rfl, fun j h1 h2 => by omega⟩
  case round =>
    obtain ⟨k, h1, h5, rfl, hno⟩ := hrel
    have hno' := hide hno
    clear hno hA hB
    by_cases hlt : k ≤ 4
    · have hlt' : (k : Int) ≤ 4 := by omega
      have HL := hide hlt
      have H1 := hide h1
      clear hlt h1 h5
      have hwb := hide (Fx.way_bd (k : Int))
      go_wp2_with fail
      refine (step_rep _ _).mono ?_
      rintro e w1 ⟨a, b, rfl, ra, rb, rfl⟩
      have wb := unhide hwb
      have k1 : (FloatKind.f64.format.order a A == some .eq) = decide ((Fx.way (k : Int)).1 = DX) := by
        rw [show FloatKind.f64.format = Ieee.double from rfl, ((unhide bx).1 _ _ ra (by omega) (by omega)).2, Fl.beq_eq]
      have k2 : (FloatKind.f64.format.order b B == some .eq) = decide ((Fx.way (k : Int)).2 = DY) := by
        rw [show FloatKind.f64.format = Ieee.double from rfl, ((unhide by').1 _ _ rb (by omega) (by omega)).2, Fl.beq_eq]
      clear ra rb wb
      by_cases hq : (Fx.way (k : Int)).1 = DX ∧ (Fx.way (k : Int)).2 = DY
      · rw [decide_eq_true hq.1] at k1
        rw [decide_eq_true hq.2] at k2
        have he : Hid (Nv.beside DX DY = (k : Int)) := Nv.from_hit 4 k 1 (unhide hno') hq (unhide H1) (by have := unhide HL; omega)
        clear hq
        go_wp2
        go_ret
        exact ⟨ret_int (unhide he).symm, rfl⟩
      · have k3 : (FloatKind.f64.format.order a A == some .eq && FloatKind.f64.format.order b B == some .eq) = false := by
          rw [k1, k2]
          by_cases h : (Fx.way (k : Int)).1 = DX
          · rw [decide_eq_false (fun h2 => hq ⟨h, h2⟩), Bool.and_false]
          · rw [decide_eq_false h, Bool.false_and]
        have hq' := hide hq
        clear k1 k2 hq
        go_wp2
        go_round
        case rel => exact ⟨k + 1, by have := unhide H1; omega, by have := unhide HL; omega, by go_num, fun j h1 h2 => by
          by_cases e : j = k
          · rw [e]; exact unhide hq'
          · exact unhide hno' j h1 (by omega)⟩
        case measure => have := unhide HL; simp [intOf]; omega
    · have hge : ¬ (k : Int) ≤ 4 := by omega
      have he : Hid (Nv.beside DX DY = 0) := Nv.from_none 4 1 fun j h1 h2 => unhide hno' j h1 (by omega)
      go_wp2
      go_ret
      exact ⟨ret_int (unhide he).symm, rfl⟩

end Go.Proofs.Ytbploaihicakeaa

namespace Go.Proofs.Ytbploaihicakeaa
open Go.RowKit

/-- Does an entity stand at a cell? -/
def Nv.st (E : Nat → Nat → Int) (n : Nat) (c : Nat) : Bool := decide (0 ≤ En.first (En.atQ E ((c % 24 : Nat) : Int) ((c / 24 : Nat) : Int)) n)

/-- What is known of it behind the first k rows. -/
def Nv.stTo (E : Nat → Nat → Int) (n : Nat) : Nat → Nat → Bool
  | 0, _ => false
  | k + 1, c => if Nv.num (E k 3) (E k 4) = (c : Int) then decide (0 ≤ En.first (En.atQ E (E k 3) (E k 4)) n) else Nv.stTo E n k c

theorem Nv.num_at {x y : Int} {c : Nat} (h : Nv.num x y = (c : Int)) : x = ((c % 24 : Nat) : Int) ∧ y = ((c / 24 : Nat) : Int) ∧ c < 384 := by
  unfold Nv.num at h
  split at h
  · rename_i hin
    rw [Gr.inB_iff] at hin
    omega
  · omega

theorem Nv.num_of {c : Nat} (hc : c < 384) : Nv.num ((c % 24 : Nat) : Int) ((c / 24 : Nat) : Int) = (c : Int) := by
  unfold Nv.num
  rw [if_pos (by rw [Gr.inB_iff]; omega)]
  omega

theorem Nv.stTo_eq (E : Nat → Nat → Int) (n : Nat) (c : Nat) : ∀ k, (Nv.stTo E n k c = true → Nv.st E n c = true) ∧ ((∃ j, j < k ∧ Nv.num (E j 3) (E j 4) = (c : Int)) → Nv.stTo E n k c = Nv.st E n c)
  | 0 => ⟨fun h => by simp [Nv.stTo] at h, fun ⟨j, h, _⟩ => by omega⟩
  | k + 1 => by
      obtain ⟨h1, h2⟩ := Nv.stTo_eq E n c k
      unfold Nv.stTo
      by_cases e : Nv.num (E k 3) (E k 4) = (c : Int)
      · rw [if_pos e]
        obtain ⟨ex, ey, _⟩ := Nv.num_at e
        have : decide (0 ≤ En.first (En.atQ E (E k 3) (E k 4)) n) = Nv.st E n c := by unfold Nv.st; rw [← ex, ← ey]
        rw [this]
        exact ⟨id, fun _ => rfl⟩
      · rw [if_neg e]
        refine ⟨h1, fun ⟨j, hj, he⟩ => h2 ⟨j, ?_, he⟩⟩
        by_cases ej : j = k
        · subst ej; exact absurd he e
        · omega

theorem Nv.stTo_all (E : Nat → Nat → Int) (n : Nat) (c : Nat) (hc : c < 384) : Nv.stTo E n n c = Nv.st E n c := by
  obtain ⟨h1, h2⟩ := Nv.stTo_eq E n c n
  by_cases h : Nv.st E n c = true
  · refine h2 ?_
    unfold Nv.st at h
    rw [decide_eq_true_eq] at h
    rcases En.first_cases (En.atQ E ((c % 24 : Nat) : Int) ((c / 24 : Nat) : Int)) n with ⟨h0, _⟩ | ⟨k, hk, _, hq, _⟩
    · omega
    · refine ⟨k, hk, ?_⟩
      simp only [En.atQ, Bool.and_eq_true, decide_eq_true_eq] at hq
      rw [hq.2.1, hq.2.2]
      exact Nv.num_of hc
  · have hn : ¬ Nv.stTo E n n c = true := fun e => h (h1 e)
    rw [Bool.not_eq_true] at h hn
    rw [h, hn]

/-- A list of entities: none; or at the head of a block. -/
def Nv.Lst (w : World) (a : Option Addr) (n c : Nat) (E : Nat → Nat → Int) : Prop := n ≤ 32 ∧ n ≤ c ∧ (n = 0 ∨ ∃ b, a = some ⟨b, 0, none⟩ ∧ Ents w b n E)

theorem Nv.Lst.on {w w' : World} {a : Option Addr} {n c : Nat} {E : Nat → Nat → Int} (h : Nv.Lst w a n c E) (hg : w.grownBy w' none) : Nv.Lst w' a n c E := by
  obtain ⟨h1, h2, h3 | ⟨b, e, hE⟩⟩ := h
  · exact ⟨h1, h2, .inl h3⟩
  · exact ⟨h1, h2, .inr ⟨b, e, hE.on hg⟩⟩

/-- Numbers of an int64. -/
def Nv.Words (n : Nat) (E : Nat → Nat → Int) : Prop := ∀ i, i < n → (-9223372036854775808 ≤ E i 3 ∧ E i 3 ≤ 9223372036854775807) ∧ (-9223372036854775808 ≤ E i 4 ∧ E i 4 ≤ 9223372036854775807)

theorem info_bools : (Try.prog.info? 4).map (fun i => (i.zero, i.size, i.bytes)) = some (some (.bool false), 1, 1) := by kernel_rfl

theorem Nv.st_more {E : Nat → Nat → Int} {n k m : Nat} (hm : Nv.num (E k 3) (E k 4) = (m : Int)) (j : Nat) : (if j = m then Value.bool (decide (0 ≤ En.first (En.atQ E (E k 3) (E k 4)) n)) else .bool (Nv.stTo E n k j)) = .bool (Nv.stTo E n (k + 1) j) := by
  show _ = Value.bool (if Nv.num (E k 3) (E k 4) = (j : Int) then _ else _)
  rw [hm]
  by_cases e : j = m
  · rw [if_pos e, if_pos (by omega)]
  · rw [if_neg e, if_neg (by omega)]

theorem Nv.st_same {E : Nat → Nat → Int} {n k : Nat} (hm : Nv.num (E k 3) (E k 4) = -1) (j : Nat) : Nv.stTo E n k j = Nv.stTo E n (k + 1) j := by
  show _ = if Nv.num (E k 3) (E k 4) = (j : Int) then _ else _
  rw [hm, if_neg (by omega)]

theorem Nv.num_cases (x y : Int) : Nv.num x y = -1 ∨ ∃ m : Nat, m < 384 ∧ Nv.num x y = (m : Int) := by
  unfold Nv.num
  by_cases h : Gr.inB x y = true
  · rw [if_pos h]
    rw [Gr.inB_iff] at h
    exact .inr ⟨(y * 24 + x).toNat, by omega, by omega⟩
  · rw [if_neg h]; exact .inl rfl

set_option maxRecDepth 8000 in
set_option maxHeartbeats 1600000 in
theorem taken_any (a : Option Addr) (n c : Nat) (E : Nat → Nat → Int) (w : World) (hL : Nv.Lst w a n c E) (hW : Nv.Words n E) :
    Calls Try.prog 91 #[.slice a n c] w (Made w 4 384 (Bols (Nv.st E n))) := by
  have hn := hL.1
  have hL' := hide hL
  have hW' := hide hW
  obtain ⟨i0, hi, hz0, hz1, hz2⟩ := info_parts info_bools
  clear hL hW
  go_enter Try.func91, Try.ntmps91
  obtain ⟨G, hG⟩ : ∃ G, G = w.heap.size := ⟨_, rfl⟩
  have hG' := hide hG
  clear hG
  go_wp2_with (at_make; refine wpList_make_full _ rfl _ _ 70 rfl G 4 i0 (.bool false) 1 Try.underlying70 hi hz0 hz1 .i64 .i64 _ _ 384 rfl rfl rfl rfl ?q3 ?q4 (Nat.le_of_eq (unhide hG')) ?_)
  case q3 => rw [hz2]; omega
  case q4 => unfold maxLen; omega
  intro w2 hown hgrow
  rw [← unhide hG'] at hown ⊢
  have hA := hide (Arr.zero hown)
  have hB0 : Below G w w2 := (Below.refl _ _).grown hgrow (Nat.le_of_eq (unhide hG')) (by intro k hk; cases hk)
  clear hown hgrow hi hz0 hz1 hz2
  go_wp2_with fail
  go_loopw [10] (fun i wr => ∃ k : Nat, k ≤ n ∧ i = .int .i64 (k : Int) ∧ Arr wr G 4 384 (Bols (Nv.stTo E n k)) ∧ Below G w wr) (fun i _ => 40 - (intOf i).toNat)
  case atStart => exact ⟨0, Nat.zero_le _, rfl, unhide hA, hB0⟩
  case round =>
    obtain ⟨k, hk, rfl, hA1, hB1⟩ := hrel
    have hA2 := hide hA1
    have hB2 := hide hB1
    clear hA1 hA hB0 hB1
    by_cases hlt : k < n
    · obtain ⟨_, hnc, h0 | ⟨b, rfl, hE⟩⟩ := unhide hL'
      · omega
      have hgr : w.grownBy wr none := below_grown (by rw [← unhide hG']; exact unhide hB2)
      obtain ⟨u0, u1, u2, u3, u4, u5, u6, u7, u8, u9, u10⟩ := (hE.on hgr).row hlt
      have hE' := hide (hE.on hgr)
      have hlt' : (k : Int) < (n : Int) := by omega
      have HL := hide hlt
      have hww := hide (unhide hW' k hlt)
      obtain ⟨X, hX⟩ : ∃ X, X = E k 3 := ⟨_, rfl⟩
      obtain ⟨Y, hY⟩ : ∃ Y, Y = E k 4 := ⟨_, rfl⟩
      rw [← hX] at u3
      rw [← hY] at u4
      rw [← hX, ← hY] at hww
      have hX' := hide hX
      have hY' := hide hY
      clear hE hgr hlt hX hY
      go_wp2_with fail
      refine (point_any _ _ _).mono ?_
      rintro e w1 ⟨rfl, rfl⟩
      go_wp2_with fail
      obtain ⟨⟨x1, x2⟩, y1, y2⟩ := unhide hww
      refine (numberAt_any X Y _ x1 x2 y1 y2).mono ?_
      rintro e w1 ⟨rfl, rfl⟩
      clear x1 x2 y1 y2
      clear u0 u1 u2 u3 u4 u5 u6 u7 u8 u9 u10
      rcases Nv.num_cases X Y with hm | ⟨m, hm, hme⟩
      · rw [hm]
        have hs : Hid (∀ j, Nv.stTo E n k j = Nv.stTo E n (k + 1) j) := fun j => Nv.st_same (by rw [← unhide hX', ← unhide hY']; exact hm) j
        clear hm
        go_wp2
        go_roundw
        case rel => exact ⟨k + 1, by have := unhide HL; omega, by go_num, ((unhide hA2).alloc _).congr fun j _ => by show Value.bool _ = Value.bool _; rw [unhide hs j], (unhide hB2).alloc (Nat.le_of_lt (unhide hA2).lt) _⟩
        case measure => have := unhide HL; simp [intOf]; omega
      · rw [hme]
        have hs : Hid (∀ j, (if j = m then Value.bool (decide (0 ≤ En.first (En.atQ E X Y) n)) else .bool (Nv.stTo E n k j)) = .bool (Nv.stTo E n (k + 1) j)) := fun j => by
          rw [unhide hX', unhide hY']
          exact Nv.st_more (by rw [← unhide hX', ← unhide hY']; exact hme) j
        have hm' : (m : Int) < 384 := by omega
        have HM := hide hm
        clear hm hme
        go_wp2_with fail
        refine (entAt_any b n c E X Y _ ((unhide hE').on (World.grownBy_alloc _ _ _)) hnc).mono ?_
        rintro e w1 ⟨rfl, hg⟩
        have hg1 := grown_trans (World.grownBy_alloc _ _ _) hg
        have hA3 := hide ((unhide hA2).grown hg1 (by simp))
        have hB3 : Hid (Below G w w1) := (unhide hB2).trans (none_below hg1 |>.mono (Nat.le_of_lt (unhide hA2).lt))
        have hcc := (unhide hA3).cell (unhide HM)
        have hff := (unhide hA3).free m
        generalize En.first (En.atQ E X Y) n = r at hs
        clear hg hg1
        go_wp2
        go_roundw
        case rel => exact ⟨k + 1, by have := unhide HL; omega, by go_num, ((unhide hA3).store m _).congr fun j _ => unhide hs j, (unhide hB3).setCell (Nat.le_refl _) _⟩
        case measure => have := unhide HL; simp [intOf]; omega
    · have hge : ¬ (k : Int) < (n : Int) := by omega
      obtain rfl : k = n := by omega
      have hA3 := hide ((unhide hA2).congr (G := Bols (Nv.st E k)) fun j hj => by show Value.bool _ = Value.bool _; rw [Nv.stTo_all E k j hj])
      clear hA2 hk hlt
      go_wp2
      go_ret
      exact ⟨G, rfl, Nat.le_of_eq (unhide hG').symm, unhide hA3, by rw [← unhide hG']; exact unhide hB2⟩

end Go.Proofs.Ytbploaihicakeaa

namespace Go.Proofs.Ytbploaihicakeaa
open Go.RowKit

/-- Where somebody stands, but at one cell. -/
def Nv.blk (E : Nat → Nat → Int) (n m : Nat) (c : Nat) : Bool := if c = m then false else Nv.st E n c

/-- The first of the ways that a test lets by; 0: there is none. -/
def Nv.wayFrom (q : Nat → Bool) : Nat → Nat → Int
  | 0, _ => 0
  | m + 1, k => if q k = true then (k : Int) else Nv.wayFrom q m (k + 1)

theorem Nv.way_hit {q : Nat → Bool} : ∀ (m k i : Nat), (∀ j, i ≤ j → j < k → q j = false) → q k = true → i ≤ k → k < i + m → Nv.wayFrom q m i = (k : Int)
  | 0, k, i, _, _, h1, h2 => by omega
  | m + 1, k, i, hno, hk, h1, h2 => by
      unfold Nv.wayFrom
      by_cases e : i = k
      · rw [e, if_pos hk]
      · rw [if_neg (by rw [hno i (Nat.le_refl _) (by omega)]; simp), Nv.way_hit m k (i + 1) (fun j hj1 hj2 => hno j (by omega) hj2) hk (by omega) (by omega)]

theorem Nv.way_none {q : Nat → Bool} : ∀ (m i : Nat), (∀ j, i ≤ j → j < i + m → q j = false) → Nv.wayFrom q m i = 0
  | 0, _, _ => rfl
  | m + 1, i, hno => by
      unfold Nv.wayFrom
      rw [if_neg (by rw [hno i (Nat.le_refl _) (by omega)]; simp), Nv.way_none m (i + 1) (fun j hj1 hj2 => hno j (by omega) (by omega))]

theorem Nv.way_congr {q r : Nat → Bool} : ∀ (m i : Nat), (∀ j, i ≤ j → j < i + m → q j = r j) → Nv.wayFrom q m i = Nv.wayFrom r m i
  | 0, _, _ => rfl
  | m + 1, i, h => by
      unfold Nv.wayFrom
      rw [h i (Nat.le_refl _) (by omega), Nv.way_congr m (i + 1) (fun j hj1 hj2 => h j (by omega) (by omega))]

/-- The cell one step further, by a way. -/
def Nv.next (m k : Nat) : Int := Nv.num (((m % 24 : Nat) : Int) + (Fx.way (k : Int)).1) (((m / 24 : Nat) : Int) + (Fx.way (k : Int)).2)

/-- May the step be gone? -/
def Nv.may (F : Nat → Int) (st : Nat → Bool) (m k : Nat) : Bool := decide (0 ≤ Nv.next m k) && (decide (F (Nv.next m k).toNat = F m - 1) && !(st (Nv.next m k).toNat))

/-- The step that is gone from cell m. -/
def Nv.step (F : Nat → Int) (st : Nat → Bool) (m : Nat) : Int := if F m < 1 then 0 else Nv.wayFrom (Nv.may F st m) 4 1

theorem Nv.step_congr {F H : Nat → Int} {st : Nat → Bool} {m : Nat} (hm : m < 384) (h : ∀ i, i < 384 → F i = H i) : Nv.step F st m = Nv.step H st m := by
  unfold Nv.step
  rw [h m hm]
  by_cases h1 : H m < 1
  · rw [if_pos h1, if_pos h1]
  · rw [if_neg h1, if_neg h1]
    refine Nv.way_congr 4 1 fun j _ _ => ?_
    unfold Nv.may
    rcases Nv.num_cases (((m % 24 : Nat) : Int) + (Fx.way (j : Int)).1) (((m / 24 : Nat) : Int) + (Fx.way (j : Int)).2) with hn | ⟨p, hp, hn⟩
    · have : ¬ 0 ≤ Nv.next m j := by unfold Nv.next; rw [hn]; omega
      simp [this]
    · have e : Nv.next m j = (p : Int) := hn
      rw [e, Int.toNat_natCast, h p hp, h m hm]

theorem Nv.next_cases (m k : Nat) : Nv.next m k = -1 ∨ ∃ p : Nat, p < 384 ∧ Nv.next m k = (p : Int) := Nv.num_cases _ _

theorem Nv.next_ne {m k p : Nat} (hk : 1 ≤ k) (hk4 : k ≤ 4) (h : Nv.next m k = (p : Int)) : p ≠ m := by
  obtain ⟨e1, e2, _⟩ := Nv.num_at h
  rintro rfl
  rcases (show k = 1 ∨ k = 2 ∨ k = 3 ∨ k = 4 by omega) with rfl | rfl | rfl | rfl
  · rw [show (Fx.way ((1 : Nat) : Int)).2 = -1 from rfl] at e2; omega
  · rw [show (Fx.way ((2 : Nat) : Int)).1 = 1 from rfl] at e1; omega
  · rw [show (Fx.way ((3 : Nat) : Int)).2 = 1 from rfl] at e2; omega
  · rw [show (Fx.way ((4 : Nat) : Int)).1 = -1 from rfl] at e1; omega

theorem Nv.may_out {F : Nat → Int} {st : Nat → Bool} {m k : Nat} (h : Nv.next m k = -1) : Nv.may F st m k = false := by
  unfold Nv.may
  rw [h]
  rfl

theorem Nv.may_in {F : Nat → Int} {st : Nat → Bool} {m k p : Nat} (h : Nv.next m k = (p : Int)) : Nv.may F st m k = (decide (F p = F m - 1) && !(st p)) := by
  unfold Nv.may
  rw [h, Int.toNat_natCast, decide_eq_true (by omega), Bool.true_and]

/-- What Toward answers: from no cell nothing; from a cell the step by the one field that there is. -/
def Nv.IsToward (f t : Nat → Int) (tlen : Nat) (E : Nat → Nat → Int) (n : Nat) (x y v : Int) : Prop :=
  (Nv.num x y = -1 ∧ v = 0) ∨ ∃ (m : Nat) (F : Nat → Int), Nv.num x y = (m : Int) ∧ Gr.IsField (fun i => Gr.openB f 384 (Nv.blk E n m) i = true) (Gr.tgt f t tlen) F ∧ v = Nv.step F (Nv.st E n) m

theorem Nv.IsToward.at {f t : Nat → Int} {tlen : Nat} {E : Nat → Nat → Int} {n : Nat} {x y v : Int} (h : Nv.IsToward f t tlen E n x y v) {m : Nat} (hm : Nv.num x y = (m : Int)) : ∃ F : Nat → Int, Gr.IsField (fun i => Gr.openB f 384 (Nv.blk E n m) i = true) (Gr.tgt f t tlen) F ∧ v = Nv.step F (Nv.st E n) m := by
  rcases h with ⟨h1, _⟩ | ⟨k, F, hk, hF, hv⟩
  · omega
  · obtain rfl : k = m := by omega
    exact ⟨F, hF, hv⟩

theorem Nv.IsToward.one {f t : Nat → Int} {tlen : Nat} {E : Nat → Nat → Int} {n : Nat} {x y v v' : Int} (h : Nv.IsToward f t tlen E n x y v) (h' : Nv.IsToward f t tlen E n x y v') : v' = v := by
  rcases Nv.num_cases x y with hm | ⟨m, hm, hme⟩
  · rcases h with ⟨_, rfl⟩ | ⟨k, F, hk, _⟩
    · rcases h' with ⟨_, rfl⟩ | ⟨k, F, hk, _⟩
      · rfl
      · omega
    · omega
  · obtain ⟨F, hF, rfl⟩ := h.at hme
    obtain ⟨H, hH, rfl⟩ := h'.at hme
    exact Nv.step_congr hm fun i hi => hH.one hF i hi

/-- A call answers what Toward answers; nothing that was there has turned. -/
def Nv.SaysToward (w : World) (f t : Nat → Int) (tlen : Nat) (E : Nat → Nat → Int) (n : Nat) (x y : Int) (e : Ending) (w' : World) : Prop := ∃ v, Nv.IsToward f t tlen E n x y v ∧ e = .returned (.int .i64 v) ∧ w.grownBy w' none

set_option maxRecDepth 8000 in
set_option maxHeartbeats 1600000 in
theorem navToward_any (ca a ta : Option Addr) (cc n c tlen tc : Nat) (f t : Nat → Int) (E : Nat → Nat → Int) (x y : Int) (w : World)
    (hc : Vec w.heap.size w ca 384 (Byts f)) (hf : ∀ i, 0 ≤ f i ∧ f i ≤ 255) (hL : Nv.Lst w a n c E) (hW : Nv.Words n E) (ht : Vec w.heap.size w ta tlen (Ints t)) (htb : ∀ i, -9223372036854775808 ≤ t i ∧ t i ≤ 9223372036854775807)
    (x1 : -9223372036854775808 ≤ x) (x2 : x ≤ 9223372036854775807) (y1 : -9223372036854775808 ≤ y) (y2 : y ≤ 9223372036854775807) :
    Calls Try.prog 78 #[.slice ca 384 cc, .slice a n c, .int .i64 x, .int .i64 y, .slice ta tlen tc] w (Nv.SaysToward w f t tlen E n x y) := by
  have hc' := hide hc
  have hf' := hide hf
  have hL' := hide hL
  have hW' := hide hW
  have ht' := hide ht
  have htb' := hide htb
  have cn := hide (fun w' => numberAt_any x y w' x1 x2 y1 y2)
  clear hc hf hL hW ht htb
  go_enter Try.func78, Try.ntmps78
  go_wp2_with fail
  refine (point_any _ _ _).mono ?_
  rintro e w1 ⟨rfl, rfl⟩
  go_wp2_with fail
  refine (unhide cn _).mono ?_
  rintro e w1 ⟨rfl, rfl⟩
  rcases Nv.num_cases x y with hm | ⟨m, hm, hme⟩
  · rw [hm]
    have he : Hid (Nv.IsToward f t tlen E n x y 0) := .inl ⟨hm, rfl⟩
    clear hm x1 x2 y1 y2
    go_wp2
    go_ret
    exact ⟨0, unhide he, rfl, World.grownBy.refl _ _⟩
  rw [hme]
  have hme' := hide hme
  obtain ⟨ex, ey, _⟩ := Nv.num_at hme
  have hm' : (m : Int) < 384 := by omega
  have HM := hide hm
  have ex' := hide ex
  have ey' := hide ey
  clear hm hme x1 x2 y1 y2 cn ex ey
  go_wp2_with fail
  refine (taken_any a n c E _ (unhide hL') (unhide hW')).mono ?_
  rintro e w2 ⟨g, rfl, hg, hA, hB⟩
  have hcc := hA.cell (unhide HM)
  have hff := hA.free m
  obtain ⟨w3, hw3⟩ : ∃ w3, w3 = w2.setCell ⟨g, m, none⟩ (.bool false) := ⟨_, rfl⟩
  have hA3 : Arr w3 g 4 384 (Bols (Nv.blk E n m)) := by
    rw [hw3]
    refine (hA.store m (.bool false)).congr fun j _ => ?_
    show _ = Value.bool (if j = m then false else Nv.st E n j)
    by_cases e : j = m
    · rw [if_pos e, if_pos e]
    · rw [if_neg e, if_neg e]; rfl
  have hB3 : Below w1.heap.size w1 w3 := by rw [hw3]; exact hB.setCell hg _
  have hw3' := hide hw3
  have hA3' := hide hA3
  have hB3' := hide hB3
  have cF := hide (field_any ca (some ⟨g, 0, none⟩) ta 384 tlen cc 384 tc f t (Nv.blk E n m) w3 (((unhide hc').kept hB3).mono hB3.size) (unhide hf') (hA3.vec _ hA3.lt (by unfold maxLen; omega)) (((unhide ht').kept hB3).mono hB3.size) (unhide htb'))
  clear hA hB hA3 hB3 hw3
  go_wp2_with fail
  rw [← unhide hw3']
  refine (unhide cF).mono ?_
  rintro e w4 ⟨F, ⟨g2, rfl, hg2, hA4, hB4⟩, hF⟩
  have hstep : Nv.IsToward f t tlen E n x y (Nv.step F (Nv.st E n) m) := .inr ⟨m, F, unhide hme', hF, rfl⟩
  have hgw : w1.grownBy w4 none := below_grown ((unhide hB3').trans (hB4.mono (unhide hB3').size))
  have hAb := (unhide hA3').kept hB4 (unhide hA3').lt
  have hhi : F m ≤ 400 := by
    by_cases h0 : 0 ≤ F m
    · have := fieldHigh hF (F m).toNat m (unhide HM) (by omega)
      omega
    · omega
  have hAb' := hide hAb
  have hA4' := hide hA4
  have hgw' := hide hgw
  have hst' := hide hstep
  have hc4 : w4.cell? ⟨g2, m, none⟩ = some (.int .i64 (F m)) := hA4.cell (unhide HM)
  have rA := hide (Fl.rep_int x (by rw [unhide ex']; omega) (by rw [unhide ex']; omega))
  have rB := hide (Fl.rep_int y (by rw [unhide ey']; omega) (by rw [unhide ey']; omega))
  generalize floatOfInt FloatKind.f64 x = A at *
  generalize floatOfInt FloatKind.f64 y = B at *
  clear hAb hA4 hgw hstep hg2 hB4 cF hcc hff hw3' hA3' hB3' hF hme'
  by_cases hlo : F m < 1
  · have hr : Hid (Nv.IsToward f t tlen E n x y 0) := by
      have h := unhide hst'
      rwa [show Nv.step F (Nv.st E n) m = 0 from if_pos hlo] at h
    go_wp2
    go_ret
    exact ⟨0, unhide hr, rfl, unhide hgw'⟩
  have hr : Hid (Nv.IsToward f t tlen E n x y (Nv.wayFrom (Nv.may F (Nv.st E n) m) 4 1)) := by
    have h := unhide hst'
    rwa [show Nv.step F (Nv.st E n) m = Nv.wayFrom (Nv.may F (Nv.st E n) m) 4 1 from if_neg hlo] at h
  clear hst'
  go_wp2_with fail
  go_loopw [15] (fun i wr => ∃ k : Nat, 1 ≤ k ∧ k ≤ 5 ∧ i = .int .i64 (k : Int) ∧ (∀ j : Nat, 1 ≤ j → j < k → Nv.may F (Nv.st E n) m j = false) ∧ w4.grownBy wr none) (fun i _ => 5 - (intOf i).toNat)
  case atStart => exact ⟨1, by omega, by omega, rfl, fun j h1 h2 => by omega, World.grownBy.refl _ _⟩
  case round =>
    obtain ⟨k, h1, h5, rfl, hno, hgr⟩ := hrel
    have hno' := hide hno
    have hgr' := hide hgr
    have hc5 : wr.cell? ⟨g2, m, none⟩ = some (.int .i64 (F m)) := ((unhide hA4').grown hgr (by simp)).cell (unhide HM)
    clear hno hgr hc4
    by_cases hlt : k ≤ 4
    · have hlt' : (k : Int) ≤ 4 := by omega
      have HL := hide hlt
      have H1 := hide h1
      have wb := hide (Fx.way_bd (k : Int))
      clear hlt h1 h5
      go_wp2_with fail
      refine (step_rep _ _).mono ?_
      rintro e wx ⟨a2, b2, rfl, ra, rb, rfl⟩
      obtain ⟨d1, d2, d3, d4⟩ := unhide wb
      obtain ⟨ra3, ea, Ra⟩ := Fl.rep_add (unhide rA) ra (by rw [unhide ex']; omega) (by rw [unhide ex']; omega)
      obtain ⟨rb3, eb, Rb⟩ := Fl.rep_add (unhide rB) rb (by rw [unhide ey']; omega) (by rw [unhide ey']; omega)
      have hsum := fun wq : World => run_complex_sum (P := Try.prog) wq .add (.inl rfl) 107 .f64 A B a2 b2 ra3 rb3 (by unfold cSumBits; rw [ea, eb]; rfl)
      have cN := hide (fun wq => navNumber_any ra3 rb3 _ _ wq (Fl.std_rep Ra) (Fl.std_rep Rb))
      have hnx : Hid (Nv.num (x + (Fx.way (k : Int)).1) (y + (Fx.way (k : Int)).2) = Nv.next m k) := by show _ = Nv.num _ _; rw [unhide ex', unhide ey']
      rw [unhide hnx] at cN
      clear ra rb ea eb Ra Rb d1 d2 d3 d4
      go_wp2_with fail
      refine (unhide cN _).mono ?_
      rintro e wy ⟨rfl, rfl⟩
      clear hsum cN hnx wb
      have hup : Hid (Nv.may F (Nv.st E n) m k = false → ∀ j : Nat, 1 ≤ j → j < k + 1 → Nv.may F (Nv.st E n) m j = false) := fun h j h1 h2 => by
        by_cases e : j = k
        · rw [e]; exact h
        · exact unhide hno' j h1 (by omega)
      rcases Nv.next_cases m k with hn | ⟨p, hp, hn⟩
      · rw [hn]
        have hno2 := hide (unhide hup (Nv.may_out hn))
        clear hn
        go_wp2_with fail
        go_quiet (fail)
        go_wp2
        go_roundw
        case rel => exact ⟨k + 1, by have := unhide H1; omega, by have := unhide HL; omega, by go_num, unhide hno2, grown_drew (unhide hgr') _⟩
        case measure => have := unhide HL; simp [intOf]; omega
      · rw [hn]
        have hmay := Nv.may_in (F := F) (st := Nv.st E n) hn
        have hpm := Nv.next_ne (unhide H1) (unhide HL) hn
        have hc6 : wy.cell? ⟨g2, p, none⟩ = some (.int .i64 (F p)) := ((unhide hA4').grown (unhide hgr') (by simp)).cell hp
        have hc7 : wy.cell? ⟨g, p, none⟩ = some (.bool (Nv.st E n p)) := by
          have h : wy.cell? ⟨g, p, none⟩ = some (.bool (if p = m then false else Nv.st E n p)) := ((unhide hAb').grown (unhide hgr') (by simp)).cell hp
          rwa [if_neg hpm] at h
        have hp' : (p : Int) < 384 := by omega
        by_cases hq : F p = F m - 1
        · have hq' : (F p == F m - 1) = true := by rw [beq_iff_eq]; exact hq
          rw [decide_eq_true hq, Bool.true_and] at hmay
          clear hn hpm hq hp
          by_cases hs : Nv.st E n p = true
          · rw [hs] at hc7 hmay
            have hno2 := hide (unhide hup hmay)
            clear hs hmay
            go_wp2_with fail
            go_quiet (fail)
            go_wp2
            go_roundw
            case rel => exact ⟨k + 1, by have := unhide H1; omega, by have := unhide HL; omega, by go_num, unhide hno2, grown_drew (unhide hgr') _⟩
            case measure => have := unhide HL; simp [intOf]; omega
          · rw [Bool.not_eq_true] at hs
            rw [hs] at hc7 hmay
            have hr2 : Hid (Nv.IsToward f t tlen E n x y (k : Int)) := by
              have h := unhide hr
              rwa [Nv.way_hit 4 k 1 (unhide hno') hmay (unhide H1) (by have := unhide HL; omega)] at h
            clear hs hmay
            go_wp2_with fail
            go_quiet (fail)
            go_wp2
            go_ret
            exact ⟨_, unhide hr2, rfl, grown_trans (unhide hgw') (grown_drew (unhide hgr') _)⟩
        · have hq' : (F p == F m - 1) = false := by rw [beq_eq_false_iff_ne]; exact hq
          rw [decide_eq_false hq, Bool.false_and] at hmay
          have hno2 := hide (unhide hup hmay)
          clear hn hpm hq hp hmay hc7
          go_wp2_with fail
          go_quiet (fail)
          go_wp2
          go_roundw
          case rel => exact ⟨k + 1, by have := unhide H1; omega, by have := unhide HL; omega, by go_num, unhide hno2, grown_drew (unhide hgr') _⟩
          case measure => have := unhide HL; simp [intOf]; omega
    · have hge : ¬ (k : Int) ≤ 4 := by omega
      have hr2 : Hid (Nv.IsToward f t tlen E n x y 0) := by
        have h := unhide hr
        rwa [Nv.way_none 4 1 fun j h1 h2 => unhide hno' j h1 (by omega)] at h
      go_wp2
      go_ret
      exact ⟨0, unhide hr2, rfl, grown_trans (unhide hgw') (unhide hgr')⟩

end Go.Proofs.Ytbploaihicakeaa

namespace Go.Proofs.Ytbploaihicakeaa
open Go.RowKit

/-- Of the first k cells that are reached and where nobody stands the nearest, of several the lowest; -1: there is none. -/
def Nv.best (F : Nat → Int) (st : Nat → Bool) : Nat → Int
  | 0 => -1
  | k + 1 => if 0 ≤ F k ∧ st k = false ∧ (Nv.best F st k < 0 ∨ F k < F (Nv.best F st k).toNat) then (k : Int) else Nv.best F st k

theorem Nv.best_cases (F : Nat → Int) (st : Nat → Bool) : ∀ k, Nv.best F st k = -1 ∨ ∃ p : Nat, p < k ∧ Nv.best F st k = (p : Int)
  | 0 => .inl rfl
  | k + 1 => by
      unfold Nv.best
      split
      · exact .inr ⟨k, by omega, rfl⟩
      · rcases Nv.best_cases F st k with h | ⟨p, hp, h⟩
        · exact .inl h
        · exact .inr ⟨p, by omega, h⟩

theorem Nv.best_congr {F H : Nat → Int} {st : Nat → Bool} : ∀ k, (∀ i, i < k → F i = H i) → Nv.best F st k = Nv.best H st k
  | 0, _ => rfl
  | k + 1, h => by
      have ih := Nv.best_congr (st := st) k fun i hi => h i (by omega)
      unfold Nv.best
      rw [ih, h k (by omega)]
      rcases Nv.best_cases H st k with e | ⟨p, hp, e⟩
      · rw [e]; simp
      · rw [e, Int.toNat_natCast, h p (by omega)]

theorem Nv.best_none {F : Nat → Int} {st : Nat → Bool} : ∀ k, (∀ i, i < k → F i < 0) → Nv.best F st k = -1
  | 0, _ => rfl
  | k + 1, h => by
      unfold Nv.best
      rw [if_neg (by rintro ⟨h1, _⟩; have := h k (by omega); omega)]
      exact Nv.best_none k fun i hi => h i (by omega)

theorem Nv.best_skip {F : Nat → Int} {st : Nat → Bool} {k : Nat} (h : F k < 0 ∨ st k = true) : Nv.best F st (k + 1) = Nv.best F st k := by
  show (if _ then _ else _) = _
  rw [if_neg]
  rintro ⟨h1, h2, _⟩
  rcases h with h | h
  · omega
  · rw [h] at h2; cases h2

theorem Nv.best_first {F : Nat → Int} {st : Nat → Bool} {k : Nat} (h1 : 0 ≤ F k) (h2 : st k = false) (h : Nv.best F st k = -1) : Nv.best F st (k + 1) = (k : Int) := by
  show (if _ then _ else _) = _
  rw [if_pos ⟨h1, h2, .inl (by omega)⟩]

theorem Nv.best_less {F : Nat → Int} {st : Nat → Bool} {k p : Nat} (h1 : 0 ≤ F k) (h2 : st k = false) (h : Nv.best F st k = (p : Int)) (hlt : F k < F p) : Nv.best F st (k + 1) = (k : Int) := by
  show (if _ then _ else _) = _
  rw [if_pos ⟨h1, h2, .inr (by rw [h, Int.toNat_natCast]; exact hlt)⟩]

theorem Nv.best_more {F : Nat → Int} {st : Nat → Bool} {k p : Nat} (h : Nv.best F st k = (p : Int)) (hlt : ¬ F k < F p) : Nv.best F st (k + 1) = Nv.best F st k := by
  show (if _ then _ else _) = _
  rw [if_neg]
  rintro ⟨_, _, h3 | h3⟩
  · omega
  · rw [h, Int.toNat_natCast] at h3; exact hlt h3

/-- What Spot answers, by the one field that there is. -/
def Nv.IsSpot (f : Nat → Int) (E : Nat → Nat → Int) (n : Nat) (x y v : Int) : Prop :=
  ∃ F : Nat → Int, Gr.IsField (fun i => Gr.openB f 0 (fun _ => false) i = true) (Gr.tgt f (fun _ => Nv.num x y) 1) F ∧ v = Nv.best F (Nv.st E n) 384

theorem Nv.IsSpot.one {f : Nat → Int} {E : Nat → Nat → Int} {n : Nat} {x y v v' : Int} (h : Nv.IsSpot f E n x y v) (h' : Nv.IsSpot f E n x y v') : v' = v := by
  obtain ⟨F, hF, rfl⟩ := h
  obtain ⟨H, hH, rfl⟩ := h'
  exact Nv.best_congr 384 fun i hi => hH.one hF i hi

theorem Nv.spot_out {f : Nat → Int} {E : Nat → Nat → Int} {n : Nat} {x y : Int} (h : Nv.num x y = -1) : Nv.IsSpot f E n x y (-1) :=
  ⟨fun _ => -1,
    { lo := fun _ _ => by omega
      zero := fun i _ => ⟨fun e => by omega, fun ⟨_, j, _, e⟩ => by simp only [h] at e; omega⟩
      back := fun _ _ e => by omega
      fwd := fun _ _ e => by omega },
    (Nv.best_none 384 fun _ _ => by omega).symm⟩

/-- A call answers what Spot answers; nothing that was there has turned. -/
def Nv.SaysSpot (w : World) (f : Nat → Int) (E : Nat → Nat → Int) (n : Nat) (x y : Int) (e : Ending) (w' : World) : Prop := ∃ v, Nv.IsSpot f E n x y v ∧ e = .returned (.int .i64 v) ∧ w.grownBy w' none

theorem Nv.num_bd (x y : Int) : -1 ≤ Nv.num x y ∧ Nv.num x y < 384 := by
  rcases Nv.num_cases x y with h | ⟨p, hp, h⟩ <;> omega

theorem Nv.one_row (w : World) (v : Int) (T : TypeId) : Vec (w.alloc (.cells #[.int .i64 v] T)).heap.size (w.alloc (.cells #[.int .i64 v] T)) (some ⟨w.heap.size, 0, none⟩) 1 (Ints fun _ => v) :=
  ⟨by unfold maxLen; omega, .inr ⟨_, 0, rfl, by simp, fun i hi => by
    obtain rfl : i = 0 := by omega
    exact cell_boxed w _ T _ rfl⟩⟩

end Go.Proofs.Ytbploaihicakeaa
