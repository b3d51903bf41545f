/-
  NavSmall GridBfs
-/
import Derived.Test.YtbanjoflgoiegaaGreatPart01
import Derived.Test.YtbanjoflgoiegaaGreatPart02
import Derived.Test.YtbanjoflgoiegaaGreatPart03
namespace Go.Proofs.YtbanjoflgoiegaaGreat
open Go.RowKit

def Fl.Std (a : Nat) (x : Int) : Prop :=
  (∀ b y, Fl.Rep b y → -4503599627370496 < y → y < 4503599627370496 → Ieee.double.order a b = some (compare x y) ∧ Ieee.double.order b a = some (compare y x)) ∧ (-9007199254740992 < x → x < 9007199254740992 → floatToIntVal .f64 a .i64 = some x)

theorem Fl.std_int (x : Int) (h1 : -9223372036854775808 ≤ x) (h2 : x ≤ 9223372036854775807) : Fl.Std (floatOfInt .f64 x) x :=
  ⟨fun _ _ hb h3 h4 => Fl.order_int x h1 h2 hb h3 h4, fun h3 h4 => Fl.rep_toInt (Fl.rep_int x h3 h4) h3 h4⟩

theorem Fl.std_rep {a : Nat} {x : Int} (h : Fl.Rep a x) : Fl.Std a x :=
  ⟨fun _ _ hb _ _ => ⟨Fl.order_rep h hb, Fl.order_rep hb h⟩, fun h3 h4 => Fl.rep_toInt h h3 h4⟩

def Nv.num (x y : Int) : Int := if Gr.inB x y = true then y * 24 + x else -1

theorem point_any (x y : Int) (w : World) : Calls Tryz.prog 167 #[.int .i64 x, .int .i64 y] w fun e w' => e = .returned (.complex .f64 (floatOfInt .f64 x) (floatOfInt .f64 y)) ∧ w' = w := by
  go_enter Tryz.func167, Tryz.ntmps167
  go_wp2
  go_ret
  exact ⟨rfl, rfl⟩

set_option maxHeartbeats 800000 in
theorem navNumber_any (a b : Nat) (x y : Int) (w : World) (ha : Fl.Std a x) (hb : Fl.Std b y) : Calls Tryz.prog 166 #[.complex .f64 a b] w fun e w' => e = .returned (.int .i64 (Nv.num x y)) ∧ w' = w := by
  have k1 : (FloatKind.f64.format.order a 0 == some .lt) = decide (x < 0) := by
    rw [show FloatKind.f64.format = Ieee.double from rfl, (ha.1 0 0 Fl.rep_0 (by omega) (by omega)).1, Fl.beq_lt]
  have k2 : (FloatKind.f64.format.order a 4627448617123184640 == some .gt || FloatKind.f64.format.order a 4627448617123184640 == some .eq) = decide (24 ≤ x) := by
    rw [show FloatKind.f64.format = Ieee.double from rfl, (ha.1 _ 24 Fl.rep_24 (by omega) (by omega)).1, Fl.beq_ge]
  have k3 : (FloatKind.f64.format.order b 0 == some .lt) = decide (y < 0) := by
    rw [show FloatKind.f64.format = Ieee.double from rfl, (hb.1 0 0 Fl.rep_0 (by omega) (by omega)).1, Fl.beq_lt]
  have k4 : (FloatKind.f64.format.order b 4625196817309499392 == some .gt || FloatKind.f64.format.order b 4625196817309499392 == some .eq) = decide (16 ≤ y) := by
    rw [show FloatKind.f64.format = Ieee.double from rfl, (hb.1 _ 16 Fl.rep_16 (by omega) (by omega)).1, Fl.beq_ge]
  by_cases h1 : x < 0
  · rw [decide_eq_true h1] at k1
    have he : Hid (Nv.num x y = -1) := if_neg (by rw [Gr.inB_iff]; omega)
    clear k2 k3 k4 ha hb
    go_enter Tryz.func166, Tryz.ntmps166
    go_wp2
    go_ret
    exact ⟨ret_int (unhide he).symm, rfl⟩
  · rw [decide_eq_false h1] at k1
    by_cases h2 : 24 ≤ x
    · rw [decide_eq_true h2] at k2
      have he : Hid (Nv.num x y = -1) := if_neg (by rw [Gr.inB_iff]; omega)
      clear k3 k4 ha hb
      go_enter Tryz.func166, Tryz.ntmps166
      go_wp2
      go_ret
      exact ⟨ret_int (unhide he).symm, rfl⟩
    · rw [decide_eq_false h2] at k2
      by_cases h3 : y < 0
      · rw [decide_eq_true h3] at k3
        have he : Hid (Nv.num x y = -1) := if_neg (by rw [Gr.inB_iff]; omega)
        clear k4 ha hb
        go_enter Tryz.func166, Tryz.ntmps166
        go_wp2
        go_ret
        exact ⟨ret_int (unhide he).symm, rfl⟩
      · rw [decide_eq_false h3] at k3
        by_cases h4 : 16 ≤ y
        · rw [decide_eq_true h4] at k4
          have he : Hid (Nv.num x y = -1) := if_neg (by rw [Gr.inB_iff]; omega)
          clear ha hb
          go_enter Tryz.func166, Tryz.ntmps166
          go_wp2
          go_ret
          exact ⟨ret_int (unhide he).symm, rfl⟩
        · rw [decide_eq_false h4] at k4
          have he : Hid (Nv.num x y = y * 24 + x) := if_pos (by rw [Gr.inB_iff]; omega)
          have t1 := ha.2 (by omega) (by omega)
          have t2 := hb.2 (by omega) (by omega)
          have hr1 := fun w : World => run_convert_float_int (P := Tryz.prog) w 176 3 .f64 .i64 a _ (by kernel_rfl) (by kernel_rfl) t1
          have hr2 := fun w : World => run_convert_float_int (P := Tryz.prog) w 176 3 .f64 .i64 b _ (by kernel_rfl) (by kernel_rfl) t2
          clear t1 t2 ha hb
          go_enter Tryz.func166, Tryz.ntmps166
          go_wp2
          go_ret
          exact ⟨ret_int (unhide he).symm, rfl⟩

theorem step_any (n : Int) (w : World) : Calls Tryz.prog 221 #[.int .i64 n] w fun e w' => e = .returned (.complex .f64 (floatOfInt .f64 (Fx.way n).1) (floatOfInt .f64 (Fx.way n).2)) ∧ w' = w := by
  go_enter Tryz.func221, Tryz.ntmps221
  go_wp2_with (first | (go_at_call 113; refine (way_any _ _).mono ?_; rintro e w' ⟨rfl, hw⟩; subst w') | (go_at_call 167; refine (point_any _ _ _).mono ?_; rintro e w' ⟨rfl, hw⟩; subst w'))
  go_ret
  exact ⟨rfl, rfl⟩

def Nv.besideFrom (dx dy : Int) : Nat → Nat → Int
  | 0, _ => 0
  | m + 1, k => if (Fx.way (k : Int)).1 = dx ∧ (Fx.way (k : Int)).2 = dy then (k : Int) else Nv.besideFrom dx dy m (k + 1)

def Nv.beside (dx dy : Int) : Int := Nv.besideFrom dx dy 4 1

theorem numberAt_any (x y : Int) (w : World) (h1 : -9223372036854775808 ≤ x) (h2 : x ≤ 9223372036854775807) (h3 : -9223372036854775808 ≤ y) (h4 : y ≤ 9223372036854775807) : Calls Tryz.prog 166 #[.complex .f64 (floatOfInt .f64 x) (floatOfInt .f64 y)] w fun e w' => e = .returned (.int .i64 (Nv.num x y)) ∧ w' = w :=
  navNumber_any _ _ x y w (Fl.std_int x h1 h2) (Fl.std_int y h3 h4)

theorem step_rep (n : Int) (w : World) : Calls Tryz.prog 221 #[.int .i64 n] w fun e w' => ∃ a b, e = .returned (.complex .f64 a b) ∧ Fl.Rep a (Fx.way n).1 ∧ Fl.Rep b (Fx.way n).2 ∧ w' = w := by
  have hb := Fx.way_bd n
  refine (step_any n w).mono ?_
  rintro e w' ⟨rfl, rfl⟩
  exact ⟨_, _, rfl, Fl.rep_int _ (by omega) (by omega), Fl.rep_int _ (by omega) (by omega), rfl⟩

theorem wrap64_id (n : Int) (h : -9223372036854775808 ≤ n ∧ n ≤ 9223372036854775807) : wrap64 n = n := by unfold wrap64; omega

theorem wrap64_bd (z : Int) : -9223372036854775808 ≤ wrap64 z ∧ wrap64 z ≤ 9223372036854775807 := by unfold wrap64; omega

theorem Nv.from_hit {dx dy : Int} : ∀ (m k i : Nat), (∀ j, i ≤ j → j < k → ¬ ((Fx.way (j : Int)).1 = dx ∧ (Fx.way (j : Int)).2 = dy)) → ((Fx.way (k : Int)).1 = dx ∧ (Fx.way (k : Int)).2 = dy) → i ≤ k → k < i + m → Nv.besideFrom dx dy m i = (k : Int)
  | 0, k, i, _, _, h1, h2 => by omega
  | m + 1, k, i, hno, hk, h1, h2 => by
      unfold Nv.besideFrom
      by_cases e : i = k
      · rw [e, if_pos hk]
      · rw [if_neg (hno i (Nat.le_refl _) (by omega)), Nv.from_hit m k (i + 1) (fun j hj1 hj2 => hno j (by omega) hj2) hk (by omega) (by omega)]

theorem Nv.from_none {dx dy : Int} : ∀ (m i : Nat), (∀ j, i ≤ j → j < i + m → ¬ ((Fx.way (j : Int)).1 = dx ∧ (Fx.way (j : Int)).2 = dy)) → Nv.besideFrom dx dy m i = 0
  | 0, _, _ => rfl
  | m + 1, i, hno => by
      unfold Nv.besideFrom
      rw [if_neg (hno i (Nat.le_refl _) (by omega)), Nv.from_none m (i + 1) (fun j hj1 hj2 => hno j (by omega) (by omega))]

set_option maxHeartbeats 800000 in
theorem beside_any (x0 y0 x1 y1 : Int) (w : World) :
    Calls Tryz.prog 214 #[.int .i64 x0, .int .i64 y0, .int .i64 x1, .int .i64 y1] w fun e w' => e = .returned (.int .i64 (Nv.beside (wrap64 (x1 - x0)) (wrap64 (y1 - y0)))) ∧ w' = w := by
  obtain ⟨DX, hx⟩ : ∃ D, D = wrap64 (x1 - x0) := ⟨_, rfl⟩
  obtain ⟨DY, hy⟩ : ∃ D, D = wrap64 (y1 - y0) := ⟨_, rfl⟩
  have bx := hide (Fl.std_int DX (by rw [hx]; exact (wrap64_bd _).1) (by rw [hx]; exact (wrap64_bd _).2))
  have by' := hide (Fl.std_int DY (by rw [hy]; exact (wrap64_bd _).1) (by rw [hy]; exact (wrap64_bd _).2))
  have hx' := hide hx
  have hy' := hide hy
  rw [← hx, ← hy]
  clear hx hy
  go_enter Tryz.func214, Tryz.ntmps214
  go_wp2_with (go_at_call 167; refine (point_any _ _ _).mono ?_; rintro e w' ⟨rfl, hw⟩; subst w'; rw [← unhide hx', ← unhide hy'])
  generalize hA : floatOfInt FloatKind.f64 DX = A at bx
  generalize hB : floatOfInt FloatKind.f64 DY = B at by'
  go_loop [10] (fun i => ∃ k : Nat, 1 ≤ k ∧ k ≤ 5 ∧ i = .int .i64 (k : Int) ∧ ∀ j : Nat, 1 ≤ j → j < k → ¬ ((Fx.way (j : Int)).1 = DX ∧ (Fx.way (j : Int)).2 = DY)) (fun i => 5 - (intOf i).toNat)
  case atStart => exact ⟨1, by omega, by omega, rfl, fun j h1 h2 => by omega⟩
  case round =>
    obtain ⟨k, h1, h5, rfl, hno⟩ := hrel
    have hno' := hide hno
    clear hno hA hB
    by_cases hlt : k ≤ 4
    · have hlt' : (k : Int) ≤ 4 := by omega
      have HL := hide hlt
      have H1 := hide h1
      clear hlt h1 h5
      have hwb := hide (Fx.way_bd (k : Int))
      go_wp2_with fail
      refine (step_rep _ _).mono ?_
      rintro e w1 ⟨a, b, rfl, ra, rb, rfl⟩
      have wb := unhide hwb
      have k1 : (FloatKind.f64.format.order a A == some .eq) = decide ((Fx.way (k : Int)).1 = DX) := by
        rw [show FloatKind.f64.format = Ieee.double from rfl, ((unhide bx).1 _ _ ra (by omega) (by omega)).2, Fl.beq_eq]
      have k2 : (FloatKind.f64.format.order b B == some .eq) = decide ((Fx.way (k : Int)).2 = DY) := by
        rw [show FloatKind.f64.format = Ieee.double from rfl, ((unhide by').1 _ _ rb (by omega) (by omega)).2, Fl.beq_eq]
      clear ra rb wb
      by_cases hq : (Fx.way (k : Int)).1 = DX ∧ (Fx.way (k : Int)).2 = DY
      · rw [decide_eq_true hq.1] at k1
        rw [decide_eq_true hq.2] at k2
        have he : Hid (Nv.beside DX DY = (k : Int)) := Nv.from_hit 4 k 1 (unhide hno') hq (unhide H1) (by have := unhide HL; omega)
        clear hq
        go_wp2
        go_ret
        exact ⟨ret_int (unhide he).symm, rfl⟩
      · have k3 : (FloatKind.f64.format.order a A == some .eq && FloatKind.f64.format.order b B == some .eq) = false := by
          rw [k1, k2]
          by_cases h : (Fx.way (k : Int)).1 = DX
          · rw [decide_eq_false (fun h2 => hq ⟨h, h2⟩), Bool.and_false]
          · rw [decide_eq_false h, Bool.false_and]
        have hq' := hide hq
        clear k1 k2 hq
        go_wp2
        go_round
        case rel => exact ⟨k + 1, by have := unhide H1; omega, by have := unhide HL; omega, by go_num, fun j h1 h2 => by
          by_cases e : j = k
          · rw [e]; exact unhide hq'
          · exact unhide hno' j h1 (by omega)⟩
        case measure => have := unhide HL; simp [intOf]; omega
    · have hge : ¬ (k : Int) ≤ 4 := by omega
      have he : Hid (Nv.beside DX DY = 0) := Nv.from_none 4 1 fun j h1 h2 => unhide hno' j h1 (by omega)
      go_wp2
      go_ret
      exact ⟨ret_int (unhide he).symm, rfl⟩

end Go.Proofs.YtbanjoflgoiegaaGreat

namespace Go.Proofs.YtbanjoflgoiegaaGreat

namespace Gr

def dxOf : Nat → Int | 1 => 1 | 3 => -1 | _ => 0
def dyOf : Nat → Int | 0 => -1 | 2 => 1 | _ => 0

def nbIn (i d : Nat) : Prop := 0 ≤ (i % 24 : Nat) + dxOf d ∧ (i % 24 : Nat) + dxOf d < 24 ∧ 0 ≤ (i / 24 : Nat) + dyOf d ∧ (i / 24 : Nat) + dyOf d < 16
def nbOf (i d : Nat) : Nat := (((i / 24 : Nat) + dyOf d) * 24 + ((i % 24 : Nat) + dxOf d)).toNat

theorem nb_eq {i d : Nat} (h : nbIn i d) : ((nbOf i d : Nat) : Int) = ((i / 24 : Nat) + dyOf d) * 24 + ((i % 24 : Nat) + dxOf d) := by
  unfold nbIn at h; unfold nbOf; omega

theorem nb_lt {i d : Nat} (h : nbIn i d) : nbOf i d < 384 := by
  have := nb_eq h
  unfold nbIn at h; omega

def opp : Nat → Nat | 0 => 2 | 1 => 3 | 2 => 0 | _ => 1

theorem opp_lt {d : Nat} (h : d < 4) : opp d < 4 := by
  match d, h with
  | 0, _ | 1, _ | 2, _ | 3, _ => decide

theorem nb_back {i d : Nat} (hi : i < 384) (hd : d < 4) (h : nbIn i d) : nbIn (nbOf i d) (opp d) ∧ nbOf (nbOf i d) (opp d) = i := by
  have e := nb_eq h
  have key : nbIn (nbOf i d) (opp d) ∧ ((nbOf i d / 24 : Nat) + dyOf (opp d)) * 24 + ((nbOf i d % 24 : Nat) + dxOf (opp d)) = (i : Int) := by
    unfold nbIn at *
    generalize nbOf i d = n at *
    match d, hd with
    | 0, _ => simp only [dxOf, dyOf, opp] at *; omega
    | 1, _ => simp only [dxOf, dyOf, opp] at *; omega
    | 2, _ => simp only [dxOf, dyOf, opp] at *; omega
    | 3, _ => simp only [dxOf, dyOf, opp] at *; omega
  refine ⟨key.1, ?_⟩
  have := nb_eq key.1
  omega

structure IsField (op tg : Nat → Prop) (F : Nat → Int) : Prop where
  lo : ∀ i, i < 384 → -1 ≤ F i
  zero : ∀ i, i < 384 → (F i = 0 ↔ tg i)
  back : ∀ i, i < 384 → 0 < F i → op i ∧ ∃ j d, j < 384 ∧ d < 4 ∧ nbIn j d ∧ nbOf j d = i ∧ F j = F i - 1
  fwd : ∀ j, j < 384 → 0 ≤ F j → ∀ d, d < 4 → nbIn j d → op (nbOf j d) → 0 ≤ F (nbOf j d) ∧ F (nbOf j d) ≤ F j + 1

theorem IsField.le {op tg : Nat → Prop} {F H : Nat → Int} (hF : IsField op tg F) (hH : IsField op tg H) : ∀ (n : Nat) (i : Nat), i < 384 → F i = n → 0 ≤ H i ∧ H i ≤ n := by
  intro n
  induction n with
  | zero =>
    intro i hi h
    have : H i = 0 := (hH.zero i hi).2 ((hF.zero i hi).1 h)
    omega
  | succ n ih =>
    intro i hi h
    obtain ⟨hop, j, d, hj, hd, hn, rfl, he⟩ := hF.back i hi (by omega)
    have hj2 := ih j hj (by omega)
    have := hH.fwd j hj hj2.1 d hd hn hop
    omega

theorem IsField.one {op tg : Nat → Prop} {F H : Nat → Int} (hF : IsField op tg F) (hH : IsField op tg H) (i : Nat) (hi : i < 384) : F i = H i := by
  have l1 := hF.lo i hi
  have l2 := hH.lo i hi
  by_cases h : 0 ≤ F i
  · have a := hF.le hH (F i).toNat i hi (by omega)
    have b := hH.le hF (H i).toNat i hi (by omega)
    omega
  · by_cases h2 : 0 ≤ H i
    · have b := hH.le hF (H i).toNat i hi (by omega)
      omega
    · omega

def cnt (F : Nat → Int) : Nat → Nat
  | 0 => 0
  | n + 1 => cnt F n + if 0 ≤ F n then 1 else 0

theorem cnt_le (F : Nat → Int) (n : Nat) : cnt F n ≤ n := by
  induction n with
  | zero => exact Nat.le_refl _
  | succ n ih => unfold cnt; split <;> omega

theorem cnt_same (F H : Nat → Int) (n : Nat) (h : ∀ i, i < n → (0 ≤ F i ↔ 0 ≤ H i)) : cnt F n = cnt H n := by
  induction n with
  | zero => rfl
  | succ n ih =>
    unfold cnt
    rw [ih fun i hi => h i (by omega)]
    have := h n (by omega)
    by_cases hn : 0 ≤ F n
    · rw [if_pos hn, if_pos (this.1 hn)]
    · rw [if_neg hn, if_neg fun hh => hn (this.2 hh)]

def upd (F : Nat → Int) (b : Nat) (v : Int) (i : Nat) : Int := if i = b then v else F i

theorem upd_at (F : Nat → Int) (b : Nat) (v : Int) : upd F b v b = v := if_pos rfl
theorem upd_ne (F : Nat → Int) {b i : Nat} (v : Int) (h : i ≠ b) : upd F b v i = F i := if_neg h

theorem cnt_upd (F : Nat → Int) (b : Nat) (v : Int) (n : Nat) (hb : b < n) (h0 : F b < 0) (hv : 0 ≤ v) : cnt (upd F b v) n = cnt F n + 1 := by
  induction n with
  | zero => omega
  | succ n ih =>
    unfold cnt
    by_cases hbn : b = n
    · subst hbn
      rw [upd_at, if_pos hv, if_neg (by omega), cnt_same (upd F b v) F b fun i hi => by rw [upd_ne F v (by omega)]]
    · rw [ih (by omega), upd_ne F v (by omega)]
      omega

structure Inv (op tg : Nat → Prop) (F : Nat → Int) (row : List Nat) (at_ d : Nat) : Prop where
  lo : ∀ i, i < 384 → -1 ≤ F i
  zero : ∀ i, i < 384 → (F i = 0 ↔ tg i)
  back : ∀ i, i < 384 → 0 < F i → op i ∧ ∃ j d, j < 384 ∧ d < 4 ∧ nbIn j d ∧ nbOf j d = i ∧ F j = F i - 1
  mem : ∀ i, i < 384 → (0 ≤ F i ↔ i ∈ row)
  rng : ∀ i, i ∈ row → i < 384
  cnt : row.length = cnt F 384
  sorted : ∀ a b, a ≤ b → b < row.length → F (row[a]?.getD 0) ≤ F (row[b]?.getD 0)
  top : at_ < row.length → ∀ i, i < 384 → F i ≤ F (row[at_]?.getD 0) + 1
  seen : ∀ a e, e < 4 → a < row.length → 4 * a + e < 4 * at_ + d → nbIn (row[a]?.getD 0) e → op (nbOf (row[a]?.getD 0) e) → 0 ≤ F (nbOf (row[a]?.getD 0) e) ∧ F (nbOf (row[a]?.getD 0) e) ≤ F (row[a]?.getD 0) + 1

theorem Inv.len {op tg : Nat → Prop} {F : Nat → Int} {row : List Nat} {k d : Nat} (h : Inv op tg F row k d) : row.length ≤ 384 := by
  rw [h.cnt]; exact cnt_le _ _

theorem Inv.lt {op tg : Nat → Prop} {F : Nat → Int} {row : List Nat} {k d a : Nat} (h : Inv op tg F row k d) (ha : a < row.length) : row[a]?.getD 0 < 384 ∧ 0 ≤ F (row[a]?.getD 0) := by
  rw [List.getElem?_eq_getElem ha]
  have hm : row[a] ∈ row := List.getElem_mem ha
  have hr := h.rng _ hm
  exact ⟨hr, (h.mem _ hr).2 hm⟩

theorem Inv.high {op tg : Nat → Prop} {F : Nat → Int} {row : List Nat} {k d : Nat} (h : Inv op tg F row k d) : ∀ (n : Nat) i, i < 384 → F i = n → n ≤ 400 := by
  intro n i hi hn
  have key : ∀ m : Nat, m ≤ n → ∃ j, j < 384 ∧ F j = m := by
    intro m hm
    induction hnm : n - m generalizing m with
    | zero => exact ⟨i, hi, by omega⟩
    | succ q ih =>
      obtain ⟨j, hj, he⟩ := ih (m + 1) (by omega) (by omega)
      obtain ⟨_, j', _, hj', _, _, _, he'⟩ := h.back j hj (by omega)
      exact ⟨j', hj', by omega⟩
  by_cases hc : n ≤ 400
  · exact hc
  · exfalso
    have inj : ∀ m : Nat, m ≤ n + 1 → m ≤ (List.range 384).countP (fun i => decide (0 ≤ F i ∧ F i < m)) := by
      intro m
      induction m with
      | zero => intro _; exact Nat.zero_le _
      | succ m ih =>
        intro hm
        have h1 := ih (by omega)
        obtain ⟨j, hj, he⟩ := key m (by omega)
        have h2 : (List.range 384).countP (fun i => decide (0 ≤ F i ∧ F i < m)) < (List.range 384).countP (fun i => decide (0 ≤ F i ∧ F i < ((m + 1 : Nat) : Int))) := by
          have hs : ∀ (l : List Nat), j ∈ l → l.countP (fun i => decide (0 ≤ F i ∧ F i < m)) < l.countP (fun i => decide (0 ≤ F i ∧ F i < ((m + 1 : Nat) : Int))) := by
            intro l
            induction l with
            | nil => intro hm; cases hm
            | cons x l ih =>
              intro hm
              have hle : l.countP (fun i => decide (0 ≤ F i ∧ F i < m)) ≤ l.countP (fun i => decide (0 ≤ F i ∧ F i < ((m + 1 : Nat) : Int))) :=
                List.countP_mono_left fun y _ hy => by simp only [decide_eq_true_eq] at *; omega
              rw [List.countP_cons, List.countP_cons]
              rcases List.mem_cons.1 hm with rfl | hm
              · rw [if_neg (by simp; omega), if_pos (by simp; omega)]
                omega
              · have := ih hm
                by_cases hx : 0 ≤ F x ∧ F x < m
                · rw [if_pos (by simpa using hx), if_pos (by simp; omega)]
                  omega
                · rw [if_neg (by simpa using hx)]
                  omega
          exact hs _ (List.mem_range.2 hj)
        omega
    have := inj 401 (by omega)
    have hle : (List.range 384).countP (fun i => decide (0 ≤ F i ∧ F i < ((401 : Nat) : Int))) ≤ (List.range 384).length := List.countP_le_length
    rw [List.length_range] at hle
    omega

theorem Inv.skip {op tg : Nat → Prop} {F : Nat → Int} {row : List Nat} {k d : Nat} (h : Inv op tg F row k d) (hk : k < row.length) (hd : d < 4)
    (hs : nbIn (row[k]?.getD 0) d → op (nbOf (row[k]?.getD 0) d) → 0 ≤ F (nbOf (row[k]?.getD 0) d)) : Inv op tg F row k (d + 1) := by
  refine ⟨h.lo, h.zero, h.back, h.mem, h.rng, h.cnt, h.sorted, h.top, fun a e he ha hl hn ho => ?_⟩
  by_cases hc : 4 * a + e < 4 * k + d
  · exact h.seen a e he ha hc hn ho
  · obtain rfl : a = k := by omega
    obtain rfl : e = d := by omega
    exact ⟨hs hn ho, h.top hk _ (nb_lt hn)⟩

theorem Inv.mark {op tg : Nat → Prop} {F : Nat → Int} {row : List Nat} {k d : Nat} (h : Inv op tg F row k d) (htg : ∀ i, i < 384 → tg i → 0 ≤ F i) (hk : k < row.length) (hd : d < 4)
    (hn : nbIn (row[k]?.getD 0) d) (ho : op (nbOf (row[k]?.getD 0) d)) (hneg : F (nbOf (row[k]?.getD 0) d) < 0) :
    Inv op tg (upd F (nbOf (row[k]?.getD 0) d) (F (row[k]?.getD 0) + 1)) (row ++ [nbOf (row[k]?.getD 0) d]) k (d + 1) := by
  obtain ⟨hc, hc0⟩ := h.lt hk
  have hb := nb_lt hn
  have htop := h.top hk
  have hnc := h.cnt
  obtain ⟨c, hcd⟩ : ∃ c, c = row[k]?.getD 0 := ⟨_, rfl⟩
  obtain ⟨b, hbd⟩ : ∃ b, b = nbOf c d := ⟨_, rfl⟩
  rw [← hcd] at hn ho hneg hc hc0 hb htop ⊢
  rw [← hbd] at ho hneg hb ⊢
  have hbr : b ∉ row := fun hm => by have := (h.mem b hb).2 hm; omega
  have ne : ∀ i, i < 384 → 0 ≤ F i → i ≠ b := fun i _ h0 e => by rw [e] at h0; omega
  have old : ∀ i, i < 384 → 0 ≤ F i → upd F b (F c + 1) i = F i := fun i hi h0 => upd_ne F _ (ne i hi h0)
  have get : ∀ a, a < row.length → (row ++ [b])[a]?.getD 0 = row[a]?.getD 0 := fun a ha => by rw [List.getElem?_append_left ha]
  have getl : (row ++ [b])[row.length]?.getD 0 = b := by simp
  refine ⟨fun i hi => ?_, fun i hi => ?_, fun i hi hp => ?_, fun i hi => ?_, fun i hm => ?_, ?_, fun x y hxy hy => ?_, fun _ i hi => ?_, fun a e he ha hl hn' ho' => ?_⟩
  · by_cases e : i = b
    · rw [e, upd_at]; omega
    · rw [upd_ne F _ e]; exact h.lo i hi
  · by_cases e : i = b
    · rw [e, upd_at]
      constructor
      · intro hh; omega
      · intro ht
        have := htg b hb ht
        omega
    · rw [upd_ne F _ e]; exact h.zero i hi
  · by_cases e : i = b
    · subst e
      refine ⟨ho, c, d, hc, hd, hn, hbd.symm, ?_⟩
      rw [upd_at, old c hc hc0]; omega
    · rw [upd_ne F _ e] at hp ⊢
      obtain ⟨o, j, d', hj, hd', hn', hnb, he'⟩ := h.back i hi hp
      exact ⟨o, j, d', hj, hd', hn', hnb, by rw [old j hj (by omega)]; exact he'⟩
  · by_cases e : i = b
    · rw [e, upd_at]; simp; omega
    · rw [upd_ne F _ e, h.mem i hi]; simp [e]
  · rcases List.mem_append.1 hm with hm | hm
    · exact h.rng i hm
    · simp at hm; omega
  · rw [cnt_upd F b _ 384 hb hneg (by omega), List.length_append, hnc]; rfl
  · rw [List.length_append] at hy
    have hy' : y < row.length + 1 := hy
    by_cases e : y = row.length
    · rw [e, getl, upd_at]
      by_cases e2 : x = row.length
      · rw [e2, getl, upd_at]; exact Int.le_refl _
      · have hx : x < row.length := by omega
        obtain ⟨h1, h2⟩ := h.lt hx
        rw [get x hx, old _ h1 h2]
        exact htop _ h1
    · have hy2 : y < row.length := by omega
      obtain ⟨h1, h2⟩ := h.lt hy2
      obtain ⟨h3, h4⟩ := h.lt (show x < row.length by omega)
      rw [get y hy2, get x (by omega), old _ h1 h2, old _ h3 h4]
      exact h.sorted x y hxy hy2
  · rw [get k hk, ← hcd, old c hc hc0]
    by_cases e : i = b
    · rw [e, upd_at]; omega
    · rw [upd_ne F _ e]; exact htop i hi
  · by_cases ea : a = row.length
    · omega
    · have ha2 : a < row.length := by rw [List.length_append] at ha; have : a < row.length + 1 := ha; omega
      rw [get a ha2] at hn' ho' ⊢
      obtain ⟨h1, h2⟩ := h.lt ha2
      rw [old _ h1 h2]
      by_cases hc2 : 4 * a + e < 4 * k + d
      · obtain ⟨q1, q2⟩ := h.seen a e he ha2 hc2 hn' ho'
        rw [old _ (nb_lt hn') q1]
        exact ⟨q1, q2⟩
      · obtain rfl : a = k := by omega
        obtain rfl : e = d := by omega
        rw [← hcd, ← hbd, upd_at]
        omega

theorem Inv.next {op tg : Nat → Prop} {F : Nat → Int} {row : List Nat} {k : Nat} (h : Inv op tg F row k 4) : Inv op tg F row (k + 1) 0 := by
  refine ⟨h.lo, h.zero, h.back, h.mem, h.rng, h.cnt, h.sorted, fun hk i hi => ?_, fun a e he ha hl => h.seen a e he ha (by omega)⟩
  have h1 := h.top (by omega) i hi
  have h2 := h.sorted k (k + 1) (by omega) hk
  omega

theorem Inv.done {op tg : Nat → Prop} {F : Nat → Int} {row : List Nat} {k : Nat} (h : Inv op tg F row k 0) (hk : row.length ≤ k) : IsField op tg F := by
  refine ⟨h.lo, h.zero, h.back, fun j hj h0 d hd hn ho => ?_⟩
  obtain ⟨a, ha, he⟩ := List.getElem_of_mem ((h.mem j hj).1 h0)
  have e : row[a]?.getD 0 = j := by rw [List.getElem?_eq_getElem ha]; exact he
  have := h.seen a d hd ha (by omega)
  rw [e] at this
  exact this hn ho

theorem Inv.start {op tg : Nat → Prop} {F : Nat → Int} {row : List Nat} (h01 : ∀ i, i < 384 → F i = 0 ∨ F i = -1) (hz : ∀ i, i < 384 → (F i = 0 ↔ tg i)) (hm : ∀ i, i < 384 → (0 ≤ F i ↔ i ∈ row)) (hr : ∀ i, i ∈ row → i < 384)
    (hc : row.length = Gr.cnt F 384) : Inv op tg F row 0 0 := by
  have z : ∀ a, a < row.length → F (row[a]?.getD 0) = 0 := fun a ha => by
    rw [List.getElem?_eq_getElem ha]
    have hmm : row[a] ∈ row := List.getElem_mem ha
    have hl := hr _ hmm
    have h0 := (hm _ hl).2 hmm
    rcases h01 _ hl with h | h
    · exact h
    · simp only [Option.getD_some]; omega
  refine ⟨fun i hi => ?_, hz, fun i hi hp => ?_, hm, hr, hc, fun a b hab hb => ?_, fun hk i hi => ?_, fun a e he ha hl => by omega⟩
  · rcases h01 i hi with h | h <;> omega
  · rcases h01 i hi with h | h <;> omega
  · rw [z a (by omega), z b hb]; exact Int.le_refl _
  · rw [z 0 hk]
    rcases h01 i hi with h | h <;> omega

end Gr

end Go.Proofs.YtbanjoflgoiegaaGreat
