/-
  Places as complex numbers, as minds reckons with them.
  Whether a monster stands beside a hero, as the project asks it.
  What is in a seat's bag, and whether an item lies at a hero that it can take, as the project asks it.
  Whether an item lies at a hero that it can take: finds, by the library's ContainsFunc.
-/
import Derived.Test.YtbploaihicakeaaPart29
import Derived.Test.YtbploaihicakeaaPart08
import Derived.Test.YtbploaihicakeaaPart31
namespace Go.Proofs.Ytbploaihicakeaa
open Go.RowKit

theorem mPlace_at (x0 x1 x2 x3 x4 x5 x6 x7 x8 x9 x10 : Int) (w : World) : Calls Try.prog 82 #[.agg #[.int .i64 x0, .int .i64 x1, .int .i64 x2, .int .i64 x3, .int .i64 x4, .int .i64 x5, .int .i64 x6, .int .i64 x7, .int .i64 x8, .int .i64 x9, .int .i64 x10]] w fun x w' => x = .returned (.complex .f64 (floatOfInt .f64 x3) (floatOfInt .f64 x4)) ∧ w.grownBy w' none := by
  go_enter Try.func82, Try.ntmps82
  go_wp2
  go_ret
  exact ⟨rfl, World.grownBy_alloc _ _ _⟩

theorem mPlace_any (e : Nat → Int) (w : World) : Calls Try.prog 82 #[.agg (En.cells e)] w fun x w' => x = .returned (.complex .f64 (floatOfInt .f64 (e 3)) (floatOfInt .f64 (e 4))) ∧ w.grownBy w' none := mPlace_at _ _ _ _ _ _ _ _ _ _ _ w

theorem mParts_any (a b : Nat) (x y : Int) (w : World) (ha : Fl.Rep a x) (hb : Fl.Rep b y) (x1 : -9007199254740992 < x) (x2 : x < 9007199254740992) (y1 : -9007199254740992 < y) (y2 : y < 9007199254740992) :
    Calls Try.prog 81 #[.complex .f64 a b] w fun e w' => e = .returned (.tuple #[.int .i64 x, .int .i64 y]) ∧ w' = w := by
  have t1 := Fl.rep_toInt ha x1 x2
  have t2 := Fl.rep_toInt hb y1 y2
  have hr1 := fun w : World => run_convert_float_int (P := Try.prog) w 116 3 .f64 .i64 a _ (by kernel_rfl) (by kernel_rfl) t1
  have hr2 := fun w : World => run_convert_float_int (P := Try.prog) w 116 3 .f64 .i64 b _ (by kernel_rfl) (by kernel_rfl) t2
  clear t1 t2 ha hb
  go_enter Try.func81, Try.ntmps81
  go_wp2
  go_ret2
  exact ⟨rfl, rfl⟩

/-- One step from an entity that stands on the floor. -/
theorem mAhead_any (e : Nat → Int) (d : Int) (w : World) (x0 : 0 ≤ e 3) (x9 : e 3 < 24) (y0 : 0 ≤ e 4) (y9 : e 4 < 16) :
    Calls Try.prog 84 #[.agg (En.cells e), .int .i64 d] w fun x w' => (∃ a b, x = .returned (.complex .f64 a b) ∧ Fl.Rep a (e 3 + (Fx.way d).1) ∧ Fl.Rep b (e 4 + (Fx.way d).2)) ∧ w.grownBy w' none := by
  have wb := Fx.way_bd d
  obtain ⟨d1, d2, d3, d4⟩ := wb
  obtain ⟨r1, e1, R1⟩ := Fl.rep_add (Fl.rep_int (e 3) (by omega) (by omega)) (Fl.rep_int (Fx.way d).1 (by omega) (by omega)) (by omega) (by omega)
  obtain ⟨r2, e2, R2⟩ := Fl.rep_add (Fl.rep_int (e 4) (by omega) (by omega)) (Fl.rep_int (Fx.way d).2 (by omega) (by omega)) (by omega) (by omega)
  have hsum := fun wq : World => run_complex_sum (P := Try.prog) wq .add (.inl rfl) 107 .f64 (floatOfInt .f64 (e 3)) (floatOfInt .f64 (e 4)) (floatOfInt .f64 (Fx.way d).1) (floatOfInt .f64 (Fx.way d).2) r1 r2 (by unfold cSumBits; rw [e1, e2]; rfl)
  have hR := hide (And.intro R1 R2)
  have cp := hide (fun wq => mPlace_any e wq)
  have hu : Hid (En.cells e = #[.int .i64 (e 0), .int .i64 (e 1), .int .i64 (e 2), .int .i64 (e 3), .int .i64 (e 4), .int .i64 (e 5), .int .i64 (e 6), .int .i64 (e 7), .int .i64 (e 8), .int .i64 (e 9), .int .i64 (e 10)]) := rfl
  rw [unhide hu] at cp ⊢
  have hgw : Hid (w.grownBy (w.alloc (.cells #[.int .i64 (e 0), .int .i64 (e 1), .int .i64 (e 2), .int .i64 (e 3), .int .i64 (e 4), .int .i64 (e 5), .int .i64 (e 6), .int .i64 (e 7), .int .i64 (e 8), .int .i64 (e 9), .int .i64 (e 10)] 36)) none) := World.grownBy_alloc _ _ _
  clear R1 R2 e1 e2 x0 x9 y0 y9 d1 d2 d3 d4
  go_enter Try.func84, Try.ntmps84
  go_wp2_with fail
  refine (way_any _ _).mono ?_
  rintro x w1 ⟨rfl, hw⟩
  subst w1
  go_wp2_with fail
  refine (unhide cp _).mono ?_
  rintro x w1 ⟨rfl, hg⟩
  have hg1 := hide (grown_trans (unhide hgw) hg)
  clear hg hgw
  go_wp2
  go_ret
  exact ⟨⟨_, _, rfl, (unhide hR).1, (unhide hR).2⟩, unhide hg1⟩

/-- The step from one that stands on the floor to another. -/
theorem mLess (e f : Nat → Int) (x0 : 0 ≤ e 3) (x9 : e 3 < 24) (y0 : 0 ≤ e 4) (y9 : e 4 < 16) (u0 : 0 ≤ f 3) (u9 : f 3 < 24) (v0 : 0 ≤ f 4) (v9 : f 4 < 16) :
    ∃ r1 r2, (∀ wq : World, (binOp .sub 107 (.complex .f64 (floatOfInt .f64 (f 3)) (floatOfInt .f64 (f 4))) (.complex .f64 (floatOfInt .f64 (e 3)) (floatOfInt .f64 (e 4)))).run Try.prog wq = .ok (.complex .f64 r1 r2) wq) ∧ Fl.Rep r1 (f 3 - e 3) ∧ Fl.Rep r2 (f 4 - e 4) := by
  obtain ⟨r1, e1, R1⟩ := Fl.rep_sub (Fl.rep_int (f 3) (by omega) (by omega)) (Fl.rep_int (e 3) (by omega) (by omega)) (by omega) (by omega)
  obtain ⟨r2, e2, R2⟩ := Fl.rep_sub (Fl.rep_int (f 4) (by omega) (by omega)) (Fl.rep_int (e 4) (by omega) (by omega)) (by omega) (by omega)
  exact ⟨r1, r2, fun wq => run_complex_sum (P := Try.prog) wq .sub (.inr rfl) 107 .f64 _ _ _ _ r1 r2 (by unfold cSumBits; rw [e1, e2]; rfl), R1, R2⟩

end Go.Proofs.Ytbploaihicakeaa

namespace Go.Proofs.Ytbploaihicakeaa
open Go.RowKit

theorem Lie.elevenInts {x : World} {B : Nat} {T : TypeId} {e : Nat → Int} (h : Lie x B T 11 (Ints e)) :
    x.cell? ⟨B, 0, none⟩ = some (.int .i64 (e 0)) ∧ x.cell? ⟨B, 1, none⟩ = some (.int .i64 (e 1)) ∧ x.cell? ⟨B, 2, none⟩ = some (.int .i64 (e 2)) ∧ x.cell? ⟨B, 3, none⟩ = some (.int .i64 (e 3)) ∧ x.cell? ⟨B, 4, none⟩ = some (.int .i64 (e 4)) ∧ x.cell? ⟨B, 5, none⟩ = some (.int .i64 (e 5)) ∧ x.cell? ⟨B, 6, none⟩ = some (.int .i64 (e 6)) ∧ x.cell? ⟨B, 7, none⟩ = some (.int .i64 (e 7)) ∧ x.cell? ⟨B, 8, none⟩ = some (.int .i64 (e 8)) ∧ x.cell? ⟨B, 9, none⟩ = some (.int .i64 (e 9)) ∧ x.cell? ⟨B, 10, none⟩ = some (.int .i64 (e 10)) :=
  ⟨h.cell (c := 0) (by omega), h.cell (c := 1) (by omega), h.cell (c := 2) (by omega), h.cell (c := 3) (by omega), h.cell (c := 4) (by omega), h.cell (c := 5) (by omega), h.cell (c := 6) (by omega), h.cell (c := 7) (by omega), h.cell (c := 8) (by omega), h.cell (c := 9) (by omega), h.cell (c := 10) (by omega)⟩

set_option maxRecDepth 8000 in
set_option maxHeartbeats 3200000 in
theorem mFoe_any (E : Nat → Nat → Int) (e : Nat → Int) (gE cE : Nat) (w : World) (hE : Own w gE 32 E) (hcE : 32 ≤ cE) (x0 : 0 ≤ e 3) (x9 : e 3 < 24) (y0 : 0 ≤ e 4) (y9 : e 4 < 16) :
    Calls Try.prog 110 #[.slice (some ⟨gE, 0, none⟩) 32 cE, .agg (En.cells e)] w (Says w (.int .i64 (Nv.wayFrom (Md.foe E (e 3) (e 4)) 4 1))) := by
  obtain ⟨w0, hw0⟩ : ∃ w0, w0 = w.alloc (.cells (En.cells e) 36) := ⟨_, rfl⟩
  have hg0 : Hid (w.grownBy w0 none) := by rw [hw0]; exact World.grownBy_alloc _ _ _
  have hQ : Hid (Lie w0 w.heap.size 36 11 (Ints e)) := by rw [hw0]; exact Lie.copied _ _ _
  have hE0 := hide (hE.ents.on (unhide hg0))
  have ca : Hid (∀ (d : Nat) (wq : World), Calls Try.prog 84 #[.agg (En.cells e), .int .i64 (d : Int)] wq fun x w' => (∃ a b, x = .returned (.complex .f64 a b) ∧ Fl.Rep a (e 3 + (Fx.way (d : Int)).1) ∧ Fl.Rep b (e 4 + (Fx.way (d : Int)).2)) ∧ wq.grownBy w' none) := fun d wq => mAhead_any e d wq x0 x9 y0 y9
  have hcE' := hide hcE
  obtain ⟨x, hx⟩ : ∃ x, e 3 = x := ⟨_, rfl⟩
  obtain ⟨y, hy⟩ : ∃ y, e 4 = y := ⟨_, rfl⟩
  have hK : Hid (∀ z, w0.grownBy z none → z.cell? ⟨w.heap.size, 0, none⟩ = some (.int .i64 (e 0)) ∧ z.cell? ⟨w.heap.size, 1, none⟩ = some (.int .i64 (e 1)) ∧ z.cell? ⟨w.heap.size, 2, none⟩ = some (.int .i64 (e 2)) ∧ z.cell? ⟨w.heap.size, 3, none⟩ = some (.int .i64 x) ∧ z.cell? ⟨w.heap.size, 4, none⟩ = some (.int .i64 y) ∧ z.cell? ⟨w.heap.size, 5, none⟩ = some (.int .i64 (e 5)) ∧ z.cell? ⟨w.heap.size, 6, none⟩ = some (.int .i64 (e 6)) ∧ z.cell? ⟨w.heap.size, 7, none⟩ = some (.int .i64 (e 7)) ∧ z.cell? ⟨w.heap.size, 8, none⟩ = some (.int .i64 (e 8)) ∧ z.cell? ⟨w.heap.size, 9, none⟩ = some (.int .i64 (e 9)) ∧ z.cell? ⟨w.heap.size, 10, none⟩ = some (.int .i64 (e 10))) := fun z hz => by
    rw [← hx, ← hy]
    exact ((unhide hQ).on hz).elevenInts
  unfold En.cells at hw0 ca ⊢
  rw [hx, hy] at ca
  rw [hx] at x0 x9
  rw [hy] at y0 y9
  rw [hx, hy] at hw0 ⊢
  clear hQ hE hcE hx hy
  go_enter Try.func110, Try.ntmps110
  go_upto_region 1 with fail
  rw [← hw0]
  clear hw0
  obtain ⟨B, hB⟩ : ∃ B, w.heap.size = B := ⟨_, rfl⟩
  rw [hB] at hK ⊢
  clear hB
  go_wp2_with fail
  go_loopw [5, 6, 7, 8] (fun v5 v6 v7 v8 wr => ∃ d : Nat, 1 ≤ d ∧ d ≤ 5 ∧ v5 = .int .i64 (d : Int) ∧ Hid (w0.grownBy wr none) ∧ Hid (∀ j, 1 ≤ j → j < d → Md.foe E x y j = false)) (fun v5 _ _ _ _ => 10 - (intOf v5).toNat)
  case atStart => exact ⟨1, by omega, by omega, rfl, World.grownBy.refl _ _, fun j h1 h2 => by omega⟩
  case round =>
    obtain ⟨d, hd1, hd5, rfl, hgr, hno⟩ := hrel
    by_cases hlt : d ≤ 4
    · have hlt' : (d : Int) ≤ 4 := by omega
      have HD := hide (show 1 ≤ d ∧ d ≤ 4 from ⟨hd1, hlt⟩)
      obtain ⟨s1, s2, s3, s4⟩ := Md.way_small d
      have cat : Hid (∀ z, w0.grownBy z none → Calls Try.prog 87 #[.slice (some ⟨gE, 0, none⟩) 32 cE, .int .i64 (x + (Fx.way (d : Int)).1), .int .i64 (y + (Fx.way (d : Int)).2)] z (Says z (.int .i64 (Md.who E x y d)))) := fun z hz => entAt_any gE 32 cE E _ _ z ((unhide hE0).on hz) (unhide hcE')
      have hwho := hide (@Md.who_row E x y d)
      have hfd : Hid (Md.foe E x y d = (decide (0 ≤ Md.who E x y d) && !(decide (E (Md.who E x y d).toNat 0 = 1)))) := rfl
      have cad := hide (fun wq => unhide ca d wq)
      obtain ⟨X, hX⟩ : ∃ X, x + (Fx.way (d : Int)).1 = X := ⟨_, rfl⟩
      obtain ⟨Y, hY⟩ : ∃ Y, y + (Fx.way (d : Int)).2 = Y := ⟨_, rfl⟩
      obtain ⟨h, hh⟩ : ∃ z, Md.who E x y d = z := ⟨_, rfl⟩
      have bX : -1 ≤ X ∧ X ≤ 24 := by omega
      have bY : -1 ≤ Y ∧ Y ≤ 16 := by omega
      rw [hX, hY] at cad cat
      rw [hh] at cat hwho hfd
      clear hX hY hh s1 s2 s3 s4 hd1 hd5 hlt x0 x9 y0 y9
      obtain ⟨k0, k1, k2, k3, k4, k5, k6, k7, k8, k9, k10⟩ := unhide hK _ (unhide hgr)
      go_wp2_with fail
      refine (unhide cad _).mono ?_
      rintro xx w1 ⟨⟨a, b, rfl, Ra, Rb⟩, hg⟩
      have hg1 := hide (grown_trans (unhide hgr) hg)
      have cp := hide (fun wq => mParts_any a b X Y wq Ra Rb (by omega) (by omega) (by omega) (by omega))
      clear hg Ra Rb k0 k1 k2 k3 k4 k5 k6 k7 k8 k9 k10 bX bY
      go_wp2_with fail
      refine (unhide cp _).mono ?_
      rintro xx wy ⟨rfl, hw⟩
      subst wy
      clear cp
      go_wp2_with fail
      refine (unhide cat _ (unhide hg1)).mono ?_
      rintro xx w2 ⟨rfl, hg⟩
      have hg2 := hide (grown_trans (unhide hg1) hg)
      clear hg cat cad
      rcases unhide hwho with rfl | ⟨j, hj, rfl⟩
      · have hf : Hid (Md.foe E x y d = false) := (show Md.foe E x y d = false by rw [unhide hfd]; rfl)
        clear hfd hwho
        go_wp2
        go_roundw
        case rel => exact ⟨d + 1, by omega, by have := unhide HD; omega, by go_num, hg2, fun j h1 h2 => by
          by_cases e : j = d
          · rw [e]; exact unhide hf
          · exact unhide hno j h1 (by omega)⟩
        case measure => simp [intOf]; have := unhide HD; omega
      · have u0 := (((unhide hE0).on (unhide hg2)).row hj).1
        have hj' : (j : Int) < 32 := by omega
        rw [Int.toNat_natCast] at hfd
        by_cases h1 : E j 0 = 1
        · have hf : Hid (Md.foe E x y d = false) := (show Md.foe E x y d = false by rw [unhide hfd, h1]; simp)
          rw [h1] at u0
          clear hfd hwho h1 hj
          go_wp2
          go_roundw
          case rel => exact ⟨d + 1, by omega, by have := unhide HD; omega, by go_num, hg2, fun j h1 h2 => by
            by_cases e : j = d
            · rw [e]; exact unhide hf
            · exact unhide hno j h1 (by omega)⟩
          case measure => simp [intOf]; have := unhide HD; omega
        · have hf : Hid (Md.foe E x y d = true) := (show Md.foe E x y d = true by rw [unhide hfd]; simp [h1])
          have h1' : (E j 0 == 1) = false := by simpa using h1
          have hw : Hid (Nv.wayFrom (Md.foe E x y) 4 1 = (d : Int)) := Nv.way_hit 4 d 1 (unhide hno) (unhide hf) (unhide HD).1 (by have := (unhide HD).2; omega)
          have hfin : Hid (Says w (.int .i64 (Nv.wayFrom (Md.foe E x y) 4 1)) (.returned (.int .i64 (d : Int))) w2) := ⟨by rw [unhide hw], grown_trans (unhide hg0) (unhide hg2)⟩
          clear hfd hwho h1 hj hw hf
          go_wp2
          go_ret
          exact unhide hfin
    · obtain rfl : d = 5 := by omega
      have hge : ¬ ((5 : Nat) : Int) ≤ 4 := by omega
      have hw : Hid (Nv.wayFrom (Md.foe E x y) 4 1 = 0) := Nv.way_none 4 1 fun j h1 h2 => unhide hno j h1 (by omega)
      have hfin : Hid (Says w (.int .i64 (Nv.wayFrom (Md.foe E x y) 4 1)) (.returned (.int .i64 0)) wr) := ⟨by rw [unhide hw], grown_trans (unhide hg0) (unhide hgr)⟩
      clear hlt hd1 hd5 hno hw
      go_wp2
      go_ret
      exact unhide hfin

end Go.Proofs.Ytbploaihicakeaa

namespace Go.Proofs.Ytbploaihicakeaa
open Go.RowKit

/-- The kinds of what is in a bag, as far as the items below n go. -/
def Md.BagIs (I : Nat → Nat → Int) (seat : Int) (n : Nat) (f : Nat → Int) : Prop := ∀ b : Nat, b < 4 → (∃ i, i < n ∧ I i 1 = 2 ∧ I i 2 = seat ∧ I i 3 = (b : Int) ∧ f b = I i 0) ∨ ((∀ i, i < n → ¬ (I i 1 = 2 ∧ I i 2 = seat ∧ I i 3 = (b : Int))) ∧ f b = 0)

theorem Md.BagIs.skip {I : Nat → Nat → Int} {seat : Int} {n : Nat} {f : Nat → Int} (h : Md.BagIs I seat n f) (hno : ∀ b : Nat, b < 4 → ¬ (I n 1 = 2 ∧ I n 2 = seat ∧ I n 3 = (b : Int))) : Md.BagIs I seat (n + 1) f := fun b hb => by
  rcases h b hb with ⟨i, hi, r⟩ | ⟨h1, h2⟩
  · exact .inl ⟨i, by omega, r⟩
  · refine .inr ⟨fun i hi => ?_, h2⟩
    by_cases e : i = n
    · rw [e]; exact hno b hb
    · exact h1 i (by omega)

theorem Md.BagIs.take {I : Nat → Nat → Int} {seat : Int} {n b : Nat} {f : Nat → Int} (h : Md.BagIs I seat n f) (h1 : I n 1 = 2) (h2 : I n 2 = seat) (h3 : I n 3 = (b : Int)) : Md.BagIs I seat (n + 1) (Gr.upd f b (I n 0)) := fun b' hb => by
  by_cases e : b' = b
  · subst e
    refine .inl ⟨n, by omega, h1, h2, h3, ?_⟩
    simp [Gr.upd]
  · have hu : Gr.upd f b (I n 0) b' = f b' := by simp [Gr.upd, e]
    rw [hu]
    rcases h b' hb with ⟨i, hi, r⟩ | ⟨g1, g2⟩
    · exact .inl ⟨i, by omega, r⟩
    · refine .inr ⟨fun i hi => ?_, g2⟩
      by_cases e2 : i = n
      · rw [e2]; rintro ⟨_, _, h⟩; omega
      · exact g1 i (by omega)

theorem Gd.Ok.same {c : Nat → Int} {I : Nat → Nat → Int} (h : Gd.Ok c 40 I) {i k : Nat} (hi : i < 40) (hk : k < 40) (h0 : I i 1 ≠ 0) (h1 : I k 1 = I i 1) (h2 : I k 2 = I i 2) (h3 : I k 3 = I i 3) : i = k := by
  by_cases e : i = k
  · exact e
  · exact absurd ⟨h1, h2, h3⟩ (h.one i k hi hk e h0)

/-- Whether a number is among the four. -/
def Md.among (f : Nat → Int) (v : Int) : Bool := decide (0 ≤ En.first (fun b => decide (v = f b)) 4)

theorem Md.among_iff (f : Nat → Int) (v : Int) : Md.among f v = true ↔ ∃ b, b < 4 ∧ f b = v := by
  unfold Md.among
  rcases En.first_cases (fun b => decide (v = f b)) 4 with ⟨he, hno⟩ | ⟨k, hk, he, hq, _⟩
  · rw [he]
    refine ⟨fun h => by simp at h, fun ⟨b, hb, e⟩ => ?_⟩
    have := hno b hb
    simp [e] at this
  · rw [he]
    refine ⟨fun _ => ⟨k, hk, ?_⟩, fun _ => by simp⟩
    have := of_decide_eq_true hq
    exact this.symm

theorem Md.has_iff {c : Nat → Int} {I : Nat → Nat → Int} {seat : Int} {f : Nat → Int} (hok : Gd.Ok c 40 I) (h : Md.BagIs I seat 40 f) : Md.among f 1 = decide (0 ≤ Gd.has I 40 seat 1 1) := by
  rw [Bool.eq_iff_iff, Md.among_iff, decide_eq_true_iff]
  constructor
  · rintro ⟨b, hb, e⟩
    rcases h b hb with ⟨i, hi, i1, i2, i3, hf⟩ | ⟨_, h0⟩
    · have hfi : ∃ k : Nat, k < 40 ∧ Gd.find I 40 2 seat (b : Int) = (k : Int) ∧ I k 1 = 2 ∧ I k 2 = seat ∧ I k 3 = (b : Int) := by
        rcases Gd.find_cases I 40 2 seat (b : Int) with ⟨_, hno⟩ | ⟨k, hk, he, k1, k2, k3, _⟩
        · exact absurd ⟨i1, i2, i3⟩ (hno i hi)
        · exact ⟨k, hk, he, k1, k2, k3⟩
      obtain ⟨k, hk, he, k1, k2, k3⟩ := hfi
      obtain rfl : i = k := hok.same hi hk (by omega) (by omega) (by omega) (by omega)
      have hQ : Gd.hasQ I 40 seat 1 1 b = true := by
        simp only [Gd.hasQ, Bool.and_eq_true, decide_eq_true_eq]
        rw [he, Int.toNat_natCast]
        omega
      unfold Gd.has
      rcases En.first_cases (Gd.hasQ I 40 seat 1 1) 4 with ⟨hf1, hno⟩ | ⟨m, hm, hf1, hq, _⟩
      · rw [hno b hb] at hQ; cases hQ
      · rw [if_pos (by omega), hf1]
        simp only [Gd.hasQ, Bool.and_eq_true, decide_eq_true_eq] at hq
        exact hq.1
    · omega
  · intro hh
    obtain ⟨k, hk, _, k1, k2, k3, k4, k5, k6⟩ := Gd.has_pos hh
    refine ⟨(I k 3).toNat, by omega, ?_⟩
    rcases h (I k 3).toNat (by omega) with ⟨i, hi, i1, i2, i3, hf⟩ | ⟨hno, _⟩
    · obtain rfl : i = k := hok.same hi hk (by omega) (by omega) (by omega) (by omega)
      omega
    · exact absurd ⟨k1, k2, by omega⟩ (hno k hk)

theorem Md.slot_iff {c : Nat → Int} {I : Nat → Nat → Int} {seat : Int} {f : Nat → Int} (hok : Gd.Ok c 40 I) (h : Md.BagIs I seat 40 f) : Md.among f 0 = decide (0 ≤ Gd.slot I 40 seat) := by
  rw [Bool.eq_iff_iff, Md.among_iff, decide_eq_true_iff]
  constructor
  · rintro ⟨b, hb, e⟩
    rcases h b hb with ⟨i, hi, i1, i2, i3, hf⟩ | ⟨hno, _⟩
    · rcases hok.each i hi with hz | hp
      · have := hz.2.1; omega
      · have := hp.1; omega
    · unfold Gd.slot
      rcases En.first_cases (fun b => decide (Gd.find I 40 2 seat (b : Int) < 0)) 4 with ⟨_, hn⟩ | ⟨m, hm, hf1, _⟩
      · have := hn b hb
        simp only [decide_eq_false_iff_not] at this
        obtain ⟨k, hk, _, k1, k2, k3⟩ := Gd.find_pos (I := I) (n := 40) (w := 2) (a := seat) (b := (b : Int)) (by omega)
        exact absurd ⟨k1, k2, k3⟩ (hno k hk)
      · omega
  · intro hs
    obtain ⟨h4, hno⟩ := Gd.slot_pos hs
    refine ⟨(Gd.slot I 40 seat).toNat, by omega, ?_⟩
    rcases h (Gd.slot I 40 seat).toNat (by omega) with ⟨i, hi, i1, i2, i3, _⟩ | ⟨_, h0⟩
    · exact absurd ⟨i1, i2, by omega⟩ (hno i hi)
    · exact h0

/-- An item lies at a place that can be taken. -/
def Md.liesQ (I : Nat → Nat → Int) (x y : Int) (room : Bool) : Nat → Bool := fun i => (decide (I i 1 = 1) && (decide (I i 2 = x) && decide (I i 3 = y))) && (room || decide (I i 0 = 4))

def Md.lies (I : Nat → Nat → Int) (x y : Int) (room : Bool) : Bool := decide (0 ≤ En.first (Md.liesQ I x y room) 40)

theorem Md.lies_iff {c : Nat → Int} {I : Nat → Nat → Int} {x y S : Int} (hok : Gd.Ok c 40 I) : Md.lies I x y (decide (0 ≤ S)) = decide (0 ≤ Gd.find I 40 1 x y ∧ (I (Gd.find I 40 1 x y).toNat 0 = 4 ∨ 0 ≤ S)) := by
  unfold Md.lies
  rw [Bool.eq_iff_iff, decide_eq_true_iff, decide_eq_true_iff]
  constructor
  · intro h
    rcases En.first_cases (Md.liesQ I x y (decide (0 ≤ S))) 40 with ⟨he, _⟩ | ⟨k, hk, he, hq, _⟩
    · omega
    · simp only [Md.liesQ, Bool.and_eq_true, Bool.or_eq_true, decide_eq_true_eq] at hq
      obtain ⟨⟨k1, k2, k3⟩, k4⟩ := hq
      rcases Gd.find_cases I 40 1 x y with ⟨_, hno⟩ | ⟨j, hj, hf, j1, j2, j3, _⟩
      · exact absurd ⟨k1, k2, k3⟩ (hno k hk)
      · obtain rfl : k = j := hok.same hk hj (by omega) (by omega) (by omega) (by omega)
        rw [hf, Int.toNat_natCast]
        exact ⟨by omega, by rcases k4 with h | h <;> omega⟩
  · rintro ⟨h1, h2⟩
    obtain ⟨k, hk, he, k1, k2, k3⟩ := Gd.find_pos h1
    rw [he, Int.toNat_natCast] at h2
    rcases En.first_cases (Md.liesQ I x y (decide (0 ≤ S))) 40 with ⟨_, hno⟩ | ⟨m, hm, hf, _⟩
    · have := hno k hk
      have hq : Md.liesQ I x y (decide (0 ≤ S)) k = true := by
        simp only [Md.liesQ, Bool.and_eq_true, Bool.or_eq_true, decide_eq_true_eq]
        exact ⟨⟨k1, k2, k3⟩, by rcases h2 with h | h <;> omega⟩
      rw [hq] at this; cases this
    · omega

/-- What bagOf gives. -/
def Md.BagSays (w : World) (I : Nat → Nat → Int) (seat : Int) (e : Ending) (w' : World) : Prop := ∃ G f, e = .returned (.slice (some ⟨G, 0, none⟩) 4 4) ∧ Arr w' G 3 4 (Ints f) ∧ Md.BagIs I seat 40 f ∧ w.grownBy w' none

set_option maxRecDepth 8000 in
set_option maxHeartbeats 3200000 in
theorem mBag_any (I : Nat → Nat → Int) (gI cI : Nat) (seat : Int) (w : World) (hI : Its w gI 0 40 I) :
    Calls Try.prog 109 #[.slice (some ⟨gI, 0, none⟩) 40 cI, .int .i64 seat] w (Md.BagSays w I seat) := by
  have hI' := hide hI
  obtain ⟨i0, hi, hz0, hz1, hz2⟩ := info_parts info_int
  clear hI
  go_enter Try.func109, Try.ntmps109
  obtain ⟨G, hG⟩ : ∃ G, G = w.heap.size := ⟨_, rfl⟩
  have hG' := hide hG
  clear hG
  go_wp2_with (at_make; refine wpList_make_full _ rfl _ _ 22 rfl G 3 i0 (.int .i64 0) 1 Try.underlying22 hi hz0 hz1 .i64 .i64 _ _ 4 rfl rfl rfl rfl ?q3 ?q4 (Nat.le_of_eq (unhide hG')) ?_)
  case q3 => rw [hz2]; omega
  case q4 => unfold maxLen; omega
  intro w2 hown hgrow
  rw [← unhide hG'] at hown ⊢
  have hA := hide (Arr.zero hown)
  have hB0 : Hid (w.grownBy w2 none) := below_grown (by rw [← unhide hG']; exact (Below.refl _ _).grown hgrow (Nat.le_of_eq (unhide hG')) (by intro k hk; cases hk))
  clear hown hgrow hi hz0 hz1 hz2
  go_wp2_with fail
  go_loopw [7, 11] (fun _ i wr => ∃ (k : Nat) (f : Nat → Int), k ≤ 40 ∧ i = .int .i64 (k : Int) ∧ Hid (Arr wr G 3 4 (Ints f)) ∧ Hid (Md.BagIs I seat k f) ∧ Hid (w.grownBy wr none)) (fun _ i _ => 50 - (intOf i).toNat)
  case atStart => exact ⟨0, fun _ => 0, Nat.zero_le _, rfl, (unhide hA).congr fun _ _ => rfl, fun b _ => .inr ⟨fun i hi => by omega, rfl⟩, hB0⟩
  case round =>
    obtain ⟨k, f, hk, rfl, hA1, hB1, hg1⟩ := hrel
    clear hA hB0
    by_cases hlt : k < 40
    · have hlt' : (k : Int) < 40 := by omega
      have HL := hide hlt
      obtain ⟨u0, u1, u2, u3⟩ := ((unhide hI').on (unhide hg1)).row hlt
      obtain ⟨p0, h0⟩ : ∃ p, I k 0 = p := ⟨_, rfl⟩
      obtain ⟨p1, h1⟩ : ∃ p, I k 1 = p := ⟨_, rfl⟩
      obtain ⟨p2, h2⟩ : ∃ p, I k 2 = p := ⟨_, rfl⟩
      obtain ⟨p3, h3⟩ : ∃ p, I k 3 = p := ⟨_, rfl⟩
      rw [h0] at u0
      rw [h1] at u1
      rw [h2] at u2
      rw [h3] at u3
      have hP := hide (show I k 0 = p0 ∧ I k 1 = p1 ∧ I k 2 = p2 ∧ I k 3 = p3 from ⟨h0, h1, h2, h3⟩)
      clear h0 h1 h2 h3 hlt hk
      have hga := hide (World.grownBy_alloc wr (.cells #[.int .i64 p0, .int .i64 p1, .int .i64 p2, .int .i64 p3] 57) none)
      by_cases m : p1 = 2 ∧ p2 = seat ∧ 0 ≤ p3 ∧ p3 < 4
      · obtain ⟨rfl, rfl, m3, m4⟩ := m
        obtain ⟨b, rfl⟩ : ∃ b : Nat, p3 = (b : Int) := ⟨p3.toNat, by omega⟩
        have HB := hide (show b < 4 by omega)
        have hA2 := hide ((unhide hA1).grown (unhide hga) (by simp))
        have hcc := (unhide hA2).cell (unhide HB)
        have hff := (unhide hA2).free b
        have hB2 : Hid (Md.BagIs I p2 (k + 1) (Gr.upd f b p0)) := by
          have hP' := unhide hP
          have := (unhide hB1).take hP'.2.1 hP'.2.2.1 hP'.2.2.2
          rw [hP'.1] at this
          exact this
        have hfin : Hid (∀ v : Int, w.grownBy ((wr.alloc (.cells #[.int .i64 p0, .int .i64 2, .int .i64 p2, .int .i64 (b : Int)] 57)).setCell ⟨G, b, none⟩ (.int .i64 v)) none) := fun v => grown_store (grown_trans (unhide hg1) (unhide hga)) ⟨G, b, none⟩ (Nat.le_of_eq (unhide hG').symm) _
        clear hP hga hA1 hB1 hg1
        go_wp2
        go_roundw
        case rel => exact ⟨k + 1, Gr.upd f b p0, by have := unhide HL; omega, by go_num, (unhide hA2).upd p0, hB2, unhide hfin p0⟩
        case measure => have := unhide HL; simp [intOf]; omega
      · have hB2 : Hid (Md.BagIs I seat (k + 1) f) := (unhide hB1).skip fun b hb ⟨j1, j2, j3⟩ => m (by have := unhide hP; omega)
        have hA2 := hide ((unhide hA1).grown (unhide hga) (by simp))
        have hg2 := hide (grown_trans (unhide hg1) (unhide hga))
        clear hP hga hA1 hB1 hg1
        by_cases m1 : p1 = 2
        · subst m1
          by_cases m2 : p2 = seat
          · subst m2
            by_cases m3 : p3 < 0
            · have m3' : ¬ p3 ≥ 0 := by omega
              clear m
              go_wp2
              go_roundw
              case rel => exact ⟨k + 1, f, by have := unhide HL; omega, by go_num, hA2, hB2, hg2⟩
              case measure => have := unhide HL; simp [intOf]; omega
            · have m3' : p3 ≥ 0 := by omega
              have m4' : ¬ p3 < 4 := by omega
              clear m
              go_wp2
              go_roundw
              case rel => exact ⟨k + 1, f, by have := unhide HL; omega, by go_num, hA2, hB2, hg2⟩
              case measure => have := unhide HL; simp [intOf]; omega
          · have m2' : (p2 == seat) = false := by simpa using m2
            clear m m2
            go_wp2
            go_roundw
            case rel => exact ⟨k + 1, f, by have := unhide HL; omega, by go_num, hA2, hB2, hg2⟩
            case measure => have := unhide HL; simp [intOf]; omega
        · have m1' : (p1 == 2) = false := by simpa using m1
          clear m m1
          go_wp2
          go_roundw
          case rel => exact ⟨k + 1, f, by have := unhide HL; omega, by go_num, hA2, hB2, hg2⟩
          case measure => have := unhide HL; simp [intOf]; omega
    · obtain rfl : k = 40 := by omega
      have hge : ¬ ((40 : Nat) : Int) < 40 := by omega
      have hfin : Hid (Md.BagSays w I seat (.returned (.slice (some ⟨G, 0, none⟩) 4 4)) wr) := ⟨G, f, rfl, unhide hA1, unhide hB1, unhide hg1⟩
      clear hlt hk
      go_wp2
      go_ret
      exact unhide hfin

set_option maxHeartbeats 800000 in
theorem mIndex_any (G : Nat) (f : Nat → Int) (v : Int) (w : World) (hA : Arr w G 3 4 (Ints f)) :
    Calls Try.prog 114 #[.slice (some ⟨G, 0, none⟩) 4 4, .int .i64 v] w fun e w' => e = .returned (.int .i64 (En.first (fun b => decide (v = f b)) 4)) ∧ w' = w := by
  have hA' := hide hA
  have hhit : Hid (∀ k : Nat, k < 4 → (∀ j, j < k → v ≠ f j) → v = f k → En.first (fun b => decide (v = f b)) 4 = (k : Int)) := fun k hk hno e => En.first_hit (fun j hj => decide_eq_false (hno j hj)) (decide_eq_true e) hk
  have hnone : Hid ((∀ j, j < 4 → v ≠ f j) → En.first (fun b => decide (v = f b)) 4 = -1) := fun hno => En.first_none (fun j hj => decide_eq_false (hno j hj))
  generalize En.first (fun b => decide (v = f b)) 4 = r at hhit hnone ⊢
  clear hA
  go_enter Try.func114, Try.ntmps114
  go_wp2_with fail
  go_loop [5, 8] (fun _ i => ∃ k : Nat, k ≤ 4 ∧ i = .int .i64 (k : Int) ∧ Hid (∀ j, j < k → v ≠ f j)) (fun _ i => 10 - (intOf i).toNat)
  case atStart => exact ⟨0, by omega, rfl, fun j hj => by omega⟩
  case round =>
    obtain ⟨k, hk, rfl, hno⟩ := hrel
    by_cases hlt : k < 4
    · have q : w.cell? ⟨G, k, none⟩ = some (.int .i64 (f k)) := (unhide hA').cell hlt
      have hlt' : (k : Int) < 4 := by omega
      have HL := hide hlt
      obtain ⟨u, hu⟩ : ∃ u, f k = u := ⟨_, rfl⟩
      rw [hu] at q
      have hu' := hide hu
      clear hu hlt hk
      by_cases e : v = u
      · have he : Hid (r = (k : Int)) := unhide hhit k (unhide HL) (unhide hno) (by rw [unhide hu']; exact e)
        subst e
        go_wp2
        go_ret
        exact ⟨ret_int (unhide he).symm, rfl⟩
      · have e' : (v == u) = false := by simpa using e
        have hno2 : Hid (∀ j, j < k + 1 → v ≠ f j) := fun j hj => by
          by_cases ej : j = k
          · rw [ej, unhide hu']; exact e
          · exact unhide hno j (by omega)
        clear e
        go_wp2
        go_round
        case rel => exact ⟨k + 1, by have := unhide HL; omega, by go_num, hno2⟩
        case measure => have := unhide HL; simp [intOf]; omega
    · obtain rfl : k = 4 := by omega
      have hge : ¬ ((4 : Nat) : Int) < 4 := by omega
      have he : Hid (r = -1) := unhide hnone (unhide hno)
      clear hlt hk
      go_wp2
      go_ret
      exact ⟨ret_int (unhide he).symm, rfl⟩

theorem mContains_any (G : Nat) (f : Nat → Int) (v : Int) (w : World) (hA : Arr w G 3 4 (Ints f)) :
    Calls Try.prog 111 #[.slice (some ⟨G, 0, none⟩) 4 4, .int .i64 v] w fun e w' => e = .returned (.bool (Md.among f v)) ∧ w' = w := by
  have ci := hide (mIndex_any G f v w hA)
  have hd : Hid (Md.among f v = decide (0 ≤ En.first (fun b => decide (v = f b)) 4)) := rfl
  rw [unhide hd]
  generalize En.first (fun b => decide (v = f b)) 4 = r at ci ⊢
  clear hA hd
  go_enter Try.func111, Try.ntmps111
  go_wp2_with fail
  refine (unhide ci).mono ?_
  rintro e wy ⟨rfl, hw⟩
  subst wy
  go_wp2
  go_ret
  exact ⟨by simp, rfl⟩

end Go.Proofs.Ytbploaihicakeaa

namespace Go.Proofs.Ytbploaihicakeaa
open Go.RowKit

set_option maxHeartbeats 1600000 in
theorem mLies_any (I : Nat → Nat → Int) (k : Nat) (x y : Int) (room : Bool) (Bh Br : Nat) (w : World) (h3 : w.cell? ⟨Bh, 3, none⟩ = some (.int .i64 x)) (h4 : w.cell? ⟨Bh, 4, none⟩ = some (.int .i64 y)) (hr : w.cell? ⟨Br, 0, none⟩ = some (.bool room)) (l1 : Bh < w.heap.size) (l2 : Br < w.heap.size) :
    Calls Try.prog 116 #[.agg #[.int .i64 (I k 0), .int .i64 (I k 1), .int .i64 (I k 2), .int .i64 (I k 3)], .pointer (some ⟨Bh, 0, none⟩), .pointer (some ⟨Br, 0, none⟩)] w (Says w (.bool (Md.liesQ I x y room k))) := by
  have hd : Hid (Md.liesQ I x y room k = ((decide (I k 1 = 1) && (decide (I k 2 = x) && decide (I k 3 = y))) && (room || decide (I k 0 = 4)))) := rfl
  rw [unhide hd]
  obtain ⟨p0, h0⟩ : ∃ p, I k 0 = p := ⟨_, rfl⟩
  obtain ⟨p1, h1⟩ : ∃ p, I k 1 = p := ⟨_, rfl⟩
  obtain ⟨p2, h2⟩ : ∃ p, I k 2 = p := ⟨_, rfl⟩
  obtain ⟨p3, hp3⟩ : ∃ p, I k 3 = p := ⟨_, rfl⟩
  rw [h0, h1, h2, hp3]
  clear hd h0 h1 h2 hp3
  have hg := hide (World.grownBy_alloc w (.cells #[.int .i64 p0, .int .i64 p1, .int .i64 p2, .int .i64 p3] 57) none)
  have g3 := (grown_cell (unhide hg) Bh 3 l1 (by simp)).trans h3
  have g4 := (grown_cell (unhide hg) Bh 4 l1 (by simp)).trans h4
  have gr := (grown_cell (unhide hg) Br 0 l2 (by simp)).trans hr
  by_cases m1 : p1 = 1
  · subst m1
    by_cases m2 : p2 = x
    · subst m2
      by_cases m3 : p3 = y
      · subst m3
        cases room
        · go_enter Try.func116, Try.ntmps116
          go_wp2
          go_ret
          exact ⟨by simp [Bool.beq_eq_decide_eq], unhide hg⟩
        · go_enter Try.func116, Try.ntmps116
          go_wp2
          go_ret
          exact ⟨by simp, unhide hg⟩
      · have m3' : (p3 == y) = false := by simpa using m3
        go_enter Try.func116, Try.ntmps116
        go_wp2
        go_ret
        exact ⟨by simp [m3], unhide hg⟩
    · have m2' : (p2 == x) = false := by simpa using m2
      go_enter Try.func116, Try.ntmps116
      go_wp2
      go_ret
      exact ⟨by simp [m2], unhide hg⟩
  · have m1' : (p1 == 1) = false := by simpa using m1
    go_enter Try.func116, Try.ntmps116
    go_wp2
    go_ret
    exact ⟨by simp [m1], unhide hg⟩

set_option maxHeartbeats 1600000 in
theorem mIndexFunc_any (I : Nat → Nat → Int) (gI cI : Nat) (x y : Int) (room : Bool) (Bh Br : Nat) (w : World) (hI : Its w gI 0 40 I) (h3 : w.cell? ⟨Bh, 3, none⟩ = some (.int .i64 x)) (h4 : w.cell? ⟨Bh, 4, none⟩ = some (.int .i64 y)) (hr : w.cell? ⟨Br, 0, none⟩ = some (.bool room)) (l1 : Bh < w.heap.size) (l2 : Br < w.heap.size) :
    Calls Try.prog 117 #[.slice (some ⟨gI, 0, none⟩) 40 cI, .func (.func 116) #[] #[.pointer (some ⟨Bh, 0, none⟩), .pointer (some ⟨Br, 0, none⟩)]] w (Says w (.int .i64 (En.first (Md.liesQ I x y room) 40))) := by
  have hI' := hide hI
  have cq : Hid (∀ (k : Nat) (z : World), w.grownBy z none → Calls Try.prog 116 #[.agg #[.int .i64 (I k 0), .int .i64 (I k 1), .int .i64 (I k 2), .int .i64 (I k 3)], .pointer (some ⟨Bh, 0, none⟩), .pointer (some ⟨Br, 0, none⟩)] z (Says z (.bool (Md.liesQ I x y room k)))) := fun k z hz => mLies_any I k x y room Bh Br z ((grown_cell hz Bh 3 l1 (by simp)).trans h3) ((grown_cell hz Bh 4 l1 (by simp)).trans h4) ((grown_cell hz Br 0 l2 (by simp)).trans hr) (Nat.lt_of_lt_of_le l1 hz.size) (Nat.lt_of_lt_of_le l2 hz.size)
  have hhit : Hid (∀ k : Nat, k < 40 → (∀ j, j < k → Md.liesQ I x y room j = false) → Md.liesQ I x y room k = true → En.first (Md.liesQ I x y room) 40 = (k : Int)) := fun k hk hno e => En.first_hit hno e hk
  have hnone : Hid ((∀ j, j < 40 → Md.liesQ I x y room j = false) → En.first (Md.liesQ I x y room) 40 = -1) := fun hno => En.first_none hno
  generalize En.first (Md.liesQ I x y room) 40 = r at hhit hnone ⊢
  clear hI h3 h4 hr l1 l2
  go_enter Try.func117, Try.ntmps117
  go_wp2_with fail
  go_loopw [5, 8] (fun _ i wr => ∃ k : Nat, k ≤ 40 ∧ i = .int .i64 (k : Int) ∧ Hid (∀ j, j < k → Md.liesQ I x y room j = false) ∧ Hid (w.grownBy wr none)) (fun _ i _ => 50 - (intOf i).toNat)
  case atStart => exact ⟨0, by omega, rfl, fun j hj => by omega, World.grownBy.refl _ _⟩
  case round =>
    obtain ⟨k, hk, rfl, hno, hg⟩ := hrel
    by_cases hlt : k < 40
    · obtain ⟨u0, u1, u2, u3⟩ := ((unhide hI').on (unhide hg)).row hlt
      have hlt' : (k : Int) < 40 := by omega
      have HL := hide hlt
      clear hlt hk
      have ck := hide (unhide cq k wr (unhide hg))
      obtain ⟨q, hq⟩ : ∃ q, Md.liesQ I x y room k = q := ⟨_, rfl⟩
      rw [hq] at ck
      have hq' := hide hq
      clear hq
      go_wp2_with fail
      refine (unhide ck).mono ?_
      rintro e w1 ⟨rfl, hg1⟩
      have hg2 := hide (grown_trans (unhide hg) hg1)
      clear hg1 ck u0 u1 u2 u3
      cases q
      · have hno2 : Hid (∀ j, j < k + 1 → Md.liesQ I x y room j = false) := fun j hj => by
          by_cases ej : j = k
          · rw [ej]; exact unhide hq'
          · exact unhide hno j (by omega)
        go_wp2
        go_roundw
        case rel => exact ⟨k + 1, by have := unhide HL; omega, by go_num, hno2, hg2⟩
        case measure => have := unhide HL; simp [intOf]; omega
      · have he : Hid (r = (k : Int)) := unhide hhit k (unhide HL) (unhide hno) (unhide hq')
        go_wp2
        go_ret
        exact ⟨ret_int (unhide he).symm, unhide hg2⟩
    · obtain rfl : k = 40 := by omega
      have hge : ¬ ((40 : Nat) : Int) < 40 := by omega
      have he : Hid (r = -1) := unhide hnone (unhide hno)
      clear hlt hk
      go_wp2
      go_ret
      exact ⟨ret_int (unhide he).symm, unhide hg⟩

theorem mContainsFunc_any (I : Nat → Nat → Int) (gI cI : Nat) (x y : Int) (room : Bool) (Bh Br : Nat) (w : World) (hI : Its w gI 0 40 I) (h3 : w.cell? ⟨Bh, 3, none⟩ = some (.int .i64 x)) (h4 : w.cell? ⟨Bh, 4, none⟩ = some (.int .i64 y)) (hr : w.cell? ⟨Br, 0, none⟩ = some (.bool room)) (l1 : Bh < w.heap.size) (l2 : Br < w.heap.size) :
    Calls Try.prog 115 #[.slice (some ⟨gI, 0, none⟩) 40 cI, .func (.func 116) #[] #[.pointer (some ⟨Bh, 0, none⟩), .pointer (some ⟨Br, 0, none⟩)]] w (Says w (.bool (Md.lies I x y room))) := by
  have ci := hide (mIndexFunc_any I gI cI x y room Bh Br w hI h3 h4 hr l1 l2)
  have hd : Hid (Md.lies I x y room = decide (0 ≤ En.first (Md.liesQ I x y room) 40)) := rfl
  rw [unhide hd]
  generalize En.first (Md.liesQ I x y room) 40 = r at ci ⊢
  clear hI h3 h4 hr l1 l2 hd
  go_enter Try.func115, Try.ntmps115
  go_wp2_with fail
  refine (unhide ci).mono ?_
  rintro e w1 ⟨rfl, hg⟩
  have hg' := hide hg
  clear hg
  go_wp2
  go_ret
  exact ⟨by simp, unhide hg'⟩

theorem mFinds_any (I : Nat → Nat → Int) (e : Nat → Int) (gI cI : Nat) (room : Bool) (w : World) (hI : Its w gI 0 40 I) :
    Calls Try.prog 112 #[.slice (some ⟨gI, 0, none⟩) 40 cI, .agg (En.cells e), .bool room] w (Says w (.bool (Md.lies I (e 3) (e 4) room))) := by
  obtain ⟨w1, hw1⟩ : ∃ w1, w1 = w.alloc (.cells (En.cells e) 36) := ⟨_, rfl⟩
  obtain ⟨w2, hw2⟩ : ∃ w2, w2 = w1.alloc (.cells #[.bool room] 4) := ⟨_, rfl⟩
  have hg1 : w.grownBy w1 none := by rw [hw1]; exact World.grownBy_alloc _ _ _
  have hg2 : w1.grownBy w2 none := by rw [hw2]; exact World.grownBy_alloc _ _ _
  have hg := hide (grown_trans hg1 hg2)
  have hQ : Lie w1 w.heap.size 36 11 (Ints e) := by rw [hw1]; exact Lie.copied _ _ _
  have h3 : w2.cell? ⟨w.heap.size, 3, none⟩ = some (.int .i64 (e 3)) := (hQ.on hg2).cell (c := 3) (by omega)
  have h4 : w2.cell? ⟨w.heap.size, 4, none⟩ = some (.int .i64 (e 4)) := (hQ.on hg2).cell (c := 4) (by omega)
  have hr : w2.cell? ⟨w1.heap.size, 0, none⟩ = some (.bool room) := by rw [hw2]; exact (Arr.lit (heap_alloc_new w1 (.cells #[.bool room] 4))).cell (i := 0) (by simp)
  have s1 : w1.heap.size = w.heap.size + 1 := by rw [hw1]; simp
  have s2 : w2.heap.size = w1.heap.size + 1 := by rw [hw2]; simp
  have cf := hide (mContainsFunc_any I gI cI (e 3) (e 4) room w.heap.size w1.heap.size w2 (hI.on (unhide hg)) h3 h4 hr (by omega) (by omega))
  obtain ⟨R, hR⟩ : ∃ R, Md.lies I (e 3) (e 4) room = R := ⟨_, rfl⟩
  rw [hR] at cf ⊢
  rw [s1] at cf
  clear hR hI hg1 hg2 hQ h3 h4 hr s1 s2
  rw [hw1] at hw2
  unfold En.cells at hw2 ⊢
  clear hw1
  go_enter Try.func112, Try.ntmps112
  go_upto_region 1 with fail
  rw [← hw2]
  clear hw2
  go_wp2_with fail
  refine (unhide cf).mono ?_
  rintro x w3 ⟨rfl, hg3⟩
  have hfin := hide (grown_trans (unhide hg) hg3)
  clear hg3 cf
  go_wp2
  go_ret
  exact ⟨rfl, unhide hfin⟩

end Go.Proofs.Ytbploaihicakeaa
