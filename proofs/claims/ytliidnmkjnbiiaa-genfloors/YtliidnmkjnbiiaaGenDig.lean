/-
  A corridor: the program digs it by a goto from step to step.
-/
import Derived.Test.YtliidnmkjnbiiaaGenRegion
import Derived.Test.YtliidnmkjnbiiaaGhost
namespace Go.Proofs.Ytliidnmkjnbiiaa
open Go.RowKit

/-- What the walk holds on to: where it stands, where it goes. -/
structure DigHold (w : World) (G : Nat) (x y tx ty : Int) (wr : World) : Prop where
  here : Arr wr w.heap.size 50 2 (fun j => .int .i64 (if j = 0 then x else y))
  goal : Arr wr (w.heap.size + 1) 50 2 (fun j => .int .i64 (if j = 0 then tx else ty))
  grown : w.grownBy wr (some G)

theorem DigHold.on {w : World} {G : Nat} {x y tx ty : Int} {wr wx : World} (h : DigHold w G x y tx ty wr) (hg : wr.grownBy wx none) : DigHold w G x y tx ty wx :=
  ⟨h.here.grown hg (by simp), h.goal.grown hg (by simp), grown_none h.grown hg⟩

theorem grown_put (w : World) (g i : Nat) (u : Value) : w.grownBy (w.setCell ⟨g, i, none⟩ u) (some g) := grown_set (World.grownBy.refl _ _) i u

theorem DigHold.put {w : World} {G : Nat} {x y tx ty : Int} {wr : World} (h : DigHold w G x y tx ty wr) (hG : G < w.heap.size) (i : Nat) (u : Value) : DigHold w G x y tx ty (wr.setCell ⟨G, i, none⟩ u) :=
  ⟨h.here.grown (grown_put wr G i u) (by simp; omega), h.goal.grown (grown_put wr G i u) (by simp; omega), grown_set h.grown i u⟩

theorem DigHold.move {w : World} {G : Nat} {x y tx ty : Int} {wr : World} (h : DigHold w G x y tx ty wr) (u v : Int) :
    DigHold w G u v tx ty ((wr.setCell ⟨w.heap.size, 0, none⟩ (.int .i64 u)).setCell ⟨w.heap.size, 1, none⟩ (.int .i64 v)) := by
  have hg : wr.grownBy ((wr.setCell ⟨w.heap.size, 0, none⟩ (.int .i64 u)).setCell ⟨w.heap.size, 1, none⟩ (.int .i64 v)) (some w.heap.size) := grown_set (grown_put _ _ _ _) _ _
  refine ⟨?_, h.goal.grown hg (by simp), grown_own h.grown hg (fun n e => by cases e; omega)⟩
  refine ((h.here.store _ _).store _ _).congr fun j hj => ?_
  rcases (show j = 0 ∨ j = 1 by omega) with rfl | rfl <;> rfl

theorem Arr.pair (w : World) (x y : Int) (T : TypeId) : Arr (w.alloc (.cells #[.int .i64 x, .int .i64 y] T)) w.heap.size T 2 (fun j => .int .i64 (if j = 0 then x else y)) := by
  refine ⟨_, heap_alloc_new _ _, rfl, fun i hi => ?_⟩
  rcases (show i = 0 ∨ i = 1 by omega) with rfl | rfl <;> rfl

theorem DigHold.start (w : World) (G : Nat) (x y tx ty : Int) :
    DigHold w G x y tx ty ((w.alloc (.cells #[.int .i64 x, .int .i64 y] 50)).alloc (.cells #[.int .i64 tx, .int .i64 ty] 50)) := by
  refine ⟨(Arr.pair _ _ _ _).alloc _, ?_, grown_alloc (World.grownBy_alloc _ _ _) _⟩
  have h := Arr.pair (w.alloc (.cells #[.int .i64 x, .int .i64 y] 50)) tx ty 50
  simpa using h

theorem Gn.steps_0 {x y tx ty : Int} (hx : x = tx) (hy : y = ty) : Gn.steps x y tx ty = 0 := by
  unfold Gn.steps; omega

theorem Gn.run_on {tx ty x y : Int} {first : Bool} {st : (Nat → Int) × Bool} {c : Nat} (h : ¬ (x = tx ∧ y = ty)) (hc : y * 24 + x = (c : Int)) :
    Gn.digRun tx ty first (Gn.steps x y tx ty) st x y = Gn.digRun tx ty first (Gn.steps (Gn.stepX x y tx ty first) (Gn.stepY x y tx ty first) tx ty) (Gn.digAt st c) (Gn.stepX x y tx ty first) (Gn.stepY x y tx ty first) := by
  rw [← Gn.step_less x y tx ty first h, Gn.digRun, hc, Int.toNat_natCast]

theorem Gn.run_end {tx ty x y : Int} {first : Bool} {st : (Nat → Int) × Bool} {c : Nat} (hx : x = tx) (hy : y = ty) (hc : y * 24 + x = (c : Int)) :
    Gn.digRun tx ty first (Gn.steps x y tx ty) st x y = Gn.digAt st c := by
  rw [Gn.steps_0 hx hy, Gn.digRun, hc, Int.toNat_natCast]

theorem Gn.at_wall {st : (Nat → Int) × Bool} {c : Nat} (h : st.1 c = 0) : Gn.digAt st c = (Gr.upd st.1 c (if st.2 then 1 else 2), true) := if_pos h

theorem Gn.at_free {st : (Nat → Int) × Bool} {c : Nat} (h : ¬ st.1 c = 0) : Gn.digAt st c = st := if_neg h

theorem Arr.byte {w : World} {g n : Nat} {T : TypeId} {F : Nat → Int} (h : Arr w g T n (Byts F)) (i : Nat) (v : Int) : Arr (w.setCell ⟨g, i, none⟩ (.int .u8 v)) g T n (Byts (Gr.upd F i v)) := by
  refine (h.store i _).congr fun j _ => ?_
  show (if j = i then Value.int .u8 v else .int .u8 (F j)) = .int .u8 (if j = i then v else F j)
  split <;> rfl

set_option maxRecDepth 8000 in
set_option maxHeartbeats 4000000 in
theorem dig_any (G : Nat) (c0 : Nat → Int) (x0 y0 tx ty : Int) (first : Bool) (w : World) (hA : Arr w G 5 384 (Byts c0)) (h5 : ∀ i, 0 ≤ c0 i ∧ c0 i ≤ 5) (hxy : (1 ≤ x0 ∧ x0 ≤ 22) ∧ 1 ≤ y0 ∧ y0 ≤ 14) (ht : (1 ≤ tx ∧ tx ≤ 22) ∧ 1 ≤ ty ∧ ty ≤ 14) :
    Calls Try.prog 30 #[.slice (some ⟨G, 0, none⟩) 384 384, .agg #[.int .i64 x0, .int .i64 y0], .agg #[.int .i64 tx, .int .i64 ty], .bool first] w
      (fun e w' => e = .returned (.tuple #[]) ∧ Arr w' G 5 384 (Byts (Gn.digRun tx ty first (Gn.steps x0 y0 tx ty) (c0, false) x0 y0).1) ∧ w.grownBy w' (some G)) := by
  have hG := hA.lt
  have hA' := hide hA
  have h5' := hide h5
  have ht' := hide ht
  have hxy' := hide hxy
  obtain ⟨fin, hfin⟩ : ∃ fin, fin = (Gn.digRun tx ty first (Gn.steps x0 y0 tx ty) (c0, false) x0 y0).1 := ⟨_, rfl⟩
  rw [← hfin]
  have hfin' := hide hfin
  clear hA h5 hfin ht hxy
  go_enter Try.func30, Try.ntmps30
  go_wp2_with fail
  refine wp_scope_ghost 0 (fun m a' w' => ∃ (x y kd : Int) (st : (Nat → Int) × Bool) (u4 u7 u9 u10 u11 u12 u13 u14 u15 u16 u17 u18 u19 u20 u21 u22 u23 u24 u25 u26 u27 : Value), a' = { tmps := #[.slice (some ⟨G, 0, none⟩) 384 384, .agg #[.int .i64 x0, .int .i64 y0], .agg #[.int .i64 tx, .int .i64 ty], .bool first, u4, .pointer (some ⟨w.heap.size, 0, none⟩), .pointer (some ⟨w.heap.size + 1, 0, none⟩), u7, .int .u8 kd, u9, u10, u11, u12, u13, u14, u15, u16, u17, u18, u19, u20, u21, u22, u23, u24, u25, u26, u27], defers := [] } ∧ ((1 ≤ x ∧ x ≤ 22) ∧ 1 ≤ y ∧ y ≤ 14) ∧ (∀ i, 0 ≤ st.1 i ∧ st.1 i ≤ 5) ∧ Arr w' G 5 384 (Byts st.1) ∧ DigHold w G x y tx ty w' ∧ m = Gn.steps x y tx ty ∧ (Gn.digRun tx ty first m st x y).1 = fin ∧ kd = (if st.2 then 1 else 2)) rfl ?_ ?_
  · obtain ⟨st, hst⟩ : ∃ st : (Nat → Int) × Bool, st = (c0, false) := ⟨_, rfl⟩
    have hkd' : Hid ((2 : Int) = if st.2 then 1 else 2) := by rw [hst]; rfl
    have hs5' : Hid (∀ i, 0 ≤ st.1 i ∧ st.1 i ≤ 5) := by rw [hst]; exact unhide h5'
    have hA1 : Hid (Arr ((w.alloc (.cells #[.int .i64 x0, .int .i64 y0] 50)).alloc (.cells #[.int .i64 tx, .int .i64 ty] 50)) G 5 384 (Byts st.1)) := by rw [hst]; exact ((unhide hA').alloc _).alloc _
    have hH1 := hide (DigHold.start w G x0 y0 tx ty)
    have hrun' : Hid ((Gn.digRun tx ty first (Gn.steps x0 y0 tx ty) st x0 y0).1 = fin) := by rw [hst]; exact (unhide hfin').symm
    obtain ⟨⟨b1, b2⟩, b3, b4⟩ := unhide hxy'
    clear hst hA' h5' hfin' hxy'
    have p1 := (unhide hH1).here.cell (i := 0) (by omega)
    have p2 := (unhide hH1).here.cell (i := 1) (by omega)
    simp only [ite_true, Nat.one_ne_zero, ite_false] at p1 p2
    go_wp2_with fail
    go_step3
    go_wp2_with fail
    refine (num_any x0 y0 _ (by omega) (by omega) (by omega) (by omega)).mono ?_
    rintro e wn ⟨rfl, hgn⟩
    obtain ⟨c, hc⟩ : ∃ c : Nat, y0 * 24 + x0 = (c : Int) := ⟨(y0 * 24 + x0).toNat, by omega⟩
    have hcl : c < 384 := by omega
    have hA2 := hide ((unhide hA1).grown hgn (by simp))
    have hH2 := hide ((unhide hH1).on hgn)
    rw [hc]
    have hcc : wn.cell? ⟨G, c, none⟩ = some (.int .u8 (st.1 c)) := (unhide hA2).cell hcl
    have hcf := (unhide hA2).free c
    have hc2 : (c : Int) < 384 := by omega
    have hc' := hide hc
    have hst5 := hide (Gn.digAt_5 (k := c) (unhide hs5'))
    clear hgn hA1 hH1 p1 p2 hc
    by_cases hwall : st.1 c = 0
    · have hw0 : (st.1 c == 0) = true := by simpa using hwall
      have hat := Gn.at_wall hwall
      rw [← unhide hkd'] at hat
      have hA3 : Hid (Arr (wn.setCell ⟨G, c, none⟩ (.int .u8 2)) G 5 384 (Byts (Gn.digAt st c).1)) := by rw [hat]; exact (unhide hA2).byte c _
      have hk3 : Hid ((1 : Int) = if (Gn.digAt st c).2 then 1 else 2) := by rw [hat]; rfl
      have hH3 := hide ((unhide hH2).put hG c (.int .u8 2))
      obtain ⟨wm, hwm⟩ : ∃ wm, wm = wn.setCell ⟨G, c, none⟩ (.int .u8 2) := ⟨_, rfl⟩
      rw [← hwm] at hA3 hH3
      have p1 := (unhide hH3).here.cell (i := 0) (by omega)
      have p2 := (unhide hH3).here.cell (i := 1) (by omega)
      have p3 := (unhide hH3).goal.cell (i := 0) (by omega)
      have p4 := (unhide hH3).goal.cell (i := 1) (by omega)
      simp only [ite_true, Nat.one_ne_zero, ite_false] at p1 p2 p3 p4
      clear hwall hat hA2 hH2
      have hww := hwm.symm
      clear hwm
      by_cases hend : x0 = tx ∧ y0 = ty
      · obtain ⟨hex, hey⟩ := hend
        have q1 : (x0 == tx) = true := by simpa using hex
        have q2 : (y0 == ty) = true := by simpa using hey
        have hf : Hid (Arr wm G 5 384 (Byts fin)) := by
          have h := unhide hA3
          rw [← Gn.run_end (first := first) hex hey (unhide hc'), unhide hrun'] at h
          exact h
        clear hex hey
        go_wp2
        simp only [Exit.jump]
        refine bodyPost_ret (results_none rfl _ _ _) rfl ?_
        exact ⟨rfl, unhide hf, (unhide hH3).grown⟩
      · have hon := Gn.run_on (first := first) (st := st) hend (unhide hc')
        rw [← Gn.step_less x0 y0 tx ty first hend] at hrun'
        have hrun2 := unhide hrun'
        rw [Gn.step_less x0 y0 tx ty first hend, hon] at hrun2
        have hrun3 := hide hrun2
        have hles := hide (Gn.step_less x0 y0 tx ty first hend)
        have hbd := Gn.step_bd x0 y0 tx ty first ⟨⟨b1, b2⟩, b3, b4⟩ (unhide ht')
        have hbd' := hide hbd
        obtain ⟨nx, hnx⟩ : ∃ nx, nx = Gn.stepX x0 y0 tx ty first := ⟨_, rfl⟩
        obtain ⟨ny, hny⟩ : ∃ ny, ny = Gn.stepY x0 y0 tx ty first := ⟨_, rfl⟩
        rw [← hnx, ← hny] at hrun3 hles hbd'
        have hcall := fun w' => nearer_any x0 y0 tx ty first w' (by omega) (by omega) (by omega) (by omega)
        rw [← hnx, ← hny] at hcall
        have hcall' := hide hcall
        clear hon hrun2 hbd hnx hny hcall
        have hq : (x0 == tx) = false ∨ ((x0 == tx) = true ∧ (y0 == ty) = false) := by
          by_cases hx : x0 = tx
          · right
            exact ⟨by simpa using hx, by simpa using fun h => hend ⟨hx, h⟩⟩
          · left
            simpa using hx
        clear hend
        rcases hq with q1 | ⟨q1, q2⟩
        all_goals
          go_wp2_with fail
          refine (unhide hcall' _).mono ?_
          rintro e wv ⟨rfl, hgv⟩
          have hA4 := hide ((unhide hA3).grown hgv (by simp))
          have hH4 := hide ((unhide hH3).on hgv)
          have z1 := (unhide hH4).here.cell (i := 0) (by omega)
          have z2 := (unhide hH4).here.cell (i := 1) (by omega)
          have z3 := (unhide hH4).here.free 0
          have z4 := (unhide hH4).here.free 1
          clear hgv
          go_wp2_with fail
          go_step3
          exact ⟨rfl, Gn.steps nx ny tx ty,  nx, ny, _, Gn.digAt st c, _, _, _, _, _, _, _, _, _, _, _, _, _, _, _, _, _, _, _, _, _, rfl, unhide hbd', unhide hst5, (unhide hA4).grown (grown_set (grown_put _ _ _ _) _ _) (by simp; omega), (unhide hH4).move nx ny, rfl, unhide hrun3, unhide hk3⟩
    · have hw0 : (st.1 c == 0) = false := by simpa using hwall
      have hat := Gn.at_free hwall
      have hA3 : Hid (Arr wn G 5 384 (Byts (Gn.digAt st c).1)) := by rw [hat]; exact unhide hA2
      have hk3 : Hid ((2 : Int) = if (Gn.digAt st c).2 then 1 else 2) := by rw [hat]; exact unhide hkd'
      have hH3 := hH2
      have p1 := (unhide hH3).here.cell (i := 0) (by omega)
      have p2 := (unhide hH3).here.cell (i := 1) (by omega)
      have p3 := (unhide hH3).goal.cell (i := 0) (by omega)
      have p4 := (unhide hH3).goal.cell (i := 1) (by omega)
      simp only [ite_true, Nat.one_ne_zero, ite_false] at p1 p2 p3 p4
      clear hwall hat hA2 hH2
      by_cases hend : x0 = tx ∧ y0 = ty
      · obtain ⟨hex, hey⟩ := hend
        have q1 : (x0 == tx) = true := by simpa using hex
        have q2 : (y0 == ty) = true := by simpa using hey
        have hf : Hid (Arr wn G 5 384 (Byts fin)) := by
          have h := unhide hA3
          rw [← Gn.run_end (first := first) hex hey (unhide hc'), unhide hrun'] at h
          exact h
        clear hex hey
        go_wp2
        simp only [Exit.jump]
        refine bodyPost_ret (results_none rfl _ _ _) rfl ?_
        exact ⟨rfl, unhide hf, (unhide hH3).grown⟩
      · have hon := Gn.run_on (first := first) (st := st) hend (unhide hc')
        rw [← Gn.step_less x0 y0 tx ty first hend] at hrun'
        have hrun2 := unhide hrun'
        rw [Gn.step_less x0 y0 tx ty first hend, hon] at hrun2
        have hrun3 := hide hrun2
        have hles := hide (Gn.step_less x0 y0 tx ty first hend)
        have hbd := Gn.step_bd x0 y0 tx ty first ⟨⟨b1, b2⟩, b3, b4⟩ (unhide ht')
        have hbd' := hide hbd
        obtain ⟨nx, hnx⟩ : ∃ nx, nx = Gn.stepX x0 y0 tx ty first := ⟨_, rfl⟩
        obtain ⟨ny, hny⟩ : ∃ ny, ny = Gn.stepY x0 y0 tx ty first := ⟨_, rfl⟩
        rw [← hnx, ← hny] at hrun3 hles hbd'
        have hcall := fun w' => nearer_any x0 y0 tx ty first w' (by omega) (by omega) (by omega) (by omega)
        rw [← hnx, ← hny] at hcall
        have hcall' := hide hcall
        clear hon hrun2 hbd hnx hny hcall
        have hq : (x0 == tx) = false ∨ ((x0 == tx) = true ∧ (y0 == ty) = false) := by
          by_cases hx : x0 = tx
          · right
            exact ⟨by simpa using hx, by simpa using fun h => hend ⟨hx, h⟩⟩
          · left
            simpa using hx
        clear hend
        rcases hq with q1 | ⟨q1, q2⟩
        all_goals
          go_wp2_with fail
          refine (unhide hcall' _).mono ?_
          rintro e wv ⟨rfl, hgv⟩
          have hA4 := hide ((unhide hA3).grown hgv (by simp))
          have hH4 := hide ((unhide hH3).on hgv)
          have z1 := (unhide hH4).here.cell (i := 0) (by omega)
          have z2 := (unhide hH4).here.cell (i := 1) (by omega)
          have z3 := (unhide hH4).here.free 0
          have z4 := (unhide hH4).here.free 1
          clear hgv
          go_wp2_with fail
          go_step3
          exact ⟨rfl, Gn.steps nx ny tx ty,  nx, ny, _, Gn.digAt st c, _, _, _, _, _, _, _, _, _, _, _, _, _, _, _, _, _, _, _, _, _, rfl, unhide hbd', unhide hst5, (unhide hA4).grown (grown_set (grown_put _ _ _ _) _ _) (by simp; omega), (unhide hH4).move nx ny, rfl, unhide hrun3, unhide hk3⟩
  · rintro m a' w2 ⟨x, y, kd, st, u4, u7, u9, u10, u11, u12, u13, u14, u15, u16, u17, u18, u19, u20, u21, u22, u23, u24, u25, u26, u27, rfl, hb, hs5, hA, hH, rfl, hrun, hkd⟩
    obtain ⟨⟨b1, b2⟩, b3, b4⟩ := hb
    have hH1 := hide hH
    have hA1 := hide hA
    have hs5' := hide hs5
    have hrun' := hide hrun
    have hkd' := hide hkd
    clear hA hH hs5 hrun hkd hA' h5' hfin'
    have p1 := (unhide hH1).here.cell (i := 0) (by omega)
    have p2 := (unhide hH1).here.cell (i := 1) (by omega)
    simp only [ite_true, Nat.one_ne_zero, ite_false] at p1 p2
    go_wp2_with fail
    refine (num_any x y _ (by omega) (by omega) (by omega) (by omega)).mono ?_
    rintro e wn ⟨rfl, hgn⟩
    obtain ⟨c, hc⟩ : ∃ c : Nat, y * 24 + x = (c : Int) := ⟨(y * 24 + x).toNat, by omega⟩
    have hcl : c < 384 := by omega
    have hA2 := hide ((unhide hA1).grown hgn (by simp))
    have hH2 := hide ((unhide hH1).on hgn)
    rw [hc]
    have hcc : wn.cell? ⟨G, c, none⟩ = some (.int .u8 (st.1 c)) := (unhide hA2).cell hcl
    have hcf := (unhide hA2).free c
    have hc2 : (c : Int) < 384 := by omega
    have hc' := hide hc
    have hst5 := hide (Gn.digAt_5 (k := c) (unhide hs5'))
    clear hgn hA1 hH1 p1 p2 hc
    by_cases hwall : st.1 c = 0
    · have hw0 : (st.1 c == 0) = true := by simpa using hwall
      have hat := Gn.at_wall hwall
      rw [← unhide hkd'] at hat
      have hA3 : Hid (Arr (wn.setCell ⟨G, c, none⟩ (.int .u8 kd)) G 5 384 (Byts (Gn.digAt st c).1)) := by rw [hat]; exact (unhide hA2).byte c _
      have hk3 : Hid ((1 : Int) = if (Gn.digAt st c).2 then 1 else 2) := by rw [hat]; rfl
      have hH3 := hide ((unhide hH2).put hG c (.int .u8 kd))
      obtain ⟨wm, hwm⟩ : ∃ wm, wm = wn.setCell ⟨G, c, none⟩ (.int .u8 kd) := ⟨_, rfl⟩
      rw [← hwm] at hA3 hH3
      have p1 := (unhide hH3).here.cell (i := 0) (by omega)
      have p2 := (unhide hH3).here.cell (i := 1) (by omega)
      have p3 := (unhide hH3).goal.cell (i := 0) (by omega)
      have p4 := (unhide hH3).goal.cell (i := 1) (by omega)
      simp only [ite_true, Nat.one_ne_zero, ite_false] at p1 p2 p3 p4
      clear hwall hat hA2 hH2
      have hww := hwm.symm
      clear hwm
      by_cases hend : x = tx ∧ y = ty
      · obtain ⟨hex, hey⟩ := hend
        have q1 : (x == tx) = true := by simpa using hex
        have q2 : (y == ty) = true := by simpa using hey
        have hf : Hid (Arr wm G 5 384 (Byts fin)) := by
          have h := unhide hA3
          rw [← Gn.run_end (first := first) hex hey (unhide hc'), unhide hrun'] at h
          exact h
        clear hex hey
        go_wp2
        simp only [Exit.jump]
        refine bodyPost_ret (results_none rfl _ _ _) rfl ?_
        exact ⟨rfl, unhide hf, (unhide hH3).grown⟩
      · have hon := Gn.run_on (first := first) (st := st) hend (unhide hc')
        rw [← Gn.step_less x y tx ty first hend] at hrun'
        have hrun2 := unhide hrun'
        rw [Gn.step_less x y tx ty first hend, hon] at hrun2
        have hrun3 := hide hrun2
        have hles := hide (Gn.step_less x y tx ty first hend)
        have hbd := Gn.step_bd x y tx ty first ⟨⟨b1, b2⟩, b3, b4⟩ (unhide ht')
        have hbd' := hide hbd
        obtain ⟨nx, hnx⟩ : ∃ nx, nx = Gn.stepX x y tx ty first := ⟨_, rfl⟩
        obtain ⟨ny, hny⟩ : ∃ ny, ny = Gn.stepY x y tx ty first := ⟨_, rfl⟩
        rw [← hnx, ← hny] at hrun3 hles hbd'
        have hcall := fun w' => nearer_any x y tx ty first w' (by omega) (by omega) (by omega) (by omega)
        rw [← hnx, ← hny] at hcall
        have hcall' := hide hcall
        clear hon hrun2 hbd hnx hny hcall
        have hq : (x == tx) = false ∨ ((x == tx) = true ∧ (y == ty) = false) := by
          by_cases hx : x = tx
          · right
            exact ⟨by simpa using hx, by simpa using fun h => hend ⟨hx, h⟩⟩
          · left
            simpa using hx
        clear hend
        rcases hq with q1 | ⟨q1, q2⟩
        all_goals
          go_wp2_with fail
          refine (unhide hcall' _).mono ?_
          rintro e wv ⟨rfl, hgv⟩
          have hA4 := hide ((unhide hA3).grown hgv (by simp))
          have hH4 := hide ((unhide hH3).on hgv)
          have z1 := (unhide hH4).here.cell (i := 0) (by omega)
          have z2 := (unhide hH4).here.cell (i := 1) (by omega)
          have z3 := (unhide hH4).here.free 0
          have z4 := (unhide hH4).here.free 1
          clear hgv
          go_wp2_with fail
          go_step3
          exact ⟨rfl, Gn.steps nx ny tx ty, by have := unhide hles; omega, nx, ny, _, Gn.digAt st c, _, _, _, _, _, _, _, _, _, _, _, _, _, _, _, _, _, _, _, _, _, rfl, unhide hbd', unhide hst5, (unhide hA4).grown (grown_set (grown_put _ _ _ _) _ _) (by simp; omega), (unhide hH4).move nx ny, rfl, unhide hrun3, unhide hk3⟩
    · have hw0 : (st.1 c == 0) = false := by simpa using hwall
      have hat := Gn.at_free hwall
      have hA3 : Hid (Arr wn G 5 384 (Byts (Gn.digAt st c).1)) := by rw [hat]; exact unhide hA2
      have hk3 : Hid ((kd : Int) = if (Gn.digAt st c).2 then 1 else 2) := by rw [hat]; exact unhide hkd'
      have hH3 := hH2
      have p1 := (unhide hH3).here.cell (i := 0) (by omega)
      have p2 := (unhide hH3).here.cell (i := 1) (by omega)
      have p3 := (unhide hH3).goal.cell (i := 0) (by omega)
      have p4 := (unhide hH3).goal.cell (i := 1) (by omega)
      simp only [ite_true, Nat.one_ne_zero, ite_false] at p1 p2 p3 p4
      clear hwall hat hA2 hH2
      by_cases hend : x = tx ∧ y = ty
      · obtain ⟨hex, hey⟩ := hend
        have q1 : (x == tx) = true := by simpa using hex
        have q2 : (y == ty) = true := by simpa using hey
        have hf : Hid (Arr wn G 5 384 (Byts fin)) := by
          have h := unhide hA3
          rw [← Gn.run_end (first := first) hex hey (unhide hc'), unhide hrun'] at h
          exact h
        clear hex hey
        go_wp2
        simp only [Exit.jump]
        refine bodyPost_ret (results_none rfl _ _ _) rfl ?_
        exact ⟨rfl, unhide hf, (unhide hH3).grown⟩
      · have hon := Gn.run_on (first := first) (st := st) hend (unhide hc')
        rw [← Gn.step_less x y tx ty first hend] at hrun'
        have hrun2 := unhide hrun'
        rw [Gn.step_less x y tx ty first hend, hon] at hrun2
        have hrun3 := hide hrun2
        have hles := hide (Gn.step_less x y tx ty first hend)
        have hbd := Gn.step_bd x y tx ty first ⟨⟨b1, b2⟩, b3, b4⟩ (unhide ht')
        have hbd' := hide hbd
        obtain ⟨nx, hnx⟩ : ∃ nx, nx = Gn.stepX x y tx ty first := ⟨_, rfl⟩
        obtain ⟨ny, hny⟩ : ∃ ny, ny = Gn.stepY x y tx ty first := ⟨_, rfl⟩
        rw [← hnx, ← hny] at hrun3 hles hbd'
        have hcall := fun w' => nearer_any x y tx ty first w' (by omega) (by omega) (by omega) (by omega)
        rw [← hnx, ← hny] at hcall
        have hcall' := hide hcall
        clear hon hrun2 hbd hnx hny hcall
        have hq : (x == tx) = false ∨ ((x == tx) = true ∧ (y == ty) = false) := by
          by_cases hx : x = tx
          · right
            exact ⟨by simpa using hx, by simpa using fun h => hend ⟨hx, h⟩⟩
          · left
            simpa using hx
        clear hend
        rcases hq with q1 | ⟨q1, q2⟩
        all_goals
          go_wp2_with fail
          refine (unhide hcall' _).mono ?_
          rintro e wv ⟨rfl, hgv⟩
          have hA4 := hide ((unhide hA3).grown hgv (by simp))
          have hH4 := hide ((unhide hH3).on hgv)
          have z1 := (unhide hH4).here.cell (i := 0) (by omega)
          have z2 := (unhide hH4).here.cell (i := 1) (by omega)
          have z3 := (unhide hH4).here.free 0
          have z4 := (unhide hH4).here.free 1
          clear hgv
          go_wp2_with fail
          go_step3
          exact ⟨rfl, Gn.steps nx ny tx ty, by have := unhide hles; omega, nx, ny, _, Gn.digAt st c, _, _, _, _, _, _, _, _, _, _, _, _, _, _, _, _, _, _, _, _, _, rfl, unhide hbd', unhide hst5, (unhide hA4).grown (grown_set (grown_put _ _ _ _) _ _) (by simp; omega), (unhide hH4).move nx ny, rfl, unhide hrun3, unhide hk3⟩

end Go.Proofs.Ytliidnmkjnbiiaa
