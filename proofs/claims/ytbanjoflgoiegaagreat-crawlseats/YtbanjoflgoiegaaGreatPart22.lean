/-
  GoodsMove GoodsSweep GoodsRef GoodsBonus
-/
import Derived.Test.YtbanjoflgoiegaaGreatPart21
import Derived.Test.YtbanjoflgoiegaaGreatPart14
import Derived.Test.YtbanjoflgoiegaaGreatPart18
namespace Go.Proofs.YtbanjoflgoiegaaGreat
open Go.RowKit

structure Gd.Boxed (w x : World) (B gC gE gI cC cE cI : Nat) (s g c : Nat → Int) (E I : Nat → Nat → Int) : Prop where
  hold : Gd.Hold x B gC gE gI cC cE cI s g c E I
  at_ : w.heap.size = B
  lC : B + 2 ≤ gC
  lE : B + 2 ≤ gE
  lI : B + 2 ≤ gI
  cap : 32 ≤ cE
  res : Lie x (B + 1) 30 11 (fun j => #[.int .i64 0, .int .i64 0, .int .i64 0, .int .i64 0, .slice none 0 0, .slice none 0 0, .slice none 0 0, .int .i64 0, .int .i64 0, .int .i64 0, Value.int .i64 0][j]?.getD undef)
  grown : w.grownBy x none

theorem Gd.Boxed.on {w x y : World} {B gC gE gI cC cE cI : Nat} {s g c : Nat → Int} {E I : Nat → Nat → Int} (h : Gd.Boxed w x B gC gE gI cC cE cI s g c E I) (hg : x.grownBy y none) : Gd.Boxed w y B gC gE gI cC cE cI s g c E I :=
  { h with hold := h.hold.on hg, res := h.res.on hg, grown := grown_trans h.grown hg }

theorem Gd.Boxed.worlds {w x : World} {B gC gE gI cC cE cI : Nat} {s g c : Nat → Int} {E I : Nat → Nat → Int} (h : Gd.Boxed w x B gC gE gI cC cE cI s g c E I) (vs : List Value) : Gd.Worlds w s g c E I (.returned (.agg (Gd.world s gC gE gI cC cE cI g))) (x.setCells (B + 1) 0 vs) := by
  have hB := h.at_
  have lC := h.lC
  have lE := h.lE
  have lI := h.lI
  have r := grown_sets (g := B + 1) vs 0 x (World.grownBy.refl _ _)
  exact ⟨gC, gE, gI, cC, cE, cI, rfl, h.cap, by omega, by omega, by omega, h.hold.cE, h.hold.cI, h.hold.eI, ⟨h.hold.lists.cells.grown r (by simp; omega), h.hold.lists.ents.grown r (by simp; omega), h.hold.lists.items.grown r (by simp; omega)⟩, own_sets (by omega) vs 0 x h.grown⟩

structure Gd.BoxW (w x : World) (B gC gE gI cC cE cI : Nat) (s g c : Nat → Int) (E I : Nat → Nat → Int) : Prop where
  hold : Gd.Hold x B gC gE gI cC cE cI s g c E I
  at_ : w.heap.size = B
  lC : B + 2 ≤ gC
  lE : B + 2 ≤ gE
  lI : B + 2 ≤ gI
  cap : 32 ≤ cE ∧ 384 ≤ cC
  res : Lie x (B + 1) 30 11 (fun j => #[.int .i64 0, .int .i64 0, .int .i64 0, .int .i64 0, .slice none 0 0, .slice none 0 0, .slice none 0 0, .int .i64 0, .int .i64 0, .int .i64 0, Value.int .i64 0][j]?.getD undef)
  grown : w.grownBy x none

theorem Gd.BoxW.on {w x y : World} {B gC gE gI cC cE cI : Nat} {s g c : Nat → Int} {E I : Nat → Nat → Int} (h : Gd.BoxW w x B gC gE gI cC cE cI s g c E I) (hg : x.grownBy y none) : Gd.BoxW w y B gC gE gI cC cE cI s g c E I :=
  { h with hold := h.hold.on hg, res := h.res.on hg, grown := grown_trans h.grown hg }

theorem Gd.BoxW.worlds {w x : World} {B gC gE gI cC cE cI : Nat} {s g c : Nat → Int} {E I : Nat → Nat → Int} (h : Gd.BoxW w x B gC gE gI cC cE cI s g c E I) (vs : List Value) : Gd.WorldsW w s g c E I (.returned (.agg (Gd.world s gC gE gI cC cE cI g))) (x.setCells (B + 1) 0 vs) := by
  have hB := h.at_
  have lC := h.lC
  have lE := h.lE
  have lI := h.lI
  have r := grown_sets (g := B + 1) vs 0 x (World.grownBy.refl _ _)
  exact ⟨gC, gE, gI, cC, cE, cI, rfl, h.cap, by omega, by omega, by omega, h.hold.cE, h.hold.cI, h.hold.eI, ⟨h.hold.lists.cells.grown r (by simp; omega), h.hold.lists.ents.grown r (by simp; omega), h.hold.lists.items.grown r (by simp; omega)⟩, own_sets (by omega) vs 0 x h.grown⟩

theorem Gd.BoxW.weak {w x : World} {B gC gE gI cC cE cI : Nat} {s g c : Nat → Int} {E I : Nat → Nat → Int} (h : Gd.BoxW w x B gC gE gI cC cE cI s g c E I) : Gd.Boxed w x B gC gE gI cC cE cI s g c E I :=
  ⟨h.hold, h.at_, h.lC, h.lE, h.lI, h.cap.1, h.res, h.grown⟩

theorem Gd.boxes (w : World) (gC gE gI cC cE cI : Nat) (s g : Nat → Int) : ∃ x, x = (w.alloc (.cells (Gd.world s gC gE gI cC cE cI g) 30)).alloc (.cells #[.int .i64 0, .int .i64 0, .int .i64 0, .int .i64 0, .slice none 0 0, .slice none 0 0, .slice none 0 0, .int .i64 0, .int .i64 0, .int .i64 0, .int .i64 0] 30) ∧ Lie x w.heap.size 30 11 (Gd.box s gC gE gI cC cE cI g) ∧ Lie x (w.heap.size + 1) 30 11 (fun j => #[.int .i64 0, .int .i64 0, .int .i64 0, .int .i64 0, .slice none 0 0, .slice none 0 0, .slice none 0 0, .int .i64 0, .int .i64 0, .int .i64 0, Value.int .i64 0][j]?.getD undef) ∧ w.grownBy x none ∧ x.heap.size = w.heap.size + 2 := by
  refine ⟨_, rfl, ((Arr.world (heap_alloc_new w (.cells (Gd.world s gC gE gI cC cE cI g) 30))).alloc _).lie, ?_, grown_alloc (World.grownBy_alloc _ _ _) _, by simp⟩
  have h := Arr.lit (heap_alloc_new (w.alloc (.cells (Gd.world s gC gE gI cC cE cI g) 30)) (.cells #[.int .i64 0, .int .i64 0, .int .i64 0, .int .i64 0, .slice none 0 0, .slice none 0 0, .slice none 0 0, .int .i64 0, .int .i64 0, .int .i64 0, .int .i64 0] 30))
  rw [show (w.alloc (.cells (Gd.world s gC gE gI cC cE cI g) 30)).heap.size = w.heap.size + 1 by simp] at h
  exact h.lie

theorem Lie.whole {x : World} {B : Nat} {T : TypeId} {F : Nat → Value} (h : Lie x B T 11 F) (s g : Nat → Int) (gC gE gI cC cE cI : Nat) : Lie (x.setCells B 0 (Gd.world s gC gE gI cC cE cI g).toList) B T 11 (Gd.box s gC gE gI cC cE cI g) := by
  refine (h.stores 0 _).congr fun j hj => ?_
  show (if 0 ≤ j ∧ j < 0 + 11 then (Gd.world s gC gE gI cC cE cI g).toList[j - 0]?.getD undef else F j) = _
  rw [if_pos (by omega), Nat.sub_zero, Array.getElem?_toList, Gd.world_at s gC gE gI cC cE cI g j hj]
  rfl

theorem Gd.res_cells {x : World} {R : Nat} (h : Lie x R 30 11 (fun j => #[.int .i64 0, .int .i64 0, .int .i64 0, .int .i64 0, .slice none 0 0, .slice none 0 0, .slice none 0 0, .int .i64 0, .int .i64 0, .int .i64 0, Value.int .i64 0][j]?.getD undef)) :
    x.cell? ⟨R, 0, none⟩ = some (.int .i64 0) ∧ x.cell? ⟨R, 1, none⟩ = some (.int .i64 0) ∧ x.cell? ⟨R, 2, none⟩ = some (.int .i64 0) ∧ x.cell? ⟨R, 3, none⟩ = some (.int .i64 0) ∧ x.cell? ⟨R, 4, none⟩ = some (.slice none 0 0) ∧ x.cell? ⟨R, 5, none⟩ = some (.slice none 0 0) ∧ x.cell? ⟨R, 6, none⟩ = some (.slice none 0 0) ∧ x.cell? ⟨R, 7, none⟩ = some (.int .i64 0) ∧ x.cell? ⟨R, 8, none⟩ = some (.int .i64 0) ∧ x.cell? ⟨R, 9, none⟩ = some (.int .i64 0) ∧ x.cell? ⟨R, 10, none⟩ = some (.int .i64 0) :=
  ⟨h.cell (by omega), h.cell (by omega), h.cell (by omega), h.cell (by omega), h.cell (by omega), h.cell (by omega), h.cell (by omega), h.cell (by omega), h.cell (by omega), h.cell (by omega), h.cell (by omega)⟩

def Gd.hero (E : Nat → Nat → Int) (seat : Int) : Int := En.first (En.heroQ E seat) 32

def Gd.nextI (c g : Nat → Int) (E I : Nat → Nat → Int) (seat input : Int) : Nat → Nat → Int :=
  if 0 ≤ seat ∧ seat < 4 ∧ 0 ≤ Gd.hero E seat then Gd.act I 40 seat (E (Gd.hero E seat).toNat 3) (E (Gd.hero E seat).toNat 4) (decide (Gr.at 384 c (E (Gd.hero E seat).toNat 3) (E (Gd.hero E seat).toNat 4) = 5)) (g seat.toNat) input else I

def Gd.nextE (E I : Nat → Nat → Int) (seat input : Int) : Nat → Nat → Int :=
  if 0 ≤ seat ∧ seat < 4 ∧ 0 ≤ Gd.hero E seat then Gd.entsOf E I (Gd.hero E seat).toNat seat input else E

def Gd.nextG (c g : Nat → Int) (E I : Nat → Nat → Int) (seat input : Int) : Nat → Int :=
  if 0 ≤ seat ∧ seat < 4 ∧ 0 ≤ Gd.hero E seat then Gd.give g seat.toNat (Gd.goldOf I seat (E (Gd.hero E seat).toNat 3) (E (Gd.hero E seat).toNat 4) (decide (Gr.at 384 c (E (Gd.hero E seat).toNat 3) (E (Gd.hero E seat).toNat 4) = 5)) (g seat.toNat) input) else g

theorem Gd.hero_pos {E : Nat → Nat → Int} {seat : Int} (h : 0 ≤ Gd.hero E seat) : ∃ k : Nat, k < 32 ∧ Gd.hero E seat = (k : Int) ∧ E k 2 = seat ∧ E k 0 = 1 := by
  unfold Gd.hero at *
  rcases En.first_cases (En.heroQ E seat) 32 with ⟨h', _⟩ | ⟨k, hk, h', hq, _⟩
  · omega
  · simp only [En.heroQ, Bool.and_eq_true, decide_eq_true_eq] at hq
    exact ⟨k, hk, h', hq.2, hq.1⟩

set_option maxHeartbeats 6400000 in
theorem do_walk (s g c : Nat → Int) (E I : Nat → Nat → Int) (gC gE gI cC cE cI : Nat) (seat input : Int) (w : World) (hL : Gd.Lists w gC gE gI c E I) (g' : Nat → Int) (E' I' : Nat → Nat → Int)
    (hno : ¬ (0 ≤ seat ∧ seat < 4 ∧ 0 ≤ Gd.hero E seat) → g' = g ∧ E' = E ∧ I' = I)
    (hyes : 0 ≤ seat → seat < 4 → ∀ k : Nat, k < 32 → Gd.hero E seat = (k : Int) → ∀ (B g1 g2 g3 c1 c2 c3 : Nat) (x : World), Gd.BoxW w x B g1 g2 g3 c1 c2 c3 s g c E I → Calls Tryz.prog 170 #[.pointer (some ⟨B, 0, none⟩), .pointer (some ⟨g2, k * 11, none⟩), .int .i64 input] x fun e x' => e = .returned (.tuple #[]) ∧ Gd.BoxW w x' B g1 g2 g3 c1 c2 c3 s g' c E' I') :
    Calls Tryz.prog 147 #[.agg (Gd.world s gC gE gI cC cE cI g), .int .i64 seat, .int .i64 input] w (Gd.WorldsW w s g' c E' I') := by
  obtain ⟨w0, hw0, hbox, hres, hg0, hsz⟩ := Gd.boxes w gC gE gI cC cE cI s g
  have ca := apart_wide s g c E I gC gE gI cC cE cI w0 (hL.on hg0)
  have hno' := hide hno
  have hyes' := hide hyes
  obtain ⟨b0, b1, b2, b3, b4, b5, b6, b7, b8, b9, b10⟩ := hbox.eleven
  have hbx := hide hbox
  have hrs := hide hres
  have hg0' := hide hg0
  have hsz' := hide hsz
  have ca' := hide ca
  have hfB := hbox.free
  clear hL hno hyes ca hbox hres hg0 hsz
  unfold Gd.world at hw0 ca' ⊢
  go_enter Tryz.func147, Tryz.ntmps147
  go_upto_region 1 with fail
  rw [← hw0]
  clear hw0
  obtain ⟨B, hB⟩ : ∃ B, w.heap.size = B := ⟨_, rfl⟩
  rw [hB] at hbx hrs hsz' b0 b1 b2 b3 b4 b5 b6 b7 b8 b9 b10 ⊢
  have hB' := hide hB
  rw [hB] at hfB
  clear hB
  go_cut [] from 8 (fun wx => ∃ g1 g2 g3 c1 c2 c3, Hid (Gd.BoxW w wx B g1 g2 g3 c1 c2 c3 s g c E I))
  case first =>
    go_wp2_with fail
    refine (unhide ca').mono ?_
    rintro e w1 ⟨g1, g2, g3, c1, c2, c3, rfl, hcap, l1, l2, l3, n1, n2, n3, hL1, hg1⟩
    obtain ⟨y0, y1, y2, y3, y4, y5, y6, y7, y8, y9, y10⟩ := ((unhide hbx).on hg1).eleven
    have fB := ((unhide hbx).on hg1).free
    have fin : Hid (Gd.BoxW w (w1.setCells B 0 (Gd.world s g1 g2 g3 c1 c2 c3 g).toList) B g1 g2 g3 c1 c2 c3 s g c E I) := by
      have r := grown_sets (g := B) (Gd.world s g1 g2 g3 c1 c2 c3 g).toList 0 w1 (World.grownBy.refl _ _)
      have hB := unhide hB'
      have hs := unhide hsz'
      exact ⟨⟨((unhide hbx).on hg1).whole s g g1 g2 g3 c1 c2 c3, ⟨hL1.cells.grown r (by simp; omega), hL1.ents.grown r (by simp; omega), hL1.items.grown r (by simp; omega)⟩, by omega, by omega, by omega, n1, n2, n3⟩, hB, by omega, by omega, by omega, hcap, ((unhide hrs).on hg1).grown r (by simp), own_sets (by omega) _ 0 w1 (grown_trans (unhide hg0') hg1)⟩
    unfold Gd.world at fin ⊢
    clear hcap l1 l2 l3 n1 n2 n3 hL1 hg1 b0 b1 b2 b3 b4 b5 b6 b7 b8 b9 b10 hfB ca'
    go_wp2_with fail
    go_meet
    exact ⟨g1, g2, g3, c1, c2, c3, fin⟩
  case rest =>
    obtain ⟨g1, g2, g3, c1, c2, c3, hX⟩ := hcut
    clear b0 b1 b2 b3 b4 b5 b6 b7 b8 b9 b10 hfB ca' hbx hrs hg0' hsz' hB'
    clear w0
    have cs0 := fun wx => isSeat_any seat wx
    by_cases hseat : 0 ≤ seat ∧ seat < 4
    · rw [show Gd.isSeat seat = true from decide_eq_true hseat] at cs0
      have cs := hide cs0
      clear cs0
      obtain ⟨hs0, hs4⟩ := hseat
      go_wp2_with fail
      refine (unhide cs _).mono ?_
      rintro e wy ⟨rfl, hw⟩
      subst wy
      have b5 := (unhide hX).hold.box.eleven.2.2.2.2.2.1
      have ch0 := hero_any g2 32 c2 E seat wc (unhide hX).hold.lists.own.ents (unhide hX).cap.1
      have hp := @Gd.hero_pos E seat
      change Calls _ _ _ _ (Says wc (.int .i64 (Gd.hero E seat))) at ch0
      obtain ⟨h, hh⟩ : ∃ h, Gd.hero E seat = h := ⟨_, rfl⟩
      rw [hh] at ch0 hp
      have ch := hide ch0
      have hp' := hide hp
      have hh' := hide hh
      clear ch0 hp hh cs
      go_wp2_with fail
      refine (unhide ch).mono ?_
      rintro e w2 ⟨rfl, hg2⟩
      have hX2 := hide ((unhide hX).on hg2)
      clear hg2 ch b5 hX
      by_cases hpos : 0 ≤ h
      · obtain ⟨k, hk, rfl, _⟩ := unhide hp' hpos
        have b5 := (unhide hX2).hold.box.eleven.2.2.2.2.2.1
        have ca := hide (unhide hyes' hs0 hs4 k hk (unhide hh') B g1 g2 g3 c1 c2 c3 w2 (unhide hX2))
        have hk' : (k : Int) < 32 := by omega
        clear hp' hh'
        go_wp2_with fail
        refine (unhide ca).mono ?_
        rintro e w3 ⟨rfl, hX3⟩
        clear ca b5 hX2
        have hbx := hide hX3
        obtain ⟨b0, b1, b2, b3, b4, b5, b6, b7, b8, b9, b10⟩ := (unhide hbx).hold.box.eleven
        have fz := (unhide hbx).res.free
        obtain ⟨z0, z1, z2, z3, z4, z5, z6, z7, z8, z9, z10⟩ := Gd.res_cells (unhide hbx).res
        have hfin := hide (fun vs => (unhide hbx).worlds vs)
        go_wp2
        refine bodyPost_ret (v := .agg (Gd.world s g1 g2 g3 c1 c2 c3 g')) (by simp [results, Tryz.results147, go_sem, Gd.world, z0, z1, z2, z3, z4, z5, z6, z7, z8, z9, z10]) rfl ?_
        exact unhide hfin [_, _, _, _, _, _, _, _, _, _, _]
      · obtain ⟨rfl, rfl, rfl⟩ := unhide hno' (fun hc => hpos (by rw [← unhide hh']; exact hc.2.2))
        have hneg : h < 0 := by omega
        clear hp' hh' hyes' hno'
        have hbx := hide (unhide hX2)
        obtain ⟨b0, b1, b2, b3, b4, b5, b6, b7, b8, b9, b10⟩ := (unhide hbx).hold.box.eleven
        have fz := (unhide hbx).res.free
        obtain ⟨z0, z1, z2, z3, z4, z5, z6, z7, z8, z9, z10⟩ := Gd.res_cells (unhide hbx).res
        have hfin := hide (fun vs => (unhide hbx).worlds vs)
        go_wp2
        refine bodyPost_ret (v := .agg (Gd.world s g1 g2 g3 c1 c2 c3 g')) (by simp [results, Tryz.results147, go_sem, Gd.world, z0, z1, z2, z3, z4, z5, z6, z7, z8, z9, z10]) rfl ?_
        exact unhide hfin [_, _, _, _, _, _, _, _, _, _, _]
    · rw [show Gd.isSeat seat = false from decide_eq_false hseat] at cs0
      have cs := hide cs0
      obtain ⟨rfl, rfl, rfl⟩ := unhide hno' (fun hc => hseat ⟨hc.1, hc.2.1⟩)
      clear cs0 hno' hyes'
      go_wp2_with fail
      refine (unhide cs _).mono ?_
      rintro e wy ⟨rfl, hw⟩
      subst wy
      have hbx := hide (unhide hX)
      obtain ⟨b0, b1, b2, b3, b4, b5, b6, b7, b8, b9, b10⟩ := (unhide hbx).hold.box.eleven
      have fz := (unhide hbx).res.free
      obtain ⟨z0, z1, z2, z3, z4, z5, z6, z7, z8, z9, z10⟩ := Gd.res_cells (unhide hbx).res
      have hfin := hide (fun vs => (unhide hbx).worlds vs)
      go_wp2
      refine bodyPost_ret (v := .agg (Gd.world s g1 g2 g3 c1 c2 c3 g')) (by simp [results, Tryz.results147, go_sem, Gd.world, z0, z1, z2, z3, z4, z5, z6, z7, z8, z9, z10]) rfl ?_
      exact unhide hfin [_, _, _, _, _, _, _, _, _, _, _]

theorem do_wide (s g c : Nat → Int) (E I : Nat → Nat → Int) (gC gE gI cC cE cI : Nat) (seat input : Int) (w : World) (hL : Gd.Lists w gC gE gI c E I) (F : Gd.Fine c g E I) :
    Calls Tryz.prog 147 #[.agg (Gd.world s gC gE gI cC cE cI g), .int .i64 seat, .int .i64 input] w (Gd.WorldsW w s (Gd.nextG c g E I seat input) c (Gd.nextE E I seat input) (Gd.nextI c g E I seat input)) := by
  refine do_walk s g c E I gC gE gI cC cE cI seat input w hL _ _ _ (fun h => ⟨if_neg h, if_neg h, if_neg h⟩) ?_
  intro s0 s4 k hk hh B g1 g2 g3 c1 c2 c3 x hX
  obtain ⟨t, rfl⟩ : ∃ t : Nat, seat = (t : Int) := ⟨seat.toNat, by omega⟩
  obtain ⟨k', _, hk', he, _⟩ := Gd.hero_pos (E := E) (seat := (t : Int)) (by omega)
  have ek : k' = k := by omega
  rw [ek] at he
  have c : 0 ≤ (t : Int) ∧ (t : Int) < 4 ∧ 0 ≤ Gd.hero E (t : Int) := ⟨s0, s4, by omega⟩
  unfold Gd.nextG Gd.nextE Gd.nextI
  rw [if_pos c, if_pos c, if_pos c, hh, Int.toNat_natCast, Int.toNat_natCast]
  have b1 := hX.at_
  have b2 := hX.lE
  have b3 := hX.lI
  have b4 := hX.lC
  refine (act_all (fun i => i ≠ B ∧ i ≠ g2 ∧ i ≠ g3) B g1 g2 g3 c1 c2 c3 k t s g _ E I input x hX.hold hk (by omega) he F (fun h => h.1 rfl) (fun h => h.2.1 rfl) (fun h => h.2.2 rfl)).mono ?_
  rintro e x' ⟨h1, h2, h3⟩
  exact ⟨h1, h2, hX.at_, hX.lC, hX.lE, hX.lI, hX.cap, hX.res.frame h3 ⟨by omega, by omega, by omega⟩, h3.grown hX.grown (fun i hi => ⟨by omega, by omega, by omega⟩)⟩

end Go.Proofs.YtbanjoflgoiegaaGreat

namespace Go.Proofs.YtbanjoflgoiegaaGreat
open Go.RowKit

theorem Gd.Boxed.put {w x : World} {B gC gE gI cC cE cI : Nat} {s g c : Nat → Int} {E I : Nat → Nat → Int} (h : Gd.Boxed w x B gC gE gI cC cE cI s g c E I) (m : Nat) (a b d e : Int) : Gd.Boxed w ((((x.setCell ⟨gI, m * 4, none⟩ (.int .i64 a)).setCell ⟨gI, m * 4 + 1, none⟩ (.int .i64 b)).setCell ⟨gI, m * 4 + 2, none⟩ (.int .i64 d)).setCell ⟨gI, m * 4 + 3, none⟩ (.int .i64 e)) B gC gE gI cC cE cI s g c E (En.put I m (Gd.row a b d e)) := by
  have h1 := h.lI
  have h2 := h.at_
  have r := grown_put4 (World.grownBy.refl x (some gI)) m (.int .i64 a) (.int .i64 b) (.int .i64 d) (.int .i64 e)
  exact { h with hold := h.hold.put m a b d e, res := h.res.grown r (by simp; omega), grown := grown_own h.grown r (fun n e => by cases e; omega) }

theorem Gd.Boxed.same {w x : World} {B gC gE gI cC cE cI : Nat} {s g c : Nat → Int} {E I J : Nat → Nat → Int} (h : Gd.Boxed w x B gC gE gI cC cE cI s g c E I) (he : ∀ i, i < 40 → J i = I i) : Gd.Boxed w x B gC gE gI cC cE cI s g c E J :=
  { h with hold := { h.hold with lists := { h.hold.lists with items := h.hold.lists.items.congr fun q hq => by unfold Gd.flat; rw [he (q / 4) (by omega)] } } }

theorem Gd.BoxW.put {w x : World} {B gC gE gI cC cE cI : Nat} {s g c : Nat → Int} {E I : Nat → Nat → Int} (h : Gd.BoxW w x B gC gE gI cC cE cI s g c E I) (m : Nat) (a b d e : Int) : Gd.BoxW w ((((x.setCell ⟨gI, m * 4, none⟩ (.int .i64 a)).setCell ⟨gI, m * 4 + 1, none⟩ (.int .i64 b)).setCell ⟨gI, m * 4 + 2, none⟩ (.int .i64 d)).setCell ⟨gI, m * 4 + 3, none⟩ (.int .i64 e)) B gC gE gI cC cE cI s g c E (En.put I m (Gd.row a b d e)) := by
  have h1 := h.lI
  have h2 := h.at_
  have r := grown_put4 (World.grownBy.refl x (some gI)) m (.int .i64 a) (.int .i64 b) (.int .i64 d) (.int .i64 e)
  exact { h with hold := h.hold.put m a b d e, res := h.res.grown r (by simp; omega), grown := grown_own h.grown r (fun n e => by cases e; omega) }

theorem Gd.BoxW.same {w x : World} {B gC gE gI cC cE cI : Nat} {s g c : Nat → Int} {E I J : Nat → Nat → Int} (h : Gd.BoxW w x B gC gE gI cC cE cI s g c E I) (he : ∀ i, i < 40 → J i = I i) : Gd.BoxW w x B gC gE gI cC cE cI s g c E J :=
  { h with hold := { h.hold with lists := { h.hold.lists with items := h.hold.lists.items.congr fun q hq => by unfold Gd.flat; rw [he (q / 4) (by omega)] } } }

def Gd.sweepTo (I : Nat → Nat → Int) (seat : Int) (k : Nat) : Nat → Nat → Int := fun i => if i < k then Gd.sweep I seat i else I i

theorem Gd.sweep_yes {I : Nat → Nat → Int} {seat : Int} {k : Nat} (h : (I k 1 = 2 ∨ I k 1 = 3) ∧ I k 2 = seat) : Gd.sweepTo I seat (k + 1) = En.put (Gd.sweepTo I seat k) k (Gd.row 0 0 0 0) := by
  funext i
  unfold Gd.sweepTo En.put
  by_cases e : i = k
  · rw [if_pos (by omega), if_pos e, e, Gd.row_gone]
    unfold Gd.sweep
    rw [if_pos h]
  · rw [if_neg e]
    show _ = if i < k then _ else _
    by_cases e2 : i < k
    · rw [if_pos (by omega), if_pos e2]
    · rw [if_neg (by omega), if_neg e2]

theorem Gd.sweep_no {I : Nat → Nat → Int} {seat : Int} {k : Nat} (h : ¬ ((I k 1 = 2 ∨ I k 1 = 3) ∧ I k 2 = seat)) : Gd.sweepTo I seat (k + 1) = Gd.sweepTo I seat k := by
  funext i
  unfold Gd.sweepTo
  by_cases e : i = k
  · rw [if_pos (by omega), if_neg (by omega), e]
    unfold Gd.sweep
    rw [if_neg h]
  · by_cases e2 : i < k
    · rw [if_pos (by omega), if_pos e2]
    · rw [if_neg (by omega), if_neg e2]

set_option maxHeartbeats 6400000 in
theorem sweep_wide (s g c : Nat → Int) (E I : Nat → Nat → Int) (gC gE gI cC cE cI : Nat) (seat : Int) (w : World) (hL : Gd.Lists w gC gE gI c E I) :
    Calls Tryz.prog 171 #[.agg (Gd.world s gC gE gI cC cE cI g), .int .i64 seat] w (Gd.WorldsW w s g c E (Gd.sweep I seat)) := by
  obtain ⟨w0, hw0, hbox, hres, hg0, hsz⟩ := Gd.boxes w gC gE gI cC cE cI s g
  have ca := apart_wide s g c E I gC gE gI cC cE cI w0 (hL.on hg0)
  obtain ⟨b0, b1, b2, b3, b4, b5, b6, b7, b8, b9, b10⟩ := hbox.eleven
  have hbx := hide hbox
  have hrs := hide hres
  have hg0' := hide hg0
  have hsz' := hide hsz
  have ca' := hide ca
  have hfB := hbox.free
  clear hL ca hbox hres hg0 hsz
  unfold Gd.world at hw0 ca' ⊢
  go_enter Tryz.func171, Tryz.ntmps171
  go_upto_region 1 with fail
  rw [← hw0]
  clear hw0
  obtain ⟨B, hB⟩ : ∃ B, w.heap.size = B := ⟨_, rfl⟩
  rw [hB] at hbx hrs hsz' b0 b1 b2 b3 b4 b5 b6 b7 b8 b9 b10 ⊢
  have hB' := hide hB
  rw [hB] at hfB
  clear hB
  go_cut [] from 7 (fun wx => ∃ g1 g2 g3 c1 c2 c3, Hid (Gd.BoxW w wx B g1 g2 g3 c1 c2 c3 s g c E I))
  case first =>
    go_wp2_with fail
    refine (unhide ca').mono ?_
    rintro e w1 ⟨g1, g2, g3, c1, c2, c3, rfl, hcap, l1, l2, l3, n1, n2, n3, hL1, hg1⟩
    obtain ⟨y0, y1, y2, y3, y4, y5, y6, y7, y8, y9, y10⟩ := ((unhide hbx).on hg1).eleven
    have fB := ((unhide hbx).on hg1).free
    have fin : Hid (Gd.BoxW w (w1.setCells B 0 (Gd.world s g1 g2 g3 c1 c2 c3 g).toList) B g1 g2 g3 c1 c2 c3 s g c E I) := by
      have r := grown_sets (g := B) (Gd.world s g1 g2 g3 c1 c2 c3 g).toList 0 w1 (World.grownBy.refl _ _)
      have hB := unhide hB'
      have hs := unhide hsz'
      exact ⟨⟨((unhide hbx).on hg1).whole s g g1 g2 g3 c1 c2 c3, ⟨hL1.cells.grown r (by simp; omega), hL1.ents.grown r (by simp; omega), hL1.items.grown r (by simp; omega)⟩, by omega, by omega, by omega, n1, n2, n3⟩, hB, by omega, by omega, by omega, hcap, ((unhide hrs).on hg1).grown r (by simp), own_sets (by omega) _ 0 w1 (grown_trans (unhide hg0') hg1)⟩
    unfold Gd.world at fin ⊢
    clear hcap l1 l2 l3 n1 n2 n3 hL1 hg1 b0 b1 b2 b3 b4 b5 b6 b7 b8 b9 b10 hfB ca'
    go_wp2_with fail
    go_meet
    exact ⟨g1, g2, g3, c1, c2, c3, fin⟩
  case rest =>
    obtain ⟨g1, g2, g3, c1, c2, c3, hX⟩ := hcut
    clear b0 b1 b2 b3 b4 b5 b6 b7 b8 b9 b10 hfB ca' hbx hrs hg0' hsz' hB'
    clear w0
    have q6 := (unhide hX).hold.box.eleven.2.2.2.2.2.2.1
    go_wp2_with fail
    go_loopw [12] (fun i wr => ∃ k : Nat, k ≤ 40 ∧ i = .int .i64 (k : Int) ∧ Hid (Gd.BoxW w wr B g1 g2 g3 c1 c2 c3 s g c E (Gd.sweepTo I seat k))) (fun i _ => 200 - (intOf i).toNat)
    case atStart => exact ⟨0, by omega, rfl, (unhide hX).same (fun i _ => if_neg (by omega))⟩
    case round =>
      clear q6 hX
      obtain ⟨k, hk, rfl, hB⟩ := hrel
      by_cases hlt : k < 40
      · have hlt' : (k : Int) < 40 := by omega
        have hrow := (unhide hB).hold.lists.its.row hlt
        rw [show Gd.sweepTo I seat k k = I k from if_neg (by omega)] at hrow
        obtain ⟨u0, u1, u2, u3⟩ := hrow
        have HL := hide hlt
        have hnx := hide (fun (o : Obj) => (unhide hB).on (World.grownBy_alloc wr o none))
        have q6 := (unhide hB).hold.box.eleven.2.2.2.2.2.2.1
        have fI := (unhide hB).hold.lists.items.free
        have lI := (unhide hB).hold.lists.items.lt
        have lB := (unhide hB).hold.box.lt
        by_cases hc : (I k 1 = 2 ∨ I k 1 = 3) ∧ I k 2 = seat
        · have he := hide (Gd.sweep_yes hc)
          obtain ⟨hc1, hc2⟩ := hc
          rcases hc1 with hc1 | hc1
          all_goals
            go_wp2
            go_roundw
            case rel => exact ⟨k + 1, by have := unhide HL; omega, by go_num, by
              show Gd.BoxW _ _ _ _ _ _ _ _ _ _ _ _ _ _
              rw [unhide he]
              exact ((unhide hB).put k 0 0 0 0).on (World.grownBy_alloc _ _ _)⟩
            case measure => simp [intOf]; omega
        · have he := hide (Gd.sweep_no hc)
          by_cases hc2 : I k 2 = seat
          · have n1 : ¬ I k 1 = 2 := fun h => hc ⟨.inl h, hc2⟩
            have n2 : ¬ I k 1 = 3 := fun h => hc ⟨.inr h, hc2⟩
            have m1 : (I k 1 == 2) = false := by simp [n1]
            have m2 : (I k 1 == 3) = false := by simp [n2]
            clear hc
            go_wp2
            go_roundw
            case rel => exact ⟨k + 1, by have := unhide HL; omega, by go_num, by
              show Gd.BoxW _ _ _ _ _ _ _ _ _ _ _ _ _ _
              rw [unhide he]
              exact unhide hnx _⟩
            case measure => simp [intOf]; omega
          · have m2 : (I k 2 == seat) = false := by simp [hc2]
            clear hc
            go_wp2
            go_roundw
            case rel => exact ⟨k + 1, by have := unhide HL; omega, by go_num, by
              show Gd.BoxW _ _ _ _ _ _ _ _ _ _ _ _ _ _
              rw [unhide he]
              exact unhide hnx _⟩
            case measure => simp [intOf]; omega
      · have hge : ¬ (k : Int) < 40 := by omega
        have hBf := (unhide hB).same (J := Gd.sweep I seat) (fun i hi => by show _ = if i < k then _ else _; rw [if_pos (by omega)])
        clear hB
        have hbx := hide hBf
        obtain ⟨b0, b1, b2, b3, b4, b5, b6, b7, b8, b9, b10⟩ := (unhide hbx).hold.box.eleven
        have fz := (unhide hbx).res.free
        obtain ⟨z0, z1, z2, z3, z4, z5, z6, z7, z8, z9, z10⟩ := Gd.res_cells (unhide hbx).res
        have hfin := hide (fun vs => (unhide hbx).worlds vs)
        go_wp2
        refine bodyPost_ret (v := .agg (Gd.world s g1 g2 g3 c1 c2 c3 g)) (by simp [results, Tryz.results171, go_sem, Gd.world, z0, z1, z2, z3, z4, z5, z6, z7, z8, z9, z10]) rfl ?_
        exact unhide hfin [_, _, _, _, _, _, _, _, _, _, _]

end Go.Proofs.YtbanjoflgoiegaaGreat

namespace Go.Proofs.YtbanjoflgoiegaaGreat
open Go.RowKit

end Go.Proofs.YtbanjoflgoiegaaGreat

namespace Go.Proofs.YtbanjoflgoiegaaGreat
open Go.RowKit

def Gd.wornK (I : Nat → Nat → Int) (seat kd : Int) : Nat → Bool
  | 0 => false
  | k + 1 => Gd.wornK I seat kd k || (decide (I k 1 = 3 ∧ I k 2 = seat) && decide (I k 0 = kd))

def Gd.three (b : Bool) : Int := if b = true then 3 else 0
def Gd.two (b : Bool) : Int := if b = true then 2 else 0

set_option maxHeartbeats 6400000 in
theorem bonus_any (s g c : Nat → Int) (E I : Nat → Nat → Int) (gC gE gI cC cE cI : Nat) (seat : Int) (w : World) (hL : Gd.Lists w gC gE gI c E I) :
    Calls Tryz.prog 186 #[.agg (Gd.world s gC gE gI cC cE cI g), .int .i64 seat] w (Says w (.tuple #[.int .i64 (Gd.three (Gd.wornK I seat 2 40)), .int .i64 (Gd.two (Gd.wornK I seat 3 40))])) := by
  obtain ⟨w0, hw0⟩ : ∃ w0, w0 = w.alloc (.cells (Gd.world s gC gE gI cC cE cI g) 30) := ⟨_, rfl⟩
  have hbox : Lie w0 w.heap.size 30 11 (Gd.box s gC gE gI cC cE cI g) := by rw [hw0]; exact (Arr.world (heap_alloc_new w _)).lie
  have hg0 : w.grownBy w0 none := by rw [hw0]; exact World.grownBy_alloc _ _ _
  have hL0 := hide (hL.on hg0)
  obtain ⟨B, hB⟩ : ∃ B, w.heap.size = B := ⟨_, rfl⟩
  rw [hB] at hbox
  have hbox' := hide hbox
  have hg0' := hide hg0
  obtain ⟨_, _, _, _, _, _, b6, _⟩ := hbox.eleven
  clear hL hbox hg0
  unfold Gd.world at hw0 ⊢
  go_enter Tryz.func186, Tryz.ntmps186
  go_upto_region 1 with fail
  rw [← hw0]
  clear hw0 hB
  go_wp2_with fail
  go_loopw [6, 7, 13] (fun a d i wr => ∃ k : Nat, k ≤ 40 ∧ i = .int .i64 (k : Int) ∧ a = .int .i64 (Gd.three (Gd.wornK I seat 2 k)) ∧ d = .int .i64 (Gd.two (Gd.wornK I seat 3 k)) ∧ w0.grownBy wr none) (fun _ _ i _ => 200 - (intOf i).toNat)
  case atStart => exact ⟨0, by omega, rfl, rfl, rfl, World.grownBy.refl _ _⟩
  case round =>
    obtain ⟨k, hk, rfl, rfl, rfl, hgr⟩ := hrel
    have hgr' := hide hgr
    clear hgr b6
    by_cases hlt : k < 40
    · obtain ⟨u0, u1, u2, u3⟩ := ((unhide hL0).on (unhide hgr')).its.row hlt
      have hlt' : (k : Int) < 40 := by omega
      have HL := hide hlt
      have hnx := hide (fun (o : Obj) => grown_alloc (unhide hgr') o)
      have e2 := hide (show Gd.wornK I seat 2 (k + 1) = (Gd.wornK I seat 2 k || (decide (I k 1 = 3 ∧ I k 2 = seat) && decide (I k 0 = 2))) from rfl)
      have e3 := hide (show Gd.wornK I seat 3 (k + 1) = (Gd.wornK I seat 3 k || (decide (I k 1 = 3 ∧ I k 2 = seat) && decide (I k 0 = 3))) from rfl)
      clear hlt
      by_cases h1 : I k 1 = 3
      · by_cases h2 : I k 2 = seat
        · by_cases k2 : I k 0 = 2
          · have r2 : Hid (Gd.wornK I seat 2 (k + 1) = true) := by show _ = _; rw [unhide e2]; simp [h1, h2, k2]
            have r3 : Hid (Gd.wornK I seat 3 (k + 1) = Gd.wornK I seat 3 k) := by show _ = _; rw [unhide e3]; simp [k2]
            clear e2 e3
            go_wp2
            go_roundw
            case rel => exact ⟨k + 1, by have := unhide HL; omega, by go_num, by rw [unhide r2]; rfl, by rw [unhide r3], unhide hnx _⟩
            case measure => simp [intOf]; omega
          · have m2 : (I k 0 == 2) = false := by simp [k2]
            have r2 : Hid (Gd.wornK I seat 2 (k + 1) = Gd.wornK I seat 2 k) := by show _ = _; rw [unhide e2]; simp [k2]
            by_cases k3 : I k 0 = 3
            · have r3 : Hid (Gd.wornK I seat 3 (k + 1) = true) := by show _ = _; rw [unhide e3]; simp [h1, h2, k3]
              clear e2 e3
              go_wp2
              go_roundw
              case rel => exact ⟨k + 1, by have := unhide HL; omega, by go_num, by rw [unhide r2], by rw [unhide r3]; rfl, unhide hnx _⟩
              case measure => simp [intOf]; omega
            · have m3 : (I k 0 == 3) = false := by simp [k3]
              have r3 : Hid (Gd.wornK I seat 3 (k + 1) = Gd.wornK I seat 3 k) := by show _ = _; rw [unhide e3]; simp [k3]
              clear e2 e3
              go_wp2
              go_roundw
              case rel => exact ⟨k + 1, by have := unhide HL; omega, by go_num, by rw [unhide r2], by rw [unhide r3], unhide hnx _⟩
              case measure => simp [intOf]; omega
        · have m2 : (I k 2 == seat) = false := by simp [h2]
          have r2 : Hid (Gd.wornK I seat 2 (k + 1) = Gd.wornK I seat 2 k) := by show _ = _; rw [unhide e2]; simp [h2]
          have r3 : Hid (Gd.wornK I seat 3 (k + 1) = Gd.wornK I seat 3 k) := by show _ = _; rw [unhide e3]; simp [h2]
          clear e2 e3
          go_wp2
          go_roundw
          case rel => exact ⟨k + 1, by have := unhide HL; omega, by go_num, by rw [unhide r2], by rw [unhide r3], unhide hnx _⟩
          case measure => simp [intOf]; omega
      · have m1 : (I k 1 == 3) = false := by simp [h1]
        have r2 : Hid (Gd.wornK I seat 2 (k + 1) = Gd.wornK I seat 2 k) := by show _ = _; rw [unhide e2]; simp [h1]
        have r3 : Hid (Gd.wornK I seat 3 (k + 1) = Gd.wornK I seat 3 k) := by show _ = _; rw [unhide e3]; simp [h1]
        clear e2 e3
        go_wp2
        go_roundw
        case rel => exact ⟨k + 1, by have := unhide HL; omega, by go_num, by rw [unhide r2], by rw [unhide r3], unhide hnx _⟩
        case measure => simp [intOf]; omega
    · have hge : ¬ (k : Int) < 40 := by omega
      have hfin := hide (grown_trans (unhide hg0') (unhide hgr'))
      obtain rfl : k = 40 := by omega
      go_wp2
      refine bodyPost_ret (v := .tuple #[.int .i64 (Gd.three (Gd.wornK I seat 2 40)), .int .i64 (Gd.two (Gd.wornK I seat 3 40))]) (by simp [results, Tryz.results186, go_sem]) rfl ?_
      exact ⟨rfl, unhide hfin⟩

end Go.Proofs.YtbanjoflgoiegaaGreat
