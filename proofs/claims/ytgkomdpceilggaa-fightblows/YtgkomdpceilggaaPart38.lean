/-
  The document's own blows: is a row there?
  The document's own Hurt.
  The document's own Ail.
  The document's own Hit, where one of the rows is not there.
-/
import Derived.Test.YtgkomdpceilggaaPart30
import Derived.Test.YtgkomdpceilggaaPart26
import Derived.Test.YtgkomdpceilggaaPart19
namespace Go.Proofs.Ytgkomdpceilggaa
open Go.RowKit

set_option maxHeartbeats 1600000 in
theorem refThere8_any (s g c : Nat → Int) (E I : Nat → Nat → Int) (gC gE gI cC cE cI : Nat) (row : Int) (w : World) (hL : Gd.Lists w gC gE gI c E I) :
    Calls Try.prog 60 #[.agg (Gd.world s gC gE gI cC cE cI g), .int .i64 row] w (Says w (.bool (Ft.there E row))) := by
  have hg0 := hide (World.grownBy_alloc w (.cells (Gd.world s gC gE gI cC cE cI g) 29) none)
  have hbox := (Arr.world (heap_alloc_new w (.cells (Gd.world s gC gE gI cC cE cI g) 29))).lie
  have hL0 := hL.on (unhide hg0)
  obtain ⟨b0, b1, b2, b3, b4, b5, b6, b7, b8, b9, b10⟩ := hbox.eleven
  clear b0 b1 b2 b3 b4 b6 b7 b8 b9 b10 hbox hL
  unfold Gd.world at hg0 b5 hL0 ⊢
  by_cases h0 : 0 ≤ row
  · by_cases h1 : row < 32
    · obtain ⟨k, rfl⟩ : ∃ k : Nat, row = (k : Int) := ⟨row.toNat, by omega⟩
      have hk : k < 32 := by omega
      have u0 := (hL0.own.ents.row hk).1
      have hr := hide (Ft.there_at (E := E) hk)
      clear hL0 h0
      by_cases hz : E k 0 = 0
      · rw [hz] at u0
        have hr2 : Hid (Ft.there E (k : Int) = false) := (unhide hr).trans (by simp [hz])
        clear hz hr
        go_enter Try.func60, Try.ntmps60
        go_wp2
        go_ret
        exact ⟨ret_bool (unhide hr2).symm, unhide hg0⟩
      · have hr2 : Hid (Ft.there E (k : Int) = true) := (unhide hr).trans (by simp [hz])
        have hz' : (E k 0 == 0) = false := by simpa using hz
        have hz2 : Hid ((E k 0 != 0) = true) := (show (E k 0 != 0) = true by simpa using hz)
        clear hr
        go_enter Try.func60, Try.ntmps60
        go_wp2
        go_ret
        exact ⟨ret_bool ((unhide hz2).trans (unhide hr2).symm), unhide hg0⟩
    · have hr2 : Hid (Ft.there E row = false) := by
        show Ft.there E row = false
        unfold Ft.there
        rw [decide_eq_false (by omega)]
        rfl
      clear hL0
      go_enter Try.func60, Try.ntmps60
      go_wp2
      go_ret
      exact ⟨ret_bool (unhide hr2).symm, unhide hg0⟩
  · have hr2 : Hid (Ft.there E row = false) := by
      show Ft.there E row = false
      unfold Ft.there
      rw [decide_eq_false (by omega)]
      rfl
    clear hL0
    go_enter Try.func60, Try.ntmps60
    go_wp2
    go_ret
    exact ⟨ret_bool (unhide hr2).symm, unhide hg0⟩

end Go.Proofs.Ytgkomdpceilggaa

namespace Go.Proofs.Ytgkomdpceilggaa
open Go.RowKit

set_option maxRecDepth 8000 in
set_option maxHeartbeats 6400000 in
theorem refHurt8_any (s g c : Nat → Int) (E I : Nat → Nat → Int) (gC gE gI cC cE cI : Nat) (row n : Int) (w : World) (hL : Gd.Lists w gC gE gI c E I) (hF : Ft.Fit c E I) :
    Calls Try.prog 30 #[.agg (Gd.world s gC gE gI cC cE cI g), .int .i64 row, .int .i64 n] w (Gd.Worlds w s g c (Ft.hE E row n) (Ft.hI E I row n)) := by
  obtain ⟨w0, hw0, hbox, hres, hg0, hsz⟩ := Gd.boxes w gC gE gI cC cE cI s g
  have ca' := hide (refTwin_any s g c E I gC gE gI cC cE cI w0 (hL.on hg0))
  obtain ⟨b0, b1, b2, b3, b4, b5, b6, b7, b8, b9, b10⟩ := hbox.eleven
  have hbx := hide hbox
  have hrs := hide hres
  have hg0' := hide hg0
  have hsz' := hide hsz
  have hfB := hbox.free
  clear hL hbox hres hg0 hsz
  unfold Gd.world at hw0 ca' ⊢
  go_enter Try.func30, Try.ntmps30
  go_upto_region 1 with fail
  rw [← hw0]
  clear hw0
  obtain ⟨B, hB⟩ : ∃ B, w.heap.size = B := ⟨_, rfl⟩
  rw [hB] at hbx hrs hsz' b0 b1 b2 b3 b4 b5 b6 b7 b8 b9 b10 ⊢
  have hB' := hide hB
  rw [hB] at hfB
  clear hB
  go_cut [] from 8 (fun wx => ∃ g1 g2 g3 c1 c2 c3, Hid (Gd.Boxed w wx B g1 g2 g3 c1 c2 c3 s g c E I))
  case first =>
    go_wp2_with fail
    refine (unhide ca').mono ?_
    rintro e w1 ⟨g1, g2, g3, c1, c2, c3, rfl, hcap, l1, l2, l3, n1, n2, n3, hL1, hg1⟩
    obtain ⟨y0, y1, y2, y3, y4, y5, y6, y7, y8, y9, y10⟩ := ((unhide hbx).on hg1).eleven
    have fB := ((unhide hbx).on hg1).free
    have fin : Hid (Gd.Boxed w (w1.setCells B 0 (Gd.world s g1 g2 g3 c1 c2 c3 g).toList) B g1 g2 g3 c1 c2 c3 s g c E I) := by
      have r := grown_sets (g := B) (Gd.world s g1 g2 g3 c1 c2 c3 g).toList 0 w1 (World.grownBy.refl _ _)
      have hB := unhide hB'
      have hs := unhide hsz'
      exact ⟨⟨((unhide hbx).on hg1).whole s g g1 g2 g3 c1 c2 c3, ⟨hL1.cells.grown r (by simp; omega), hL1.ents.grown r (by simp; omega), hL1.items.grown r (by simp; omega)⟩, by omega, by omega, by omega, n1, n2, n3⟩, hB, by omega, by omega, by omega, hcap, ((unhide hrs).on hg1).grown r (by simp), own_sets (by omega) _ 0 w1 (grown_trans (unhide hg0') hg1)⟩
    unfold Gd.world at fin ⊢
    clear hcap l1 l2 l3 n1 n2 n3 hL1 hg1 b0 b1 b2 b3 b4 b5 b6 b7 b8 b9 b10 hfB ca'
    go_wp2_with fail
    go_meet
    exact ⟨g1, g2, g3, c1, c2, c3, fin⟩
  case rest =>
    obtain ⟨g1, g2, g3, c1, c2, c3, hX⟩ := hcut
    clear b0 b1 b2 b3 b4 b5 b6 b7 b8 b9 b10 hfB ca' hbx hrs hg0' hsz' hB'
    clear w0
    obtain ⟨b0, b1, b2, b3, b4, b5, b6, b7, b8, b9, b10⟩ := (unhide hX).hold.box.eleven
    have ct := hide (refThere8_any s g c E I g1 g2 g3 c1 c2 c3 row wc (unhide hX).hold.lists)
    have hp := @Ft.there_pos E row
    have hdE : Hid (Ft.hE E row n = if Ft.there E row = true ∧ 1 ≤ n then Ft.hurtE E row.toNat n else E) := rfl
    have hdI : Hid (Ft.hI E I row n = if Ft.there E row = true ∧ 1 ≤ n then Ft.hurtI E I row.toNat n else I) := rfl
    obtain ⟨r, hr⟩ : ∃ r, Ft.there E row = r := ⟨_, rfl⟩
    rw [hr] at ct hp hdE hdI
    have hp' := hide hp
    clear hr hp
    unfold Gd.world at ct
    go_wp2_with fail
    refine (unhide ct).mono ?_
    rintro e wd ⟨rfl, hg⟩
    have hX1 := hide ((unhide hX).on hg)
    clear ct hg hX b0 b1 b2 b3 b4 b5 b6 b7 b8 b9 b10
    have hX := hide (unhide hX1)
    clear hX1
    cases r
    · have hX0 : Hid (Gd.Boxed w wd B g1 g2 g3 c1 c2 c3 s g c (Ft.hE E row n) (Ft.hI E I row n)) := by
        show Gd.Boxed _ _ _ _ _ _ _ _ _ _ _ _ _ _
        rw [unhide hdE, unhide hdI, if_neg (by simp), if_neg (by simp)]
        exact unhide hX
      clear hX hp' hdE hdI
      obtain ⟨b0, b1, b2, b3, b4, b5, b6, b7, b8, b9, b10⟩ := (unhide hX0).hold.box.eleven
      have fz := (unhide hX0).res.free
      obtain ⟨z0, z1, z2, z3, z4, z5, z6, z7, z8, z9, z10⟩ := Gd.res_cells (unhide hX0).res
      have hfin := hide (fun vs => (unhide hX0).worlds vs)
      go_wp2
      refine bodyPost_ret (v := .agg (Gd.world s g1 g2 g3 c1 c2 c3 g)) (by simp [results, Try.results30, go_sem, Gd.world, z0, z1, z2, z3, z4, z5, z6, z7, z8, z9, z10]) rfl ?_
      exact unhide hfin [_, _, _, _, _, _, _, _, _, _, _]
    · by_cases hn : 1 ≤ n
      rotate_left
      · have hn' : n < 1 := by omega
        have hX0 : Hid (Gd.Boxed w wd B g1 g2 g3 c1 c2 c3 s g c (Ft.hE E row n) (Ft.hI E I row n)) := by
          show Gd.Boxed _ _ _ _ _ _ _ _ _ _ _ _ _ _
          rw [unhide hdE, unhide hdI, if_neg (fun h => hn h.2), if_neg (fun h => hn h.2)]
          exact unhide hX
        clear hX hp' hdE hdI hn
        obtain ⟨b0, b1, b2, b3, b4, b5, b6, b7, b8, b9, b10⟩ := (unhide hX0).hold.box.eleven
        have fz := (unhide hX0).res.free
        obtain ⟨z0, z1, z2, z3, z4, z5, z6, z7, z8, z9, z10⟩ := Gd.res_cells (unhide hX0).res
        have hfin := hide (fun vs => (unhide hX0).worlds vs)
        go_wp2
        refine bodyPost_ret (v := .agg (Gd.world s g1 g2 g3 c1 c2 c3 g)) (by simp [results, Try.results30, go_sem, Gd.world, z0, z1, z2, z3, z4, z5, z6, z7, z8, z9, z10]) rfl ?_
        exact unhide hfin [_, _, _, _, _, _, _, _, _, _, _]
      · obtain ⟨k, hk, rfl, hk0⟩ := unhide hp' rfl
        have hT := (hF.rows k hk).taken hk0
        have h50 : 0 ≤ E k 5 := by omega
        have h59 : E k 5 ≤ 20 := by omega
        have hn1 : ¬ n < 1 := by omega
        rw [if_pos ⟨by first | trivial | rfl, hn⟩, Int.toNat_natCast] at hdE hdI
        clear hT hk0 hp' hF
        have b5 := (unhide hX).hold.box.eleven.2.2.2.2.2.1
        obtain ⟨u0, u1, u2, u3, u4, u5, u6, u7, u8, u9, u10⟩ := (unhide hX).hold.lists.own.ents.row hk
        have hk' : (k : Int) < 32 := by omega
        have HK := hide hk
        have hX3 := hide ((unhide hX).on (World.grownBy_alloc wd (.cells (En.cells (E k)) 47) none))
        have hQ := hide (Arr.lit (heap_alloc_new wd (.cells (En.cells (E k)) 47)))
        have hQB : Hid (B ≠ wd.heap.size) := (show B ≠ wd.heap.size by have := (unhide hX).hold.box.lt; omega)
        clear hX hk
        unfold En.cells at hX3 hQ
        go_upto_region 5 with fail
        obtain ⟨Q, hQe⟩ : ∃ Q, wd.heap.size = Q := ⟨_, rfl⟩
        rw [hQe] at hQ hQB ⊢
        generalize wd.alloc (.cells #[.int .i64 (E k 0), .int .i64 (E k 1), .int .i64 (E k 2), .int .i64 (E k 3), .int .i64 (E k 4), .int .i64 (E k 5), .int .i64 (E k 6), .int .i64 (E k 7), .int .i64 (E k 8), .int .i64 (E k 9), .int .i64 (E k 10)] 47) = w3 at hX3 hQ ⊢
        clear hQe u0 u1 u2 u3 u4 u5 u6 u7 u8 u9 u10 b5
        have z0 : w3.cell? ⟨Q, 0, none⟩ = some (.int .i64 (E k 0)) := (unhide hQ).cell (i := 0) (by show 0 < 11; omega)
        have z2 : w3.cell? ⟨Q, 2, none⟩ = some (.int .i64 (E k 2)) := (unhide hQ).cell (i := 2) (by show 2 < 11; omega)
        have z5 : w3.cell? ⟨Q, 5, none⟩ = some (.int .i64 (E k 5)) := (unhide hQ).cell (i := 5) (by show 5 < 11; omega)
        have b5 := (unhide hX3).hold.box.eleven.2.2.2.2.2.1
        unfold Ft.hurtE at hdE
        unfold Ft.hurtI at hdI
        by_cases hlt : n < E k 5
        · rw [if_pos hlt] at hdE hdI
          have r5 : w3.cell? ⟨g2, k * 11 + 5, none⟩ = some (.int .i64 (E k 5)) := ((unhide hX3).hold.lists.own.ents.row (unhide HK)).2.2.2.2.2.1
          have fE := (unhide hX3).hold.lists.ents.free
          have hX0 : Hid (Gd.Boxed w (w3.setCell ⟨g2, k * 11 + 5, none⟩ (.int .i64 (E k 5 - n))) B g1 g2 g3 c1 c2 c3 s g c (Ft.hE E (k : Int) n) (Ft.hI E I (k : Int) n)) := by
            show Gd.Boxed _ _ _ _ _ _ _ _ _ _ _ _ _ _
            rw [unhide hdE, unhide hdI]
            exact (unhide hX3).stat k 5 (by omega) (E k 5 - n)
          clear hdE hdI z0 z2
          go_upto_region 7 with fail
          generalize w3.setCell ⟨g2, k * 11 + 5, none⟩ (.int .i64 (E k 5 - n)) = w4 at hX0 ⊢
          clear r5 fE b5 z5 hX3 hQ hlt
          obtain ⟨b0, b1, b2, b3, b4, b5, b6, b7, b8, b9, b10⟩ := (unhide hX0).hold.box.eleven
          have fz := (unhide hX0).res.free
          obtain ⟨z0, z1, z2, z3, z4, z5, z6, z7, z8, z9, z10⟩ := Gd.res_cells (unhide hX0).res
          have hfin := hide (fun vs => (unhide hX0).worlds vs)
          go_wp2
          refine bodyPost_ret (v := .agg (Gd.world s g1 g2 g3 c1 c2 c3 g)) (by simp [results, Try.results30, go_sem, Gd.world, z0, z1, z2, z3, z4, z5, z6, z7, z8, z9, z10]) rfl ?_
          exact unhide hfin [_, _, _, _, _, _, _, _, _, _, _]
        · rw [if_neg hlt] at hdE hdI
          have cf := hide (refFree_in g2 32 c2 k E w3 (unhide hX3).hold.lists.own.ents (unhide HK))
          go_wp2_with fail
          refine (unhide cf).mono ?_
          rintro e w4 ⟨jF, cap, rfl, hlo, hnc, hcm, hown, hgr⟩
          have hX4 := hide ((unhide hX3).folk hnc hlo hown hgr)
          have y5 := ((unhide hX3).on hgr).hold.box.eleven.2.2.2.2.2.1
          have fB := ((unhide hX3).on hgr).hold.box.free
          have hQ4 : Hid ((w4.setCell ⟨B, 5, none⟩ (.slice (some ⟨jF, 0, none⟩) 32 cap)).cell? ⟨Q, 0, none⟩ = some (.int .i64 (E k 0)) ∧ (w4.setCell ⟨B, 5, none⟩ (.slice (some ⟨jF, 0, none⟩) 32 cap)).cell? ⟨Q, 2, none⟩ = some (.int .i64 (E k 2))) := by
            have hqb : B ≠ Q := unhide hQB
            have hql := (unhide hQ).lie.lt
            exact ⟨by rw [World.cell?_setCell_far _ _ _ _ hqb, grown_cell hgr Q _ hql (by simp)]; exact z0, by rw [World.cell?_setCell_far _ _ _ _ hqb, grown_cell hgr Q _ hql (by simp)]; exact z2⟩
          clear hlo hnc hcm hown hgr cf b5 z0 z2 z5 hlt
          go_upto_region 9 with fail
          generalize w4.setCell ⟨B, 5, none⟩ (.slice (some ⟨jF, 0, none⟩) 32 cap) = w5 at hX4 hQ4 ⊢
          clear y5 fB hX3 hQ
          obtain ⟨z0, z2⟩ := unhide hQ4
          by_cases h1 : E k 0 = 1
          · rw [if_pos h1] at hdI
            rw [h1] at z0
            have cs := hide (refSweep_any s g c (En.put E k (En.hole (E k 1))) I g1 jF g3 c1 cap c3 (E k 2) w5 (unhide hX4).hold.lists)
            obtain ⟨b0, b1, b2, b3, b4, b5, b6, b7, b8, b9, b10⟩ := (unhide hX4).hold.box.eleven
            clear h1
            unfold Gd.world at cs
            go_wp2_with fail
            refine (unhide cs).mono ?_
            rintro e w6 ⟨jC, jE, jI, dC, dE, dI, rfl, hcap, l1, l2, l3, n1, n2, n3, hL, hg⟩
            obtain ⟨y0, y1, y2, y3, y4, y5, y6, y7, y8, y9, y10⟩ := ((unhide hX4).on hg).hold.box.eleven
            have fB := ((unhide hX4).on hg).hold.box.free
            have hX0 : Hid (Gd.Boxed w (((((((((((w6.setCell ⟨B, 0, none⟩ (.int .i64 (s 0))).setCell ⟨B, 1, none⟩ (.int .i64 (s 1))).setCell ⟨B, 2, none⟩ (.int .i64 (s 2))).setCell ⟨B, 3, none⟩ (.int .i64 (s 3))).setCell ⟨B, 4, none⟩ (.slice (some ⟨jC, 0, none⟩) 384 dC)).setCell ⟨B, 5, none⟩ (.slice (some ⟨jE, 0, none⟩) 32 dE)).setCell ⟨B, 6, none⟩ (.slice (some ⟨jI, 0, none⟩) 40 dI)).setCell ⟨B, 7, none⟩ (.int .i64 (g 0))).setCell ⟨B, 8, none⟩ (.int .i64 (g 1))).setCell ⟨B, 9, none⟩ (.int .i64 (g 2))).setCell ⟨B, 10, none⟩ (.int .i64 (g 3))) B jC jE jI dC dE dI s g c (Ft.hE E (k : Int) n) (Ft.hI E I (k : Int) n)) := by
              show Gd.Boxed _ _ _ _ _ _ _ _ _ _ _ _ _ _
              rw [unhide hdE, unhide hdI]
              exact (unhide hX4).over (s' := s) (g' := g) (dC := dC) (dI := dI) hcap l1 l2 l3 n1 n2 n3 hL hg
            clear hcap l1 l2 l3 n1 n2 n3 hL hg cs b0 b1 b2 b3 b4 b5 b6 b7 b8 b9 b10 z0 z2 hX4 hQ4 hdE hdI
            unfold Gd.world
            go_upto_region 11 with fail
            generalize (((((((((((w6.setCell ⟨B, 0, none⟩ (.int .i64 (s 0))).setCell ⟨B, 1, none⟩ (.int .i64 (s 1))).setCell ⟨B, 2, none⟩ (.int .i64 (s 2))).setCell ⟨B, 3, none⟩ (.int .i64 (s 3))).setCell ⟨B, 4, none⟩ (.slice (some ⟨jC, 0, none⟩) 384 dC)).setCell ⟨B, 5, none⟩ (.slice (some ⟨jE, 0, none⟩) 32 dE)).setCell ⟨B, 6, none⟩ (.slice (some ⟨jI, 0, none⟩) 40 dI)).setCell ⟨B, 7, none⟩ (.int .i64 (g 0))).setCell ⟨B, 8, none⟩ (.int .i64 (g 1))).setCell ⟨B, 9, none⟩ (.int .i64 (g 2))).setCell ⟨B, 10, none⟩ (.int .i64 (g 3))) = w7 at hX0 ⊢
            clear y0 y1 y2 y3 y4 y5 y6 y7 y8 y9 y10 fB
            obtain ⟨b0, b1, b2, b3, b4, b5, b6, b7, b8, b9, b10⟩ := (unhide hX0).hold.box.eleven
            have fz := (unhide hX0).res.free
            obtain ⟨z0, z1, z2, z3, z4, z5, z6, z7, z8, z9, z10⟩ := Gd.res_cells (unhide hX0).res
            have hfin := hide (fun vs => (unhide hX0).worlds vs)
            go_wp2
            refine bodyPost_ret (v := .agg (Gd.world s jC jE jI dC dE dI g)) (by simp [results, Try.results30, go_sem, Gd.world, z0, z1, z2, z3, z4, z5, z6, z7, z8, z9, z10]) rfl ?_
            exact unhide hfin [_, _, _, _, _, _, _, _, _, _, _]
          · rw [if_neg h1] at hdI
            have h1' : (E k 0 == 1) = false := by simpa using h1
            have hX0 : Hid (Gd.Boxed w w5 B g1 jF g3 c1 cap c3 s g c (Ft.hE E (k : Int) n) (Ft.hI E I (k : Int) n)) := by
              show Gd.Boxed _ _ _ _ _ _ _ _ _ _ _ _ _ _
              rw [unhide hdE, unhide hdI]
              exact unhide hX4
            clear hX4 h1 hdE hdI z2 hQ4
            obtain ⟨b0, b1, b2, b3, b4, b5, b6, b7, b8, b9, b10⟩ := (unhide hX0).hold.box.eleven
            have fz := (unhide hX0).res.free
            obtain ⟨z0, z1, z2, z3, z4, z5, z6, z7, z8, z9, z10⟩ := Gd.res_cells (unhide hX0).res
            have hfin := hide (fun vs => (unhide hX0).worlds vs)
            go_wp2
            refine bodyPost_ret (v := .agg (Gd.world s g1 jF g3 c1 cap c3 g)) (by simp [results, Try.results30, go_sem, Gd.world, z0, z1, z2, z3, z4, z5, z6, z7, z8, z9, z10]) rfl ?_
            exact unhide hfin [_, _, _, _, _, _, _, _, _, _, _]

end Go.Proofs.Ytgkomdpceilggaa

namespace Go.Proofs.Ytgkomdpceilggaa
open Go.RowKit

set_option maxRecDepth 8000 in
set_option maxHeartbeats 6400000 in
theorem refAil8_any (s g c : Nat → Int) (E I : Nat → Nat → Int) (gC gE gI cC cE cI : Nat) (w : World) (hL : Gd.Lists w gC gE gI c E I) (hF : Ft.Fit c E I) :
    Calls Try.prog 32 #[.agg (Gd.world s gC gE gI cC cE cI g)] w (Gd.Worlds w s g c (Ft.ailE E I 32).1 (Ft.ailE E I 32).2) := by
  have hFm := hide (fun m hm => hF.ail m hm)
  clear hF
  obtain ⟨w0, hw0, hbox, hres, hg0, hsz⟩ := Gd.boxes w gC gE gI cC cE cI s g
  have ca' := hide (refTwin_any s g c E I gC gE gI cC cE cI w0 (hL.on hg0))
  obtain ⟨b0, b1, b2, b3, b4, b5, b6, b7, b8, b9, b10⟩ := hbox.eleven
  have hbx := hide hbox
  have hrs := hide hres
  have hg0' := hide hg0
  have hsz' := hide hsz
  have hfB := hbox.free
  clear hL hbox hres hg0 hsz
  unfold Gd.world at hw0 ca' ⊢
  go_enter Try.func32, Try.ntmps32
  go_upto_region 1 with fail
  rw [← hw0]
  clear hw0
  obtain ⟨B, hB⟩ : ∃ B, w.heap.size = B := ⟨_, rfl⟩
  rw [hB] at hbx hrs hsz' b0 b1 b2 b3 b4 b5 b6 b7 b8 b9 b10 ⊢
  have hB' := hide hB
  rw [hB] at hfB
  clear hB
  go_cut [] from 4 (fun wx => ∃ g1 g2 g3 c1 c2 c3, Hid (Gd.Boxed w wx B g1 g2 g3 c1 c2 c3 s g c E I))
  case first =>
    go_wp2_with fail
    refine (unhide ca').mono ?_
    rintro e w1 ⟨g1, g2, g3, c1, c2, c3, rfl, hcap, l1, l2, l3, n1, n2, n3, hL1, hg1⟩
    obtain ⟨y0, y1, y2, y3, y4, y5, y6, y7, y8, y9, y10⟩ := ((unhide hbx).on hg1).eleven
    have fB := ((unhide hbx).on hg1).free
    have fin : Hid (Gd.Boxed w (w1.setCells B 0 (Gd.world s g1 g2 g3 c1 c2 c3 g).toList) B g1 g2 g3 c1 c2 c3 s g c E I) := by
      have r := grown_sets (g := B) (Gd.world s g1 g2 g3 c1 c2 c3 g).toList 0 w1 (World.grownBy.refl _ _)
      have hB := unhide hB'
      have hs := unhide hsz'
      exact ⟨⟨((unhide hbx).on hg1).whole s g g1 g2 g3 c1 c2 c3, ⟨hL1.cells.grown r (by simp; omega), hL1.ents.grown r (by simp; omega), hL1.items.grown r (by simp; omega)⟩, by omega, by omega, by omega, n1, n2, n3⟩, hB, by omega, by omega, by omega, hcap, ((unhide hrs).on hg1).grown r (by simp), own_sets (by omega) _ 0 w1 (grown_trans (unhide hg0') hg1)⟩
    unfold Gd.world at fin ⊢
    clear hcap l1 l2 l3 n1 n2 n3 hL1 hg1 b0 b1 b2 b3 b4 b5 b6 b7 b8 b9 b10 hfB ca'
    go_wp2_with fail
    go_meet
    exact ⟨g1, g2, g3, c1, c2, c3, fin⟩
  case rest =>
    obtain ⟨g1, g2, g3, c1, c2, c3, hX⟩ := hcut
    clear b0 b1 b2 b3 b4 b5 b6 b7 b8 b9 b10 hfB ca' hbx hrs hg0' hsz' hB'
    clear w0
    have b5 := (unhide hX).hold.box.eleven.2.2.2.2.2.1
    go_wp2_with fail
    go_loopw [3] (fun vk wr => ∃ (k h1 h2 h3 d1 d2 d3 : Nat), k ≤ 32 ∧ vk = .int .i64 (k : Int) ∧ Hid (Gd.Boxed w wr B h1 h2 h3 d1 d2 d3 s g c (Ft.ailE E I k).1 (Ft.ailE E I k).2)) (fun vk _ => 40 - (intOf vk).toNat)
    case atStart => exact ⟨0, g1, g2, g3, c1, c2, c3, by omega, rfl, hX⟩
    case round =>
      clear hX b5
      obtain ⟨k, h1, h2, h3, d1, d2, d3, hk, rfl, hX⟩ := hrel
      by_cases hlt : k < 32
      · have hlt' : (k : Int) < 32 := by omega
        have HK := hide hlt
        obtain ⟨b0, b1, b2, b3, b4, b5, b6, b7, b8, b9, b10⟩ := (unhide hX).hold.box.eleven
        have hFk := hide (unhide hFm k hk)
        have hnx : Hid (Ft.ailE E I (k + 1) = if (Ft.ailE E I k).1 k 0 ≠ 0 then (Ft.oneE (Ft.ailE E I k).1 k, Ft.oneI (Ft.ailE E I k).1 (Ft.ailE E I k).2 k) else Ft.ailE E I k) := rfl
        obtain ⟨P, hP⟩ : ∃ P, Ft.ailE E I k = P := ⟨_, rfl⟩
        obtain ⟨E2, I2⟩ := P
        rw [hP] at hX hFk hnx
        have ct := refThere8_any s g c E2 I2 h1 h2 h3 d1 d2 d3 (k : Int) wr (unhide hX).hold.lists
        rw [Ft.there_at hlt] at ct
        unfold Gd.world at ct
        by_cases hz : E2 k 0 = 0
        · rw [decide_eq_false (by simpa using hz)] at ct
          rw [if_neg (by simpa using hz)] at hnx
          have ct' := hide ct
          clear ct hz hP hlt hk
          go_wp2_with fail
          refine (unhide ct').mono ?_
          rintro e wy ⟨rfl, hg⟩
          have hY := hide ((unhide hX).on hg)
          clear ct' b0 b1 b2 b3 b4 b5 b6 b7 b8 b9 b10 hg
          go_wp2
          go_roundw
          case rel => exact ⟨k + 1, h1, h2, h3, d1, d2, d3, by have := unhide HK; omega, by go_num, by rw [unhide hnx]; exact hY⟩
          case measure => simp [intOf]; have := unhide HK; omega
        · rw [decide_eq_true hz] at ct
          rw [if_pos hz] at hnx
          have hFk2 : Ft.Fit c E2 I2 := unhide hFk
          have hT := (hFk2.rows k hlt).taken hz
          have hs9 : Ft.stunE E2 k k 9 = E2 k 9 := Ft.stun_other E2 k 9 (by omega)
          have hs0 : Ft.stunE E2 k k 0 ≠ 0 := by rw [Ft.stun_other E2 k 0 (by omega)]; exact hz
          have hFs := hide (hFk2.stun hlt hz)
          have hFp : Hid (0 < E2 k 9 → Ft.Fit c (Ft.poisE (Ft.stunE E2 k) k) I2) := fun hp => (unhide hFs).stat hlt hs0 (.inl rfl) (by rw [hs9]; omega) (by rw [hs9]; omega)
          have hp0 : Hid (Ft.poisE (Ft.stunE E2 k) k k 0 ≠ 0) := by
            show Ft.poisE (Ft.stunE E2 k) k k 0 ≠ 0
            unfold Ft.poisE
            rw [Gd.set_other (by omega)]
            exact hs0
          have hth : Hid (Ft.there (Ft.poisE (Ft.stunE E2 k) k) (k : Int) = true ∧ (1 : Int) ≤ 1) := ⟨(Ft.there_at hlt).trans (by simpa using unhide hp0), by omega⟩
          have hhE : Hid (Ft.hE (Ft.poisE (Ft.stunE E2 k) k) (k : Int) 1 = Ft.hurtE (Ft.poisE (Ft.stunE E2 k) k) k 1) := by
            show _ = _
            unfold Ft.hE
            rw [if_pos (unhide hth), Int.toNat_natCast]
          have hhI : Hid (Ft.hI (Ft.poisE (Ft.stunE E2 k) k) I2 (k : Int) 1 = Ft.hurtI (Ft.poisE (Ft.stunE E2 k) k) I2 k 1) := by
            show _ = _
            unfold Ft.hI
            rw [if_pos (unhide hth), Int.toNat_natCast]
          have ct' := hide ct
          have t10 : 0 ≤ E2 k 10 := by omega
          have t109 : E2 k 10 ≤ 9 := by omega
          have t9 : 0 ≤ E2 k 9 := by omega
          have t99 : E2 k 9 ≤ 9 := by omega
          have HS9 := hide hs9
          clear ct hz hP hlt hk hT hFk hFk2 hs9 hs0 hp0 hth
          go_wp2_with fail
          refine (unhide ct').mono ?_
          rintro e wy ⟨rfl, hg⟩
          have hY := hide ((unhide hX).on hg)
          clear ct' b0 b1 b2 b3 b4 b5 b6 b7 b8 b9 b10 hg hX
          have b5 := (unhide hY).hold.box.eleven.2.2.2.2.2.1
          have u10 := ((unhide hY).hold.lists.own.ents.row (unhide HK)).2.2.2.2.2.2.2.2.2.2
          have fE := (unhide hY).hold.lists.ents.free
          go_upto_if 23 with fail
          go_cut [] from 23 to 32 (fun wx => Hid (Gd.Boxed w wx B h1 h2 h3 d1 d2 d3 s g c (Ft.stunE E2 k) I2))
          case first =>
            by_cases hp : 0 < E2 k 10
            · have hst : Hid (Gd.Boxed w (wy.setCell ⟨h2, k * 11 + 10, none⟩ (.int .i64 (E2 k 10 - 1))) B h1 h2 h3 d1 d2 d3 s g c (Ft.stunE E2 k) I2) := by
                show Gd.Boxed _ _ _ _ _ _ _ _ _ _ _ _ _ _
                unfold Ft.stunE
                rw [if_pos hp]
                exact (unhide hY).stat k 10 (by omega) (E2 k 10 - 1)
              go_wp2_with fail
              go_meet
              exact hst
            · have hst : Hid (Gd.Boxed w wy B h1 h2 h3 d1 d2 d3 s g c (Ft.stunE E2 k) I2) := by
                show Gd.Boxed _ _ _ _ _ _ _ _ _ _ _ _ _ _
                unfold Ft.stunE
                rw [if_neg hp]
                exact unhide hY
              go_wp2_with fail
              go_meet
              exact hst
          case rest =>
            clear hY b5 u10 fE
            have hY := hide (unhide hcut)
            clear hcut
            have b5 := (unhide hY).hold.box.eleven.2.2.2.2.2.1
            have u9 := ((unhide hY).hold.lists.own.ents.row (unhide HK)).2.2.2.2.2.2.2.2.2.1
            rw [unhide HS9] at u9
            have fE := (unhide hY).hold.lists.ents.free
            by_cases hp : 0 < E2 k 9
            · have hn2 : Hid (Ft.ailE E I (k + 1) = (Ft.hurtE (Ft.poisE (Ft.stunE E2 k) k) k 1, Ft.hurtI (Ft.poisE (Ft.stunE E2 k) k) I2 k 1)) := by
                show _ = _
                rw [unhide hnx]
                unfold Ft.oneE Ft.oneI
                rw [if_pos hp, if_pos hp]
              have hst : Hid (Gd.Boxed w (wc.setCell ⟨h2, k * 11 + 9, none⟩ (.int .i64 (E2 k 9 - 1))) B h1 h2 h3 d1 d2 d3 s g c (Ft.poisE (Ft.stunE E2 k) k) I2) := by
                have h := (unhide hY).stat k 9 (by omega) (E2 k 9 - 1)
                show Gd.Boxed _ _ _ _ _ _ _ _ _ _ _ _ _ _
                unfold Ft.poisE
                rw [unhide HS9]
                exact h
              have hFq := hide (unhide hFp hp)
              clear hnx hFp
              go_upto_region 10 with fail
              generalize wc.setCell ⟨h2, k * 11 + 9, none⟩ (.int .i64 (E2 k 9 - 1)) = wz at hst ⊢
              clear hY b5 u9 fE
              have ch := hide (refHurt8_any s g c (Ft.poisE (Ft.stunE E2 k) k) I2 h1 h2 h3 d1 d2 d3 (k : Int) 1 wz (unhide hst).hold.lists (unhide hFq))
              rw [unhide hhE, unhide hhI] at ch
              obtain ⟨b0, b1, b2, b3, b4, b5, b6, b7, b8, b9, b10⟩ := (unhide hst).hold.box.eleven
              unfold Gd.world at ch
              go_wp2_with fail
              refine (unhide ch).mono ?_
              rintro e w6 ⟨jC, jE, jI, dC, dE, dI, rfl, hcap, l1, l2, l3, n1, n2, n3, hL, hg⟩
              obtain ⟨y0, y1, y2, y3, y4, y5, y6, y7, y8, y9, y10⟩ := ((unhide hst).on hg).hold.box.eleven
              have fB := ((unhide hst).on hg).hold.box.free
              have hZ : Hid (Gd.Boxed w (((((((((((w6.setCell ⟨B, 0, none⟩ (.int .i64 (s 0))).setCell ⟨B, 1, none⟩ (.int .i64 (s 1))).setCell ⟨B, 2, none⟩ (.int .i64 (s 2))).setCell ⟨B, 3, none⟩ (.int .i64 (s 3))).setCell ⟨B, 4, none⟩ (.slice (some ⟨jC, 0, none⟩) 384 dC)).setCell ⟨B, 5, none⟩ (.slice (some ⟨jE, 0, none⟩) 32 dE)).setCell ⟨B, 6, none⟩ (.slice (some ⟨jI, 0, none⟩) 40 dI)).setCell ⟨B, 7, none⟩ (.int .i64 (g 0))).setCell ⟨B, 8, none⟩ (.int .i64 (g 1))).setCell ⟨B, 9, none⟩ (.int .i64 (g 2))).setCell ⟨B, 10, none⟩ (.int .i64 (g 3))) B jC jE jI dC dE dI s g c (Ft.ailE E I (k + 1)).1 (Ft.ailE E I (k + 1)).2) := by
                show Gd.Boxed _ _ _ _ _ _ _ _ _ _ _ _ _ _
                rw [unhide hn2]
                exact (unhide hst).over (s' := s) (g' := g) (dC := dC) (dI := dI) hcap l1 l2 l3 n1 n2 n3 hL hg
              clear hcap l1 l2 l3 n1 n2 n3 hL hg ch b0 b1 b2 b3 b4 b5 b6 b7 b8 b9 b10 hst hn2
              unfold Gd.world
              go_wp2
              go_roundw
              case rel => exact ⟨k + 1, jC, jE, jI, dC, dE, dI, by have := unhide HK; omega, by go_num, hZ⟩
              case measure => simp [intOf]; have := unhide HK; omega
            · have hn2 : Hid (Ft.ailE E I (k + 1) = (Ft.stunE E2 k, I2)) := by
                show _ = _
                rw [unhide hnx]
                unfold Ft.oneE Ft.oneI
                rw [if_neg hp, if_neg hp]
              clear hnx
              go_wp2
              go_roundw
              case rel => exact ⟨k + 1, h1, h2, h3, d1, d2, d3, by have := unhide HK; omega, by go_num, by rw [unhide hn2]; exact hY⟩
              case measure => simp [intOf]; have := unhide HK; omega
      · obtain rfl : k = 32 := by omega
        have hge : ¬ ((32 : Nat) : Int) < 32 := by omega
        clear hlt hk hFm
        obtain ⟨b0, b1, b2, b3, b4, b5, b6, b7, b8, b9, b10⟩ := (unhide hX).hold.box.eleven
        have fz := (unhide hX).res.free
        obtain ⟨z0, z1, z2, z3, z4, z5, z6, z7, z8, z9, z10⟩ := Gd.res_cells (unhide hX).res
        have hfin := hide (fun vs => (unhide hX).worlds vs)
        go_wp2
        refine bodyPost_ret (v := .agg (Gd.world s h1 h2 h3 d1 d2 d3 g)) (by simp [results, Try.results32, go_sem, Gd.world, z0, z1, z2, z3, z4, z5, z6, z7, z8, z9, z10]) rfl ?_
        exact unhide hfin [_, _, _, _, _, _, _, _, _, _, _]

end Go.Proofs.Ytgkomdpceilggaa

namespace Go.Proofs.Ytgkomdpceilggaa
open Go.RowKit

set_option maxRecDepth 8000 in
set_option maxHeartbeats 6400000 in
theorem refHit8_none (s g c : Nat → Int) (E I : Nat → Nat → Int) (gC gE gI cC cE cI : Nat) (f t : Int) (w : World) (hL : Gd.Lists w gC gE gI c E I) (hno : ¬ (Ft.there E f = true ∧ Ft.there E t = true)) :
    Calls Try.prog 28 #[.agg (Gd.world s gC gE gI cC cE cI g), .int .i64 f, .int .i64 t] w (Gd.Worlds w s g c E I) := by
  obtain ⟨w0, hw0, hbox, hres, hg0, hsz⟩ := Gd.boxes w gC gE gI cC cE cI s g
  have hL1 := hide (hL.on hg0)
  have hbx1 := hide hbox
  have hrs1 := hide hres
  have hgw := hide hg0
  have ct1 := hide (fun x hx => refThere8_any s g c E I gC gE gI cC cE cI f x hx)
  have ct2 := hide (fun x hx => refThere8_any s g c E I gC gE gI cC cE cI t x hx)
  obtain ⟨p, hp⟩ : ∃ p, Ft.there E f = p := ⟨_, rfl⟩
  obtain ⟨q, hq⟩ : ∃ q, Ft.there E t = q := ⟨_, rfl⟩
  rw [hp, hq] at hno
  rw [hp] at ct1
  rw [hq] at ct2
  clear hL hbox hres hg0 hsz hp hq
  unfold Gd.world at hw0 ct1 ct2 ⊢
  go_enter Try.func28, Try.ntmps28
  go_upto_region 1 with fail
  rw [← hw0]
  clear hw0
  obtain ⟨B, hB⟩ : ∃ B, w.heap.size = B := ⟨_, rfl⟩
  rw [hB] at hbx1 hrs1 ⊢
  have hB' := hide hB
  clear hB
  cases p
  · clear hno
    obtain ⟨b0, b1, b2, b3, b4, b5, b6, b7, b8, b9, b10⟩ := (unhide hbx1).eleven
    go_wp2_with fail
    refine (unhide ct1 _ (unhide hL1)).mono ?_
    rintro e w1 ⟨rfl, hg⟩
    have hbx2 := hide ((unhide hbx1).on hg)
    have hrs2 := hide ((unhide hrs1).on hg)
    have hL2 := hide ((unhide hL1).on hg)
    have hgw2 := hide (grown_trans (unhide hgw) hg)
    clear hbx1 hrs1 hL1 hgw hg b0 b1 b2 b3 b4 b5 b6 b7 b8 b9 b10
    have hbx1 := hide (unhide hbx2)
    have hrs1 := hide (unhide hrs2)
    have hL1 := hide (unhide hL2)
    have hgw := hide (unhide hgw2)
    clear hbx2 hrs2 hL2 hgw2
    obtain ⟨b0, b1, b2, b3, b4, b5, b6, b7, b8, b9, b10⟩ := (unhide hbx1).eleven
    have ca := hide (refTwin_any s g c E I gC gE gI cC cE cI w1 (unhide hL1))
    unfold Gd.world at ca
    go_wp2_with fail
    refine (unhide ca).mono ?_
    rintro e w2 ⟨jC, jE, jI, dC, dE, dI, rfl, hcap, l1, l2, l3, n1, n2, n3, hL2, hg2⟩
    have fz := ((unhide hrs1).on hg2).free
    obtain ⟨z0, z1, z2, z3, z4, z5, z6, z7, z8, z9, z10⟩ := Gd.res_cells ((unhide hrs1).on hg2)
    have hfin : Hid (∀ vs, Gd.Worlds w s g c E I (.returned (.agg (Gd.world s jC jE jI dC dE dI g))) (w2.setCells (B + 1) 0 vs)) := fun vs => by
      have r := grown_sets (g := B + 1) vs 0 w2 (World.grownBy.refl _ _)
      have hB := unhide hB'
      have hs := (unhide hrs1).lt
      have h0 := (unhide hgw).size
      exact ⟨jC, jE, jI, dC, dE, dI, rfl, hcap, by omega, by omega, by omega, n1, n2, n3, ⟨hL2.cells.grown r (by simp; omega), hL2.ents.grown r (by simp; omega), hL2.items.grown r (by simp; omega)⟩, own_sets (by omega) _ 0 w2 (grown_trans (unhide hgw) hg2)⟩
    clear hcap l1 l2 l3 n1 n2 n3 hL2 hg2 ca b0 b1 b2 b3 b4 b5 b6 b7 b8 b9 b10
    unfold Gd.world
    go_wp2
    refine bodyPost_ret (v := .agg (Gd.world s jC jE jI dC dE dI g)) (by simp [results, Try.results28, go_sem, Gd.world, z0, z1, z2, z3, z4, z5, z6, z7, z8, z9, z10]) rfl ?_
    exact unhide hfin [_, _, _, _, _, _, _, _, _, _, _]
  · obtain rfl : q = false := by
      cases q
      · rfl
      · exact absurd ⟨rfl, rfl⟩ hno
    clear hno
    obtain ⟨b0, b1, b2, b3, b4, b5, b6, b7, b8, b9, b10⟩ := (unhide hbx1).eleven
    go_wp2_with fail
    refine (unhide ct1 _ (unhide hL1)).mono ?_
    rintro e w1 ⟨rfl, hg⟩
    have hbx2 := hide ((unhide hbx1).on hg)
    have hrs2 := hide ((unhide hrs1).on hg)
    have hL2 := hide ((unhide hL1).on hg)
    have hgw2 := hide (grown_trans (unhide hgw) hg)
    clear hbx1 hrs1 hL1 hgw hg b0 b1 b2 b3 b4 b5 b6 b7 b8 b9 b10
    have hbx1 := hide (unhide hbx2)
    have hrs1 := hide (unhide hrs2)
    have hL1 := hide (unhide hL2)
    have hgw := hide (unhide hgw2)
    clear hbx2 hrs2 hL2 hgw2
    obtain ⟨b0, b1, b2, b3, b4, b5, b6, b7, b8, b9, b10⟩ := (unhide hbx1).eleven
    go_wp2_with fail
    refine (unhide ct2 _ (unhide hL1)).mono ?_
    rintro e w1 ⟨rfl, hg⟩
    have hbx2 := hide ((unhide hbx1).on hg)
    have hrs2 := hide ((unhide hrs1).on hg)
    have hL2 := hide ((unhide hL1).on hg)
    have hgw2 := hide (grown_trans (unhide hgw) hg)
    clear hbx1 hrs1 hL1 hgw hg b0 b1 b2 b3 b4 b5 b6 b7 b8 b9 b10
    have hbx1 := hide (unhide hbx2)
    have hrs1 := hide (unhide hrs2)
    have hL1 := hide (unhide hL2)
    have hgw := hide (unhide hgw2)
    clear hbx2 hrs2 hL2 hgw2
    obtain ⟨b0, b1, b2, b3, b4, b5, b6, b7, b8, b9, b10⟩ := (unhide hbx1).eleven
    have ca := hide (refTwin_any s g c E I gC gE gI cC cE cI w1 (unhide hL1))
    unfold Gd.world at ca
    go_wp2_with fail
    refine (unhide ca).mono ?_
    rintro e w2 ⟨jC, jE, jI, dC, dE, dI, rfl, hcap, l1, l2, l3, n1, n2, n3, hL2, hg2⟩
    have fz := ((unhide hrs1).on hg2).free
    obtain ⟨z0, z1, z2, z3, z4, z5, z6, z7, z8, z9, z10⟩ := Gd.res_cells ((unhide hrs1).on hg2)
    have hfin : Hid (∀ vs, Gd.Worlds w s g c E I (.returned (.agg (Gd.world s jC jE jI dC dE dI g))) (w2.setCells (B + 1) 0 vs)) := fun vs => by
      have r := grown_sets (g := B + 1) vs 0 w2 (World.grownBy.refl _ _)
      have hB := unhide hB'
      have hs := (unhide hrs1).lt
      have h0 := (unhide hgw).size
      exact ⟨jC, jE, jI, dC, dE, dI, rfl, hcap, by omega, by omega, by omega, n1, n2, n3, ⟨hL2.cells.grown r (by simp; omega), hL2.ents.grown r (by simp; omega), hL2.items.grown r (by simp; omega)⟩, own_sets (by omega) _ 0 w2 (grown_trans (unhide hgw) hg2)⟩
    clear hcap l1 l2 l3 n1 n2 n3 hL2 hg2 ca b0 b1 b2 b3 b4 b5 b6 b7 b8 b9 b10
    unfold Gd.world
    go_wp2
    refine bodyPost_ret (v := .agg (Gd.world s jC jE jI dC dE dI g)) (by simp [results, Try.results28, go_sem, Gd.world, z0, z1, z2, z3, z4, z5, z6, z7, z8, z9, z10]) rfl ?_
    exact unhide hfin [_, _, _, _, _, _, _, _, _, _, _]


end Go.Proofs.Ytgkomdpceilggaa
