/-
  What a seat wants with items, in the document: what is worn in the place of another.
-/
import Derived.Test.YtgkomdpceilggaaPart25
namespace Go.Proofs.Ytgkomdpceilggaa
open Go.RowKit

set_option maxRecDepth 8000 in
set_option maxHeartbeats 12800000 in
theorem refDo_wearTwo (s g c : Nat → Int) (E I : Nat → Nat → Int) (gC gE gI cC cE cI t k : Nat) (w : World) (hL : Gd.Lists w gC gE gI c E I) (ht : t < 4) (hk : k < 32) (hh : Gd.hero E (t : Int) = (k : Int)) (m j : Nat) (hm : m < 40) (hj : j < 40) (hmj : m ≠ j) (hp : Gd.has I 40 (t : Int) 2 3 = (m : Int)) (k2 : 2 ≤ I m 0) (k3 : I m 0 ≤ 3) (hq : Gd.find I 40 3 (t : Int) (I m 0 - 2) = (j : Int)) :
    Calls Try.prog 15 #[.agg (Gd.world s gC gE gI cC cE cI g), .int .i64 (t : Int), .int .i64 7] w (Gd.Worlds w s g c E (En.put (En.put I j (Gd.row (I j 0) 2 (I j 2) (I m 3))) m (Gd.row (I m 0) 3 (I m 2) (I m 0 - 2)))) := by
  obtain ⟨w0, hw0, hbox, hres, hg0, hsz⟩ := Gd.boxes w gC gE gI cC cE cI s g
  have ca' := hide (refTwin_any s g c E I gC gE gI cC cE cI w0 (hL.on hg0))
  obtain ⟨b0, b1, b2, b3, b4, b5, b6, b7, b8, b9, b10⟩ := hbox.eleven
  have hbx := hide hbox
  have hrs := hide hres
  have hg0' := hide hg0
  have hsz' := hide hsz
  have hfB := hbox.free
  have hh' := hide hh
  have ht' : (t : Int) < 4 := by omega
  have hk' : (k : Int) < 32 := by omega
  have HK := hide hk
  have HT := hide ht
  have hm' : (m : Int) < 40 := by omega
  have hj' : (j : Int) < 40 := by omega
  have HM := hide hm
  have HJ := hide hj
  have HN := hide hmj
  clear hm hj hmj
  clear hL hbox hres hg0 hsz hh hk ht
  unfold Gd.world at hw0 ca' ⊢
  go_enter Try.func15, Try.ntmps15
  go_upto_region 1 with fail
  rw [← hw0]
  clear hw0
  obtain ⟨B, hB⟩ : ∃ B, w.heap.size = B := ⟨_, rfl⟩
  rw [hB] at hbx hrs hsz' b0 b1 b2 b3 b4 b5 b6 b7 b8 b9 b10 ⊢
  have hB' := hide hB
  rw [hB] at hfB
  clear hB
  go_cut [] from 7 (fun wx => ∃ g1 g2 g3 c1 c2 c3, Hid (Gd.Boxed w wx B g1 g2 g3 c1 c2 c3 s g c E I))
  case first =>
    go_wp2_with fail
    refine (unhide ca').mono ?_
    rintro e w1 ⟨g1, g2, g3, c1, c2, c3, rfl, hcap, l1, l2, l3, n1, n2, n3, hL1, hg1⟩
    obtain ⟨y0, y1, y2, y3, y4, y5, y6, y7, y8, y9, y10⟩ := ((unhide hbx).on hg1).eleven
    have fB := ((unhide hbx).on hg1).free
    have fin : Hid (Gd.Boxed w (w1.setCells B 0 (Gd.world s g1 g2 g3 c1 c2 c3 g).toList) B g1 g2 g3 c1 c2 c3 s g c E I) := by
      have r := grown_sets (g := B) (Gd.world s g1 g2 g3 c1 c2 c3 g).toList 0 w1 (World.grownBy.refl _ _)
      have hB := unhide hB'
      have hs := unhide hsz'
      exact ⟨⟨((unhide hbx).on hg1).whole s g g1 g2 g3 c1 c2 c3, ⟨hL1.cells.grown r (by simp; omega), hL1.ents.grown r (by simp; omega), hL1.items.grown r (by simp; omega)⟩, by omega, by omega, by omega, n1, n2, n3⟩, hB, by omega, by omega, by omega, hcap, ((unhide hrs).on hg1).grown r (by simp), own_sets (by omega) _ 0 w1 (grown_trans (unhide hg0') hg1)⟩
    unfold Gd.world at fin ⊢
    clear hcap l1 l2 l3 n1 n2 n3 hL1 hg1 b0 b1 b2 b3 b4 b5 b6 b7 b8 b9 b10 hfB ca'
    go_wp2_with fail
    go_meet
    exact ⟨g1, g2, g3, c1, c2, c3, fin⟩
  case rest =>
    obtain ⟨g1, g2, g3, c1, c2, c3, hX⟩ := hcut
    clear b0 b1 b2 b3 b4 b5 b6 b7 b8 b9 b10 hfB ca' hbx hrs hg0' hsz' hB'
    clear w0
    have b5 := (unhide hX).hold.box.eleven.2.2.2.2.2.1
    have ch := refHero7_any g2 c2 E (t : Int) wc (unhide hX).hold.lists.own
    rw [unhide hh'] at ch
    have ch' := hide ch
    clear ch
    go_wp2_with fail
    refine (unhide ch').mono ?_
    rintro e w2 ⟨rfl, hg2⟩
    have hX2 := hide ((unhide hX).on hg2)
    clear hg2 ch' b5 hX hh'
    have b5 := (unhide hX2).hold.box.eleven.2.2.2.2.2.1
    obtain ⟨u0, u1, u2, u3, u4, u5, u6, u7, u8, u9, u10⟩ := (unhide hX2).hold.lists.own.ents.row (unhide HK)
    have hX3 := hide ((unhide hX2).on (World.grownBy_alloc w2 (.cells (En.cells (E k)) 47) none))
    have hQ := hide (Gd.ent_box w2 (E k))
    have hQn := hide (Gd.ent_far (unhide hX2))
    go_upto_region 6 with fail
    unfold En.cells at hX3 hQ
    obtain ⟨Q, hQe⟩ : ∃ Q, w2.heap.size = Q := ⟨_, rfl⟩
    rw [hQe] at hQ hQn ⊢
    generalize w2.alloc (.cells #[.int .i64 (E k 0), .int .i64 (E k 1), .int .i64 (E k 2), .int .i64 (E k 3), .int .i64 (E k 4), .int .i64 (E k 5), .int .i64 (E k 6), .int .i64 (E k 7), .int .i64 (E k 8), .int .i64 (E k 9), .int .i64 (E k 10)] 47) = w3 at hX3 hQ ⊢
    clear hQe u0 u1 u2 u3 u4 u5 u6 u7 u8 u9 u10 b5 hX2
    obtain ⟨z3, z4, z5, z6⟩ := unhide hQ
    have b6 := (unhide hX3).hold.box.eleven.2.2.2.2.2.2.1
    have ci := hide (refIn7_same g3 40 c3 I 1 (E k 3) (E k 4) w3 (unhide hX3).hold.lists.its)
    have cs := hide (refSlot_same g3 40 c3 I (t : Int) w3 (unhide hX3).hold.lists.its)
    go_wp2_with fail
    refine (unhide ci).mono ?_
    rintro e wy ⟨rfl, hy⟩
    subst wy
    go_wp2_with fail
    refine (unhide cs).mono ?_
    rintro e wy ⟨rfl, hy⟩
    subst wy
    clear ci cs b6
    go_upto_block 0 with fail
    go_cut [] from 7 (fun wx => Hid (Gd.Boxed w wx B g1 g2 g3 c1 c2 c3 s g c E (En.put (En.put I j (Gd.row (I j 0) 2 (I j 2) (I m 3))) m (Gd.row (I m 0) 3 (I m 2) (I m 0 - 2)))))
    case first =>
      clear z3 z4 z5 z6
      have cp := hide (refHas_same g3 40 c3 I (t : Int) 2 3 w3 (unhide hX3).hold.lists.its)
      rw [hp] at cp
      clear hp
      go_wp2_with fail
      refine (unhide cp).mono ?_
      rintro e wy ⟨rfl, hy⟩
      subst wy
      clear cp
      obtain ⟨i0, i1, i2, i3⟩ := (unhide hX3).hold.lists.its.row (unhide HM)
      have cw := hide (refIn7_same g3 40 c3 I 3 (t : Int) (I m 0 - 2) w3 (unhide hX3).hold.lists.its)
      rw [hq] at cw
      clear hq
      go_wp2_with fail
      refine (unhide cw).mono ?_
      rintro e wy ⟨rfl, hy⟩
      subst wy
      clear cw
      have fI := (unhide hX3).hold.lists.items.free
      obtain ⟨y0, y1, y2, y3⟩ := (unhide hX3).hold.lists.its.row (unhide HJ)
      have hst := hide (((unhide hX3).move2 j 2 (I m 3)).move2 m 3 (I m 0 - 2))
      rw [En.put_other (unhide HN)] at hst
      clear i2 y0 y2
      have n1 : ¬ m * 4 = j * 4 + 1 := by omega
      have n2 : ¬ m * 4 = j * 4 + 3 := by omega
      have n3 : ¬ m * 4 + 1 = j * 4 + 1 := by have := unhide HN; omega
      have n4 : ¬ m * 4 + 3 = j * 4 + 3 := by have := unhide HN; omega
      have n5 : ¬ m * 4 + 1 = j * 4 + 3 := by omega
      have n6 : ¬ m * 4 + 3 = j * 4 + 1 := by omega
      have n7 : ¬ j * 4 + 3 = j * 4 + 1 := by omega
      go_wp2_with fail
      go_meet
      exact hst
    case rest =>
      have hbx := hide (unhide hcut)
      clear hcut
      obtain ⟨b0, b1, b2, b3, b4, b5, b6, b7, b8, b9, b10⟩ := (unhide hbx).hold.box.eleven
      have fz := (unhide hbx).res.free
      obtain ⟨z0, z1, z2, z3, z4, z5, z6, z7, z8, z9, z10⟩ := Gd.res_cells (unhide hbx).res
      have hfin := hide (fun vs => (unhide hbx).worlds vs)
      go_wp2
      refine bodyPost_ret (v := .agg (Gd.world s g1 g2 g3 c1 c2 c3 g)) (by simp [results, Try.results15, go_sem, Gd.world, z0, z1, z2, z3, z4, z5, z6, z7, z8, z9, z10]) rfl ?_
      exact unhide hfin [_, _, _, _, _, _, _, _, _, _, _]

end Go.Proofs.Ytgkomdpceilggaa
