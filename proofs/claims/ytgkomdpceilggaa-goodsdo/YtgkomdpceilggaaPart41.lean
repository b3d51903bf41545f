/-
  What a seat wants with items, in the document: a ware is bought.
  What a seat wants with items, in the document: all of it.
-/
import Derived.Test.YtgkomdpceilggaaPart25
import Derived.Test.YtgkomdpceilggaaPart26
import Derived.Test.YtgkomdpceilggaaPart27
import Derived.Test.YtgkomdpceilggaaPart28
import Derived.Test.YtgkomdpceilggaaPart29
import Derived.Test.YtgkomdpceilggaaPart30
import Derived.Test.YtgkomdpceilggaaPart31
import Derived.Test.YtgkomdpceilggaaPart32
import Derived.Test.YtgkomdpceilggaaPart33
import Derived.Test.YtgkomdpceilggaaPart34
import Derived.Test.YtgkomdpceilggaaPart35
import Derived.Test.YtgkomdpceilggaaPart36
import Derived.Test.YtgkomdpceilggaaPart37
import Derived.Test.YtgkomdpceilggaaPart38
import Derived.Test.YtgkomdpceilggaaPart39
import Derived.Test.YtgkomdpceilggaaPart40
namespace Go.Proofs.Ytgkomdpceilggaa
open Go.RowKit

set_option maxRecDepth 8000 in
set_option maxHeartbeats 12800000 in
theorem refDo_buyYes (s g c : Nat → Int) (E I : Nat → Nat → Int) (gC gE gI cC cE cI t k : Nat) (w : World) (hL : Gd.Lists w gC gE gI c E I) (ht : t < 4) (hk : k < 32) (hh : Gd.hero E (t : Int) = (k : Int)) (hc : ∀ i, 0 ≤ c i ∧ c i ≤ 255) (m f : Nat) (hm : m < 40) (hsh : Gr.at 384 c (E k 3) (E k 4) = 5) (hg : 5 ≤ g t) (hg9 : g t ≤ 999) (hs : Gd.slot I 40 (t : Int) = (f : Int)) (hwr : Gd.ware I 40 = (m : Int)) :
    Calls Try.prog 15 #[.agg (Gd.world s gC gE gI cC cE cI g), .int .i64 (t : Int), .int .i64 10] w (Gd.Worlds w s (Gd.give g t (g t - 5)) c E (En.put I m (Gd.row (I m 0) 2 (t : Int) (f : Int)))) := by
  obtain ⟨w0, hw0, hbox, hres, hg0, hsz⟩ := Gd.boxes w gC gE gI cC cE cI s g
  have ca' := hide (refTwin_any s g c E I gC gE gI cC cE cI w0 (hL.on hg0))
  obtain ⟨b0, b1, b2, b3, b4, b5, b6, b7, b8, b9, b10⟩ := hbox.eleven
  have hbx := hide hbox
  have hrs := hide hres
  have hg0' := hide hg0
  have hsz' := hide hsz
  have hfB := hbox.free
  have hh' := hide hh
  have ht' : (t : Int) < 4 := by omega
  have hk' : (k : Int) < 32 := by omega
  have HK := hide hk
  have HT := hide ht
  have hm' : (m : Int) < 40 := by omega
  have HM := hide hm
  clear hm
  clear hL hbox hres hg0 hsz hh hk ht
  unfold Gd.world at hw0 ca' ⊢
  go_enter Try.func15, Try.ntmps15
  go_upto_region 1 with fail
  rw [← hw0]
  clear hw0
  obtain ⟨B, hB⟩ : ∃ B, w.heap.size = B := ⟨_, rfl⟩
  rw [hB] at hbx hrs hsz' b0 b1 b2 b3 b4 b5 b6 b7 b8 b9 b10 ⊢
  have hB' := hide hB
  rw [hB] at hfB
  clear hB
  go_cut [] from 7 (fun wx => ∃ g1 g2 g3 c1 c2 c3, Hid (Gd.Boxed w wx B g1 g2 g3 c1 c2 c3 s g c E I))
  case first =>
    go_wp2_with fail
    refine (unhide ca').mono ?_
    rintro e w1 ⟨g1, g2, g3, c1, c2, c3, rfl, hcap, l1, l2, l3, n1, n2, n3, hL1, hg1⟩
    obtain ⟨y0, y1, y2, y3, y4, y5, y6, y7, y8, y9, y10⟩ := ((unhide hbx).on hg1).eleven
    have fB := ((unhide hbx).on hg1).free
    have fin : Hid (Gd.Boxed w (w1.setCells B 0 (Gd.world s g1 g2 g3 c1 c2 c3 g).toList) B g1 g2 g3 c1 c2 c3 s g c E I) := by
      have r := grown_sets (g := B) (Gd.world s g1 g2 g3 c1 c2 c3 g).toList 0 w1 (World.grownBy.refl _ _)
      have hB := unhide hB'
      have hs := unhide hsz'
      exact ⟨⟨((unhide hbx).on hg1).whole s g g1 g2 g3 c1 c2 c3, ⟨hL1.cells.grown r (by simp; omega), hL1.ents.grown r (by simp; omega), hL1.items.grown r (by simp; omega)⟩, by omega, by omega, by omega, n1, n2, n3⟩, hB, by omega, by omega, by omega, hcap, ((unhide hrs).on hg1).grown r (by simp), own_sets (by omega) _ 0 w1 (grown_trans (unhide hg0') hg1)⟩
    unfold Gd.world at fin ⊢
    clear hcap l1 l2 l3 n1 n2 n3 hL1 hg1 b0 b1 b2 b3 b4 b5 b6 b7 b8 b9 b10 hfB ca'
    go_wp2_with fail
    go_meet
    exact ⟨g1, g2, g3, c1, c2, c3, fin⟩
  case rest =>
    obtain ⟨g1, g2, g3, c1, c2, c3, hX⟩ := hcut
    clear b0 b1 b2 b3 b4 b5 b6 b7 b8 b9 b10 hfB ca' hbx hrs hg0' hsz' hB'
    clear w0
    have b5 := (unhide hX).hold.box.eleven.2.2.2.2.2.1
    have ch := refHero7_any g2 c2 E (t : Int) wc (unhide hX).hold.lists.own
    rw [unhide hh'] at ch
    have ch' := hide ch
    clear ch
    go_wp2_with fail
    refine (unhide ch').mono ?_
    rintro e w2 ⟨rfl, hg2⟩
    have hX2 := hide ((unhide hX).on hg2)
    clear hg2 ch' b5 hX hh'
    have b5 := (unhide hX2).hold.box.eleven.2.2.2.2.2.1
    obtain ⟨u0, u1, u2, u3, u4, u5, u6, u7, u8, u9, u10⟩ := (unhide hX2).hold.lists.own.ents.row (unhide HK)
    have hX3 := hide ((unhide hX2).on (World.grownBy_alloc w2 (.cells (En.cells (E k)) 47) none))
    have hQ := hide (Gd.ent_box w2 (E k))
    have hQn := hide (Gd.ent_far (unhide hX2))
    go_upto_region 6 with fail
    unfold En.cells at hX3 hQ
    obtain ⟨Q, hQe⟩ : ∃ Q, w2.heap.size = Q := ⟨_, rfl⟩
    rw [hQe] at hQ hQn ⊢
    generalize w2.alloc (.cells #[.int .i64 (E k 0), .int .i64 (E k 1), .int .i64 (E k 2), .int .i64 (E k 3), .int .i64 (E k 4), .int .i64 (E k 5), .int .i64 (E k 6), .int .i64 (E k 7), .int .i64 (E k 8), .int .i64 (E k 9), .int .i64 (E k 10)] 47) = w3 at hX3 hQ ⊢
    clear hQe u0 u1 u2 u3 u4 u5 u6 u7 u8 u9 u10 b5 hX2
    obtain ⟨z3, z4, z5, z6⟩ := unhide hQ
    have b6 := (unhide hX3).hold.box.eleven.2.2.2.2.2.2.1
    have ci := hide (refIn7_same g3 40 c3 I 1 (E k 3) (E k 4) w3 (unhide hX3).hold.lists.its)
    have cs := hide (refSlot_same g3 40 c3 I (t : Int) w3 (unhide hX3).hold.lists.its)
    rw [hs] at cs
    clear hs
    go_wp2_with fail
    refine (unhide ci).mono ?_
    rintro e wy ⟨rfl, hy⟩
    subst wy
    go_wp2_with fail
    refine (unhide cs).mono ?_
    rintro e wy ⟨rfl, hy⟩
    subst wy
    clear ci cs b6
    go_upto_block 0 with fail
    go_cut [] from 7 (fun wx => Hid (Gd.Boxed w wx B g1 g2 g3 c1 c2 c3 s (Gd.give g t (g t - 5)) c E (En.put I m (Gd.row (I m 0) 2 (t : Int) (f : Int)))))
    case first =>
      clear z3 z4 z5 z6
      obtain ⟨z3, z4, z5, z6⟩ := unhide hQ
      clear z5 z6
      have cin := hide (fun q : Int => refIn7_same g3 40 c3 I 4 q 0 w3 (unhide hX3).hold.lists.its)
      have cat := refAt_any w3.heap.size (some ⟨g1, 0, none⟩) 384 c1 c (E k 3) (E k 4) w3 (unhide hX3).hold.lists.vec hc
      obtain ⟨A, hA⟩ : ∃ A, Gr.at 384 c (E k 3) (E k 4) = A := ⟨_, rfl⟩
      rw [hA] at cat hsh
      have cat' := hide cat
      clear cat hA hc
      go_wp2_with fail
      go_loop [17, 18] (fun vi vq => ∃ (q : Nat) (iv : Int), q ≤ 3 ∧ vq = .int .i64 (q : Int) ∧ vi = .int .i64 iv ∧ Hid (Gd.Wares I q iv)) (fun _ vq => 10 - (intOf vq).toNat)
      case atStart => exact ⟨0, -1, by omega, rfl, rfl, .inl ⟨rfl, fun j hj => by omega⟩⟩
      case round =>
        obtain ⟨q, iv, hq, rfl, rfl, hP⟩ := hrel
        by_cases hq3 : q < 3
        · have hq3' : (q : Int) < 3 := by omega
          have HQ := hide hq3
          clear hq3 hq
          by_cases hn : iv < 0
          · have hnext := hide (Gd.Wares.next (unhide hP) hn (unhide HQ))
            obtain ⟨r, hr⟩ : ∃ r, Gd.find I 40 4 (q : Int) 0 = r := ⟨_, rfl⟩
            have c2 := unhide cin (q : Int)
            rw [hr] at c2 hnext
            have c2' := hide c2
            clear c2 hr cin cat' hP
            go_wp2_with fail
            refine (unhide c2').mono ?_
            rintro e wy ⟨rfl, hy⟩
            subst wy
            go_wp2
            go_round
            case rel => exact ⟨q + 1, r, by have := unhide HQ; omega, by go_num, rfl, hnext⟩
            case measure => simp [intOf]; have := unhide HQ; omega
          · have hw := (unhide hP).done (.inl (by omega))
            have b4 := (unhide hX3).hold.box.eleven.2.2.2.2.1
            have hsh2 : (A == 5) = true := by simpa using hsh
            rw [hwr] at hw
            subst hw
            clear hsh hwr
            have gB : w3.cell? ⟨B, 7 + t, none⟩ = some (.int .i64 (g t)) := by rw [(unhide hX3).hold.box.cell (by have := unhide HT; omega), Gd.box_gold _ _ _ _ _ _ _ _ _ (unhide HT)]
            obtain ⟨i0, i1, i2, i3⟩ := (unhide hX3).hold.lists.its.row (unhide HM)
            have fI := (unhide hX3).hold.lists.items.free
            have fB := (unhide hX3).hold.box.free
            have hBI : B ≠ g3 := (unhide hX3).hold.bI
            have hIB : g3 ≠ B := hBI.symm
            have hst := hide (((unhide hX3).move3 m 2 (t : Int) (f : Int)).gold t (unhide HT) (g t - 5))
            clear cin hP
            go_wp2_with fail
            refine (unhide cat').mono ?_
            rintro e wy ⟨rfl, hy⟩
            subst wy
            clear cat'
            go_wp2_with fail
            go_meet
            exact hst
        · have hq3' : ¬ (q : Int) < 3 := by omega
          have hw := (unhide hP).done (.inr (by omega))
          clear hq3 hq
          have b4 := (unhide hX3).hold.box.eleven.2.2.2.2.1
          have hsh2 : (A == 5) = true := by simpa using hsh
          rw [hwr] at hw
          subst hw
          clear hsh hwr
          have gB : w3.cell? ⟨B, 7 + t, none⟩ = some (.int .i64 (g t)) := by rw [(unhide hX3).hold.box.cell (by have := unhide HT; omega), Gd.box_gold _ _ _ _ _ _ _ _ _ (unhide HT)]
          obtain ⟨i0, i1, i2, i3⟩ := (unhide hX3).hold.lists.its.row (unhide HM)
          have fI := (unhide hX3).hold.lists.items.free
          have fB := (unhide hX3).hold.box.free
          have hBI : B ≠ g3 := (unhide hX3).hold.bI
          have hIB : g3 ≠ B := hBI.symm
          have hst := hide (((unhide hX3).move3 m 2 (t : Int) (f : Int)).gold t (unhide HT) (g t - 5))
          clear cin hP
          go_wp2_with fail
          refine (unhide cat').mono ?_
          rintro e wy ⟨rfl, hy⟩
          subst wy
          clear cat'
          go_wp2_with fail
          go_meet
          exact hst
    case rest =>
      have hbx := hide (unhide hcut)
      clear hcut
      obtain ⟨b0, b1, b2, b3, b4, b5, b6, b7, b8, b9, b10⟩ := (unhide hbx).hold.box.eleven
      have fz := (unhide hbx).res.free
      obtain ⟨z0, z1, z2, z3, z4, z5, z6, z7, z8, z9, z10⟩ := Gd.res_cells (unhide hbx).res
      have hfin := hide (fun vs => (unhide hbx).worlds vs)
      go_wp2
      refine bodyPost_ret (v := .agg (Gd.world s g1 g2 g3 c1 c2 c3 (Gd.give g t (g t - 5)))) (by simp [results, Try.results15, go_sem, Gd.world, z0, z1, z2, z3, z4, z5, z6, z7, z8, z9, z10]) rfl ?_
      exact unhide hfin [_, _, _, _, _, _, _, _, _, _, _]

end Go.Proofs.Ytgkomdpceilggaa

namespace Go.Proofs.Ytgkomdpceilggaa
open Go.RowKit

theorem Gd.slot_neg {I : Nat → Nat → Int} {n : Nat} {seat : Int} (h : Gd.slot I n seat < 0) : Gd.slot I n seat = -1 := by
  unfold Gd.slot at *
  rcases En.first_cases (fun b => decide (Gd.find I n 2 seat (b : Int) < 0)) 4 with ⟨h', _⟩ | ⟨k, hk, h', hq, _⟩
  · exact h'
  · omega

theorem Gd.has_neg {I : Nat → Nat → Int} {n : Nat} {seat lo hi : Int} (h : Gd.has I n seat lo hi < 0) : Gd.has I n seat lo hi = -1 := by
  unfold Gd.has at *
  split at h
  · rename_i hp
    rw [if_pos hp]
    exact (Gd.find_neg h).1
  · rename_i hp
    rw [if_neg hp]

theorem Gd.ware_neg {I : Nat → Nat → Int} {n : Nat} (h : Gd.ware I n < 0) : Gd.ware I n = -1 := by
  unfold Gd.ware at *
  split at h
  · rename_i hp
    rw [if_pos hp]
    exact (Gd.find_neg h).1
  · rename_i hp
    rw [if_neg hp]

set_option maxRecDepth 8000 in
set_option maxHeartbeats 12800000 in
theorem refDo_none (s g c : Nat → Int) (E I : Nat → Nat → Int) (gC gE gI cC cE cI : Nat) (seat input : Int) (w : World) (hL : Gd.Lists w gC gE gI c E I) (hno : ¬ (0 ≤ seat ∧ seat < 4 ∧ 0 ≤ Gd.hero E seat)) :
    Calls Try.prog 15 #[.agg (Gd.world s gC gE gI cC cE cI g), .int .i64 seat, .int .i64 input] w (Gd.Worlds w s g c E I) := by
  obtain ⟨w0, hw0, hbox, hres, hg0, hsz⟩ := Gd.boxes w gC gE gI cC cE cI s g
  have ca' := hide (refTwin_any s g c E I gC gE gI cC cE cI w0 (hL.on hg0))
  obtain ⟨b0, b1, b2, b3, b4, b5, b6, b7, b8, b9, b10⟩ := hbox.eleven
  have hbx := hide hbox
  have hrs := hide hres
  have hg0' := hide hg0
  have hsz' := hide hsz
  have hfB := hbox.free
  have hno' := hide hno
  clear hL hbox hres hg0 hsz hno
  unfold Gd.world at hw0 ca' ⊢
  go_enter Try.func15, Try.ntmps15
  go_upto_region 1 with fail
  rw [← hw0]
  clear hw0
  obtain ⟨B, hB⟩ : ∃ B, w.heap.size = B := ⟨_, rfl⟩
  rw [hB] at hbx hrs hsz' b0 b1 b2 b3 b4 b5 b6 b7 b8 b9 b10 ⊢
  have hB' := hide hB
  rw [hB] at hfB
  clear hB
  go_cut [] from 7 (fun wx => ∃ g1 g2 g3 c1 c2 c3, Hid (Gd.Boxed w wx B g1 g2 g3 c1 c2 c3 s g c E I))
  case first =>
    go_wp2_with fail
    refine (unhide ca').mono ?_
    rintro e w1 ⟨g1, g2, g3, c1, c2, c3, rfl, hcap, l1, l2, l3, n1, n2, n3, hL1, hg1⟩
    obtain ⟨y0, y1, y2, y3, y4, y5, y6, y7, y8, y9, y10⟩ := ((unhide hbx).on hg1).eleven
    have fB := ((unhide hbx).on hg1).free
    have fin : Hid (Gd.Boxed w (w1.setCells B 0 (Gd.world s g1 g2 g3 c1 c2 c3 g).toList) B g1 g2 g3 c1 c2 c3 s g c E I) := by
      have r := grown_sets (g := B) (Gd.world s g1 g2 g3 c1 c2 c3 g).toList 0 w1 (World.grownBy.refl _ _)
      have hB := unhide hB'
      have hs := unhide hsz'
      exact ⟨⟨((unhide hbx).on hg1).whole s g g1 g2 g3 c1 c2 c3, ⟨hL1.cells.grown r (by simp; omega), hL1.ents.grown r (by simp; omega), hL1.items.grown r (by simp; omega)⟩, by omega, by omega, by omega, n1, n2, n3⟩, hB, by omega, by omega, by omega, hcap, ((unhide hrs).on hg1).grown r (by simp), own_sets (by omega) _ 0 w1 (grown_trans (unhide hg0') hg1)⟩
    unfold Gd.world at fin ⊢
    clear hcap l1 l2 l3 n1 n2 n3 hL1 hg1 b0 b1 b2 b3 b4 b5 b6 b7 b8 b9 b10 hfB ca'
    go_wp2_with fail
    go_meet
    exact ⟨g1, g2, g3, c1, c2, c3, fin⟩
  case rest =>
    obtain ⟨g1, g2, g3, c1, c2, c3, hX⟩ := hcut
    clear b0 b1 b2 b3 b4 b5 b6 b7 b8 b9 b10 hfB ca' hbx hrs hg0' hsz' hB'
    clear w0
    have b5 := (unhide hX).hold.box.eleven.2.2.2.2.2.1
    have ch := refHero7_any g2 c2 E seat wc (unhide hX).hold.lists.own
    obtain ⟨h, hh⟩ : ∃ h, Gd.hero E seat = h := ⟨_, rfl⟩
    rw [hh] at ch hno'
    have ch' := hide ch
    clear ch hh
    go_wp2_with fail
    refine (unhide ch').mono ?_
    rintro e w2 ⟨rfl, hg2⟩
    have hbx := hide ((unhide hX).on hg2)
    clear hg2 ch' b5 hX
    obtain ⟨b0, b1, b2, b3, b4, b5, b6, b7, b8, b9, b10⟩ := (unhide hbx).hold.box.eleven
    have fz := (unhide hbx).res.free
    obtain ⟨z0, z1, z2, z3, z4, z5, z6, z7, z8, z9, z10⟩ := Gd.res_cells (unhide hbx).res
    have hfin := hide (fun vs => (unhide hbx).worlds vs)
    have hn := unhide hno'
    clear hno'
    by_cases h0 : h < 0
    · clear hn
      go_wp2
      refine bodyPost_ret (v := .agg (Gd.world s g1 g2 g3 c1 c2 c3 g)) (by simp [results, Try.results15, go_sem, Gd.world, z0, z1, z2, z3, z4, z5, z6, z7, z8, z9, z10]) rfl ?_
      exact unhide hfin [_, _, _, _, _, _, _, _, _, _, _]
    · by_cases h1 : seat < 0
      · clear hn
        go_wp2
        refine bodyPost_ret (v := .agg (Gd.world s g1 g2 g3 c1 c2 c3 g)) (by simp [results, Try.results15, go_sem, Gd.world, z0, z1, z2, z3, z4, z5, z6, z7, z8, z9, z10]) rfl ?_
        exact unhide hfin [_, _, _, _, _, _, _, _, _, _, _]
      · have h2 : ¬ seat < 4 := by omega
        clear hn
        go_wp2
        refine bodyPost_ret (v := .agg (Gd.world s g1 g2 g3 c1 c2 c3 g)) (by simp [results, Try.results15, go_sem, Gd.world, z0, z1, z2, z3, z4, z5, z6, z7, z8, z9, z10]) rfl ?_
        exact unhide hfin [_, _, _, _, _, _, _, _, _, _, _]

theorem refDo_any (s g c : Nat → Int) (E I : Nat → Nat → Int) (gC gE gI cC cE cI : Nat) (seat input : Int) (w : World) (hL : Gd.Lists w gC gE gI c E I) (F : Gd.Fine c g E I) :
    Calls Try.prog 15 #[.agg (Gd.world s gC gE gI cC cE cI g), .int .i64 seat, .int .i64 input] w (Gd.Worlds w s (Gd.nextG c g E I seat input) c (Gd.nextE E I seat input) (Gd.nextI c g E I seat input)) := by
  by_cases hc : 0 ≤ seat ∧ seat < 4 ∧ 0 ≤ Gd.hero E seat
  · obtain ⟨s0, s4, h0⟩ := hc
    obtain ⟨t, rfl⟩ : ∃ t : Nat, seat = (t : Int) := ⟨seat.toNat, by omega⟩
    obtain ⟨k, hk, hh, he, _⟩ := Gd.hero_pos h0
    have ht : t < 4 := by omega
    have hc : 0 ≤ (t : Int) ∧ (t : Int) < 4 ∧ 0 ≤ Gd.hero E (t : Int) := ⟨s0, s4, h0⟩
    unfold Gd.nextG Gd.nextE Gd.nextI
    rw [if_pos hc, if_pos hc, if_pos hc, hh, Int.toNat_natCast, Int.toNat_natCast]
    obtain ⟨g0, g9⟩ := F.gold t ht
    obtain ⟨p0, p9⟩ := F.hp k hk
    by_cases i5 : input = 5
    · subst i5
      have e6 : Gd.entsOf E I k (t : Int) 5 = E := if_neg (by omega)
      rw [e6]
      show Calls _ _ _ _ (Gd.Worlds w s (Gd.give g t (if 0 ≤ Gd.find I 40 1 (E k 3) (E k 4) ∧ I (Gd.find I 40 1 (E k 3) (E k 4)).toNat 0 = 4 then min (g t + 5) 999 else g t)) c E (Gd.pick I 40 (t : Int) (E k 3) (E k 4)))
      unfold Gd.pick
      rcases Gd.find_cases I 40 1 (E k 3) (E k 4) with ⟨hf, _⟩ | ⟨m, hm, hf, _⟩
      · rw [hf, if_neg (by omega), if_neg (by omega), if_neg (by omega), Gd.give_same]
        exact refDo_pickNone s g c E I gC gE gI cC cE cI t k w hL ht hk hh hf
      · rw [hf, Int.toNat_natCast]
        by_cases h4 : I m 0 = 4
        · rw [if_pos ⟨by omega, h4⟩, if_pos ⟨by omega, h4⟩]
          exact refDo_pickGold s g c E I gC gE gI cC cE cI t k w hL ht hk hh m hm hf h4 g0 g9
        · rw [if_neg (by omega), if_neg (by omega), Gd.give_same]
          by_cases hs : 0 ≤ Gd.slot I 40 (t : Int)
          · obtain ⟨f, hf'⟩ : ∃ f : Nat, Gd.slot I 40 (t : Int) = (f : Int) := ⟨(Gd.slot I 40 (t : Int)).toNat, by omega⟩
            rw [if_pos ⟨by omega, hs⟩, hf']
            exact refDo_pickTake s g c E I gC gE gI cC cE cI t k w hL ht hk hh m f hm hf h4 hf'
          · rw [if_neg (by omega)]
            exact refDo_pickFull s g c E I gC gE gI cC cE cI t k w hL ht hk hh m hm hf h4 (Gd.slot_neg (by omega))
    · by_cases i6 : input = 6
      · subst i6
        rw [show Gd.goldOf I (t : Int) (E k 3) (E k 4) (decide (Gr.at 384 c (E k 3) (E k 4) = 5)) (g t) 6 = g t from rfl, Gd.give_same]
        show Calls _ _ _ _ (Gd.Worlds w s g c (if (6 : Int) = 6 ∧ 0 ≤ Gd.has I 40 (t : Int) 1 1 then Gd.heal E k else E) (Gd.use I 40 (t : Int)))
        unfold Gd.use
        by_cases hp : 0 ≤ Gd.has I 40 (t : Int) 1 1
        · obtain ⟨m, hm, hm', _⟩ := Gd.has_pos hp
          rw [if_pos ⟨rfl, hp⟩, if_pos hp, hm', Int.toNat_natCast]
          exact refDo_useYes s g c E I gC gE gI cC cE cI t k w hL ht hk hh m hm hm' p0 p9
        · rw [if_neg (by omega), if_neg hp]
          exact refDo_useNo s g c E I gC gE gI cC cE cI t k w hL ht hk hh (Gd.has_neg (by omega))
      · have e6 : Gd.entsOf E I k (t : Int) input = E := if_neg (by omega)
        rw [e6]
        by_cases i7 : input = 7
        · subst i7
          rw [show Gd.goldOf I (t : Int) (E k 3) (E k 4) (decide (Gr.at 384 c (E k 3) (E k 4) = 5)) (g t) 7 = g t from rfl, Gd.give_same]
          show Calls _ _ _ _ (Gd.Worlds w s g c E (Gd.wear I 40 (t : Int)))
          unfold Gd.wear
          by_cases hp : 0 ≤ Gd.has I 40 (t : Int) 2 3
          · obtain ⟨m, hm, hm', w2, _, _, _, k2, k3⟩ := Gd.has_pos hp
            rw [if_pos hp, hm', Int.toNat_natCast]
            unfold Gd.wearAt
            rcases Gd.find_cases I 40 3 (t : Int) (I m 0 - 2) with ⟨hf, _⟩ | ⟨j, hj, hf, j1, _⟩
            · rw [hf, if_neg (by omega)]
              exact refDo_wearOne s g c E I gC gE gI cC cE cI t k w hL ht hk hh m hm hm' k2 k3 hf
            · rw [hf, if_pos (by omega), Int.toNat_natCast]
              exact refDo_wearTwo s g c E I gC gE gI cC cE cI t k w hL ht hk hh m j hm hj (by rintro rfl; omega) hm' k2 k3 hf
          · rw [if_neg hp]
            exact refDo_wearNo s g c E I gC gE gI cC cE cI t k w hL ht hk hh (Gd.has_neg (by omega))
        · by_cases i8 : input = 8
          · subst i8
            rw [show Gd.goldOf I (t : Int) (E k 3) (E k 4) (decide (Gr.at 384 c (E k 3) (E k 4) = 5)) (g t) 8 = g t from rfl, Gd.give_same]
            show Calls _ _ _ _ (Gd.Worlds w s g c E (Gd.drop I 40 (t : Int) (E k 3) (E k 4)))
            unfold Gd.drop
            by_cases hp : 0 ≤ Gd.has I 40 (t : Int) 1 3
            · obtain ⟨m, hm, hm', _⟩ := Gd.has_pos hp
              rcases Gd.find_cases I 40 1 (E k 3) (E k 4) with ⟨hf, _⟩ | ⟨j, hj, hf, _⟩
              · rw [if_pos ⟨hp, by omega⟩, hm', Int.toNat_natCast]
                exact refDo_dropYes s g c E I gC gE gI cC cE cI t k w hL ht hk hh m hm hm' hf
              · rw [if_neg (by omega)]
                exact refDo_dropLies s g c E I gC gE gI cC cE cI t k w hL ht hk hh m j hm' hf
            · rw [if_neg (by omega)]
              exact refDo_dropNo s g c E I gC gE gI cC cE cI t k w hL ht hk hh (Gd.has_neg (by omega))
          · by_cases i10 : input = 10
            · subst i10
              show Calls _ _ _ _ (Gd.Worlds w s (Gd.give g t (if Gd.buys I 40 (t : Int) (decide (Gr.at 384 c (E k 3) (E k 4) = 5)) (g t) = true then g t - 5 else g t)) c E (Gd.buy I 40 (t : Int) (decide (Gr.at 384 c (E k 3) (E k 4) = 5)) (g t)))
              unfold Gd.buy
              have hbx : Gd.buys I 40 (t : Int) (decide (Gr.at 384 c (E k 3) (E k 4) = 5)) (g t) = true ↔ Gr.at 384 c (E k 3) (E k 4) = 5 ∧ 5 ≤ g t ∧ 0 ≤ Gd.slot I 40 (t : Int) ∧ 0 ≤ Gd.ware I 40 := by
                unfold Gd.buys
                simp only [Bool.and_eq_true, decide_eq_true_eq]
              by_cases hsh : Gr.at 384 c (E k 3) (E k 4) = 5
              · by_cases hg : 5 ≤ g t
                · by_cases hs : 0 ≤ Gd.slot I 40 (t : Int)
                  · obtain ⟨f, hf⟩ : ∃ f : Nat, Gd.slot I 40 (t : Int) = (f : Int) := ⟨(Gd.slot I 40 (t : Int)).toNat, by omega⟩
                    by_cases hw : 0 ≤ Gd.ware I 40
                    · obtain ⟨m, hm, hm', _⟩ := Gd.ware_pos hw
                      rw [if_pos (hbx.2 ⟨hsh, hg, hs, hw⟩), if_pos (hbx.2 ⟨hsh, hg, hs, hw⟩), hm', hf, Int.toNat_natCast]
                      exact refDo_buyYes s g c E I gC gE gI cC cE cI t k w hL ht hk hh F.cells m f hm hsh hg g9 hf hm'
                    · rw [if_neg (fun h => hw (hbx.1 h).2.2.2), if_neg (fun h => hw (hbx.1 h).2.2.2), Gd.give_same]
                      exact refDo_buyOut s g c E I gC gE gI cC cE cI t k w hL ht hk hh F.cells f hsh hg hf (Gd.ware_neg (by omega))
                  · rw [if_neg (fun h => hs (hbx.1 h).2.2.1), if_neg (fun h => hs (hbx.1 h).2.2.1), Gd.give_same]
                    exact refDo_buyFull s g c E I gC gE gI cC cE cI t k w hL ht hk hh F.cells hsh hg (Gd.slot_neg (by omega))
                · rw [if_neg (fun h => hg (hbx.1 h).2.1), if_neg (fun h => hg (hbx.1 h).2.1), Gd.give_same]
                  exact refDo_buyPoor s g c E I gC gE gI cC cE cI t k w hL ht hk hh F.cells hsh (by omega)
              · rw [if_neg (fun h => hsh (hbx.1 h).1), if_neg (fun h => hsh (hbx.1 h).1), Gd.give_same]
                exact refDo_buyAway s g c E I gC gE gI cC cE cI t k w hL ht hk hh F.cells hsh
            · have hgo : Gd.goldOf I (t : Int) (E k 3) (E k 4) (decide (Gr.at 384 c (E k 3) (E k 4) = 5)) (g t) input = g t := by
                unfold Gd.goldOf
                rw [if_neg i5, if_neg i10]
              have hac : Gd.act I 40 (t : Int) (E k 3) (E k 4) (decide (Gr.at 384 c (E k 3) (E k 4) = 5)) (g t) input = I := by
                unfold Gd.act
                rw [if_neg i5, if_neg i6, if_neg i7, if_neg i8, if_neg i10]
              rw [hgo, hac, Gd.give_same]
              exact refDo_other s g c E I gC gE gI cC cE cI t k w hL ht hk hh input i5 i6 i7 i8 i10
  · unfold Gd.nextG Gd.nextE Gd.nextI
    rw [if_neg hc, if_neg hc, if_neg hc]
    exact refDo_none s g c E I gC gE gI cC cE cI seat input w hL hc

end Go.Proofs.Ytgkomdpceilggaa
