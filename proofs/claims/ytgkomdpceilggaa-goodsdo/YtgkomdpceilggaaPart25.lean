/-
  What a seat wants with items, in the document: boxes, items and gold that are turned.
  What a seat wants with items, in the document: the shop is looked through.
  What a seat wants with items, in the document: no input that does anything.
-/
import Derived.Test.YtgkomdpceilggaaPart19
import Derived.Test.YtgkomdpceilggaaPart20
import Derived.Test.YtgkomdpceilggaaPart15
import Derived.Deep.CutBlock
import Derived.Deep.Cut
namespace Go.Proofs.Ytgkomdpceilggaa
open Go.RowKit

theorem Gd.ent_box (w : World) (e : Nat → Int) : (w.alloc (.cells (En.cells e) 47)).cell? ⟨w.heap.size, 3, none⟩ = some (.int .i64 (e 3)) ∧ (w.alloc (.cells (En.cells e) 47)).cell? ⟨w.heap.size, 4, none⟩ = some (.int .i64 (e 4)) ∧ (w.alloc (.cells (En.cells e) 47)).cell? ⟨w.heap.size, 5, none⟩ = some (.int .i64 (e 5)) ∧ (w.alloc (.cells (En.cells e) 47)).cell? ⟨w.heap.size, 6, none⟩ = some (.int .i64 (e 6)) := by
  have h := Arr.lit (heap_alloc_new w (.cells (En.cells e) 47))
  exact ⟨h.cell (i := 3) (by show 3 < 11; omega), h.cell (i := 4) (by show 4 < 11; omega), h.cell (i := 5) (by show 5 < 11; omega), h.cell (i := 6) (by show 6 < 11; omega)⟩

theorem Gd.ent_far {w x : World} {B gC gE gI cC cE cI : Nat} {s g c : Nat → Int} {E I : Nat → Nat → Int} (h : Gd.Boxed w x B gC gE gI cC cE cI s g c E I) : x.heap.size ≠ gE ∧ x.heap.size ≠ gI ∧ x.heap.size ≠ B := by
  have h1 := h.hold.lists.ents.lt
  have h2 := h.hold.lists.items.lt
  have h3 := h.hold.box.lt
  exact ⟨by omega, by omega, by omega⟩

/-- Items that are turned in their own list. -/
theorem Gd.Boxed.items {w x y : World} {B gC gE gI cC cE cI : Nat} {s g c : Nat → Int} {E I J : Nat → Nat → Int} (h : Gd.Boxed w x B gC gE gI cC cE cI s g c E I) (hg : x.grownBy y (some gI)) (hI : Lie y gI 38 160 (Gd.flat J)) : Gd.Boxed w y B gC gE gI cC cE cI s g c E J := by
  have h1 := h.at_
  have h2 := h.lI
  exact { h with hold := h.hold.items hg hI, res := h.res.grown hg (by simp; omega), grown := grown_own h.grown hg (fun n e => by cases e; omega) }

theorem Gd.Boxed.ents {w x y : World} {B gC gE gI cC cE cI : Nat} {s g c : Nat → Int} {E I F : Nat → Nat → Int} (h : Gd.Boxed w x B gC gE gI cC cE cI s g c E I) (hg : x.grownBy y (some gE)) (hE : Lie y gE 47 352 (En.flat F)) : Gd.Boxed w y B gC gE gI cC cE cI s g c F I := by
  have h1 := h.at_
  have h2 := h.lE
  exact { h with hold := h.hold.ents hg hE, res := h.res.grown hg (by simp; omega), grown := grown_own h.grown hg (fun n e => by cases e; omega) }

theorem Gd.Boxed.gold {w x : World} {B gC gE gI cC cE cI : Nat} {s g c : Nat → Int} {E I : Nat → Nat → Int} (h : Gd.Boxed w x B gC gE gI cC cE cI s g c E I) (t : Nat) (ht : t < 4) (v : Int) : Gd.Boxed w (x.setCell ⟨B, 7 + t, none⟩ (.int .i64 v)) B gC gE gI cC cE cI s (Gd.give g t v) c E I := by
  have h1 := h.at_
  exact { h with hold := h.hold.gold t ht v, res := h.res.other (by omega) _ _, grown := grown_store h.grown ⟨B, 7 + t, none⟩ (by show w.heap.size ≤ B; omega) _ }

/-- One number of a row of the entities, stored anew. -/
theorem Gd.Boxed.stat {w x : World} {B gC gE gI cC cE cI : Nat} {s g c : Nat → Int} {E I : Nat → Nat → Int} (h : Gd.Boxed w x B gC gE gI cC cE cI s g c E I) (k j : Nat) (hj : j < 11) (v : Int) : Gd.Boxed w (x.setCell ⟨gE, k * 11 + j, none⟩ (.int .i64 v)) B gC gE gI cC cE cI s g c (Gd.set E k j v) I :=
  h.ents (grown_set0 x gE (k * 11 + j) (.int .i64 v)) (h.hold.lists.ents.stat k j hj v)

theorem Gd.Boxed.heals {w x : World} {B gC gE gI cC cE cI : Nat} {s g c : Nat → Int} {E I : Nat → Nat → Int} (h : Gd.Boxed w x B gC gE gI cC cE cI s g c E I) (k m : Nat) (v : Int) (hv : v = min (E k 5 + 6) (E k 6)) : Gd.Boxed w ((((((x.setCell ⟨gI, m * 4, none⟩ (.int .i64 0)).setCell ⟨gI, m * 4 + 1, none⟩ (.int .i64 0)).setCell ⟨gI, m * 4 + 2, none⟩ (.int .i64 0)).setCell ⟨gI, m * 4 + 3, none⟩ (.int .i64 0)).setCell ⟨gE, k * 11 + 5, none⟩ (.int .i64 v)).setCell ⟨gE, k * 11 + 9, none⟩ (.int .i64 0)) B gC gE gI cC cE cI s g c (Gd.heal E k) (En.put I m Gd.gone) := by
  rw [← Gd.row_gone]
  unfold Gd.heal
  rw [← hv]
  exact ((h.put m 0 0 0 0).stat k 5 (by omega) v).stat k 9 (by omega) 0

/-- An item comes into another place: where it is, A and B are stored anew. -/
theorem Gd.Boxed.move3 {w x : World} {B gC gE gI cC cE cI : Nat} {s g c : Nat → Int} {E I : Nat → Nat → Int} (h : Gd.Boxed w x B gC gE gI cC cE cI s g c E I) (m : Nat) (a b d : Int) : Gd.Boxed w (((x.setCell ⟨gI, m * 4 + 1, none⟩ (.int .i64 a)).setCell ⟨gI, m * 4 + 2, none⟩ (.int .i64 b)).setCell ⟨gI, m * 4 + 3, none⟩ (.int .i64 d)) B gC gE gI cC cE cI s g c E (En.put I m (Gd.row (I m 0) a b d)) := by
  refine h.items (grown_set (grown_set (grown_set (World.grownBy.refl _ _) _ _) _ _) _ _) ((((h.hold.lists.items.field m 1 (by omega) a).field m 2 (by omega) b).field m 3 (by omega) d).congr fun q hq => ?_)
  unfold Gd.flat Gd.set
  by_cases e : q / 4 = m
  · rw [e, En.put_same]
    rcases (show q % 4 = 0 ∨ q % 4 = 1 ∨ q % 4 = 2 ∨ q % 4 = 3 by omega) with e4 | e4 | e4 | e4 <;> rw [e4] <;> simp [Gd.row]
  · rw [En.put_other e]
    simp [e]

theorem Gd.Boxed.move2 {w x : World} {B gC gE gI cC cE cI : Nat} {s g c : Nat → Int} {E I : Nat → Nat → Int} (h : Gd.Boxed w x B gC gE gI cC cE cI s g c E I) (m : Nat) (a d : Int) : Gd.Boxed w ((x.setCell ⟨gI, m * 4 + 1, none⟩ (.int .i64 a)).setCell ⟨gI, m * 4 + 3, none⟩ (.int .i64 d)) B gC gE gI cC cE cI s g c E (En.put I m (Gd.row (I m 0) a (I m 2) d)) := by
  refine h.items (grown_set (grown_set (World.grownBy.refl _ _) _ _) _ _) (((h.hold.lists.items.field m 1 (by omega) a).field m 3 (by omega) d).congr fun q hq => ?_)
  unfold Gd.flat Gd.set
  by_cases e : q / 4 = m
  · rw [e, En.put_same]
    rcases (show q % 4 = 0 ∨ q % 4 = 1 ∨ q % 4 = 2 ∨ q % 4 = 3 by omega) with e4 | e4 | e4 | e4 <;> rw [e4] <;> simp [Gd.row]
  · rw [En.put_other e]
    simp [e]

end Go.Proofs.Ytgkomdpceilggaa

namespace Go.Proofs.Ytgkomdpceilggaa
open Go.RowKit

/-- How far the shop has been looked through: nothing yet, or the first ware. -/
def Gd.Wares (I : Nat → Nat → Int) (q : Nat) (iv : Int) : Prop := (iv = -1 ∧ ∀ j : Nat, j < q → Gd.find I 40 4 (j : Int) 0 < 0) ∨ (0 ≤ iv ∧ iv = Gd.ware I 40)

theorem Gd.Wares.next {I : Nat → Nat → Int} {q : Nat} {iv : Int} (h : Gd.Wares I q iv) (hn : iv < 0) (hq : q < 3) : Gd.Wares I (q + 1) (Gd.find I 40 4 (q : Int) 0) := by
  rcases h with ⟨_, hno⟩ | ⟨h0, _⟩
  · by_cases hf : Gd.find I 40 4 (q : Int) 0 < 0
    · refine .inl ⟨(Gd.find_neg hf).1, fun j hj => ?_⟩
      by_cases e : j = q
      · rw [e]; exact hf
      · exact hno j (by omega)
    · refine .inr ⟨by omega, ?_⟩
      have he : En.first (fun k => decide (0 ≤ Gd.find I 40 4 (k : Int) 0)) 3 = (q : Int) := En.first_hit (fun j hj => decide_eq_false (by have := hno j hj; omega)) (decide_eq_true (by omega)) hq
      unfold Gd.ware
      rw [he, if_pos (by omega)]
  · omega

theorem Gd.Wares.done {I : Nat → Nat → Int} {q : Nat} {iv : Int} (h : Gd.Wares I q iv) (hd : 0 ≤ iv ∨ 3 ≤ q) : iv = Gd.ware I 40 := by
  rcases h with ⟨h1, hno⟩ | ⟨_, he⟩
  · have he : En.first (fun k => decide (0 ≤ Gd.find I 40 4 (k : Int) 0)) 3 = -1 := En.first_none (fun j hj => decide_eq_false (by have := hno j (by omega); omega))
    unfold Gd.ware
    rw [he, if_neg (by omega)]
    exact h1
  · exact he

end Go.Proofs.Ytgkomdpceilggaa

namespace Go.Proofs.Ytgkomdpceilggaa
open Go.RowKit

set_option maxRecDepth 8000 in
set_option maxHeartbeats 12800000 in
theorem refDo_other (s g c : Nat → Int) (E I : Nat → Nat → Int) (gC gE gI cC cE cI t k : Nat) (w : World) (hL : Gd.Lists w gC gE gI c E I) (ht : t < 4) (hk : k < 32) (hh : Gd.hero E (t : Int) = (k : Int)) (input : Int) (i5 : input ≠ 5) (i6 : input ≠ 6) (i7 : input ≠ 7) (i8 : input ≠ 8) (i10 : input ≠ 10) :
    Calls Try.prog 15 #[.agg (Gd.world s gC gE gI cC cE cI g), .int .i64 (t : Int), .int .i64 input] w (Gd.Worlds w s g c E I) := by
  obtain ⟨w0, hw0, hbox, hres, hg0, hsz⟩ := Gd.boxes w gC gE gI cC cE cI s g
  have ca' := hide (refTwin_any s g c E I gC gE gI cC cE cI w0 (hL.on hg0))
  obtain ⟨b0, b1, b2, b3, b4, b5, b6, b7, b8, b9, b10⟩ := hbox.eleven
  have hbx := hide hbox
  have hrs := hide hres
  have hg0' := hide hg0
  have hsz' := hide hsz
  have hfB := hbox.free
  have hh' := hide hh
  have ht' : (t : Int) < 4 := by omega
  have hk' : (k : Int) < 32 := by omega
  have HK := hide hk
  have HT := hide ht
  have j5 : (input == 5) = false := by simpa using i5
  have j6 : (input == 6) = false := by simpa using i6
  have j7 : (input == 7) = false := by simpa using i7
  have j8 : (input == 8) = false := by simpa using i8
  have j10 : (input == 10) = false := by simpa using i10
  clear i5 i6 i7 i8 i10
  clear hL hbox hres hg0 hsz hh hk ht
  unfold Gd.world at hw0 ca' ⊢
  go_enter Try.func15, Try.ntmps15
  go_upto_region 1 with fail
  rw [← hw0]
  clear hw0
  obtain ⟨B, hB⟩ : ∃ B, w.heap.size = B := ⟨_, rfl⟩
  rw [hB] at hbx hrs hsz' b0 b1 b2 b3 b4 b5 b6 b7 b8 b9 b10 ⊢
  have hB' := hide hB
  rw [hB] at hfB
  clear hB
  go_cut [] from 7 (fun wx => ∃ g1 g2 g3 c1 c2 c3, Hid (Gd.Boxed w wx B g1 g2 g3 c1 c2 c3 s g c E I))
  case first =>
    go_wp2_with fail
    refine (unhide ca').mono ?_
    rintro e w1 ⟨g1, g2, g3, c1, c2, c3, rfl, hcap, l1, l2, l3, n1, n2, n3, hL1, hg1⟩
    obtain ⟨y0, y1, y2, y3, y4, y5, y6, y7, y8, y9, y10⟩ := ((unhide hbx).on hg1).eleven
    have fB := ((unhide hbx).on hg1).free
    have fin : Hid (Gd.Boxed w (w1.setCells B 0 (Gd.world s g1 g2 g3 c1 c2 c3 g).toList) B g1 g2 g3 c1 c2 c3 s g c E I) := by
      have r := grown_sets (g := B) (Gd.world s g1 g2 g3 c1 c2 c3 g).toList 0 w1 (World.grownBy.refl _ _)
      have hB := unhide hB'
      have hs := unhide hsz'
      exact ⟨⟨((unhide hbx).on hg1).whole s g g1 g2 g3 c1 c2 c3, ⟨hL1.cells.grown r (by simp; omega), hL1.ents.grown r (by simp; omega), hL1.items.grown r (by simp; omega)⟩, by omega, by omega, by omega, n1, n2, n3⟩, hB, by omega, by omega, by omega, hcap, ((unhide hrs).on hg1).grown r (by simp), own_sets (by omega) _ 0 w1 (grown_trans (unhide hg0') hg1)⟩
    unfold Gd.world at fin ⊢
    clear hcap l1 l2 l3 n1 n2 n3 hL1 hg1 b0 b1 b2 b3 b4 b5 b6 b7 b8 b9 b10 hfB ca'
    go_wp2_with fail
    go_meet
    exact ⟨g1, g2, g3, c1, c2, c3, fin⟩
  case rest =>
    obtain ⟨g1, g2, g3, c1, c2, c3, hX⟩ := hcut
    clear b0 b1 b2 b3 b4 b5 b6 b7 b8 b9 b10 hfB ca' hbx hrs hg0' hsz' hB'
    clear w0
    have b5 := (unhide hX).hold.box.eleven.2.2.2.2.2.1
    have ch := refHero7_any g2 c2 E (t : Int) wc (unhide hX).hold.lists.own
    rw [unhide hh'] at ch
    have ch' := hide ch
    clear ch
    go_wp2_with fail
    refine (unhide ch').mono ?_
    rintro e w2 ⟨rfl, hg2⟩
    have hX2 := hide ((unhide hX).on hg2)
    clear hg2 ch' b5 hX hh'
    have b5 := (unhide hX2).hold.box.eleven.2.2.2.2.2.1
    obtain ⟨u0, u1, u2, u3, u4, u5, u6, u7, u8, u9, u10⟩ := (unhide hX2).hold.lists.own.ents.row (unhide HK)
    have hX3 := hide ((unhide hX2).on (World.grownBy_alloc w2 (.cells (En.cells (E k)) 47) none))
    have hQ := hide (Gd.ent_box w2 (E k))
    have hQn := hide (Gd.ent_far (unhide hX2))
    go_upto_region 6 with fail
    unfold En.cells at hX3 hQ
    obtain ⟨Q, hQe⟩ : ∃ Q, w2.heap.size = Q := ⟨_, rfl⟩
    rw [hQe] at hQ hQn ⊢
    generalize w2.alloc (.cells #[.int .i64 (E k 0), .int .i64 (E k 1), .int .i64 (E k 2), .int .i64 (E k 3), .int .i64 (E k 4), .int .i64 (E k 5), .int .i64 (E k 6), .int .i64 (E k 7), .int .i64 (E k 8), .int .i64 (E k 9), .int .i64 (E k 10)] 47) = w3 at hX3 hQ ⊢
    clear hQe u0 u1 u2 u3 u4 u5 u6 u7 u8 u9 u10 b5 hX2
    obtain ⟨z3, z4, z5, z6⟩ := unhide hQ
    have b6 := (unhide hX3).hold.box.eleven.2.2.2.2.2.2.1
    have ci := hide (refIn7_same g3 40 c3 I 1 (E k 3) (E k 4) w3 (unhide hX3).hold.lists.its)
    have cs := hide (refSlot_same g3 40 c3 I (t : Int) w3 (unhide hX3).hold.lists.its)
    go_wp2_with fail
    refine (unhide ci).mono ?_
    rintro e wy ⟨rfl, hy⟩
    subst wy
    go_wp2_with fail
    refine (unhide cs).mono ?_
    rintro e wy ⟨rfl, hy⟩
    subst wy
    clear ci cs b6
    go_upto_block 0 with fail
    go_cut [] from 7 (fun wx => Hid (Gd.Boxed w wx B g1 g2 g3 c1 c2 c3 s g c E I))
    case first =>
      clear z3 z4 z5 z6
      go_wp2_with fail
      go_meet
      exact hX3
    case rest =>
      have hbx := hide (unhide hcut)
      clear hcut
      obtain ⟨b0, b1, b2, b3, b4, b5, b6, b7, b8, b9, b10⟩ := (unhide hbx).hold.box.eleven
      have fz := (unhide hbx).res.free
      obtain ⟨z0, z1, z2, z3, z4, z5, z6, z7, z8, z9, z10⟩ := Gd.res_cells (unhide hbx).res
      have hfin := hide (fun vs => (unhide hbx).worlds vs)
      go_wp2
      refine bodyPost_ret (v := .agg (Gd.world s g1 g2 g3 c1 c2 c3 g)) (by simp [results, Try.results15, go_sem, Gd.world, z0, z1, z2, z3, z4, z5, z6, z7, z8, z9, z10]) rfl ?_
      exact unhide hfin [_, _, _, _, _, _, _, _, _, _, _]

end Go.Proofs.Ytgkomdpceilggaa
