/-
  What a seat wants with items, in the document: boxes, items and gold that are turned.
-/
import Derived.Test.YtgkomdpceilggaaPart19
import Derived.Test.YtgkomdpceilggaaPart20
import Derived.Test.YtgkomdpceilggaaPart15
import Derived.Deep.CutBlock
import Derived.Deep.Cut
namespace Go.Proofs.Ytgkomdpceilggaa
open Go.RowKit

theorem Gd.ent_box (w : World) (e : Nat → Int) : (w.alloc (.cells (En.cells e) 47)).cell? ⟨w.heap.size, 3, none⟩ = some (.int .i64 (e 3)) ∧ (w.alloc (.cells (En.cells e) 47)).cell? ⟨w.heap.size, 4, none⟩ = some (.int .i64 (e 4)) ∧ (w.alloc (.cells (En.cells e) 47)).cell? ⟨w.heap.size, 5, none⟩ = some (.int .i64 (e 5)) ∧ (w.alloc (.cells (En.cells e) 47)).cell? ⟨w.heap.size, 6, none⟩ = some (.int .i64 (e 6)) := by
  have h := Arr.lit (heap_alloc_new w (.cells (En.cells e) 47))
  exact ⟨h.cell (i := 3) (by show 3 < 11; omega), h.cell (i := 4) (by show 4 < 11; omega), h.cell (i := 5) (by show 5 < 11; omega), h.cell (i := 6) (by show 6 < 11; omega)⟩

theorem Gd.ent_far {w x : World} {B gC gE gI cC cE cI : Nat} {s g c : Nat → Int} {E I : Nat → Nat → Int} (h : Gd.Boxed w x B gC gE gI cC cE cI s g c E I) : x.heap.size ≠ gE ∧ x.heap.size ≠ gI ∧ x.heap.size ≠ B := by
  have h1 := h.hold.lists.ents.lt
  have h2 := h.hold.lists.items.lt
  have h3 := h.hold.box.lt
  exact ⟨by omega, by omega, by omega⟩

/-- Items that are turned in their own list. -/
theorem Gd.Boxed.items {w x y : World} {B gC gE gI cC cE cI : Nat} {s g c : Nat → Int} {E I J : Nat → Nat → Int} (h : Gd.Boxed w x B gC gE gI cC cE cI s g c E I) (hg : x.grownBy y (some gI)) (hI : Lie y gI 38 160 (Gd.flat J)) : Gd.Boxed w y B gC gE gI cC cE cI s g c E J := by
  have h1 := h.at_
  have h2 := h.lI
  exact { h with hold := h.hold.items hg hI, res := h.res.grown hg (by simp; omega), grown := grown_own h.grown hg (fun n e => by cases e; omega) }

theorem Gd.Boxed.ents {w x y : World} {B gC gE gI cC cE cI : Nat} {s g c : Nat → Int} {E I F : Nat → Nat → Int} (h : Gd.Boxed w x B gC gE gI cC cE cI s g c E I) (hg : x.grownBy y (some gE)) (hE : Lie y gE 47 352 (En.flat F)) : Gd.Boxed w y B gC gE gI cC cE cI s g c F I := by
  have h1 := h.at_
  have h2 := h.lE
  exact { h with hold := h.hold.ents hg hE, res := h.res.grown hg (by simp; omega), grown := grown_own h.grown hg (fun n e => by cases e; omega) }

theorem Gd.Boxed.gold {w x : World} {B gC gE gI cC cE cI : Nat} {s g c : Nat → Int} {E I : Nat → Nat → Int} (h : Gd.Boxed w x B gC gE gI cC cE cI s g c E I) (t : Nat) (ht : t < 4) (v : Int) : Gd.Boxed w (x.setCell ⟨B, 7 + t, none⟩ (.int .i64 v)) B gC gE gI cC cE cI s (Gd.give g t v) c E I := by
  have h1 := h.at_
  exact { h with hold := h.hold.gold t ht v, res := h.res.other (by omega) _ _, grown := grown_store h.grown ⟨B, 7 + t, none⟩ (by show w.heap.size ≤ B; omega) _ }

/-- One number of a row of the entities, stored anew. -/
theorem Gd.Boxed.stat {w x : World} {B gC gE gI cC cE cI : Nat} {s g c : Nat → Int} {E I : Nat → Nat → Int} (h : Gd.Boxed w x B gC gE gI cC cE cI s g c E I) (k j : Nat) (hj : j < 11) (v : Int) : Gd.Boxed w (x.setCell ⟨gE, k * 11 + j, none⟩ (.int .i64 v)) B gC gE gI cC cE cI s g c (Gd.set E k j v) I :=
  h.ents (grown_set0 x gE (k * 11 + j) (.int .i64 v)) (h.hold.lists.ents.stat k j hj v)

theorem Gd.Boxed.heals {w x : World} {B gC gE gI cC cE cI : Nat} {s g c : Nat → Int} {E I : Nat → Nat → Int} (h : Gd.Boxed w x B gC gE gI cC cE cI s g c E I) (k m : Nat) (v : Int) (hv : v = min (E k 5 + 6) (E k 6)) : Gd.Boxed w ((((((x.setCell ⟨gI, m * 4, none⟩ (.int .i64 0)).setCell ⟨gI, m * 4 + 1, none⟩ (.int .i64 0)).setCell ⟨gI, m * 4 + 2, none⟩ (.int .i64 0)).setCell ⟨gI, m * 4 + 3, none⟩ (.int .i64 0)).setCell ⟨gE, k * 11 + 5, none⟩ (.int .i64 v)).setCell ⟨gE, k * 11 + 9, none⟩ (.int .i64 0)) B gC gE gI cC cE cI s g c (Gd.heal E k) (En.put I m Gd.gone) := by
  rw [← Gd.row_gone]
  unfold Gd.heal
  rw [← hv]
  exact ((h.put m 0 0 0 0).stat k 5 (by omega) v).stat k 9 (by omega) 0

/-- An item comes into another place: where it is, A and B are stored anew. -/
theorem Gd.Boxed.move3 {w x : World} {B gC gE gI cC cE cI : Nat} {s g c : Nat → Int} {E I : Nat → Nat → Int} (h : Gd.Boxed w x B gC gE gI cC cE cI s g c E I) (m : Nat) (a b d : Int) : Gd.Boxed w (((x.setCell ⟨gI, m * 4 + 1, none⟩ (.int .i64 a)).setCell ⟨gI, m * 4 + 2, none⟩ (.int .i64 b)).setCell ⟨gI, m * 4 + 3, none⟩ (.int .i64 d)) B gC gE gI cC cE cI s g c E (En.put I m (Gd.row (I m 0) a b d)) := by
  refine h.items (grown_set (grown_set (grown_set (World.grownBy.refl _ _) _ _) _ _) _ _) ((((h.hold.lists.items.field m 1 (by omega) a).field m 2 (by omega) b).field m 3 (by omega) d).congr fun q hq => ?_)
  unfold Gd.flat Gd.set
  by_cases e : q / 4 = m
  · rw [e, En.put_same]
    rcases (show q % 4 = 0 ∨ q % 4 = 1 ∨ q % 4 = 2 ∨ q % 4 = 3 by omega) with e4 | e4 | e4 | e4 <;> rw [e4] <;> simp [Gd.row]
  · rw [En.put_other e]
    simp [e]

theorem Gd.Boxed.move2 {w x : World} {B gC gE gI cC cE cI : Nat} {s g c : Nat → Int} {E I : Nat → Nat → Int} (h : Gd.Boxed w x B gC gE gI cC cE cI s g c E I) (m : Nat) (a d : Int) : Gd.Boxed w ((x.setCell ⟨gI, m * 4 + 1, none⟩ (.int .i64 a)).setCell ⟨gI, m * 4 + 3, none⟩ (.int .i64 d)) B gC gE gI cC cE cI s g c E (En.put I m (Gd.row (I m 0) a (I m 2) d)) := by
  refine h.items (grown_set (grown_set (World.grownBy.refl _ _) _ _) _ _) (((h.hold.lists.items.field m 1 (by omega) a).field m 3 (by omega) d).congr fun q hq => ?_)
  unfold Gd.flat Gd.set
  by_cases e : q / 4 = m
  · rw [e, En.put_same]
    rcases (show q % 4 = 0 ∨ q % 4 = 1 ∨ q % 4 = 2 ∨ q % 4 = 3 by omega) with e4 | e4 | e4 | e4 <;> rw [e4] <;> simp [Gd.row]
  · rw [En.put_other e]
    simp [e]

end Go.Proofs.Ytgkomdpceilggaa
