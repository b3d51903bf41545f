/-
  CrawlFrm CrawlSmall GoodsRefBox
-/
import Derived.Test.YtbanjoflgoiegaaGreatPart31
import Derived.Test.YtbanjoflgoiegaaGreatPart32
import Derived.Test.YtbanjoflgoiegaaGreatPart26
import Derived.Test.YtbanjoflgoiegaaGreatPart23
import Derived.Test.YtbanjoflgoiegaaGreatPart22
import Derived.Test.YtbanjoflgoiegaaGreatPart29
import Derived.Test.YtbanjoflgoiegaaGreatPart28
import Derived.Test.YtbanjoflgoiegaaGreatPart15
import Derived.Deep.CutBlock
import Derived.Deep.Cut
namespace Go.Proofs.YtbanjoflgoiegaaGreat
open Go.RowKit

def Cr.frm (s : Nat → Int) (gC gE gI cC cE cI : Nat) (g how inp : Nat → Int) (sp : Nat → Bool) (met left : Bool) (j : Nat) : Value :=
  if j < 11 then Gd.box s gC gE gI cC cE cI g j else if j < 23 then Cr.actF how inp sp (j - 11) else if j = 23 then .bool met else .bool left

structure Cr.Frm (v x : World) (P gC gE gI cC cE cI : Nat) (how inp : Nat → Int) (sp : Nat → Bool) (met left : Bool) (s g c : Nat → Int) (E I : Nat → Nat → Int) : Prop where
  box : Lie x P 64 25 (Cr.frm s gC gE gI cC cE cI g how inp sp met left)
  lists : Gd.Lists x gC gE gI c E I
  cap : 32 ≤ cE ∧ 384 ≤ cC
  lP : v.heap.size ≤ P
  lC : v.heap.size ≤ gC
  lE : v.heap.size ≤ gE
  lI : v.heap.size ≤ gI
  cE : gC ≠ gE
  cI : gC ≠ gI
  eI : gE ≠ gI
  grown : v.grownBy x none

theorem Cr.Frm.on {v x y : World} {P gC gE gI cC cE cI : Nat} {how inp : Nat → Int} {sp : Nat → Bool} {met left : Bool} {s g c : Nat → Int} {E I : Nat → Nat → Int} (h : Cr.Frm v x P gC gE gI cC cE cI how inp sp met left s g c E I) (hg : x.grownBy y none) : Cr.Frm v y P gC gE gI cC cE cI how inp sp met left s g c E I :=
  { h with box := h.box.on hg, lists := h.lists.on hg, grown := grown_trans h.grown hg }

theorem Cr.Frm.apart {v x : World} {P gC gE gI cC cE cI : Nat} {how inp : Nat → Int} {sp : Nat → Bool} {met left : Bool} {s g c : Nat → Int} {E I : Nat → Nat → Int} (h : Cr.Frm v x P gC gE gI cC cE cI how inp sp met left s g c E I) : P ≠ gC ∧ P ≠ gE ∧ P ≠ gI :=
  ⟨h.box.type_ne h.lists.cells (by decide), h.box.type_ne h.lists.ents (by decide), h.box.type_ne h.lists.items (by decide)⟩

theorem Cr.frm_lo {s : Nat → Int} {gC gE gI cC cE cI : Nat} {g how inp : Nat → Int} {sp : Nat → Bool} {met left : Bool} {j : Nat} (hj : j < 11) : Cr.frm s gC gE gI cC cE cI g how inp sp met left j = Gd.box s gC gE gI cC cE cI g j := if_pos hj

theorem Cr.frm_act {s : Nat → Int} {gC gE gI cC cE cI : Nat} {g how inp : Nat → Int} {sp : Nat → Bool} {met left : Bool} {j : Nat} (hj : j < 12) : Cr.frm s gC gE gI cC cE cI g how inp sp met left (11 + j) = Cr.actF how inp sp j := by
  unfold Cr.frm
  rw [if_neg (by omega), if_pos (by omega), show 11 + j - 11 = j by omega]

theorem Cr.Frm.eleven {v x : World} {P gC gE gI cC cE cI : Nat} {how inp : Nat → Int} {sp : Nat → Bool} {met left : Bool} {s g c : Nat → Int} {E I : Nat → Nat → Int} (h : Cr.Frm v x P gC gE gI cC cE cI how inp sp met left s g c E I) :
    x.cell? ⟨P, 0, none⟩ = some (.int .i64 (s 0)) ∧ x.cell? ⟨P, 1, none⟩ = some (.int .i64 (s 1)) ∧ x.cell? ⟨P, 2, none⟩ = some (.int .i64 (s 2)) ∧ x.cell? ⟨P, 3, none⟩ = some (.int .i64 (s 3)) ∧ x.cell? ⟨P, 4, none⟩ = some (.slice (some ⟨gC, 0, none⟩) 384 cC) ∧ x.cell? ⟨P, 5, none⟩ = some (.slice (some ⟨gE, 0, none⟩) 32 cE) ∧ x.cell? ⟨P, 6, none⟩ = some (.slice (some ⟨gI, 0, none⟩) 40 cI) ∧ x.cell? ⟨P, 7, none⟩ = some (.int .i64 (g 0)) ∧ x.cell? ⟨P, 8, none⟩ = some (.int .i64 (g 1)) ∧ x.cell? ⟨P, 9, none⟩ = some (.int .i64 (g 2)) ∧ x.cell? ⟨P, 10, none⟩ = some (.int .i64 (g 3)) := by
  have hc : ∀ j, j < 11 → x.cell? ⟨P, j, none⟩ = some (Gd.box s gC gE gI cC cE cI g j) := fun j hj => (h.box.cell (c := j) (by omega)).trans (by rw [Cr.frm_lo hj])
  exact ⟨hc 0 (by omega), hc 1 (by omega), hc 2 (by omega), hc 3 (by omega), hc 4 (by omega), hc 5 (by omega), hc 6 (by omega), hc 7 (by omega), hc 8 (by omega), hc 9 (by omega), hc 10 (by omega)⟩

theorem Cr.Frm.words {v x : World} {P gC gE gI cC cE cI : Nat} {how inp : Nat → Int} {sp : Nat → Bool} {met left : Bool} {s g c : Nat → Int} {E I : Nat → Nat → Int} (h : Cr.Frm v x P gC gE gI cC cE cI how inp sp met left s g c E I) : x.cell? ⟨P, 23, none⟩ = some (.bool met) ∧ x.cell? ⟨P, 24, none⟩ = some (.bool left) :=
  ⟨h.box.cell (c := 23) (by omega), h.box.cell (c := 24) (by omega)⟩

theorem Cr.Frm.act {v x : World} {P gC gE gI cC cE cI : Nat} {how inp : Nat → Int} {sp : Nat → Bool} {met left : Bool} {s g c : Nat → Int} {E I : Nat → Nat → Int} (h : Cr.Frm v x P gC gE gI cC cE cI how inp sp met left s g c E I) {t : Nat} (ht : t < 4) :
    x.cell? ⟨P, 11 + t * 3, none⟩ = some (.int .i64 (how t)) ∧ x.cell? ⟨P, 11 + t * 3 + 1, none⟩ = some (.int .i64 (inp t)) ∧ x.cell? ⟨P, 11 + t * 3 + 2, none⟩ = some (.bool (sp t)) := by
  have hc : ∀ j, j < 12 → x.cell? ⟨P, 11 + j, none⟩ = some (Cr.actF how inp sp j) := fun j hj => (h.box.cell (c := 11 + j) (by omega)).trans (by rw [Cr.frm_act hj])
  refine ⟨(hc (t * 3) (by omega)).trans ?_, (hc (t * 3 + 1) (by omega)).trans ?_, (hc (t * 3 + 2) (by omega)).trans ?_⟩ <;> unfold Cr.actF
  · rw [if_pos (by omega), show t * 3 / 3 = t by omega]
  · rw [if_neg (by omega), if_pos (by omega), show (t * 3 + 1) / 3 = t by omega]
  · rw [if_neg (by omega), if_neg (by omega), show (t * 3 + 2) / 3 = t by omega]

theorem Cr.Frm.twelve {v x : World} {P gC gE gI cC cE cI : Nat} {how inp : Nat → Int} {sp : Nat → Bool} {met left : Bool} {s g c : Nat → Int} {E I : Nat → Nat → Int} (h : Cr.Frm v x P gC gE gI cC cE cI how inp sp met left s g c E I) :
    x.cell? ⟨P, 11, none⟩ = some (.int .i64 (how 0)) ∧ x.cell? ⟨P, 12, none⟩ = some (.int .i64 (inp 0)) ∧ x.cell? ⟨P, 13, none⟩ = some (.bool (sp 0)) ∧ x.cell? ⟨P, 14, none⟩ = some (.int .i64 (how 1)) ∧ x.cell? ⟨P, 15, none⟩ = some (.int .i64 (inp 1)) ∧ x.cell? ⟨P, 16, none⟩ = some (.bool (sp 1)) ∧ x.cell? ⟨P, 17, none⟩ = some (.int .i64 (how 2)) ∧ x.cell? ⟨P, 18, none⟩ = some (.int .i64 (inp 2)) ∧ x.cell? ⟨P, 19, none⟩ = some (.bool (sp 2)) ∧ x.cell? ⟨P, 20, none⟩ = some (.int .i64 (how 3)) ∧ x.cell? ⟨P, 21, none⟩ = some (.int .i64 (inp 3)) ∧ x.cell? ⟨P, 22, none⟩ = some (.bool (sp 3)) :=
  ⟨(h.act (t := 0) (by omega)).1, (h.act (t := 0) (by omega)).2.1, (h.act (t := 0) (by omega)).2.2, (h.act (t := 1) (by omega)).1, (h.act (t := 1) (by omega)).2.1, (h.act (t := 1) (by omega)).2.2, (h.act (t := 2) (by omega)).1, (h.act (t := 2) (by omega)).2.1, (h.act (t := 2) (by omega)).2.2, (h.act (t := 3) (by omega)).1, (h.act (t := 3) (by omega)).2.1, (h.act (t := 3) (by omega)).2.2⟩

theorem Cr.Frm.set {v x : World} {P gC gE gI cC cE cI gC' gE' gI' cC' cE' cI' : Nat} {how inp : Nat → Int} {sp : Nat → Bool} {met left met' left' : Bool} {s g c s' g' : Nat → Int} {E I : Nat → Nat → Int} (h : Cr.Frm v x P gC gE gI cC cE cI how inp sp met left s g c E I) (k : Nat) (u : Value) (he : ∀ j, j < 25 → (if j = k then u else Cr.frm s gC gE gI cC cE cI g how inp sp met left j) = Cr.frm s' gC' gE' gI' cC' cE' cI' g' how inp sp met' left' j) :
    Lie (x.setCell ⟨P, k, none⟩ u) P 64 25 (Cr.frm s' gC' gE' gI' cC' cE' cI' g' how inp sp met' left') ∧ Gd.Lists (x.setCell ⟨P, k, none⟩ u) gC gE gI c E I ∧ v.grownBy (x.setCell ⟨P, k, none⟩ u) none := by
  obtain ⟨n1, n2, n3⟩ := h.apart
  exact ⟨(h.box.store k u).congr he, ⟨h.lists.cells.other n1 _ _, h.lists.ents.other n2 _ _, h.lists.items.other n3 _ _⟩, grown_store h.grown ⟨P, k, none⟩ h.lP _⟩

theorem Cr.Frm.met {v x : World} {P gC gE gI cC cE cI : Nat} {how inp : Nat → Int} {sp : Nat → Bool} {met left : Bool} {s g c : Nat → Int} {E I : Nat → Nat → Int} (h : Cr.Frm v x P gC gE gI cC cE cI how inp sp met left s g c E I) (b : Bool) : Cr.Frm v (x.setCell ⟨P, 23, none⟩ (.bool b)) P gC gE gI cC cE cI how inp sp b left s g c E I := by
  obtain ⟨h1, h2, h3⟩ := h.set 23 (.bool b) (s' := s) (gC' := gC) (gE' := gE) (gI' := gI) (cC' := cC) (cE' := cE) (cI' := cI) (g' := g) (met' := b) (left' := left) fun j _ => by
    unfold Cr.frm
    by_cases e : j = 23
    · rw [if_pos e, if_neg (by omega), if_neg (by omega), if_pos e]
    · rw [if_neg e, if_neg e, if_neg e]
  exact { h with box := h1, lists := h2, grown := h3 }

theorem Cr.Frm.left {v x : World} {P gC gE gI cC cE cI : Nat} {how inp : Nat → Int} {sp : Nat → Bool} {met left : Bool} {s g c : Nat → Int} {E I : Nat → Nat → Int} (h : Cr.Frm v x P gC gE gI cC cE cI how inp sp met left s g c E I) (b : Bool) : Cr.Frm v (x.setCell ⟨P, 24, none⟩ (.bool b)) P gC gE gI cC cE cI how inp sp met b s g c E I := by
  obtain ⟨h1, h2, h3⟩ := h.set 24 (.bool b) (s' := s) (gC' := gC) (gE' := gE) (gI' := gI) (cC' := cC) (cE' := cE) (cI' := cI) (g' := g) (met' := met) (left' := b) fun j hj => by
    unfold Cr.frm
    by_cases e : j = 24
    · rw [if_pos e, if_neg (by omega), if_neg (by omega), if_neg (by omega)]
    · rw [if_neg e]
      by_cases e1 : j < 11
      · rw [if_pos e1, if_pos e1]
      · by_cases e2 : j < 23
        · rw [if_neg e1, if_neg e1, if_pos e2, if_pos e2]
        · rw [if_neg e1, if_neg e1, if_neg e2, if_neg e2, if_pos (show j = 23 by omega), if_pos (show j = 23 by omega)]
  exact { h with box := h1, lists := h2, grown := h3 }

theorem Cr.frm_over {s : Nat → Int} {gC gE gI cC cE cI gC' gE' gI' cC' cE' cI' k : Nat} {g how inp s' g' : Nat → Int} {sp : Nat → Bool} {met left : Bool} {u : Value} (he : ∀ j, j < 11 → (if j = k then u else Gd.box s gC gE gI cC cE cI g j) = Gd.box s' gC' gE' gI' cC' cE' cI' g' j) (hk : k < 11) : ∀ j, j < 25 → (if j = k then u else Cr.frm s gC gE gI cC cE cI g how inp sp met left j) = Cr.frm s' gC' gE' gI' cC' cE' cI' g' how inp sp met left j := fun j _ => by
  by_cases e : j < 11
  · rw [Cr.frm_lo e, Cr.frm_lo e, he j e]
  · rw [if_neg (by omega)]
    unfold Cr.frm
    rw [if_neg e, if_neg e]

theorem Cr.Frm.num {v x : World} {P gC gE gI cC cE cI : Nat} {how inp : Nat → Int} {sp : Nat → Bool} {met left : Bool} {s g c : Nat → Int} {E I : Nat → Nat → Int} (h : Cr.Frm v x P gC gE gI cC cE cI how inp sp met left s g c E I) (k : Nat) (hk : k < 4) (u : Int) : Cr.Frm v (x.setCell ⟨P, k, none⟩ (.int .i64 u)) P gC gE gI cC cE cI how inp sp met left (Cr.num s k u) g c E I := by
  obtain ⟨h1, h2, h3⟩ := h.set k (.int .i64 u) (Cr.frm_over (s' := Cr.num s k u) (gC' := gC) (gE' := gE) (gI' := gI) (cC' := cC) (cE' := cE) (cI' := cI) (g' := g) (fun j hj => by
    rcases (show k = 0 ∨ k = 1 ∨ k = 2 ∨ k = 3 by omega) with rfl | rfl | rfl | rfl <;> rcases (show j = 0 ∨ j = 1 ∨ j = 2 ∨ j = 3 ∨ j = 4 ∨ j = 5 ∨ j = 6 ∨ j = 7 ∨ j = 8 ∨ j = 9 ∨ j = 10 by omega) with rfl | rfl | rfl | rfl | rfl | rfl | rfl | rfl | rfl | rfl | rfl <;> rfl) (by omega))
  exact { h with box := h1, lists := h2, grown := h3 }

theorem Cr.Frm.folk {v x x' : World} {P gC gE gI cC cE cI jE dE : Nat} {how inp : Nat → Int} {sp : Nat → Bool} {met left : Bool} {s g c : Nat → Int} {E I F : Nat → Nat → Int} (h : Cr.Frm v x P gC gE gI cC cE cI how inp sp met left s g c E I) (hcap : 32 ≤ dE) (hj : jE = gE ∨ x.heap.size ≤ jE) (hO : Own x' jE 32 F) (hg : x.grownBy x' none) :
    Cr.Frm v (x'.setCell ⟨P, 5, none⟩ (.slice (some ⟨jE, 0, none⟩) 32 dE)) P gC jE gI cC dE cI how inp sp met left s g c F I := by
  have h' := h.on hg
  have q1 := h.lists.cells.lt
  have q2 := h.lists.items.lt
  have q3 := h.cE
  have q4 := h.eI
  have q5 := h.lE
  have q6 := h.grown.size
  have hE := hO.lie (m := 352) (by omega)
  have nE : P ≠ jE := h'.box.type_ne hE (by decide)
  obtain ⟨h1, h2, h3⟩ := h'.set 5 (.slice (some ⟨jE, 0, none⟩) 32 dE) (Cr.frm_over (s' := s) (gC' := gC) (gE' := jE) (gI' := gI) (cC' := cC) (cE' := dE) (cI' := cI) (g' := g) (Gd.box_5 s g gC gE gI cC cE cI jE dE) (by omega))
  exact ⟨h1, ⟨h2.cells, hE.other nE _ _, h2.items⟩, ⟨hcap, h.cap.2⟩, h.lP, h.lC, by omega, h.lI, by omega, h.cI, by omega, h3⟩

theorem Cr.Frm.stat {v x : World} {P gC gE gI cC cE cI : Nat} {how inp : Nat → Int} {sp : Nat → Bool} {met left : Bool} {s g c : Nat → Int} {E I : Nat → Nat → Int} (h : Cr.Frm v x P gC gE gI cC cE cI how inp sp met left s g c E I) (k j : Nat) (hj : j < 11) (u : Int) : Cr.Frm v (x.setCell ⟨gE, k * 11 + j, none⟩ (.int .i64 u)) P gC gE gI cC cE cI how inp sp met left s g c (Gd.set E k j u) I := by
  obtain ⟨n1, n2, n3⟩ := h.apart
  exact { h with box := h.box.other n2.symm _ _, lists := ⟨h.lists.cells.other h.cE.symm _ _, h.lists.ents.stat k j hj u, h.lists.items.other h.eI _ _⟩, grown := grown_store h.grown ⟨gE, k * 11 + j, none⟩ h.lE _ }

theorem Cr.Frm.aside {v x : World} {P gC gE gI cC cE cI Q m : Nat} {T : TypeId} {H : Nat → Value} {how inp : Nat → Int} {sp : Nat → Bool} {met left : Bool} {s g c : Nat → Int} {E I : Nat → Nat → Int} (h : Cr.Frm v x P gC gE gI cC cE cI how inp sp met left s g c E I) (lQ : v.heap.size ≤ Q) (hQ : Lie x Q T m H) (hT : 64 ≠ T) (nE : Q ≠ gC ∧ Q ≠ gE ∧ Q ≠ gI) (k : Nat) (u : Value) : Cr.Frm v (x.setCell ⟨Q, k, none⟩ u) P gC gE gI cC cE cI how inp sp met left s g c E I :=
  { h with box := h.box.other (h.box.type_ne hQ hT).symm _ _, lists := ⟨h.lists.cells.other nE.1 _ _, h.lists.ents.other nE.2.1 _ _, h.lists.items.other nE.2.2 _ _⟩, grown := grown_store h.grown ⟨Q, k, none⟩ lQ _ }

theorem Cr.Frm.over {v x x' : World} {P gC gE gI cC cE cI jC jE jI dC dE dI : Nat} {how inp : Nat → Int} {sp : Nat → Bool} {met left : Bool} {s g c s' g' c' : Nat → Int} {E I F J : Nat → Nat → Int} (h : Cr.Frm v x P gC gE gI cC cE cI how inp sp met left s g c E I) (hcap : 32 ≤ dE ∧ 384 ≤ dC) (l1 : x.heap.size ≤ jC) (l2 : x.heap.size ≤ jE) (l3 : x.heap.size ≤ jI) (n1 : jC ≠ jE) (n2 : jC ≠ jI) (n3 : jE ≠ jI) (hL : Gd.Lists x' jC jE jI c' F J) (hg : x.grownBy x' none) :
    Cr.Frm v (x'.setCells P 0 (Gd.world s' jC jE jI dC dE dI g').toList) P jC jE jI dC dE dI how inp sp met left s' g' c' F J := by
  have h' := h.on hg
  have q := h.grown.size
  have m1 : P ≠ jC := h'.box.type_ne hL.cells (by decide)
  have m2 : P ≠ jE := h'.box.type_ne hL.ents (by decide)
  have m3 : P ≠ jI := h'.box.type_ne hL.items (by decide)
  refine ⟨(h'.box.stores 0 _).congr fun j hj => ?_, ⟨hL.cells.others m1 _ _, hL.ents.others m2 _ _, hL.items.others m3 _ _⟩, hcap, h.lP, by omega, by omega, by omega, n1, n2, n3, own_sets h.lP _ 0 x' h'.grown⟩
  show (if 0 ≤ j ∧ j < 0 + 11 then (Gd.world s' jC jE jI dC dE dI g').toList[j - 0]?.getD undef else Cr.frm s gC gE gI cC cE cI g how inp sp met left j) = _
  by_cases e : j < 11
  · rw [if_pos (by omega), Nat.sub_zero, Array.getElem?_toList, Gd.world_at s' jC jE jI dC dE dI g' j e, Cr.frm_lo e]
    rfl
  · rw [if_neg (by omega)]
    unfold Cr.frm
    rw [if_neg e, if_neg e]

def Cr.Goes (v : World) (P : Nat) (how inp : Nat → Int) (sp : Nat → Bool) (met left : Bool) (s g c : Nat → Int) (E I : Nat → Nat → Int) (e : Ending) (x : World) : Prop :=
  e = .returned (.tuple #[]) ∧ ∃ gC gE gI cC cE cI, Cr.Frm v x P gC gE gI cC cE cI how inp sp met left s g c E I

end Go.Proofs.YtbanjoflgoiegaaGreat

namespace Go.Proofs.YtbanjoflgoiegaaGreat
open Go.RowKit

set_option maxHeartbeats 800000 in
theorem cIsHero_any (e : Nat → Int) (w : World) : Calls Tryz.prog 71 #[.agg (En.cells e)] w (Says w (.bool (decide (e 0 = 1)))) := by
  have hg := hide (World.grownBy_alloc w (.cells (En.cells e) 54) none)
  have z0 := (Lie.copied w e 54).ent.1
  unfold En.cells at hg z0 ⊢
  go_enter Tryz.func71, Tryz.ntmps71
  go_wp2
  go_ret
  exact ⟨rfl, unhide hg⟩

set_option maxHeartbeats 800000 in
theorem cIsStunned_any (e : Nat → Int) (w : World) : Calls Tryz.prog 72 #[.agg (En.cells e)] w (Says w (.bool (decide (0 < e 10)))) := by
  have hg := hide (World.grownBy_alloc w (.cells (En.cells e) 54) none)
  have z0 := (Lie.copied w e 54).ent.2.2.2.2.2.2.2.2.2.2
  unfold En.cells at hg z0 ⊢
  go_enter Tryz.func72, Tryz.ntmps72
  go_wp2
  go_ret
  exact ⟨rfl, unhide hg⟩

set_option maxHeartbeats 800000 in
theorem cIsMonster_any (e : Nat → Int) (w : World) : Calls Tryz.prog 74 #[.agg (En.cells e)] w (Says w (.bool (decide (e 0 ≠ 0 ∧ e 0 ≠ 1)))) := by
  obtain ⟨w0, hw0⟩ : ∃ w0, w0 = w.alloc (.cells (En.cells e) 54) := ⟨_, rfl⟩
  have hg : Hid (w.grownBy w0 none) := by rw [hw0]; exact World.grownBy_alloc _ _ _
  have hQ : Hid (Lie w0 w.heap.size 54 11 (Ints e)) := by rw [hw0]; exact Lie.copied _ _ _
  have ch := hide (cIsHero_any e w0)
  obtain ⟨b, hb⟩ : ∃ b, decide (e 0 ≠ 0 ∧ e 0 ≠ 1) = b := ⟨_, rfl⟩
  rw [hb]
  have hb' := hide hb
  clear hb
  unfold En.cells at hw0 ch ⊢
  go_enter Tryz.func74, Tryz.ntmps74
  go_upto_region 1 with fail
  rw [← hw0]
  clear hw0
  obtain ⟨B, hB⟩ : ∃ B, w.heap.size = B := ⟨_, rfl⟩
  rw [hB] at hQ ⊢
  clear hB
  obtain ⟨z0, z1, z2, z3, z4, z5, z6, z7, z8, z9, z10⟩ := (unhide hQ).ent
  by_cases h0 : e 0 = 0
  · obtain rfl : b = false := (unhide hb').symm.trans (decide_eq_false (fun h => h.1 h0))
    have hn : (e 0 != 0) = false := by simp [h0]
    clear h0
    go_wp2
    go_ret
    exact ⟨rfl, unhide hg⟩
  · have hn : (e 0 != 0) = true := by simpa using h0
    have hd : b = !decide (e 0 = 1) := (unhide hb').symm.trans (by by_cases h1 : e 0 = 1 <;> simp [h0, h1])
    obtain ⟨d, hd1⟩ : ∃ d, decide (e 0 = 1) = d := ⟨_, rfl⟩
    rw [hd1] at hd ch
    subst hd
    clear h0 hd1 hb'
    go_wp2_with fail
    refine (unhide ch).mono ?_
    rintro x w1 ⟨rfl, hg1⟩
    have hg2 := hide (grown_trans (unhide hg) hg1)
    clear hg1 ch z0 z1 z2 z3 z4 z5 z6 z7 z8 z9 z10
    go_wp2
    go_ret
    exact ⟨rfl, unhide hg2⟩

set_option maxRecDepth 8000 in
set_option maxHeartbeats 1600000 in
theorem cPlaced_any (e : Nat → Int) (q : Nat) (hq : q < 384) (w : World) : Calls Tryz.prog 79 #[.agg (En.cells e), .int .i64 (q : Int)] w (Says w (.agg (En.cells (En.upd (En.upd e 3 ((q : Int) % 24)) 4 ((q : Int) / 24))))) := by
  obtain ⟨wy, hwy⟩ : ∃ wy, wy = w.alloc (.cells (En.cells e) 54) := ⟨_, rfl⟩
  obtain ⟨w0, hw0⟩ : ∃ w0, w0 = wy.alloc (.cells #[.int .i64 0, .int .i64 0, .int .i64 0, .int .i64 0, .int .i64 0, .int .i64 0, .int .i64 0, .int .i64 0, .int .i64 0, .int .i64 0, .int .i64 0] 54) := ⟨_, rfl⟩
  have hgy : w.grownBy wy none := by rw [hwy]; exact World.grownBy_alloc _ _ _
  have hg0 : wy.grownBy w0 none := by rw [hw0]; exact World.grownBy_alloc _ _ _
  have hG := hide (grown_trans hgy hg0)
  have hQ : Hid (Lie w0 w.heap.size 54 11 (Ints e)) := by
    refine Lie.on ?_ hg0
    rw [hwy]
    exact Lie.copied _ _ _
  have hR : Hid (Lie w0 wy.heap.size 54 11 (Ints (fun _ => 0))) := by
    rw [hw0]
    exact Lie.copied wy (fun _ => 0) _
  have sy : wy.heap.size = w.heap.size + 1 := by rw [hwy]; simp
  rw [sy] at hR
  have hcl : Hid (En.cells (En.upd (En.upd e 3 ((q : Int) % 24)) 4 ((q : Int) / 24)) = #[.int .i64 (e 0), .int .i64 (e 1), .int .i64 (e 2), .int .i64 ((q : Int) % 24), .int .i64 ((q : Int) / 24), .int .i64 (e 5), .int .i64 (e 6), .int .i64 (e 7), .int .i64 (e 8), .int .i64 (e 9), .int .i64 (e 10)]) := rfl
  rw [unhide hcl]
  have t2 : IntKind.i64.wrap ((q : Int) / 24) = (q : Int) / 24 := by rw [IntKind.wrap_i64]; omega
  clear hgy hg0 sy hcl
  unfold En.cells at hwy ⊢
  rw [hwy] at hw0
  clear hwy
  go_enter Tryz.func79, Tryz.ntmps79
  go_upto_region 1 with fail
  rw [← hw0]
  clear hw0
  obtain ⟨B, hB⟩ : ∃ B, w.heap.size = B := ⟨_, rfl⟩
  rw [hB] at hQ hR ⊢
  have hB' := hide hB
  clear hB
  obtain ⟨e0, e1, e2, e3, e4, e5, e6, e7, e8, e9, e10⟩ := (unhide hQ).ent
  obtain ⟨z0, z1, z2, z3, z4, z5, z6, z7, z8, z9, z10⟩ := (unhide hR).ent
  have fQ := (unhide hQ).free
  have fR := (unhide hR).free
  have nQR : B ≠ B + 1 := by omega
  have nRQ : B + 1 ≠ B := by omega
  have hgq : Hid (∀ a b vs, w.grownBy (((w0.setCell ⟨B, 3, none⟩ a).setCell ⟨B, 4, none⟩ b).setCells (B + 1) 0 vs) none) := fun a b vs => own_sets (by rw [unhide hB']; omega) _ 0 _ (grown_store (grown_store (unhide hG) ⟨B, 3, none⟩ (by rw [unhide hB']; exact Nat.le_refl _) a) ⟨B, 4, none⟩ (by rw [unhide hB']; exact Nat.le_refl _) b)
  clear hq hQ hR
  go_wp2
  refine bodyPost_ret (v := .agg #[.int .i64 (e 0), .int .i64 (e 1), .int .i64 (e 2), .int .i64 ((q : Int) % 24), .int .i64 ((q : Int) / 24), .int .i64 (e 5), .int .i64 (e 6), .int .i64 (e 7), .int .i64 (e 8), .int .i64 (e 9), .int .i64 (e 10)]) (by simp [results, Tryz.results79, go_sem, z0, z1, z2, z3, z4, z5, z6, z7, z8, z9, z10]) rfl ?_
  exact ⟨rfl, unhide hgq _ _ [_, _, _, _, _, _, _, _, _, _, _]⟩

set_option maxHeartbeats 1600000 in
theorem cArrival_any (ca a : Option Addr) (cc n k : Nat) (c : Nat → Int) (E : Nat → Nat → Int) (w : World) (hc : Vec w.heap.size w ca 384 (Byts c)) (hF : Nv.Floor c) (hcc : 384 ≤ cc) (hL : Nv.Lst w a n k E) (hW : Nv.Words n E) :
    Calls Tryz.prog 104 #[.slice ca 384 cc, .slice a n k] w (Nv.SaysSpot w c E n (Gr.find 384 c 3 % 24) (Gr.find 384 c 3 / 24)) := by
  have hc8 : ∀ i, 0 ≤ c i ∧ c i ≤ 255 := fun i => ⟨(hF.five i).1, by have := (hF.five i).2; omega⟩
  obtain ⟨u, hu, hfu, -, -⟩ := Cr.up_stair hF
  have cf := find_any w.heap.size ca 384 cc c 3 w hc hc8 hcc
  rw [hfu] at cf ⊢
  have cs := navSpot_any ca a cc n k c E ((u : Int) % 24) ((u : Int) / 24) w hc hc8 hL hW (by omega) (by omega) (by omega) (by omega)
  have cf' := hide cf
  have cs' := hide cs
  have hun : ¬ (u : Int) < 0 := by omega
  have t1 : IntKind.i64.wrap ((u : Int) / 24) = (u : Int) / 24 := by rw [IntKind.wrap_i64]; omega
  clear cf cs hc8 hfu hu hc hF hL hW hcc
  go_enter Tryz.func104, Tryz.ntmps104
  go_wp2_with fail
  refine (unhide cf').mono ?_
  rintro e wq ⟨rfl, hy⟩
  subst wq
  go_wp2_with fail
  refine (unhide cs').mono ?_
  rintro e w1 ⟨v, hv, rfl, hg⟩
  have hfin : Hid (Nv.SaysSpot w c E n ((u : Int) % 24) ((u : Int) / 24) (.returned (.int .i64 v)) w1) := ⟨v, hv, rfl, hg⟩
  clear hv hg cs' cf'
  go_wp2
  go_ret
  exact unhide hfin

end Go.Proofs.YtbanjoflgoiegaaGreat

namespace Go.Proofs.YtbanjoflgoiegaaGreat
open Go.RowKit

theorem Gd.ent_box (w : World) (e : Nat → Int) : (w.alloc (.cells (En.cells e) 54)).cell? ⟨w.heap.size, 3, none⟩ = some (.int .i64 (e 3)) ∧ (w.alloc (.cells (En.cells e) 54)).cell? ⟨w.heap.size, 4, none⟩ = some (.int .i64 (e 4)) ∧ (w.alloc (.cells (En.cells e) 54)).cell? ⟨w.heap.size, 5, none⟩ = some (.int .i64 (e 5)) ∧ (w.alloc (.cells (En.cells e) 54)).cell? ⟨w.heap.size, 6, none⟩ = some (.int .i64 (e 6)) := by
  have h := Arr.lit (heap_alloc_new w (.cells (En.cells e) 54))
  exact ⟨h.cell (i := 3) (by show 3 < 11; omega), h.cell (i := 4) (by show 4 < 11; omega), h.cell (i := 5) (by show 5 < 11; omega), h.cell (i := 6) (by show 6 < 11; omega)⟩

theorem Gd.ent_far {w x : World} {B gC gE gI cC cE cI : Nat} {s g c : Nat → Int} {E I : Nat → Nat → Int} (h : Gd.Boxed w x B gC gE gI cC cE cI s g c E I) : x.heap.size ≠ gE ∧ x.heap.size ≠ gI ∧ x.heap.size ≠ B := by
  have h1 := h.hold.lists.ents.lt
  have h2 := h.hold.lists.items.lt
  have h3 := h.hold.box.lt
  exact ⟨by omega, by omega, by omega⟩

theorem Gd.Boxed.items {w x y : World} {B gC gE gI cC cE cI : Nat} {s g c : Nat → Int} {E I J : Nat → Nat → Int} (h : Gd.Boxed w x B gC gE gI cC cE cI s g c E I) (hg : x.grownBy y (some gI)) (hI : Lie y gI 62 160 (Gd.flat J)) : Gd.Boxed w y B gC gE gI cC cE cI s g c E J := by
  have h1 := h.at_
  have h2 := h.lI
  exact { h with hold := h.hold.items hg hI, res := h.res.grown hg (by simp; omega), grown := grown_own h.grown hg (fun n e => by cases e; omega) }

theorem Gd.Boxed.ents {w x y : World} {B gC gE gI cC cE cI : Nat} {s g c : Nat → Int} {E I F : Nat → Nat → Int} (h : Gd.Boxed w x B gC gE gI cC cE cI s g c E I) (hg : x.grownBy y (some gE)) (hE : Lie y gE 54 352 (En.flat F)) : Gd.Boxed w y B gC gE gI cC cE cI s g c F I := by
  have h1 := h.at_
  have h2 := h.lE
  exact { h with hold := h.hold.ents hg hE, res := h.res.grown hg (by simp; omega), grown := grown_own h.grown hg (fun n e => by cases e; omega) }

theorem Gd.Boxed.gold {w x : World} {B gC gE gI cC cE cI : Nat} {s g c : Nat → Int} {E I : Nat → Nat → Int} (h : Gd.Boxed w x B gC gE gI cC cE cI s g c E I) (t : Nat) (ht : t < 4) (v : Int) : Gd.Boxed w (x.setCell ⟨B, 7 + t, none⟩ (.int .i64 v)) B gC gE gI cC cE cI s (Gd.give g t v) c E I := by
  have h1 := h.at_
  exact { h with hold := h.hold.gold t ht v, res := h.res.other (by omega) _ _, grown := grown_store h.grown ⟨B, 7 + t, none⟩ (by show w.heap.size ≤ B; omega) _ }

theorem Gd.Boxed.stat {w x : World} {B gC gE gI cC cE cI : Nat} {s g c : Nat → Int} {E I : Nat → Nat → Int} (h : Gd.Boxed w x B gC gE gI cC cE cI s g c E I) (k j : Nat) (hj : j < 11) (v : Int) : Gd.Boxed w (x.setCell ⟨gE, k * 11 + j, none⟩ (.int .i64 v)) B gC gE gI cC cE cI s g c (Gd.set E k j v) I :=
  h.ents (grown_set0 x gE (k * 11 + j) (.int .i64 v)) (h.hold.lists.ents.stat k j hj v)

theorem Gd.BoxW.ents {w x y : World} {B gC gE gI cC cE cI : Nat} {s g c : Nat → Int} {E I F : Nat → Nat → Int} (h : Gd.BoxW w x B gC gE gI cC cE cI s g c E I) (hg : x.grownBy y (some gE)) (hE : Lie y gE 54 352 (En.flat F)) : Gd.BoxW w y B gC gE gI cC cE cI s g c F I := by
  have h1 := h.at_
  have h2 := h.lE
  exact { h with hold := h.hold.ents hg hE, res := h.res.grown hg (by simp; omega), grown := grown_own h.grown hg (fun n e => by cases e; omega) }

theorem Gd.BoxW.stat {w x : World} {B gC gE gI cC cE cI : Nat} {s g c : Nat → Int} {E I : Nat → Nat → Int} (h : Gd.BoxW w x B gC gE gI cC cE cI s g c E I) (k j : Nat) (hj : j < 11) (v : Int) : Gd.BoxW w (x.setCell ⟨gE, k * 11 + j, none⟩ (.int .i64 v)) B gC gE gI cC cE cI s g c (Gd.set E k j v) I :=
  h.ents (grown_set0 x gE (k * 11 + j) (.int .i64 v)) (h.hold.lists.ents.stat k j hj v)

end Go.Proofs.YtbanjoflgoiegaaGreat
