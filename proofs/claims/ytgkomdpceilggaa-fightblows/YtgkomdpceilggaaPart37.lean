/-
  Worlds laid over boxes that a law holds.
-/
import Derived.Test.YtgkomdpceilggaaPart24
namespace Go.Proofs.Ytgkomdpceilggaa
open Go.RowKit

/-- What a call has answered, laid over a box. -/
theorem Gd.Law.lay {w x : World} {T gC gE gI cC cE cI jC jE jI dC dE dI : Nat} {s g c s' g' c' : Nat → Int} {E I F J : Nat → Nat → Int} (h : Gd.Law w x T gC gE gI cC cE cI s g c E I) (hcap : 32 ≤ dE) (lE : w.heap.size ≤ jE) (lI : w.heap.size ≤ jI) (n1 : jC ≠ jE) (n2 : jC ≠ jI) (n3 : jE ≠ jI) (hL : Gd.Lists x jC jE jI c' F J) :
    Gd.Law w (x.setCells T 0 (Gd.world s' jC jE jI dC dE dI g').toList) T jC jE jI dC dE dI s' g' c' F J := by
  have m1 := h.hold.box.type_ne hL.cells (by decide)
  have m2 := h.hold.box.type_ne hL.ents (by decide)
  have m3 := h.hold.box.type_ne hL.items (by decide)
  have r := grown_sets (g := T) (Gd.world s' jC jE jI dC dE dI g').toList 0 x (World.grownBy.refl _ _)
  exact ⟨⟨h.hold.box.whole s' g' jC jE jI dC dE dI, ⟨hL.cells.grown r (by simpa using m1), hL.ents.grown r (by simpa using m2), hL.items.grown r (by simpa using m3)⟩, m1, m2, m3, n1, n2, n3⟩, h.lT, lE, lI, hcap, own_sets h.lT _ 0 x h.grown⟩

/-- Another box is laid over. -/
theorem Gd.Law.side {w x : World} {T V gC gE gI cC cE cI : Nat} {s g c : Nat → Int} {E I : Nat → Nat → Int} {F : Nat → Value} (h : Gd.Law w x T gC gE gI cC cE cI s g c E I) (hV : w.heap.size ≤ V) (hB : Lie x V 29 11 F) (n0 : V ≠ T) (vs : List Value) : Gd.Law w (x.setCells V 0 vs) T gC gE gI cC cE cI s g c E I :=
  h.aside hV n0 (hB.type_ne h.hold.lists.cells (by decide)) (hB.type_ne h.hold.lists.ents (by decide)) (hB.type_ne h.hold.lists.items (by decide)) vs

theorem Gd.Lists.side {x : World} {V gC gE gI : Nat} {c : Nat → Int} {E I : Nat → Nat → Int} {F : Nat → Value} (h : Gd.Lists x gC gE gI c E I) (hB : Lie x V 29 11 F) (vs : List Value) : Gd.Lists (x.setCells V 0 vs) gC gE gI c E I :=
  ⟨h.cells.others (hB.type_ne h.cells (by decide)) 0 vs, h.ents.others (hB.type_ne h.ents (by decide)) 0 vs, h.items.others (hB.type_ne h.items (by decide)) 0 vs⟩

/-- Two boxes are laid over by what two calls have answered; two others stay. -/
theorem Gd.laid_two {w x : World} {T U V X gC gE gI cC cE cI uC uE uI eC eE eI jC jE jI dC dE dI kC kE kI fC fE fI mC mE mI aC aE aI nC nE nI rC rE rI : Nat} {s g c : Nat → Int} {E I E1 I1 E2 I2 : Nat → Nat → Int}
    (hT : Gd.Law w x T gC gE gI cC cE cI s g c E I) (hU : Gd.Law w x U uC uE uI eC eE eI s g c E I) (hV : Gd.Law w x V jC jE jI dC dE dI s g c E1 I1) (hX : Gd.Law w x X kC kE kI fC fE fI s g c E1 I1)
    (nVT : V ≠ T) (nVU : V ≠ U) (nXT : X ≠ T) (nXU : X ≠ U) (nXV : X ≠ V)
    (hm : 32 ≤ aE ∧ w.heap.size ≤ mC ∧ w.heap.size ≤ mE ∧ w.heap.size ≤ mI ∧ mC ≠ mE ∧ mC ≠ mI ∧ mE ≠ mI ∧ Gd.Lists x mC mE mI c E2 I2)
    (hn : 32 ≤ rE ∧ w.heap.size ≤ nC ∧ w.heap.size ≤ nE ∧ w.heap.size ≤ nI ∧ nC ≠ nE ∧ nC ≠ nI ∧ nE ≠ nI ∧ Gd.Lists x nC nE nI c E2 I2) :
    Gd.Law w ((x.setCells V 0 (Gd.world s mC mE mI aC aE aI g).toList).setCells X 0 (Gd.world s nC nE nI rC rE rI g).toList) T gC gE gI cC cE cI s g c E I ∧
    Gd.Law w ((x.setCells V 0 (Gd.world s mC mE mI aC aE aI g).toList).setCells X 0 (Gd.world s nC nE nI rC rE rI g).toList) U uC uE uI eC eE eI s g c E I ∧
    Gd.Law w ((x.setCells V 0 (Gd.world s mC mE mI aC aE aI g).toList).setCells X 0 (Gd.world s nC nE nI rC rE rI g).toList) V mC mE mI aC aE aI s g c E2 I2 ∧
    Gd.Law w ((x.setCells V 0 (Gd.world s mC mE mI aC aE aI g).toList).setCells X 0 (Gd.world s nC nE nI rC rE rI g).toList) X nC nE nI rC rE rI s g c E2 I2 := by
  obtain ⟨a0, _, a2, a3, a4, a5, a6, a7⟩ := hm
  obtain ⟨b0, _, b2, b3, b4, b5, b6, b7⟩ := hn
  have bV := hV.hold.box
  have hV1 := hV.lay (s' := s) (g' := g) (dC := aC) (dI := aI) a0 a2 a3 a4 a5 a6 a7
  have hT1 := hT.side hV.lT bV nVT (Gd.world s mC mE mI aC aE aI g).toList
  have hU1 := hU.side hV.lT bV nVU (Gd.world s mC mE mI aC aE aI g).toList
  have hX1 := hX.side hV.lT bV nXV.symm (Gd.world s mC mE mI aC aE aI g).toList
  have hN1 := b7.side bV (Gd.world s mC mE mI aC aE aI g).toList
  have bX := hX1.hold.box
  exact ⟨hT1.side hX.lT bX nXT _, hU1.side hX.lT bX nXU _, hV1.side hX.lT bX nXV _, hX1.lay b0 b2 b3 b4 b5 b6 hN1⟩

end Go.Proofs.Ytgkomdpceilggaa
