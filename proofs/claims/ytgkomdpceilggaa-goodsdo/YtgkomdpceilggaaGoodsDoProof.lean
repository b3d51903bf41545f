/-
  Whatever a hero does, among any items, one thing behind the other, the world behind it is the document's, and the world it was done to stays: for every seed, floor, seat, place, list of items, gold and row of inputs, at this commit; no condition.
-/
import Derived.Test.YtgkomdpceilggaaRows
import Derived.WalkKit
import Derived.ProofKit
import Derived.OpenShut
import Derived.Test.YtgkomdpceilggaaPart24
import Derived.Test.YtgkomdpceilggaaPart41
import Derived.BigQuiet
import Derived.Deep.Cut
import Derived.Deep.CutRange
import Derived.Deep.CutBlock
import Derived.Deep.RegionWith
import Derived.Deep.RegionHeld3
import Derived.ShutString
import Derived.ChangeOld
import Derived.Below
namespace Go.Proofs.Ytgkomdpceilggaa.goodsDo
open Go.ChangeShapes Go.WideShapes Go.ChangeAt Go.RowKit
open Go.ChangeMaps (open_string shut_string)
set_option linter.unusedVariables false

theorem own : ownKnob Try.prog.godebug = none := by kernel_rfl
theorem laidOut : laidOutB Try.prog = true := by kernel_rfl

/-- WHAT THE WALK IS TOLD OF A SLICE OF INTEGERS THAT CAME IN: it is nil; or it leads to a row of 'cap' cells, the numbers 'zs' (the first 'len' are its elements, the rest its spare room), each fitting its kind. -/
def IsRow (k : IntKind) (w : World) (a : Option Addr) (len cap : Nat) (zs : List Int) : Prop :=
  (a = none ∧ len = 0 ∧ cap = 0 ∧ zs = []) ∨
  ∃ x, a = some x ∧ len ≤ cap ∧ cap ≤ maxLen ∧ zs.length = cap ∧ (∀ i, i < zs.length → w.cell? (x.add i) = some (.int k (zs.getD i 0))) ∧ ∀ n ∈ zs, (Lit.int k n).wf = true

theorem IsRow.num {w : World} {a : Option Addr} {len cap : Nat} {zs : List Int} (h : IsRow .i64 w a len cap zs) : NumArg w a len (fun i => zs.getD i 0) := by
  rcases h with ⟨rfl, rfl, rfl, rfl⟩ | ⟨x, rfl, hl, hm, hz, hcell, _⟩
  · exact ⟨Nat.zero_le _, .inl rfl⟩
  · refine ⟨Nat.le_trans hl hm, ?_⟩
    by_cases h0 : len = 0
    · exact .inl h0
    · right
      obtain ⟨b, off, spot⟩ := x
      have hspot : spot = none := by simpa [Addr.add] using World.cell?_spot (hcell 0 (by omega))
      subst hspot
      have hlt := Go.block_lt_of_cell (hcell 0 (by omega))
      refine ⟨b, off, rfl, by simpa [Addr.add] using hlt, fun i hi => ?_⟩
      have h := hcell i (by omega)
      by_cases hi0 : i = 0
      · subst hi0
        simpa [Addr.add] using h
      · simpa [Addr.add, hi0] using h

set_option maxRecDepth 8000 in
set_option maxHeartbeats 12800000 in

theorem walk (a0 : Int) (a1 : Int) (a2 : Int) (a3 : Int) (a4 : Option Addr) (len4 cap4 : Nat) (z4 : Nat → Nat → Int) (a5 : Int) (a6 : Option Addr) (len6 cap6 : Nat) (z6 : List Int) (w : World) (w0 : (Lit.int .i64 a0).wf = true) (w1 : (Lit.int .i64 a1).wf = true) (w2 : (Lit.int .i64 a2).wf = true) (w3 : (Lit.int .i64 a3).wf = true) (w4 : ItArg w a4 len4 cap4 z4) (w5 : (Lit.int .i64 a5).wf = true) (w6 : IsRow .i64 w a6 len6 cap6 z6) :
    Calls Try.prog 3 #[.int .i64 a0, .int .i64 a1, .int .i64 a2, .int .i64 a3, .slice a4 len4 cap4, .int .i64 a5, .slice a6 len6 cap6] w fun e w' => e = .returned (.bool true) ∧ Below w.heap.size w w' := by
  have hN := hide (IsRow.num w6)
  have hIt := hide w4
  have hm6 := (unhide hN).most
  unfold maxLen at hm6
  clear w0 w1 w2 w3 w4 w5 w6
  obtain ⟨f, hf⟩ : ∃ f : Nat → Int, f = fun i => z6.getD i 0 := ⟨_, rfl⟩
  rw [← hf] at hN
  clear hf
  obtain ⟨t, ht⟩ : ∃ n : Nat, a2 % 4 = (n : Int) := ⟨(a2 % 4).toNat, by omega⟩
  have cM : Hid (∀ wq, Calls Try.prog 11 #[.int .i64 a2, .int .i64 4] wq fun e w' => e = .returned (.int .i64 (t : Int)) ∧ w' = wq) := fun wq => by
    have h := within7_any a2 4 wq (by omega) (by omega)
    rw [ht] at h
    exact h
  clear ht
  go_enter Try.func3, Try.ntmps3
  go_wp2_with fail
  refine (known7_any _).mono ?_
  rintro e wk ⟨rfl, hgk⟩
  have hIk := hide ((unhide hIt).on hgk)
  have hgk' := hide hgk
  clear hgk hIt
  go_wp2_with fail
  refine (world_live a0 a1 a2 a3 a5 a4 len4 cap4 z4 wk (unhide hIk)).mono ?_
  rintro e wa ⟨c, s, g, E, I, hV, gC, gE, gI, cC, cE, cI, rfl, hcap, l1, l2, l3, n1, n2, n3, hL, hg⟩
  have hLive := hide hV
  have hW := hide (Gd.law_new (s := s) (g := g) (cC := cC) (cI := cI) (unhide hgk') hcap l1 l2 l3 n1 n2 n3 hL hg)
  clear hcap l1 l2 l3 n1 n2 n3 hL hg hgk' hV hIk
  unfold Gd.world at hW ⊢
  go_upto_region 4 with fail
  obtain ⟨T, hT⟩ : ∃ T, wa.heap.size = T := ⟨_, rfl⟩
  rw [hT] at hW ⊢
  generalize wa.alloc (.cells #[.int .i64 (s 0), .int .i64 (s 1), .int .i64 (s 2), .int .i64 (s 3), .slice (some ⟨gC, 0, none⟩) 384 cC, .slice (some ⟨gE, 0, none⟩) 32 cE, .slice (some ⟨gI, 0, none⟩) 40 cI, .int .i64 (g 0), .int .i64 (g 1), .int .i64 (g 2), .int .i64 (g 3)] 29) = wb at hW ⊢
  clear hT
  go_wp2_with fail
  refine (unhide cM _).mono ?_
  rintro e wy ⟨rfl, hy⟩
  subst wy
  clear cM
  go_wp2_with fail
  go_loopw [16] (fun vi wr => ∃ (i : Nat) (g : Nat → Int) (E I : Nat → Nat → Int) (gC gE gI cC cE cI : Nat), i ≤ len6 ∧ i ≤ 20 ∧ vi = .int .i64 (i : Int) ∧ Hid (Gd.Live c g E I) ∧ Hid (Gd.Law w wr T gC gE gI cC cE cI s g c E I)) (fun vi _ => 30 - (intOf vi).toNat)
  case atStart => exact ⟨0, g, E, I, gC, gE, gI, cC, cE, cI, by omega, by omega, rfl, hLive, hW⟩
  case round =>
    clear hLive hW
    obtain ⟨i, g, E, I, gC, gE, gI, cC, cE, cI, hi, hi20, rfl, hLive, hW⟩ := hrel
    by_cases hlt : i < len6 ∧ i < 20
    · have hlt' : (i : Int) < (len6 : Int) := by omega
      have hlt2 : (i : Int) < 20 := by omega
      have HL := hide hlt
      obtain ⟨b, o, rfl, hbl, hcell⟩ := ((unhide hN).on (unhide hW).grown).at hlt.1
      obtain ⟨v, hv⟩ : ∃ v, f i = v := ⟨_, rfl⟩
      rw [hv] at hcell
      have hcl : Hid (∀ x, wr.grownBy x none → x.cell? ⟨b, o + i, none⟩ = some (.int .i64 v)) := fun x hx => (grown_cell hx b _ hbl (by simp)).trans hcell
      have hbl' := hide hbl
      obtain ⟨r, hr⟩ : ∃ r : Bool, (v.tmod 13 == 12) = r := ⟨_, rfl⟩
      clear hv hlt hi hi20 hbl
      go_upto_if 47 with fail
      go_cut [17] from 48 to 51 (fun v17 wx => ∃ u : Int, v17 = .int .i64 u ∧ wx = wr)
      case first =>
        cases r
        · go_wp2_with fail
          go_meet
          exact ⟨_, rfl, rfl⟩
        · go_wp2_with fail
          go_meet
          exact ⟨_, rfl, rfl⟩
      case rest =>
        obtain ⟨u, rfl, hwe⟩ := hcut
        subst hwe
        clear hr
        obtain ⟨b0, b1, b2, b3, b4, b5, b6, b7, b8, b9, b10⟩ := (unhide hW).eleven
        have ctw := hide (refTwin_any s g c E I gC gE gI cC cE cI _ (unhide hW).hold.lists)
        unfold Gd.world at ctw
        go_wp2_with fail
        refine (unhide ctw).mono ?_
        rintro e wu ⟨uC, uE, uI, eC, eE, eI, rfl, hcap, l1, l2, l3, n1, n2, n3, hL, hg⟩
        have hU := hide (Gd.law_new (s := s) (g := g) (cC := eC) (cI := eI) (unhide hW).grown hcap l1 l2 l3 n1 n2 n3 hL hg)
        have hg2 := hide (grown_trans hg (World.grownBy_alloc wu (.cells #[.int .i64 (s 0), .int .i64 (s 1), .int .i64 (s 2), .int .i64 (s 3), .slice (some ⟨uC, 0, none⟩) 384 eC, .slice (some ⟨uE, 0, none⟩) 32 eE, .slice (some ⟨uI, 0, none⟩) 40 eI, .int .i64 (g 0), .int .i64 (g 1), .int .i64 (g 2), .int .i64 (g 3)] 29) none))
        have hW2 := hide ((unhide hW).on (unhide hg2))
        clear hcap l1 l2 l3 n1 n2 n3 hL hg ctw b0 b1 b2 b3 b4 b5 b6 b7 b8 b9 b10 hcell
        unfold Gd.world at hU ⊢
        go_upto_region 12 with fail
        obtain ⟨U, hUe⟩ : ∃ U, wu.heap.size = U := ⟨_, rfl⟩
        rw [hUe] at hU ⊢
        generalize wu.alloc (.cells #[.int .i64 (s 0), .int .i64 (s 1), .int .i64 (s 2), .int .i64 (s 3), .slice (some ⟨uC, 0, none⟩) 384 eC, .slice (some ⟨uE, 0, none⟩) 32 eE, .slice (some ⟨uI, 0, none⟩) 40 eI, .int .i64 (g 0), .int .i64 (g 1), .int .i64 (g 2), .int .i64 (g 3)] 29) = wd at hU hW2 hg2 ⊢
        have hcl2 : Hid (∀ x, wd.grownBy x none → x.cell? ⟨b, o + i, none⟩ = some (.int .i64 v)) := fun x hx => unhide hcl x (grown_trans (unhide hg2) hx)
        have hcell := unhide hcl2 wd (World.grownBy.refl _ _)
        have hbl : b < wd.heap.size := Nat.lt_of_lt_of_le (unhide hbl') (unhide hg2).size
        obtain ⟨b0, b1, b2, b3, b4, b5, b6, b7, b8, b9, b10⟩ := (unhide hW2).eleven
        have hnext := hide ((unhide hLive).next u v)
        have cd := hide (fun x hx => do_any s g c E I gC gE gI cC cE cI u v x hx (unhide hLive).fine)
        have cr := hide (fun x hx => refDo_any s g c E I uC uE uI eC eE eI u v x hx (unhide hLive).fine)
        obtain ⟨G, hG⟩ : ∃ G, Gd.nextG c g E I u v = G := ⟨_, rfl⟩
        obtain ⟨E2, hE2⟩ : ∃ G, Gd.nextE E I u v = G := ⟨_, rfl⟩
        obtain ⟨I2, hI2⟩ : ∃ G, Gd.nextI c g E I u v = G := ⟨_, rfl⟩
        rw [hG, hE2, hI2] at hnext cd cr
        clear hUe hG hE2 hI2 hcl hbl' hW hg2 hLive
        unfold Gd.world at cd cr
        go_upto_region 12 with fail
        go_cut [19] from 54 to 60 (fun v19 wx => ∃ V jC jE jI dC dE dI, v19 = .pointer (some ⟨V, 0, none⟩) ∧ Hid (Gd.Law w wx T gC gE gI cC cE cI s g c E I) ∧ Hid (Gd.Law w wx U uC uE uI eC eE eI s g c E I) ∧ Hid (Gd.Law w wx V jC jE jI dC dE dI s G c E2 I2) ∧ Hid (wd.grownBy wx none))
        case first =>
          clear cr
          have hdr := hide (grown_drew1 (World.grownBy.refl wd none))
          have hLx : Hid (∀ y, wd.grownBy y none → Gd.Lists y gC gE gI c E I) := fun y hy => (unhide hW2).hold.lists.on hy
          have hkeep : Hid (∀ x, wd.grownBy x none → (x.cell? ⟨T, 0, none⟩ = some (.int .i64 (s 0)) ∧ x.cell? ⟨T, 1, none⟩ = some (.int .i64 (s 1)) ∧ x.cell? ⟨T, 2, none⟩ = some (.int .i64 (s 2)) ∧ x.cell? ⟨T, 3, none⟩ = some (.int .i64 (s 3)) ∧ x.cell? ⟨T, 4, none⟩ = some (.slice (some ⟨gC, 0, none⟩) 384 cC) ∧ x.cell? ⟨T, 5, none⟩ = some (.slice (some ⟨gE, 0, none⟩) 32 cE) ∧ x.cell? ⟨T, 6, none⟩ = some (.slice (some ⟨gI, 0, none⟩) 40 cI) ∧ x.cell? ⟨T, 7, none⟩ = some (.int .i64 (g 0)) ∧ x.cell? ⟨T, 8, none⟩ = some (.int .i64 (g 1)) ∧ x.cell? ⟨T, 9, none⟩ = some (.int .i64 (g 2)) ∧ x.cell? ⟨T, 10, none⟩ = some (.int .i64 (g 3)) ∧ x.cell? ⟨b, o + i, none⟩ = some (.int .i64 v))) := fun x hx => by
            obtain ⟨k0, k1, k2, k3, k4, k5, k6, k7, k8, k9, k10⟩ := ((unhide hW2).on hx).eleven
            exact ⟨k0, k1, k2, k3, k4, k5, k6, k7, k8, k9, k10, unhide hcl2 x hx⟩
          have hgw := hide (grown_trans (unhide hW2).grown (unhide hdr))
          have hne : Hid (w.heap.size ≤ wd.heap.size ∧ (wd.heap.size ≠ T ∧ wd.heap.size ≠ gC ∧ wd.heap.size ≠ gE ∧ wd.heap.size ≠ gI) ∧ (wd.heap.size ≠ U ∧ wd.heap.size ≠ uC ∧ wd.heap.size ≠ uE ∧ wd.heap.size ≠ uI) ∧ wd.heap.size ≠ b) := by
            have h1 := (unhide hW2).grown.size
            have h2 := (unhide hW2).hold.box.lt
            have h3 := (unhide hW2).hold.lists.cells.lt
            have h4 := (unhide hW2).hold.lists.ents.lt
            have h5 := (unhide hW2).hold.lists.items.lt
            have h6 := (unhide hU).hold.box.lt
            have h7 := (unhide hU).hold.lists.cells.lt
            have h8 := (unhide hU).hold.lists.ents.lt
            have h9 := (unhide hU).hold.lists.items.lt
            exact ⟨h1, ⟨by omega, by omega, by omega, by omega⟩, ⟨by omega, by omega, by omega, by omega⟩, by omega⟩
          have q1 : wd.heap.size ≠ T := (unhide hne).2.1.1
          have q2 : T ≠ wd.heap.size := q1.symm
          have q3 : wd.heap.size ≠ b := (unhide hne).2.2.2
          have q4 : b ≠ wd.heap.size := q3.symm
          go_region_held3 (fun x => x.cell? ⟨T, 0, none⟩ = some (.int .i64 (s 0)) ∧ x.cell? ⟨T, 1, none⟩ = some (.int .i64 (s 1)) ∧ x.cell? ⟨T, 2, none⟩ = some (.int .i64 (s 2)) ∧ x.cell? ⟨T, 3, none⟩ = some (.int .i64 (s 3)) ∧ x.cell? ⟨T, 4, none⟩ = some (.slice (some ⟨gC, 0, none⟩) 384 cC) ∧ x.cell? ⟨T, 5, none⟩ = some (.slice (some ⟨gE, 0, none⟩) 32 cE) ∧ x.cell? ⟨T, 6, none⟩ = some (.slice (some ⟨gI, 0, none⟩) 40 cI) ∧ x.cell? ⟨T, 7, none⟩ = some (.int .i64 (g 0)) ∧ x.cell? ⟨T, 8, none⟩ = some (.int .i64 (g 1)) ∧ x.cell? ⟨T, 9, none⟩ = some (.int .i64 (g 2)) ∧ x.cell? ⟨T, 10, none⟩ = some (.int .i64 (g 3)) ∧ x.cell? ⟨b, o + i, none⟩ = some (.int .i64 v)) (go_keep) (first
            | (go_at_call 13; refine (unhide cd _ (unhide hLx _ (unhide hdr))).mono ?_; rintro e wv ⟨jC, jE, jI, dC, dE, dI, rfl, hcap, l1, l2, l3, n1, n2, n3, hL, hg⟩; have hS := unhide hkeep _ (grown_trans (unhide hdr) hg); have hV := hide (Gd.law_new (s := s) (g := G) (cC := dC) (cI := dI) (unhide hgw) hcap l1 l2 l3 n1 n2 n3 hL hg); have hgv := hide (grown_trans (unhide hdr) hg); have q5 : wv.heap.size ≠ T := (by have := ((unhide hW2).on (unhide hgv)).hold.box.lt; omega); have q6 : T ≠ wv.heap.size := q5.symm; clear hcap l1 l2 l3 n1 n2 n3 hL hg; unfold Gd.world at hV ⊢)
            | (go_at_call 13; refine (unhide cd _ (unhide hLx _ (grown_alloc (unhide hdr) _))).mono ?_; rintro e wv ⟨jC, jE, jI, dC, dE, dI, rfl, hcap, l1, l2, l3, n1, n2, n3, hL, hg⟩; have hS := unhide hkeep _ (grown_trans (grown_alloc (unhide hdr) _) hg); obtain ⟨⟨z0, z1, z2, z3, z4, z5, z6, z7, z8, z9, z10⟩, fz, ⟨hz1, hz2, hz3⟩, hbx⟩ := box_facts (B := wd.heap.size) hg (heap_alloc_new wd.drew _); have hV := hide (Gd.law_laid (s := s) (g := G) (cC := dC) (cI := dI) (grown_alloc (unhide hgw) _) (unhide hne).1 (Arr.lit (heap_alloc_new _ _)).lie hcap l1 l2 l3 n1 n2 n3 hL hg); have hgv := hide (grown_trans (grown_alloc (unhide hdr) _) hg); clear hcap l1 l2 l3 n1 n2 n3 hL hg hbx hz1 hz2 hz3; unfold Gd.world at hV ⊢))
          · go_wp2_with fail
            go_meet
            exact ⟨_, jC, jE, jI, dC, dE, dI, rfl, (unhide hW2).on (grown_trans (unhide hgv) (World.grownBy_alloc _ _ _)), (unhide hU).on (grown_trans (unhide hgv) (World.grownBy_alloc _ _ _)), hV, grown_trans (unhide hgv) (World.grownBy_alloc _ _ _)⟩
          · go_wp2_with fail
            go_meet
            exact ⟨_, jC, jE, jI, dC, dE, dI, rfl, ((unhide hW2).on (unhide hgv)).aside (unhide hne).1 (unhide hne).2.1.1 (unhide hne).2.1.2.1 (unhide hne).2.1.2.2.1 (unhide hne).2.1.2.2.2 [_, _, _, _, _, _, _, _, _, _, _], ((unhide hU).on (unhide hgv)).aside (unhide hne).1 (unhide hne).2.2.1.1 (unhide hne).2.2.1.2.1 (unhide hne).2.2.1.2.2.1 (unhide hne).2.2.1.2.2.2 [_, _, _, _, _, _, _, _, _, _, _], hV, own_sets (Nat.le_refl _) [_, _, _, _, _, _, _, _, _, _, _] 0 _ (unhide hgv)⟩
        case rest =>
          obtain ⟨V, jC, jE, jI, dC, dE, dI, rfl, hW3, hU3, hV3, hgd⟩ := hcut
          clear b0 b1 b2 b3 b4 b5 b6 b7 b8 b9 b10 hcell hbl cd hW2 hU
          have hcl3 : Hid (∀ x, wc.grownBy x none → x.cell? ⟨b, o + i, none⟩ = some (.int .i64 v)) := fun x hx => unhide hcl2 x (grown_trans (unhide hgd) hx)
          have hdr := hide (grown_drew1 (World.grownBy.refl wc none))
          have hLU : Hid (∀ y, wc.grownBy y none → Gd.Lists y uC uE uI c E I) := fun y hy => (unhide hU3).hold.lists.on hy
          have hkeep : Hid (∀ x, wc.grownBy x none → ((x.cell? ⟨T, 0, none⟩ = some (.int .i64 (s 0)) ∧ x.cell? ⟨T, 1, none⟩ = some (.int .i64 (s 1)) ∧ x.cell? ⟨T, 2, none⟩ = some (.int .i64 (s 2)) ∧ x.cell? ⟨T, 3, none⟩ = some (.int .i64 (s 3)) ∧ x.cell? ⟨T, 4, none⟩ = some (.slice (some ⟨gC, 0, none⟩) 384 cC) ∧ x.cell? ⟨T, 5, none⟩ = some (.slice (some ⟨gE, 0, none⟩) 32 cE) ∧ x.cell? ⟨T, 6, none⟩ = some (.slice (some ⟨gI, 0, none⟩) 40 cI) ∧ x.cell? ⟨T, 7, none⟩ = some (.int .i64 (g 0)) ∧ x.cell? ⟨T, 8, none⟩ = some (.int .i64 (g 1)) ∧ x.cell? ⟨T, 9, none⟩ = some (.int .i64 (g 2)) ∧ x.cell? ⟨T, 10, none⟩ = some (.int .i64 (g 3))) ∧ (x.cell? ⟨U, 0, none⟩ = some (.int .i64 (s 0)) ∧ x.cell? ⟨U, 1, none⟩ = some (.int .i64 (s 1)) ∧ x.cell? ⟨U, 2, none⟩ = some (.int .i64 (s 2)) ∧ x.cell? ⟨U, 3, none⟩ = some (.int .i64 (s 3)) ∧ x.cell? ⟨U, 4, none⟩ = some (.slice (some ⟨uC, 0, none⟩) 384 eC) ∧ x.cell? ⟨U, 5, none⟩ = some (.slice (some ⟨uE, 0, none⟩) 32 eE) ∧ x.cell? ⟨U, 6, none⟩ = some (.slice (some ⟨uI, 0, none⟩) 40 eI) ∧ x.cell? ⟨U, 7, none⟩ = some (.int .i64 (g 0)) ∧ x.cell? ⟨U, 8, none⟩ = some (.int .i64 (g 1)) ∧ x.cell? ⟨U, 9, none⟩ = some (.int .i64 (g 2)) ∧ x.cell? ⟨U, 10, none⟩ = some (.int .i64 (g 3))) ∧ (x.cell? ⟨V, 0, none⟩ = some (.int .i64 (s 0)) ∧ x.cell? ⟨V, 1, none⟩ = some (.int .i64 (s 1)) ∧ x.cell? ⟨V, 2, none⟩ = some (.int .i64 (s 2)) ∧ x.cell? ⟨V, 3, none⟩ = some (.int .i64 (s 3)) ∧ x.cell? ⟨V, 4, none⟩ = some (.slice (some ⟨jC, 0, none⟩) 384 dC) ∧ x.cell? ⟨V, 5, none⟩ = some (.slice (some ⟨jE, 0, none⟩) 32 dE) ∧ x.cell? ⟨V, 6, none⟩ = some (.slice (some ⟨jI, 0, none⟩) 40 dI) ∧ x.cell? ⟨V, 7, none⟩ = some (.int .i64 (G 0)) ∧ x.cell? ⟨V, 8, none⟩ = some (.int .i64 (G 1)) ∧ x.cell? ⟨V, 9, none⟩ = some (.int .i64 (G 2)) ∧ x.cell? ⟨V, 10, none⟩ = some (.int .i64 (G 3))) ∧ x.cell? ⟨b, o + i, none⟩ = some (.int .i64 v))) := fun x hx => ⟨((unhide hW3).on hx).eleven, ((unhide hU3).on hx).eleven, ((unhide hV3).on hx).eleven, unhide hcl3 x hx⟩
          have hS0 := unhide hkeep wc (World.grownBy.refl _ _)
          have cs1 : Hid (∀ (kC kE kI e1 e2 e3 : Nat) (x : World), wc.grownBy x none → Gd.Lists x kC kE kI c E2 I2 → Calls Try.prog 14 #[.agg (Gd.world s jC jE jI dC dE dI G), .agg (Gd.world s kC kE kI e1 e2 e3 G)] x (Says x (.bool true))) := fun kC kE kI e1 e2 e3 x hx hL => same7_any s G c E2 I2 jC jE jI dC dE dI kC kE kI e1 e2 e3 x ((unhide hV3).hold.lists.on hx) hL
          have cs2 : Hid (∀ (x : World), wc.grownBy x none → Calls Try.prog 14 #[.agg (Gd.world s gC gE gI cC cE cI g), .agg (Gd.world s uC uE uI eC eE eI g)] x (Says x (.bool true))) := fun x hx => same7_any s g c E I gC gE gI cC cE cI uC uE uI eC eE eI x ((unhide hW3).hold.lists.on hx) ((unhide hU3).hold.lists.on hx)
          clear hcl2 hgd
          unfold Gd.world at cs1 cs2
          go_upto_region 13 with fail
          go_region_held3 (fun x => (x.cell? ⟨T, 0, none⟩ = some (.int .i64 (s 0)) ∧ x.cell? ⟨T, 1, none⟩ = some (.int .i64 (s 1)) ∧ x.cell? ⟨T, 2, none⟩ = some (.int .i64 (s 2)) ∧ x.cell? ⟨T, 3, none⟩ = some (.int .i64 (s 3)) ∧ x.cell? ⟨T, 4, none⟩ = some (.slice (some ⟨gC, 0, none⟩) 384 cC) ∧ x.cell? ⟨T, 5, none⟩ = some (.slice (some ⟨gE, 0, none⟩) 32 cE) ∧ x.cell? ⟨T, 6, none⟩ = some (.slice (some ⟨gI, 0, none⟩) 40 cI) ∧ x.cell? ⟨T, 7, none⟩ = some (.int .i64 (g 0)) ∧ x.cell? ⟨T, 8, none⟩ = some (.int .i64 (g 1)) ∧ x.cell? ⟨T, 9, none⟩ = some (.int .i64 (g 2)) ∧ x.cell? ⟨T, 10, none⟩ = some (.int .i64 (g 3))) ∧ (x.cell? ⟨U, 0, none⟩ = some (.int .i64 (s 0)) ∧ x.cell? ⟨U, 1, none⟩ = some (.int .i64 (s 1)) ∧ x.cell? ⟨U, 2, none⟩ = some (.int .i64 (s 2)) ∧ x.cell? ⟨U, 3, none⟩ = some (.int .i64 (s 3)) ∧ x.cell? ⟨U, 4, none⟩ = some (.slice (some ⟨uC, 0, none⟩) 384 eC) ∧ x.cell? ⟨U, 5, none⟩ = some (.slice (some ⟨uE, 0, none⟩) 32 eE) ∧ x.cell? ⟨U, 6, none⟩ = some (.slice (some ⟨uI, 0, none⟩) 40 eI) ∧ x.cell? ⟨U, 7, none⟩ = some (.int .i64 (g 0)) ∧ x.cell? ⟨U, 8, none⟩ = some (.int .i64 (g 1)) ∧ x.cell? ⟨U, 9, none⟩ = some (.int .i64 (g 2)) ∧ x.cell? ⟨U, 10, none⟩ = some (.int .i64 (g 3))) ∧ (x.cell? ⟨V, 0, none⟩ = some (.int .i64 (s 0)) ∧ x.cell? ⟨V, 1, none⟩ = some (.int .i64 (s 1)) ∧ x.cell? ⟨V, 2, none⟩ = some (.int .i64 (s 2)) ∧ x.cell? ⟨V, 3, none⟩ = some (.int .i64 (s 3)) ∧ x.cell? ⟨V, 4, none⟩ = some (.slice (some ⟨jC, 0, none⟩) 384 dC) ∧ x.cell? ⟨V, 5, none⟩ = some (.slice (some ⟨jE, 0, none⟩) 32 dE) ∧ x.cell? ⟨V, 6, none⟩ = some (.slice (some ⟨jI, 0, none⟩) 40 dI) ∧ x.cell? ⟨V, 7, none⟩ = some (.int .i64 (G 0)) ∧ x.cell? ⟨V, 8, none⟩ = some (.int .i64 (G 1)) ∧ x.cell? ⟨V, 9, none⟩ = some (.int .i64 (G 2)) ∧ x.cell? ⟨V, 10, none⟩ = some (.int .i64 (G 3))) ∧ x.cell? ⟨b, o + i, none⟩ = some (.int .i64 v)) (go_keep) (first
            | (go_at_call 15; refine (unhide cr _ (unhide hLU _ (unhide hdr))).mono ?_; rintro e wx ⟨kC, kE, kI, e1, e2, e3, rfl, -, -, -, -, -, -, -, hLK, hgK⟩; have hG1 := hide (grown_trans (unhide hdr) hgK); have hS1 := unhide hkeep _ (unhide hG1); have hLK' := hide hLK; clear hLK hgK; unfold Gd.world)
            | (go_at_call_of 14 (Value.agg #[.int .i64 (s 0), .int .i64 (s 1), .int .i64 (s 2), .int .i64 (s 3), .slice (some ⟨jC, 0, none⟩) 384 dC, .slice (some ⟨jE, 0, none⟩) 32 dE, .slice (some ⟨jI, 0, none⟩) 40 dI, .int .i64 (G 0), .int .i64 (G 1), .int .i64 (G 2), .int .i64 (G 3)]); refine (unhide cs1 _ _ _ _ _ _ _ (unhide hG1) (unhide hLK')).mono ?_; rintro e wy ⟨rfl, hgy⟩; have hG2 := hide (grown_trans (unhide hG1) hgy); have hS2 := unhide hkeep _ (unhide hG2); clear hgy hS1)
            | (go_at_call_of 14 (Value.agg #[.int .i64 (s 0), .int .i64 (s 1), .int .i64 (s 2), .int .i64 (s 3), .slice (some ⟨gC, 0, none⟩) 384 cC, .slice (some ⟨gE, 0, none⟩) 32 cE, .slice (some ⟨gI, 0, none⟩) 40 cI, .int .i64 (g 0), .int .i64 (g 1), .int .i64 (g 2), .int .i64 (g 3)]); refine (unhide cs2 _ (unhide hG2)).mono ?_; rintro e wz ⟨rfl, hgz⟩; have hG3 := hide (grown_trans (unhide hG2) hgz); have hS3 := unhide hkeep _ (unhide hG3); clear hgz hS2))
          have hW4 := hide ((unhide hW3).on (unhide hG3))
          have hV4 := hide ((unhide hV3).on (unhide hG3))
          clear hS0 hS3 hcl3 hW3 hU3 hV3
          obtain ⟨b0, b1, b2, b3, b4, b5, b6, b7, b8, b9, b10⟩ := (unhide hW4).eleven
          obtain ⟨d0, d1, d2, d3, d4, d5, d6, d7, d8, d9, d10⟩ := (unhide hV4).eleven
          have fT := (unhide hW4).hold.box.free
          have hfin : Hid (Gd.Law w _ T jC jE jI dC dE dI s G c E2 I2) := (unhide hW4).take (unhide hV4)
          clear hW4 hV4
          go_wp2
          go_roundw
          case rel => exact ⟨i + 1, G, E2, I2, jC, jE, jI, dC, dE, dI, by have := unhide HL; omega, by have := unhide HL; omega, by go_num, hnext, hfin⟩
          case measure => simp [intOf]; have := unhide HL; omega
    · by_cases hl : i < len6
      · have hl' : (i : Int) < (len6 : Int) := by omega
        have h20 : ¬ (i : Int) < 20 := by omega
        have hfin := hide (unhide hW).grown
        clear hlt hi hi20
        go_wp2
        go_ret
        exact ⟨rfl, none_below (unhide hfin)⟩
      · have hl' : ¬ (i : Int) < (len6 : Int) := by omega
        have hfin := hide (unhide hW).grown
        clear hlt hi hi20
        go_wp2
        go_ret
        exact ⟨rfl, none_below (unhide hfin)⟩

set_option maxRecDepth 100000 in
theorem lifted (os : Os) (started : os.Started) (H : Type) (enc : TypeId × Value → H) :
    ReturnsInHanded {} Try.checked os 3 .any (Rows.goodsDoSpec.pre6 enc Try.prog Try.f3 Rows.goodsDoRow.domain false) (Rows.goodsDoSpec.post enc Try.prog Try.f3 false true false false) := by
  refine returnsInHanded_of_change (C := Try.checked) own started (by kernel_rfl) Try.func3
    (ChangeSpec.witness6 (enc := enc) (C := Try.checked) false ⟨#[], #[.int .i64 0, .int .i64 0, .int .i64 0, .int .i64 0, .slice none 0 0, .int .i64 0, .slice none 0 0], []⟩ 8 (by kernel_rfl) (by kernel_rfl) (by kernel_rfl) (by kernel_rfl)) ?_
  intro W base args ds gs before hval0 hW hcnd _
  have hval : ∀ (j : Nat) t v, Try.f3.params[j]? = some t → args[j]? = some v → Value.okWide Try.prog W .any base t v := hval0
  have hW' := hW
  obtain ⟨p, q, hA0, hV, rfl, hfz, hnd⟩ := hW
  have hA : DataW.TrodAll enc Try.prog W 0 (fun _ => true) true Try.f3.params.toList args.toList ds p := hA0
  rw [Try.params3] at hA hval
  obtain ⟨v0, vs0, d0, ds0, p0, q0, hargs, rfl, rfl, h0, r0⟩ := trodAll_cons hA
  obtain ⟨v1, vs1, d1, ds1, p1, q1, rfl, rfl, rfl, h1, r1⟩ := trodAll_cons r0
  obtain ⟨v2, vs2, d2, ds2, p2, q2, rfl, rfl, rfl, h2, r2⟩ := trodAll_cons r1
  obtain ⟨v3, vs3, d3, ds3, p3, q3, rfl, rfl, rfl, h3, r3⟩ := trodAll_cons r2
  obtain ⟨v4, vs4, d4, ds4, p4, q4, rfl, rfl, rfl, h4, r4⟩ := trodAll_cons r3
  obtain ⟨v5, vs5, d5, ds5, p5, q5, rfl, rfl, rfl, h5, r5⟩ := trodAll_cons r4
  obtain ⟨v6, vs6, d6, ds6, p6, q6, rfl, rfl, rfl, h6, r6⟩ := trodAll_cons r5
  obtain ⟨rfl, rfl, rfl⟩ := trodAll_nil r6
  obtain rfl : args = #[v0, v1, v2, v3, v4, v5, v6] := by cases args; simp_all
  obtain ⟨rfl, rfl⟩ := trodVars_none hV
  obtain ⟨a0, rfl, rfl, rfl, w0⟩ := open_int Try.underlying2 (hval 0 2 v0 rfl rfl) h0
  obtain ⟨a1, rfl, rfl, rfl, w1⟩ := open_int Try.underlying3 (hval 1 3 v1 rfl rfl) h1
  obtain ⟨a2, rfl, rfl, rfl, w2⟩ := open_int Try.underlying3 (hval 2 3 v2 rfl rfl) h2
  obtain ⟨a3, rfl, rfl, rfl, w3⟩ := open_int Try.underlying3 (hval 3 3 v3 rfl rfl) h3
  obtain ⟨a4, len4, cap4, rfl⟩ := okWide_slice Try.underlying22 (hval 4 22 v4 rfl rfl)
  have k4 := h4
  have lt4 : ∀ x ∈ p4, x.block < W.heap.size := by obtain ⟨m, hm⟩ := k4; exact DataW.trod_lt m _ _ _ hm
  obtain ⟨z4, w4⟩ : ∃ M, ItArg W a4 len4 cap4 M := by
    obtain ⟨fuel, hf⟩ := h4
    exact open_items (by simpa [Value.cells] using hf)
  obtain ⟨a5, rfl, rfl, rfl, w5⟩ := open_int Try.underlying3 (hval 5 3 v5 rfl rfl) h5
  obtain ⟨a6, len6, cap6, rfl⟩ := okWide_slice Try.underlying23 (hval 6 23 v6 rfl rfl)
  have k6 := h6
  have lt6 : ∀ x ∈ p6, x.block < W.heap.size := by obtain ⟨m, hm⟩ := k6; exact DataW.trod_lt m _ _ _ hm
  obtain ⟨z6, w6⟩ : ∃ zs, IsRow .i64 W a6 len6 cap6 zs := by
    obtain ⟨fuel, hf⟩ := h6
    rcases open_ints Try.underlying23 Try.underlying3 (by kernel_rfl) hf with ⟨hcs, _⟩ | ⟨x, l, c, zs, hcs, _, hl, hm, hz, _, hcell, hwz⟩
    · simp [Value.cells] at hcs
      obtain ⟨rfl, rfl, rfl⟩ := hcs
      exact ⟨[], .inl ⟨rfl, rfl, rfl, rfl⟩⟩
    · simp [Value.cells] at hcs
      obtain ⟨rfl, rfl, rfl⟩ := hcs
      exact ⟨zs, .inr ⟨_, rfl, hl, hm, by simpa using hz, hcell, hwz⟩⟩
  clear hA0 hval0
  refine (walk a0 a1 a2 a3 a4 len4 cap4 z4 a5 a6 len6 cap6 z6 W w0 w1 w2 w3 w4 w5 w6).mono fun e W' ⟨he, bel⟩ => ?_
  subst he
  exact ⟨_, rfl, _, _, _, [], _, [], hW', trodAll_mk1 (shut_bool Try.underlying4 _), (trodAll_cons_mk (shut_int Try.underlying2 w0) (trodAll_cons_mk (shut_int Try.underlying3 w1) (trodAll_cons_mk (shut_int Try.underlying3 w2) (trodAll_cons_mk (shut_int Try.underlying3 w3) (trodAll_cons_mk (Below.trod laidOut (by kernel_rfl) (of_decide_eq_true (by kernel_rfl)) k4 bel lt4) (trodAll_cons_mk (shut_int Try.underlying3 w5) (trodAll_cons_mk (Below.trod laidOut (by kernel_rfl) (of_decide_eq_true (by kernel_rfl)) k6 bel lt6) trodAll_mk0))))))), rfl, bel.frame _, fun h => by cases h⟩

theorem over : Rows.goodsDoRow.holds Try.pinned (OpenSpec.ofChange Rows.goodsDoSpec) :=
  OpenClaim.holds_of_wide 3 Try.f3 rfl rfl rfl rfl rfl rfl rfl ⟨rfl, rfl, rfl, rfl, rfl⟩ rfl rfl rfl rfl rfl (by kernel_rfl) Try.func3 (by kernel_rfl)
    (of_decide_eq_true (by kernel_rfl)) (by unfold Func.isWrapper; first | (rw [if_pos (by decide +kernel)]; kernel_rfl) | (rw [if_neg (by decide +kernel)]; exact ⟨rfl, rfl⟩))
    (fun os started H enc _ => lifted os started H enc)

theorem proved : Rows.GoodsDoSaid := over
#print axioms proved
end Go.Proofs.Ytgkomdpceilggaa.goodsDo
