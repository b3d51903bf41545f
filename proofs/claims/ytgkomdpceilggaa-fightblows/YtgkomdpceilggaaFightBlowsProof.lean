/-
  Whoever hits whom, whatever hurts, and what is left by it, the world behind it is the document's, blow by blow, and what it was done to stays: for every seed, floor, kinds, items, frame and rows of blows, at this commit; no condition.
-/
import Derived.Test.YtgkomdpceilggaaRows
import Derived.WalkKit
import Derived.ProofKit
import Derived.OpenShut
import Derived.Test.YtgkomdpceilggaaPart39
import Derived.Test.YtgkomdpceilggaaPart38
import Derived.Test.YtgkomdpceilggaaPart37
import Derived.Test.YtgkomdpceilggaaPart36
import Derived.Test.YtgkomdpceilggaaPart32
import Derived.Test.YtgkomdpceilggaaPart24
import Derived.BigQuiet
import Derived.Deep.Cut
import Derived.Deep.CutRange
import Derived.Deep.CutBlock
import Derived.Deep.RegionWith
import Derived.Deep.RegionHeld3
import Derived.ShutString
import Derived.ChangeOld
import Derived.Below
namespace Go.Proofs.Ytgkomdpceilggaa.fightBlows
open Go.ChangeShapes Go.WideShapes Go.ChangeAt Go.RowKit
open Go.ChangeMaps (open_string shut_string)
set_option linter.unusedVariables false

theorem own : ownKnob Try.prog.godebug = none := by kernel_rfl
theorem laidOut : laidOutB Try.prog = true := by kernel_rfl

/-- WHAT THE WALK IS TOLD OF A SLICE OF INTEGERS THAT CAME IN: it is nil; or it leads to a row of 'cap' cells, the numbers 'zs' (the first 'len' are its elements, the rest its spare room), each fitting its kind. -/
def IsRow (k : IntKind) (w : World) (a : Option Addr) (len cap : Nat) (zs : List Int) : Prop :=
  (a = none ∧ len = 0 ∧ cap = 0 ∧ zs = []) ∨
  ∃ x, a = some x ∧ len ≤ cap ∧ cap ≤ maxLen ∧ zs.length = cap ∧ (∀ i, i < zs.length → w.cell? (x.add i) = some (.int k (zs.getD i 0))) ∧ ∀ n ∈ zs, (Lit.int k n).wf = true

theorem IsRow.num {w : World} {a : Option Addr} {len cap : Nat} {zs : List Int} (h : IsRow .i64 w a len cap zs) : NumArg w a len (fun i => zs.getD i 0) := by
  rcases h with ⟨rfl, rfl, rfl, rfl⟩ | ⟨x, rfl, hl, hm, hz, hcell, _⟩
  · exact ⟨Nat.zero_le _, .inl rfl⟩
  · refine ⟨Nat.le_trans hl hm, ?_⟩
    by_cases h0 : len = 0
    · exact .inl h0
    · right
      obtain ⟨b, off, spot⟩ := x
      have hspot : spot = none := by simpa [Addr.add] using World.cell?_spot (hcell 0 (by omega))
      subst hspot
      have hlt := Go.block_lt_of_cell (hcell 0 (by omega))
      refine ⟨b, off, rfl, by simpa [Addr.add] using hlt, fun i hi => ?_⟩
      have h := hcell i (by omega)
      by_cases hi0 : i = 0
      · subst hi0
        simpa [Addr.add] using h
      · simpa [Addr.add, hi0] using h


set_option maxRecDepth 8000 in
set_option maxHeartbeats 12800000 in

theorem walk (a0 : Int) (a1 : Int) (a2 : Option Addr) (len2 cap2 : Nat) (z2 : List Int) (a3 : Option Addr) (len3 cap3 : Nat) (z3 : Nat → Nat → Int) (a4 : Int) (a5 : Option Addr) (len5 cap5 : Nat) (z5 : List Int) (a6 : Option Addr) (len6 cap6 : Nat) (z6 : List Int) (w : World) (w0 : (Lit.int .i64 a0).wf = true) (w1 : (Lit.int .i64 a1).wf = true) (w2 : IsRow .i64 w a2 len2 cap2 z2) (w3 : ItArg w a3 len3 cap3 z3) (w4 : (Lit.int .i64 a4).wf = true) (w5 : IsRow .i64 w a5 len5 cap5 z5) (w6 : IsRow .i64 w a6 len6 cap6 z6) :
    Calls Try.prog 7 #[.int .i64 a0, .int .i64 a1, .slice a2 len2 cap2, .slice a3 len3 cap3, .int .i64 a4, .slice a5 len5 cap5, .slice a6 len6 cap6] w fun e w' => e = .returned (.bool true) ∧ Below w.heap.size w w' := by
  have hKd := hide (IsRow.num w2)
  have hFr := hide (IsRow.num w5)
  have hTo := hide (IsRow.num w6)
  have hIt := hide w3
  have hm5 := (unhide hFr).most
  have hm6 := (unhide hTo).most
  unfold maxLen at hm5 hm6
  clear w0 w1 w2 w3 w4 w5 w6
  obtain ⟨f, hf⟩ : ∃ f : Nat → Int, f = fun i => z5.getD i 0 := ⟨_, rfl⟩
  rw [← hf] at hFr
  obtain ⟨h, hh⟩ : ∃ f : Nat → Int, f = fun i => z6.getD i 0 := ⟨_, rfl⟩
  rw [← hh] at hTo
  clear hf hh
  go_enter Try.func7, Try.ntmps7
  go_wp2_with fail
  refine (known8_any _).mono ?_
  rintro e wk ⟨rfl, hgk⟩
  have hIk := hide ((unhide hIt).on hgk)
  have hKk := hide ((unhide hKd).on hgk)
  have hgk' := hide hgk
  clear hgk hIt hKd
  go_wp2_with fail
  refine (crowd_any a0 a1 a4 a2 len2 cap2 _ a3 len3 cap3 z3 wk (unhide hKk) (unhide hIk)).mono ?_
  rintro e wa ⟨c, s, g, E, I, hFit, -, -, -, gC, gE, gI, cC, cE, cI, rfl, hcap, l1, l2, l3, n1, n2, n3, hL, hg⟩
  have hW := hide (Gd.law_new (s := s) (g := g) (cC := cC) (cI := cI) (unhide hgk') hcap l1 l2 l3 n1 n2 n3 hL hg)
  have hF := hide hFit
  clear hcap l1 l2 l3 n1 n2 n3 hL hg hFit hIk hKk hgk'
  unfold Gd.world at hW ⊢
  go_upto_region 4 with fail
  obtain ⟨T, hT⟩ : ∃ T, wa.heap.size = T := ⟨_, rfl⟩
  rw [hT] at hW ⊢
  generalize wa.alloc (.cells #[.int .i64 (s 0), .int .i64 (s 1), .int .i64 (s 2), .int .i64 (s 3), .slice (some ⟨gC, 0, none⟩) 384 cC, .slice (some ⟨gE, 0, none⟩) 32 cE, .slice (some ⟨gI, 0, none⟩) 40 cI, .int .i64 (g 0), .int .i64 (g 1), .int .i64 (g 2), .int .i64 (g 3)] 29) = wb at hW ⊢
  clear hT
  go_wp2_with fail
  go_loopw [16] (fun vi wr => ∃ (i : Nat) (E I : Nat → Nat → Int) (gC gE gI cC cE cI : Nat), i ≤ 20 ∧ vi = .int .i64 (i : Int) ∧ Hid (Ft.Fit c E I) ∧ Hid (Gd.Law w wr T gC gE gI cC cE cI s g c E I)) (fun vi _ => 30 - (intOf vi).toNat)
  case atStart => exact ⟨0, E, I, gC, gE, gI, cC, cE, cI, by omega, rfl, hF, hW⟩
  case round =>
    clear hF hW
    obtain ⟨i, E, I, gC, gE, gI, cC, cE, cI, hi20, rfl, hF, hW⟩ := hrel
    by_cases hlt : i < len5 ∧ i < len6 ∧ i < 20
    · have hlt1 : (i : Int) < (len5 : Int) := by omega
      have hlt2 : (i : Int) < (len6 : Int) := by omega
      have hlt3 : (i : Int) < 20 := by omega
      have HL := hide hlt
      obtain ⟨p, o, rfl, hpl, hp⟩ := ((unhide hFr).on (unhide hW).grown).at hlt.1
      obtain ⟨q, u, rfl, hql, hq⟩ := ((unhide hTo).on (unhide hW).grown).at hlt.2.1
      obtain ⟨x1, hx⟩ : ∃ v, f i = v := ⟨_, rfl⟩
      obtain ⟨y1, hy⟩ : ∃ v, h i = v := ⟨_, rfl⟩
      rw [hx] at hp
      rw [hy] at hq
      have hcl0 : Hid (∀ x, wr.grownBy x none → (x.cell? ⟨p, o + i, none⟩ = some (.int .i64 x1) ∧ x.cell? ⟨q, u + i, none⟩ = some (.int .i64 y1))) := fun x hx => ⟨(grown_cell hx p _ hpl (by simp)).trans hp, (grown_cell hx q _ hql (by simp)).trans hq⟩
      have hpl0 := hide hpl
      have hql0 := hide hql
      clear hlt hi20 hx hy hpl hql
      obtain ⟨b0, b1, b2, b3, b4, b5, b6, b7, b8, b9, b10⟩ := (unhide hW).eleven
      have ctw := hide (refTwin_any s g c E I gC gE gI cC cE cI _ (unhide hW).hold.lists)
      unfold Gd.world at ctw
      go_wp2_with fail
      refine (unhide ctw).mono ?_
      rintro e wu ⟨uC, uE, uI, eC, eE, eI, rfl, hcap, l1, l2, l3, n1, n2, n3, hL, hg⟩
      have hU := hide (Gd.law_new (s := s) (g := g) (cC := eC) (cI := eI) (unhide hW).grown hcap l1 l2 l3 n1 n2 n3 hL hg)
      have hg2 := hide (grown_trans hg (World.grownBy_alloc wu (.cells #[.int .i64 (s 0), .int .i64 (s 1), .int .i64 (s 2), .int .i64 (s 3), .slice (some ⟨uC, 0, none⟩) 384 eC, .slice (some ⟨uE, 0, none⟩) 32 eE, .slice (some ⟨uI, 0, none⟩) 40 eI, .int .i64 (g 0), .int .i64 (g 1), .int .i64 (g 2), .int .i64 (g 3)] 29) none))
      have hUT : Hid (wu.heap.size ≠ T) := (by have := ((unhide hW).on hg).hold.box.lt; exact Nat.ne_of_gt this)
      have hW2 := hide ((unhide hW).on (unhide hg2))
      clear hcap l1 l2 l3 n1 n2 n3 hL hg ctw b0 b1 b2 b3 b4 b5 b6 b7 b8 b9 b10 hp hq
      unfold Gd.world at hU ⊢
      go_upto_region 8 with fail
      obtain ⟨U, hUe⟩ : ∃ U, wu.heap.size = U := ⟨_, rfl⟩
      rw [hUe] at hU hUT ⊢
      generalize wu.alloc (.cells #[.int .i64 (s 0), .int .i64 (s 1), .int .i64 (s 2), .int .i64 (s 3), .slice (some ⟨uC, 0, none⟩) 384 eC, .slice (some ⟨uE, 0, none⟩) 32 eE, .slice (some ⟨uI, 0, none⟩) 40 eI, .int .i64 (g 0), .int .i64 (g 1), .int .i64 (g 2), .int .i64 (g 3)] 29) = wd at hU hW2 hg2 ⊢
      have hcl : Hid (∀ x, wd.grownBy x none → (x.cell? ⟨p, o + i, none⟩ = some (.int .i64 x1) ∧ x.cell? ⟨q, u + i, none⟩ = some (.int .i64 y1))) := fun x hx => unhide hcl0 x (grown_trans (unhide hg2) hx)
      have hpl : Hid (p < wd.heap.size) := Nat.lt_of_lt_of_le (unhide hpl0) (unhide hg2).size
      have hql : Hid (q < wd.heap.size) := Nat.lt_of_lt_of_le (unhide hql0) (unhide hg2).size
      have ch := hide (fun x hx => fightHit_any s g c E I gC gE gI cC cE cI x1 y1 x hx (unhide hF))
      have cr := hide (fun x hx => refHit8_any s g c E I uC uE uI eC eE eI x1 y1 x hx (unhide hF))
      have hF1 := hide ((unhide hF).hit s x1 y1)
      obtain ⟨E1, hE1⟩ : ∃ G, Ft.hitE s E I x1 y1 = G := ⟨_, rfl⟩
      obtain ⟨I1, hI1⟩ : ∃ G, Ft.hitI s E I x1 y1 = G := ⟨_, rfl⟩
      rw [hE1, hI1] at ch cr hF1
      clear hE1 hI1 hcl0 hpl0 hql0 hW hg2 hUe
      unfold Gd.world at ch cr
      have hgb := hide (World.grownBy.refl wd none)
      obtain ⟨b0, b1, b2, b3, b4, b5, b6, b7, b8, b9, b10⟩ := (unhide hW2).eleven
      have hpc := (unhide hcl wd (unhide hgb)).1
      have hqc := (unhide hcl wd (unhide hgb)).2
      go_upto_region 8 with fail
      go_cut [18] from 42 to 55 (fun va wx => ∃ V jC jE jI dC dE dI, va = .pointer (some ⟨V, 0, none⟩) ∧ Hid (Gd.Law w wx T gC gE gI cC cE cI s g c E I) ∧ Hid (Gd.Law w wx U uC uE uI eC eE eI s g c E I) ∧ Hid (Gd.Law w wx V jC jE jI dC dE dI s g c E1 I1) ∧ Hid (wd.grownBy wx none) ∧ Hid (V ≠ T ∧ V ≠ U))
      case first =>
        have hdr := hide (grown_drew1 (World.grownBy.refl wd none))
        have hLx : Hid (∀ y, wd.grownBy y none → Gd.Lists y gC gE gI c E I) := fun y hy => (unhide hW2).hold.lists.on hy
        have hkeep : Hid (∀ x, wd.grownBy x none → ((x.cell? ⟨T, 0, none⟩ = some (.int .i64 (s 0)) ∧ x.cell? ⟨T, 1, none⟩ = some (.int .i64 (s 1)) ∧ x.cell? ⟨T, 2, none⟩ = some (.int .i64 (s 2)) ∧ x.cell? ⟨T, 3, none⟩ = some (.int .i64 (s 3)) ∧ x.cell? ⟨T, 4, none⟩ = some (.slice (some ⟨gC, 0, none⟩) 384 cC) ∧ x.cell? ⟨T, 5, none⟩ = some (.slice (some ⟨gE, 0, none⟩) 32 cE) ∧ x.cell? ⟨T, 6, none⟩ = some (.slice (some ⟨gI, 0, none⟩) 40 cI) ∧ x.cell? ⟨T, 7, none⟩ = some (.int .i64 (g 0)) ∧ x.cell? ⟨T, 8, none⟩ = some (.int .i64 (g 1)) ∧ x.cell? ⟨T, 9, none⟩ = some (.int .i64 (g 2)) ∧ x.cell? ⟨T, 10, none⟩ = some (.int .i64 (g 3))) ∧ x.cell? ⟨p, o + i, none⟩ = some (.int .i64 x1) ∧ x.cell? ⟨q, u + i, none⟩ = some (.int .i64 y1))) := fun x hx => ⟨((unhide hW2).on hx).eleven, unhide hcl x (grown_trans (unhide hgb) hx)⟩
        have hgw := hide (grown_trans (unhide hW2).grown (unhide hdr))
        have hne : Hid (w.heap.size ≤ wd.heap.size ∧ (wd.heap.size ≠ T ∧ wd.heap.size ≠ gC ∧ wd.heap.size ≠ gE ∧ wd.heap.size ≠ gI) ∧ (wd.heap.size ≠ U ∧ wd.heap.size ≠ uC ∧ wd.heap.size ≠ uE ∧ wd.heap.size ≠ uI) ∧ wd.heap.size ≠ p ∧ wd.heap.size ≠ q) := by
          have h0 := (unhide hW2).grown.size
          have k0a := (unhide hW2).hold.box.lt
          have k0b := (unhide hW2).hold.lists.cells.lt
          have k0c := (unhide hW2).hold.lists.ents.lt
          have k0d := (unhide hW2).hold.lists.items.lt
          have k1a := (unhide hU).hold.box.lt
          have k1b := (unhide hU).hold.lists.cells.lt
          have k1c := (unhide hU).hold.lists.ents.lt
          have k1d := (unhide hU).hold.lists.items.lt
          have h1 : p < wd.heap.size := Nat.lt_of_lt_of_le (unhide hpl) (unhide hgb).size
          have h2 : q < wd.heap.size := Nat.lt_of_lt_of_le (unhide hql) (unhide hgb).size
          exact ⟨h0, ⟨by omega, by omega, by omega, by omega⟩, ⟨by omega, by omega, by omega, by omega⟩, by omega, by omega⟩
        have q1 : wd.heap.size ≠ T := (unhide hne).2.1.1
        have q2 : T ≠ wd.heap.size := q1.symm
        have q3 : wd.heap.size ≠ p := (unhide hne).2.2.2.1
        have q4 : p ≠ wd.heap.size := q3.symm
        have q7 : wd.heap.size ≠ q := (unhide hne).2.2.2.2
        have q8 : q ≠ wd.heap.size := q7.symm
        go_region_held3 (fun x => (x.cell? ⟨T, 0, none⟩ = some (.int .i64 (s 0)) ∧ x.cell? ⟨T, 1, none⟩ = some (.int .i64 (s 1)) ∧ x.cell? ⟨T, 2, none⟩ = some (.int .i64 (s 2)) ∧ x.cell? ⟨T, 3, none⟩ = some (.int .i64 (s 3)) ∧ x.cell? ⟨T, 4, none⟩ = some (.slice (some ⟨gC, 0, none⟩) 384 cC) ∧ x.cell? ⟨T, 5, none⟩ = some (.slice (some ⟨gE, 0, none⟩) 32 cE) ∧ x.cell? ⟨T, 6, none⟩ = some (.slice (some ⟨gI, 0, none⟩) 40 cI) ∧ x.cell? ⟨T, 7, none⟩ = some (.int .i64 (g 0)) ∧ x.cell? ⟨T, 8, none⟩ = some (.int .i64 (g 1)) ∧ x.cell? ⟨T, 9, none⟩ = some (.int .i64 (g 2)) ∧ x.cell? ⟨T, 10, none⟩ = some (.int .i64 (g 3))) ∧ x.cell? ⟨p, o + i, none⟩ = some (.int .i64 x1) ∧ x.cell? ⟨q, u + i, none⟩ = some (.int .i64 y1)) (go_keep) (first
          | (go_at_call 27; refine (unhide ch _ (unhide hLx _ (unhide hdr))).mono ?_; rintro e wv ⟨jC, jE, jI, dC, dE, dI, rfl, hcap, l1, l2, l3, n1, n2, n3, hL, hg⟩; have hS := unhide hkeep _ (grown_trans (unhide hdr) hg); have hV := hide (Gd.law_new (s := s) (g := g) (cC := dC) (cI := dI) (unhide hgw) hcap l1 l2 l3 n1 n2 n3 hL hg); have hgv := hide (grown_trans (unhide hdr) hg); have q5 : wv.heap.size ≠ T := (by have := ((unhide hW2).on (unhide hgv)).hold.box.lt; omega); have q6 : T ≠ wv.heap.size := q5.symm; clear hcap l1 l2 l3 n1 n2 n3 hL hg; unfold Gd.world at hV ⊢)
          | (go_at_call 27; refine (unhide ch _ (unhide hLx _ (grown_alloc (unhide hdr) _))).mono ?_; rintro e wv ⟨jC, jE, jI, dC, dE, dI, rfl, hcap, l1, l2, l3, n1, n2, n3, hL, hg⟩; have hS := unhide hkeep _ (grown_trans (grown_alloc (unhide hdr) _) hg); obtain ⟨⟨z0, z1, z2, z3, z4, z5, z6, z7, z8, z9, z10⟩, fz, ⟨hz1, hz2, hz3⟩, hbx⟩ := box_facts (B := wd.heap.size) hg (heap_alloc_new wd.drew _); have hV := hide (Gd.law_laid (s := s) (g := g) (cC := dC) (cI := dI) (grown_alloc (unhide hgw) _) (unhide hne).1 (Arr.lit (heap_alloc_new _ _)).lie hcap l1 l2 l3 n1 n2 n3 hL hg); have hgv := hide (grown_trans (grown_alloc (unhide hdr) _) hg); clear hcap l1 l2 l3 n1 n2 n3 hL hg hbx hz1 hz2 hz3; unfold Gd.world at hV ⊢))
        · go_wp2_with fail
          go_meet
          exact ⟨_, jC, jE, jI, dC, dE, dI, rfl, (unhide hW2).on (grown_trans (unhide hgv) (World.grownBy_alloc _ _ _)), (unhide hU).on (grown_trans (unhide hgv) (World.grownBy_alloc _ _ _)), hV, grown_trans (unhide hgb) (grown_trans (unhide hgv) (World.grownBy_alloc _ _ _)), ⟨by have := ((unhide hW2).on (unhide hgv)).hold.box.lt; omega, by have := ((unhide hU).on (unhide hgv)).hold.box.lt; omega⟩⟩
        · go_wp2_with fail
          go_meet
          exact ⟨_, jC, jE, jI, dC, dE, dI, rfl, ((unhide hW2).on (unhide hgv)).aside (unhide hne).1 (unhide hne).2.1.1 (unhide hne).2.1.2.1 (unhide hne).2.1.2.2.1 (unhide hne).2.1.2.2.2 [_, _, _, _, _, _, _, _, _, _, _], ((unhide hU).on (unhide hgv)).aside (unhide hne).1 (unhide hne).2.2.1.1 (unhide hne).2.2.1.2.1 (unhide hne).2.2.1.2.2.1 (unhide hne).2.2.1.2.2.2 [_, _, _, _, _, _, _, _, _, _, _], hV, grown_trans (unhide hgb) (own_sets (Nat.le_refl _) [_, _, _, _, _, _, _, _, _, _, _] 0 _ (unhide hgv)), ⟨(unhide hne).2.1.1, (unhide hne).2.2.1.1⟩⟩
      case rest =>
        clear b0 b1 b2 b3 b4 b5 b6 b7 b8 b9 b10 hpc hqc ch hW2 hU hgb
        obtain ⟨V, jC, jE, jI, dC, dE, dI, rfl, hW3, hU3, hV3, hgd, hVT⟩ := hcut
        obtain ⟨b0, b1, b2, b3, b4, b5, b6, b7, b8, b9, b10⟩ := (unhide hU3).eleven
        have hpc := (unhide hcl wc (unhide hgd)).1
        have hqc := (unhide hcl wc (unhide hgd)).2
        go_upto_region 9 with fail
        go_cut [19] from 56 to 65 (fun va wx => ∃ X kC kE kI fC fE fI, va = .pointer (some ⟨X, 0, none⟩) ∧ Hid (Gd.Law w wx T gC gE gI cC cE cI s g c E I) ∧ Hid (Gd.Law w wx U uC uE uI eC eE eI s g c E I) ∧ Hid (Gd.Law w wx V jC jE jI dC dE dI s g c E1 I1) ∧ Hid (Gd.Law w wx X kC kE kI fC fE fI s g c E1 I1) ∧ Hid (wd.grownBy wx none) ∧ Hid (X ≠ T ∧ X ≠ U ∧ X ≠ V))
        case first =>
          have hdr := hide (grown_drew1 (World.grownBy.refl wc none))
          have hLx : Hid (∀ y, wc.grownBy y none → Gd.Lists y uC uE uI c E I) := fun y hy => (unhide hU3).hold.lists.on hy
          have hkeep : Hid (∀ x, wc.grownBy x none → ((x.cell? ⟨U, 0, none⟩ = some (.int .i64 (s 0)) ∧ x.cell? ⟨U, 1, none⟩ = some (.int .i64 (s 1)) ∧ x.cell? ⟨U, 2, none⟩ = some (.int .i64 (s 2)) ∧ x.cell? ⟨U, 3, none⟩ = some (.int .i64 (s 3)) ∧ x.cell? ⟨U, 4, none⟩ = some (.slice (some ⟨uC, 0, none⟩) 384 eC) ∧ x.cell? ⟨U, 5, none⟩ = some (.slice (some ⟨uE, 0, none⟩) 32 eE) ∧ x.cell? ⟨U, 6, none⟩ = some (.slice (some ⟨uI, 0, none⟩) 40 eI) ∧ x.cell? ⟨U, 7, none⟩ = some (.int .i64 (g 0)) ∧ x.cell? ⟨U, 8, none⟩ = some (.int .i64 (g 1)) ∧ x.cell? ⟨U, 9, none⟩ = some (.int .i64 (g 2)) ∧ x.cell? ⟨U, 10, none⟩ = some (.int .i64 (g 3))) ∧ x.cell? ⟨p, o + i, none⟩ = some (.int .i64 x1) ∧ x.cell? ⟨q, u + i, none⟩ = some (.int .i64 y1))) := fun x hx => ⟨((unhide hU3).on hx).eleven, unhide hcl x (grown_trans (unhide hgd) hx)⟩
          have hgw := hide (grown_trans (unhide hU3).grown (unhide hdr))
          have hne : Hid (w.heap.size ≤ wc.heap.size ∧ (wc.heap.size ≠ T ∧ wc.heap.size ≠ gC ∧ wc.heap.size ≠ gE ∧ wc.heap.size ≠ gI) ∧ (wc.heap.size ≠ U ∧ wc.heap.size ≠ uC ∧ wc.heap.size ≠ uE ∧ wc.heap.size ≠ uI) ∧ (wc.heap.size ≠ V ∧ wc.heap.size ≠ jC ∧ wc.heap.size ≠ jE ∧ wc.heap.size ≠ jI) ∧ wc.heap.size ≠ p ∧ wc.heap.size ≠ q) := by
            have h0 := (unhide hW3).grown.size
            have k0a := (unhide hW3).hold.box.lt
            have k0b := (unhide hW3).hold.lists.cells.lt
            have k0c := (unhide hW3).hold.lists.ents.lt
            have k0d := (unhide hW3).hold.lists.items.lt
            have k1a := (unhide hU3).hold.box.lt
            have k1b := (unhide hU3).hold.lists.cells.lt
            have k1c := (unhide hU3).hold.lists.ents.lt
            have k1d := (unhide hU3).hold.lists.items.lt
            have k2a := (unhide hV3).hold.box.lt
            have k2b := (unhide hV3).hold.lists.cells.lt
            have k2c := (unhide hV3).hold.lists.ents.lt
            have k2d := (unhide hV3).hold.lists.items.lt
            have h1 : p < wc.heap.size := Nat.lt_of_lt_of_le (unhide hpl) (unhide hgd).size
            have h2 : q < wc.heap.size := Nat.lt_of_lt_of_le (unhide hql) (unhide hgd).size
            exact ⟨h0, ⟨by omega, by omega, by omega, by omega⟩, ⟨by omega, by omega, by omega, by omega⟩, ⟨by omega, by omega, by omega, by omega⟩, by omega, by omega⟩
          have q1 : wc.heap.size ≠ U := (unhide hne).2.2.1.1
          have q2 : U ≠ wc.heap.size := q1.symm
          have q3 : wc.heap.size ≠ p := (unhide hne).2.2.2.2.1
          have q4 : p ≠ wc.heap.size := q3.symm
          have q7 : wc.heap.size ≠ q := (unhide hne).2.2.2.2.2
          have q8 : q ≠ wc.heap.size := q7.symm
          go_region_held3 (fun x => (x.cell? ⟨U, 0, none⟩ = some (.int .i64 (s 0)) ∧ x.cell? ⟨U, 1, none⟩ = some (.int .i64 (s 1)) ∧ x.cell? ⟨U, 2, none⟩ = some (.int .i64 (s 2)) ∧ x.cell? ⟨U, 3, none⟩ = some (.int .i64 (s 3)) ∧ x.cell? ⟨U, 4, none⟩ = some (.slice (some ⟨uC, 0, none⟩) 384 eC) ∧ x.cell? ⟨U, 5, none⟩ = some (.slice (some ⟨uE, 0, none⟩) 32 eE) ∧ x.cell? ⟨U, 6, none⟩ = some (.slice (some ⟨uI, 0, none⟩) 40 eI) ∧ x.cell? ⟨U, 7, none⟩ = some (.int .i64 (g 0)) ∧ x.cell? ⟨U, 8, none⟩ = some (.int .i64 (g 1)) ∧ x.cell? ⟨U, 9, none⟩ = some (.int .i64 (g 2)) ∧ x.cell? ⟨U, 10, none⟩ = some (.int .i64 (g 3))) ∧ x.cell? ⟨p, o + i, none⟩ = some (.int .i64 x1) ∧ x.cell? ⟨q, u + i, none⟩ = some (.int .i64 y1)) (go_keep) (first
            | (go_at_call 28; refine (unhide cr _ (unhide hLx _ (unhide hdr))).mono ?_; rintro e wv ⟨kC, kE, kI, fC, fE, fI, rfl, hcap, l1, l2, l3, n1, n2, n3, hL, hg⟩; have hS := unhide hkeep _ (grown_trans (unhide hdr) hg); have hV := hide (Gd.law_new (s := s) (g := g) (cC := fC) (cI := fI) (unhide hgw) hcap l1 l2 l3 n1 n2 n3 hL hg); have hgv := hide (grown_trans (unhide hdr) hg); have q5 : wv.heap.size ≠ U := (by have := ((unhide hU3).on (unhide hgv)).hold.box.lt; omega); have q6 : U ≠ wv.heap.size := q5.symm; clear hcap l1 l2 l3 n1 n2 n3 hL hg; unfold Gd.world at hV ⊢)
            | (go_at_call 28; refine (unhide cr _ (unhide hLx _ (grown_alloc (unhide hdr) _))).mono ?_; rintro e wv ⟨kC, kE, kI, fC, fE, fI, rfl, hcap, l1, l2, l3, n1, n2, n3, hL, hg⟩; have hS := unhide hkeep _ (grown_trans (grown_alloc (unhide hdr) _) hg); obtain ⟨⟨z0, z1, z2, z3, z4, z5, z6, z7, z8, z9, z10⟩, fz, ⟨hz1, hz2, hz3⟩, hbx⟩ := box_facts (B := wc.heap.size) hg (heap_alloc_new wc.drew _); have hV := hide (Gd.law_laid (s := s) (g := g) (cC := fC) (cI := fI) (grown_alloc (unhide hgw) _) (unhide hne).1 (Arr.lit (heap_alloc_new _ _)).lie hcap l1 l2 l3 n1 n2 n3 hL hg); have hgv := hide (grown_trans (grown_alloc (unhide hdr) _) hg); clear hcap l1 l2 l3 n1 n2 n3 hL hg hbx hz1 hz2 hz3; unfold Gd.world at hV ⊢))
          · go_wp2_with fail
            go_meet
            exact ⟨_, kC, kE, kI, fC, fE, fI, rfl, (unhide hW3).on (grown_trans (unhide hgv) (World.grownBy_alloc _ _ _)), (unhide hU3).on (grown_trans (unhide hgv) (World.grownBy_alloc _ _ _)), (unhide hV3).on (grown_trans (unhide hgv) (World.grownBy_alloc _ _ _)), hV, grown_trans (unhide hgd) (grown_trans (unhide hgv) (World.grownBy_alloc _ _ _)), ⟨by have := ((unhide hW3).on (unhide hgv)).hold.box.lt; omega, by have := ((unhide hU3).on (unhide hgv)).hold.box.lt; omega, by have := ((unhide hV3).on (unhide hgv)).hold.box.lt; omega⟩⟩
          · go_wp2_with fail
            go_meet
            exact ⟨_, kC, kE, kI, fC, fE, fI, rfl, ((unhide hW3).on (unhide hgv)).aside (unhide hne).1 (unhide hne).2.1.1 (unhide hne).2.1.2.1 (unhide hne).2.1.2.2.1 (unhide hne).2.1.2.2.2 [_, _, _, _, _, _, _, _, _, _, _], ((unhide hU3).on (unhide hgv)).aside (unhide hne).1 (unhide hne).2.2.1.1 (unhide hne).2.2.1.2.1 (unhide hne).2.2.1.2.2.1 (unhide hne).2.2.1.2.2.2 [_, _, _, _, _, _, _, _, _, _, _], ((unhide hV3).on (unhide hgv)).aside (unhide hne).1 (unhide hne).2.2.2.1.1 (unhide hne).2.2.2.1.2.1 (unhide hne).2.2.2.1.2.2.1 (unhide hne).2.2.2.1.2.2.2 [_, _, _, _, _, _, _, _, _, _, _], hV, grown_trans (unhide hgd) (own_sets (Nat.le_refl _) [_, _, _, _, _, _, _, _, _, _, _] 0 _ (unhide hgv)), ⟨(unhide hne).2.1.1, (unhide hne).2.2.1.1, (unhide hne).2.2.2.1.1⟩⟩
        case rest =>
          clear b0 b1 b2 b3 b4 b5 b6 b7 b8 b9 b10 hpc hqc cr hW3 hU3 hV3 hgd
          obtain ⟨X, kC, kE, kI, fC, fE, fI, rfl, hW4, hU4, hV4, hX4, hgd4, hXT⟩ := hcut
          go_upto_if 68 with fail
          go_cut [] from 68 to 88 (fun wx => ∃ (E1 I1 : Nat → Nat → Int) (jC jE jI dC dE dI kC kE kI fC fE fI : Nat), Hid (Ft.Fit c E1 I1) ∧ Hid (Gd.Law w wx T gC gE gI cC cE cI s g c E I) ∧ Hid (Gd.Law w wx U uC uE uI eC eE eI s g c E I) ∧ Hid (Gd.Law w wx V jC jE jI dC dE dI s g c E1 I1) ∧ Hid (Gd.Law w wx X kC kE kI fC fE fI s g c E1 I1))
          case first =>
            obtain ⟨r, hr⟩ : ∃ r : Bool, ((i : Int) % 3 == 1) = r := ⟨_, rfl⟩
            have hr2 : ((i : Int).tmod 3 == 1) = r := by rw [Int.tmod_eq_emod_of_nonneg (by omega)]; exact hr
            cases r
            · go_wp2_with fail
              go_meet
              exact ⟨E1, I1, jC, jE, jI, dC, dE, dI, kC, kE, kI, fC, fE, fI, hF1, hW4, hU4, hV4, hX4⟩
            · go_upto_region 11 with fail
              have ch := hide (fun x hx => fightHurt_any s g c E I gC gE gI cC cE cI x1 y1 x hx (unhide hF))
              have cr := hide (fun x hx => refHurt8_any s g c E I uC uE uI eC eE eI x1 y1 x hx (unhide hF))
              have hF2 := hide ((unhide hF).hurts x1 y1)
              obtain ⟨E2, hE2⟩ : ∃ G, Ft.hE E x1 y1 = G := ⟨_, rfl⟩
              obtain ⟨I2, hI2⟩ : ∃ G, Ft.hI E I x1 y1 = G := ⟨_, rfl⟩
              rw [hE2, hI2] at ch cr hF2
              clear hE2 hI2
              unfold Gd.world at ch cr
              have hdr := hide (grown_drew1 (World.grownBy.refl wc none))
              have hkeep : Hid (∀ x, wc.grownBy x none → ((x.cell? ⟨T, 0, none⟩ = some (.int .i64 (s 0)) ∧ x.cell? ⟨T, 1, none⟩ = some (.int .i64 (s 1)) ∧ x.cell? ⟨T, 2, none⟩ = some (.int .i64 (s 2)) ∧ x.cell? ⟨T, 3, none⟩ = some (.int .i64 (s 3)) ∧ x.cell? ⟨T, 4, none⟩ = some (.slice (some ⟨gC, 0, none⟩) 384 cC) ∧ x.cell? ⟨T, 5, none⟩ = some (.slice (some ⟨gE, 0, none⟩) 32 cE) ∧ x.cell? ⟨T, 6, none⟩ = some (.slice (some ⟨gI, 0, none⟩) 40 cI) ∧ x.cell? ⟨T, 7, none⟩ = some (.int .i64 (g 0)) ∧ x.cell? ⟨T, 8, none⟩ = some (.int .i64 (g 1)) ∧ x.cell? ⟨T, 9, none⟩ = some (.int .i64 (g 2)) ∧ x.cell? ⟨T, 10, none⟩ = some (.int .i64 (g 3))) ∧ (x.cell? ⟨U, 0, none⟩ = some (.int .i64 (s 0)) ∧ x.cell? ⟨U, 1, none⟩ = some (.int .i64 (s 1)) ∧ x.cell? ⟨U, 2, none⟩ = some (.int .i64 (s 2)) ∧ x.cell? ⟨U, 3, none⟩ = some (.int .i64 (s 3)) ∧ x.cell? ⟨U, 4, none⟩ = some (.slice (some ⟨uC, 0, none⟩) 384 eC) ∧ x.cell? ⟨U, 5, none⟩ = some (.slice (some ⟨uE, 0, none⟩) 32 eE) ∧ x.cell? ⟨U, 6, none⟩ = some (.slice (some ⟨uI, 0, none⟩) 40 eI) ∧ x.cell? ⟨U, 7, none⟩ = some (.int .i64 (g 0)) ∧ x.cell? ⟨U, 8, none⟩ = some (.int .i64 (g 1)) ∧ x.cell? ⟨U, 9, none⟩ = some (.int .i64 (g 2)) ∧ x.cell? ⟨U, 10, none⟩ = some (.int .i64 (g 3))) ∧ x.cell? ⟨p, o + i, none⟩ = some (.int .i64 x1) ∧ x.cell? ⟨q, u + i, none⟩ = some (.int .i64 y1))) := fun x hx => ⟨((unhide hW4).on hx).eleven, ((unhide hU4).on hx).eleven, unhide hcl x (grown_trans (unhide hgd4) hx)⟩
              have hL1 : Hid (∀ y, wc.grownBy y none → Gd.Lists y gC gE gI c E I) := fun y hy => (unhide hW4).hold.lists.on hy
              have hL2 : Hid (∀ y, wc.grownBy y none → Gd.Lists y uC uE uI c E I) := fun y hy => (unhide hU4).hold.lists.on hy
              have hws := hide (unhide hW4).grown.size
              have nXV : X ≠ V := (unhide hXT).2.2
              have nVX : V ≠ X := nXV.symm
              refine wp_region_till (h := 19) (S := fun x => (x.cell? ⟨T, 0, none⟩ = some (.int .i64 (s 0)) ∧ x.cell? ⟨T, 1, none⟩ = some (.int .i64 (s 1)) ∧ x.cell? ⟨T, 2, none⟩ = some (.int .i64 (s 2)) ∧ x.cell? ⟨T, 3, none⟩ = some (.int .i64 (s 3)) ∧ x.cell? ⟨T, 4, none⟩ = some (.slice (some ⟨gC, 0, none⟩) 384 cC) ∧ x.cell? ⟨T, 5, none⟩ = some (.slice (some ⟨gE, 0, none⟩) 32 cE) ∧ x.cell? ⟨T, 6, none⟩ = some (.slice (some ⟨gI, 0, none⟩) 40 cI) ∧ x.cell? ⟨T, 7, none⟩ = some (.int .i64 (g 0)) ∧ x.cell? ⟨T, 8, none⟩ = some (.int .i64 (g 1)) ∧ x.cell? ⟨T, 9, none⟩ = some (.int .i64 (g 2)) ∧ x.cell? ⟨T, 10, none⟩ = some (.int .i64 (g 3))) ∧ (x.cell? ⟨U, 0, none⟩ = some (.int .i64 (s 0)) ∧ x.cell? ⟨U, 1, none⟩ = some (.int .i64 (s 1)) ∧ x.cell? ⟨U, 2, none⟩ = some (.int .i64 (s 2)) ∧ x.cell? ⟨U, 3, none⟩ = some (.int .i64 (s 3)) ∧ x.cell? ⟨U, 4, none⟩ = some (.slice (some ⟨uC, 0, none⟩) 384 eC) ∧ x.cell? ⟨U, 5, none⟩ = some (.slice (some ⟨uE, 0, none⟩) 32 eE) ∧ x.cell? ⟨U, 6, none⟩ = some (.slice (some ⟨uI, 0, none⟩) 40 eI) ∧ x.cell? ⟨U, 7, none⟩ = some (.int .i64 (g 0)) ∧ x.cell? ⟨U, 8, none⟩ = some (.int .i64 (g 1)) ∧ x.cell? ⟨U, 9, none⟩ = some (.int .i64 (g 2)) ∧ x.cell? ⟨U, 10, none⟩ = some (.int .i64 (g 3))) ∧ x.cell? ⟨p, o + i, none⟩ = some (.int .i64 x1) ∧ x.cell? ⟨q, u + i, none⟩ = some (.int .i64 y1)) (by kernel_rfl) ?_
              have hS0 := unhide hkeep _ (unhide hdr)
              refine wpTill_take (i := 0) (v := ?_) [9, 19] rfl (by kernel_rfl) (by kernel_rfl) (by kernel_rfl) (by kernel_rfl) (fun _ _ _ h => h) hS0 (Or.inl ⟨by rfl, ?_⟩) ?_
              rotate_left
              · intro x hSx
                try dsimp only at hSx
                go_simp
                try with_reducible rfl
              simp only [Act.put]
              refine wpTill_take (i := 1) (v := ?_) [3, 4, 9, 19] rfl (by kernel_rfl) (by kernel_rfl) (by kernel_rfl) (by kernel_rfl) (fun _ _ _ h => h) hS0 (Or.inl ⟨by rfl, ?_⟩) ?_
              rotate_left
              · intro x hSx
                try dsimp only at hSx
                go_simp
                try with_reducible rfl
              simp only [Act.put]
              refine wpTill_take (i := 2) (v := ?_) [3, 4, 9, 19] rfl (by kernel_rfl) (by kernel_rfl) (by kernel_rfl) (by kernel_rfl) (fun _ _ _ h => h) hS0 (Or.inl ⟨by rfl, ?_⟩) ?_
              rotate_left
              · intro x hSx
                try dsimp only at hSx
                go_simp
                try with_reducible rfl
              simp only [Act.put]
              refine wpTill_take (i := 3) (v := ?_) [4, 9, 19] rfl (by kernel_rfl) (by kernel_rfl) (by kernel_rfl) (by kernel_rfl) (fun _ _ _ h => h) hS0 (Or.inl ⟨by rfl, ?_⟩) ?_
              rotate_left
              · intro x hSx
                try dsimp only at hSx
                go_simp
                try with_reducible rfl
              simp only [Act.put]
              refine wpTill_take (i := 4) (v := ?_) [9, 19] rfl (by kernel_rfl) (by kernel_rfl) (by kernel_rfl) (by kernel_rfl) (fun _ _ _ h => h) hS0 (Or.inl ⟨by rfl, ?_⟩) ?_
              rotate_left
              · intro x hSx
                try dsimp only at hSx
                go_simp
                try with_reducible rfl
              simp only [Act.put]
              refine wpTill_take (i := 5) (v := ?_) [7, 8, 9, 19] rfl (by kernel_rfl) (by kernel_rfl) (by kernel_rfl) (by kernel_rfl) (fun _ _ _ h => h) hS0 (Or.inl ⟨by rfl, ?_⟩) ?_
              rotate_left
              · intro x hSx
                try dsimp only at hSx
                go_simp
                try with_reducible rfl
              simp only [Act.put]
              refine wpTill_take (i := 6) (v := ?_) [7, 8, 9, 19] rfl (by kernel_rfl) (by kernel_rfl) (by kernel_rfl) (by kernel_rfl) (fun _ _ _ h => h) hS0 (Or.inl ⟨by rfl, ?_⟩) ?_
              rotate_left
              · intro x hSx
                try dsimp only at hSx
                go_simp
                try with_reducible rfl
              simp only [Act.put]
              refine wpTill_take (i := 7) (v := ?_) [8, 9, 19] rfl (by kernel_rfl) (by kernel_rfl) (by kernel_rfl) (by kernel_rfl) (fun _ _ _ h => h) hS0 (Or.inl ⟨by rfl, ?_⟩) ?_
              rotate_left
              · intro x hSx
                try dsimp only at hSx
                go_simp
                try with_reducible rfl
              simp only [Act.put]
              refine wpTill_take (i := 8) (v := ?_) [9, 19] rfl (by kernel_rfl) (by kernel_rfl) (by kernel_rfl) (by kernel_rfl) (fun _ _ _ h => h) hS0 (Or.inl ⟨by rfl, ?_⟩) ?_
              rotate_left
              · intro x hSx
                try dsimp only at hSx
                go_simp
                try with_reducible rfl
              simp only [Act.put]
              refine wpTill_take (i := 10) (v := ?_) [19] rfl (by kernel_rfl) (by kernel_rfl) (by kernel_rfl) (by kernel_rfl) (fun _ _ _ h => h) hS0 (Or.inl ⟨by rfl, ?_⟩) ?_
              rotate_left
              · intro x hSx
                try dsimp only at hSx
                go_simp
                try with_reducible rfl
              simp only [Act.put]
              refine wpTill_take (i := 11) (v := ?_) [13, 14, 19] rfl (by kernel_rfl) (by kernel_rfl) (by kernel_rfl) (by kernel_rfl) (fun _ _ _ h => h) hS0 (Or.inl ⟨by rfl, ?_⟩) ?_
              rotate_left
              · intro x hSx
                try dsimp only at hSx
                go_simp
                try with_reducible rfl
              simp only [Act.put]
              refine wpTill_take (i := 12) (v := ?_) [13, 14, 19] rfl (by kernel_rfl) (by kernel_rfl) (by kernel_rfl) (by kernel_rfl) (fun _ _ _ h => h) hS0 (Or.inl ⟨by rfl, ?_⟩) ?_
              rotate_left
              · intro x hSx
                try dsimp only at hSx
                go_simp
                try with_reducible rfl
              simp only [Act.put]
              refine wpTill_take (i := 13) (v := ?_) [14, 19] rfl (by kernel_rfl) (by kernel_rfl) (by kernel_rfl) (by kernel_rfl) (fun _ _ _ h => h) hS0 (Or.inl ⟨by rfl, ?_⟩) ?_
              rotate_left
              · intro x hSx
                try dsimp only at hSx
                go_simp
                try with_reducible rfl
              simp only [Act.put]
              refine wpTill_take (i := 14) (v := ?_) [19] rfl (by kernel_rfl) (by kernel_rfl) (by kernel_rfl) (by kernel_rfl) (fun _ _ _ h => h) hS0 (Or.inl ⟨by rfl, ?_⟩) ?_
              rotate_left
              · intro x hSx
                try dsimp only at hSx
                go_simp
                try with_reducible rfl
              simp only [Act.put]
              refine wpTill_take (i := 15) (v := ?_) [17, 18, 19] rfl (by kernel_rfl) (by kernel_rfl) (by kernel_rfl) (by kernel_rfl) (fun _ _ _ h => h) hS0 (Or.inl ⟨by rfl, ?_⟩) ?_
              rotate_left
              · intro x hSx
                try dsimp only at hSx
                go_simp
                try with_reducible rfl
              simp only [Act.put]
              refine wpTill_take (i := 16) (v := ?_) [17, 18, 19] rfl (by kernel_rfl) (by kernel_rfl) (by kernel_rfl) (by kernel_rfl) (fun _ _ _ h => h) hS0 (Or.inl ⟨by rfl, ?_⟩) ?_
              rotate_left
              · intro x hSx
                try dsimp only at hSx
                go_simp
                try with_reducible rfl
              simp only [Act.put]
              refine wpTill_take (i := 17) (v := ?_) [18, 19] rfl (by kernel_rfl) (by kernel_rfl) (by kernel_rfl) (by kernel_rfl) (fun _ _ _ h => h) hS0 (Or.inl ⟨by rfl, ?_⟩) ?_
              rotate_left
              · intro x hSx
                try dsimp only at hSx
                go_simp
                try with_reducible rfl
              simp only [Act.put]
              refine wpTill_take (i := 18) (v := ?_) [19] rfl (by kernel_rfl) (by kernel_rfl) (by kernel_rfl) (by kernel_rfl) (fun _ _ _ h => h) hS0 (Or.inl ⟨by rfl, ?_⟩) ?_
              rotate_left
              · intro x hSx
                try dsimp only at hSx
                go_simp
                try with_reducible rfl
              simp only [Act.put]
              refine wpTill_only (j := 9) (by kernel_rfl) rfl (fun K hK => ?_)
              go_simp
              refine (unhide ch _ (unhide hL1 _ (unhide hdr))).mono ?_
              rintro e wv ⟨mC, mE, mI, aC, aE, aI, rfl, hc1, l1, l2, l3, n1, n2, n3, hM, hg⟩
              have hgv := hide (grown_trans (unhide hdr) hg)
              have hM1 := hide (show 32 ≤ aE ∧ w.heap.size ≤ mC ∧ w.heap.size ≤ mE ∧ w.heap.size ≤ mI ∧ mC ≠ mE ∧ mC ≠ mI ∧ mE ≠ mI ∧ Gd.Lists wv mC mE mI c E2 I2 from ⟨hc1, Nat.le_trans (unhide hws) l1, Nat.le_trans (unhide hws) l2, Nat.le_trans (unhide hws) l3, n1, n2, n3, hM⟩)
              clear hc1 l1 l2 l3 n1 n2 n3 hM hg ch
              unfold Gd.world
              try go_simp
              refine hK.out _ _ (fun _ => unhide hkeep _ (unhide hgv)) ?_
              clear hK K hS0
              refine wpTill_only (j := 19) (by kernel_rfl) rfl (fun K hK => ?_)
              go_simp
              refine (unhide cr _ (unhide hL2 _ (unhide hgv))).mono ?_
              rintro e wq ⟨nC, nE, nI, rC, rE, rI, rfl, hc1, l1, l2, l3, n1, n2, n3, hM, hg⟩
              have hgq := hide (grown_trans (unhide hgv) hg)
              have hwv := Nat.le_trans (unhide hws) (unhide hgv).size
              have hfin := hide (Gd.laid_two (aC := aC) (aI := aI) (rC := rC) (rI := rI) ((unhide hW4).on (unhide hgq)) ((unhide hU4).on (unhide hgq)) ((unhide hV4).on (unhide hgq)) ((unhide hX4).on (unhide hgq)) (unhide hVT).1 (unhide hVT).2 (unhide hXT).1 (unhide hXT).2.1 (unhide hXT).2.2 ⟨(unhide hM1).1, (unhide hM1).2.1, (unhide hM1).2.2.1, (unhide hM1).2.2.2.1, (unhide hM1).2.2.2.2.1, (unhide hM1).2.2.2.2.2.1, (unhide hM1).2.2.2.2.2.2.1, (unhide hM1).2.2.2.2.2.2.2.on hg⟩ ⟨hc1, Nat.le_trans hwv l1, Nat.le_trans hwv l2, Nat.le_trans hwv l3, n1, n2, n3, hM⟩)
              obtain ⟨y0, y1, y2, y3, y4, y5, y6, y7, y8, y9, y10⟩ := ((unhide hV4).on (unhide hgq)).eleven
              obtain ⟨z0, z1, z2, z3, z4, z5, z6, z7, z8, z9, z10⟩ := ((unhide hX4).on (unhide hgq)).eleven
              have fV := ((unhide hV4).on (unhide hgq)).hold.box.free
              have fX := ((unhide hX4).on (unhide hgq)).hold.box.free
              clear hc1 l1 l2 l3 n1 n2 n3 hM hg hwv cr
              unfold Gd.world at hfin ⊢
              try go_simp
              refine hK.out _ _ (fun hx => absurd (hx.symm.trans (by kernel_rfl)) Bool.false_ne_true) ?_
              clear hK K
              refine wpTill_only (j := 20) (by kernel_rfl) rfl (fun K hK => ?_)
              go_simp
              refine hK.out _ _ (fun hx => absurd (hx.symm.trans (by kernel_rfl)) Bool.false_ne_true) ?_
              clear hK K
              refine wpTill_only (j := 21) (by kernel_rfl) rfl (fun K hK => ?_)
              go_simp
              refine hK.out _ _ (fun hx => absurd (hx.symm.trans (by kernel_rfl)) Bool.false_ne_true) ?_
              clear hK K
              refine wpTill_done (by kernel_rfl) ?_ _
              go_wp2_with fail
              go_meet
              exact ⟨E2, I2, mC, mE, mI, aC, aE, aI, nC, nE, nI, rC, rE, rI, hF2, (unhide hfin).1, (unhide hfin).2.1, (unhide hfin).2.2.1, (unhide hfin).2.2.2⟩
          case rest =>
            clear hW4 hU4 hV4 hX4 hF1
            obtain ⟨E1, I1, jC, jE, jI, dC, dE, dI, kC, kE, kI, fC, fE, fI, hF1, hW4, hU4, hV4, hX4⟩ := hcut
            go_upto_if 91 with fail
            go_cut [] from 91 to 95 (fun wx => ∃ (E1 I1 : Nat → Nat → Int) (jC jE jI dC dE dI kC kE kI fC fE fI : Nat), Hid (Ft.Fit c E1 I1) ∧ Hid (Gd.Law w wx T gC gE gI cC cE cI s g c E I) ∧ Hid (Gd.Law w wx U uC uE uI eC eE eI s g c E I) ∧ Hid (Gd.Law w wx V jC jE jI dC dE dI s g c E1 I1) ∧ Hid (Gd.Law w wx X kC kE kI fC fE fI s g c E1 I1))
            case first =>
              obtain ⟨r, hr⟩ : ∃ r : Bool, ((i : Int) % 3 == 2) = r := ⟨_, rfl⟩
              have hr2 : ((i : Int).tmod 3 == 2) = r := by rw [Int.tmod_eq_emod_of_nonneg (by omega)]; exact hr
              cases r
              · go_wp2_with fail
                go_meet
                exact ⟨E1, I1, jC, jE, jI, dC, dE, dI, kC, kE, kI, fC, fE, fI, hF1, hW4, hU4, hV4, hX4⟩
              · go_upto_region 13 with fail
                have ch := hide (fun x hx => fightAil_any s g c E I gC gE gI cC cE cI x hx (unhide hF))
                have cr := hide (fun x hx => refAil8_any s g c E I uC uE uI eC eE eI x hx (unhide hF))
                have hF2 := hide ((unhide hF).ail 32 (by omega))
                obtain ⟨E2, hE2⟩ : ∃ G, (Ft.ailE E I 32).1 = G := ⟨_, rfl⟩
                obtain ⟨I2, hI2⟩ : ∃ G, (Ft.ailE E I 32).2 = G := ⟨_, rfl⟩
                rw [hE2, hI2] at ch cr hF2
                clear hE2 hI2
                unfold Gd.world at ch cr
                have hdr := hide (grown_drew1 (World.grownBy.refl wc none))
                have hkeep : Hid (∀ x, wc.grownBy x none → ((x.cell? ⟨T, 0, none⟩ = some (.int .i64 (s 0)) ∧ x.cell? ⟨T, 1, none⟩ = some (.int .i64 (s 1)) ∧ x.cell? ⟨T, 2, none⟩ = some (.int .i64 (s 2)) ∧ x.cell? ⟨T, 3, none⟩ = some (.int .i64 (s 3)) ∧ x.cell? ⟨T, 4, none⟩ = some (.slice (some ⟨gC, 0, none⟩) 384 cC) ∧ x.cell? ⟨T, 5, none⟩ = some (.slice (some ⟨gE, 0, none⟩) 32 cE) ∧ x.cell? ⟨T, 6, none⟩ = some (.slice (some ⟨gI, 0, none⟩) 40 cI) ∧ x.cell? ⟨T, 7, none⟩ = some (.int .i64 (g 0)) ∧ x.cell? ⟨T, 8, none⟩ = some (.int .i64 (g 1)) ∧ x.cell? ⟨T, 9, none⟩ = some (.int .i64 (g 2)) ∧ x.cell? ⟨T, 10, none⟩ = some (.int .i64 (g 3))) ∧ (x.cell? ⟨U, 0, none⟩ = some (.int .i64 (s 0)) ∧ x.cell? ⟨U, 1, none⟩ = some (.int .i64 (s 1)) ∧ x.cell? ⟨U, 2, none⟩ = some (.int .i64 (s 2)) ∧ x.cell? ⟨U, 3, none⟩ = some (.int .i64 (s 3)) ∧ x.cell? ⟨U, 4, none⟩ = some (.slice (some ⟨uC, 0, none⟩) 384 eC) ∧ x.cell? ⟨U, 5, none⟩ = some (.slice (some ⟨uE, 0, none⟩) 32 eE) ∧ x.cell? ⟨U, 6, none⟩ = some (.slice (some ⟨uI, 0, none⟩) 40 eI) ∧ x.cell? ⟨U, 7, none⟩ = some (.int .i64 (g 0)) ∧ x.cell? ⟨U, 8, none⟩ = some (.int .i64 (g 1)) ∧ x.cell? ⟨U, 9, none⟩ = some (.int .i64 (g 2)) ∧ x.cell? ⟨U, 10, none⟩ = some (.int .i64 (g 3))))) := fun x hx => ⟨((unhide hW4).on hx).eleven, ((unhide hU4).on hx).eleven⟩
                have hL1 : Hid (∀ y, wc.grownBy y none → Gd.Lists y gC gE gI c E I) := fun y hy => (unhide hW4).hold.lists.on hy
                have hL2 : Hid (∀ y, wc.grownBy y none → Gd.Lists y uC uE uI c E I) := fun y hy => (unhide hU4).hold.lists.on hy
                have hws := hide (unhide hW4).grown.size
                have nXV : X ≠ V := (unhide hXT).2.2
                have nVX : V ≠ X := nXV.symm
                refine wp_region_till (h := 3) (S := fun x => (x.cell? ⟨T, 0, none⟩ = some (.int .i64 (s 0)) ∧ x.cell? ⟨T, 1, none⟩ = some (.int .i64 (s 1)) ∧ x.cell? ⟨T, 2, none⟩ = some (.int .i64 (s 2)) ∧ x.cell? ⟨T, 3, none⟩ = some (.int .i64 (s 3)) ∧ x.cell? ⟨T, 4, none⟩ = some (.slice (some ⟨gC, 0, none⟩) 384 cC) ∧ x.cell? ⟨T, 5, none⟩ = some (.slice (some ⟨gE, 0, none⟩) 32 cE) ∧ x.cell? ⟨T, 6, none⟩ = some (.slice (some ⟨gI, 0, none⟩) 40 cI) ∧ x.cell? ⟨T, 7, none⟩ = some (.int .i64 (g 0)) ∧ x.cell? ⟨T, 8, none⟩ = some (.int .i64 (g 1)) ∧ x.cell? ⟨T, 9, none⟩ = some (.int .i64 (g 2)) ∧ x.cell? ⟨T, 10, none⟩ = some (.int .i64 (g 3))) ∧ (x.cell? ⟨U, 0, none⟩ = some (.int .i64 (s 0)) ∧ x.cell? ⟨U, 1, none⟩ = some (.int .i64 (s 1)) ∧ x.cell? ⟨U, 2, none⟩ = some (.int .i64 (s 2)) ∧ x.cell? ⟨U, 3, none⟩ = some (.int .i64 (s 3)) ∧ x.cell? ⟨U, 4, none⟩ = some (.slice (some ⟨uC, 0, none⟩) 384 eC) ∧ x.cell? ⟨U, 5, none⟩ = some (.slice (some ⟨uE, 0, none⟩) 32 eE) ∧ x.cell? ⟨U, 6, none⟩ = some (.slice (some ⟨uI, 0, none⟩) 40 eI) ∧ x.cell? ⟨U, 7, none⟩ = some (.int .i64 (g 0)) ∧ x.cell? ⟨U, 8, none⟩ = some (.int .i64 (g 1)) ∧ x.cell? ⟨U, 9, none⟩ = some (.int .i64 (g 2)) ∧ x.cell? ⟨U, 10, none⟩ = some (.int .i64 (g 3)))) (by kernel_rfl) ?_
                have hS0 := unhide hkeep _ (unhide hdr)
                refine wpTill_take (i := 0) (v := ?_) [1, 3] rfl (by kernel_rfl) (by kernel_rfl) (by kernel_rfl) (by kernel_rfl) (fun _ _ _ h => h) hS0 (Or.inl ⟨by rfl, ?_⟩) ?_
                rotate_left
                · intro x hSx
                  try dsimp only at hSx
                  go_simp
                  try with_reducible rfl
                simp only [Act.put]
                refine wpTill_take (i := 2) (v := ?_) [3] rfl (by kernel_rfl) (by kernel_rfl) (by kernel_rfl) (by kernel_rfl) (fun _ _ _ h => h) hS0 (Or.inl ⟨by rfl, ?_⟩) ?_
                rotate_left
                · intro x hSx
                  try dsimp only at hSx
                  go_simp
                  try with_reducible rfl
                simp only [Act.put]
                refine wpTill_only (j := 1) (by kernel_rfl) rfl (fun K hK => ?_)
                go_simp
                refine (unhide ch _ (unhide hL1 _ (unhide hdr))).mono ?_
                rintro e wv ⟨mC, mE, mI, aC, aE, aI, rfl, hc1, l1, l2, l3, n1, n2, n3, hM, hg⟩
                have hgv := hide (grown_trans (unhide hdr) hg)
                have hM1 := hide (show 32 ≤ aE ∧ w.heap.size ≤ mC ∧ w.heap.size ≤ mE ∧ w.heap.size ≤ mI ∧ mC ≠ mE ∧ mC ≠ mI ∧ mE ≠ mI ∧ Gd.Lists wv mC mE mI c E2 I2 from ⟨hc1, Nat.le_trans (unhide hws) l1, Nat.le_trans (unhide hws) l2, Nat.le_trans (unhide hws) l3, n1, n2, n3, hM⟩)
                clear hc1 l1 l2 l3 n1 n2 n3 hM hg ch
                unfold Gd.world
                try go_simp
                refine hK.out _ _ (fun _ => unhide hkeep _ (unhide hgv)) ?_
                clear hK K hS0
                refine wpTill_only (j := 3) (by kernel_rfl) rfl (fun K hK => ?_)
                go_simp
                refine (unhide cr _ (unhide hL2 _ (unhide hgv))).mono ?_
                rintro e wq ⟨nC, nE, nI, rC, rE, rI, rfl, hc1, l1, l2, l3, n1, n2, n3, hM, hg⟩
                have hgq := hide (grown_trans (unhide hgv) hg)
                have hwv := Nat.le_trans (unhide hws) (unhide hgv).size
                have hfin := hide (Gd.laid_two (aC := aC) (aI := aI) (rC := rC) (rI := rI) ((unhide hW4).on (unhide hgq)) ((unhide hU4).on (unhide hgq)) ((unhide hV4).on (unhide hgq)) ((unhide hX4).on (unhide hgq)) (unhide hVT).1 (unhide hVT).2 (unhide hXT).1 (unhide hXT).2.1 (unhide hXT).2.2 ⟨(unhide hM1).1, (unhide hM1).2.1, (unhide hM1).2.2.1, (unhide hM1).2.2.2.1, (unhide hM1).2.2.2.2.1, (unhide hM1).2.2.2.2.2.1, (unhide hM1).2.2.2.2.2.2.1, (unhide hM1).2.2.2.2.2.2.2.on hg⟩ ⟨hc1, Nat.le_trans hwv l1, Nat.le_trans hwv l2, Nat.le_trans hwv l3, n1, n2, n3, hM⟩)
                obtain ⟨y0, y1, y2, y3, y4, y5, y6, y7, y8, y9, y10⟩ := ((unhide hV4).on (unhide hgq)).eleven
                obtain ⟨z0, z1, z2, z3, z4, z5, z6, z7, z8, z9, z10⟩ := ((unhide hX4).on (unhide hgq)).eleven
                have fV := ((unhide hV4).on (unhide hgq)).hold.box.free
                have fX := ((unhide hX4).on (unhide hgq)).hold.box.free
                clear hc1 l1 l2 l3 n1 n2 n3 hM hg hwv cr
                unfold Gd.world at hfin ⊢
                try go_simp
                refine hK.out _ _ (fun hx => absurd (hx.symm.trans (by kernel_rfl)) Bool.false_ne_true) ?_
                clear hK K
                refine wpTill_only (j := 4) (by kernel_rfl) rfl (fun K hK => ?_)
                go_simp
                refine hK.out _ _ (fun hx => absurd (hx.symm.trans (by kernel_rfl)) Bool.false_ne_true) ?_
                clear hK K
                refine wpTill_only (j := 5) (by kernel_rfl) rfl (fun K hK => ?_)
                go_simp
                refine hK.out _ _ (fun hx => absurd (hx.symm.trans (by kernel_rfl)) Bool.false_ne_true) ?_
                clear hK K
                refine wpTill_done (by kernel_rfl) ?_ _
                go_wp2_with fail
                go_meet
                exact ⟨E2, I2, mC, mE, mI, aC, aE, aI, nC, nE, nI, rC, rE, rI, hF2, (unhide hfin).1, (unhide hfin).2.1, (unhide hfin).2.2.1, (unhide hfin).2.2.2⟩
            case rest =>
              clear hW4 hU4 hV4 hX4 hF1
              obtain ⟨E1, I1, jC, jE, jI, dC, dE, dI, kC, kE, kI, fC, fE, fI, hF1, hW4, hU4, hV4, hX4⟩ := hcut
              obtain ⟨b0, b1, b2, b3, b4, b5, b6, b7, b8, b9, b10⟩ := (unhide hV4).eleven
              obtain ⟨d0, d1, d2, d3, d4, d5, d6, d7, d8, d9, d10⟩ := (unhide hX4).eleven
              have cs1 := hide (same7_any s g c E1 I1 jC jE jI dC dE dI kC kE kI fC fE fI _ (unhide hV4).hold.lists (unhide hX4).hold.lists)
              unfold Gd.world at cs1
              go_wp2_with fail
              refine (unhide cs1).mono ?_
              rintro e wy ⟨rfl, hg⟩
              have hW5 := hide ((unhide hW4).on hg)
              have hU5 := hide ((unhide hU4).on hg)
              have hV5 := hide ((unhide hV4).on hg)
              clear hg cs1 b0 b1 b2 b3 b4 b5 b6 b7 b8 b9 b10 d0 d1 d2 d3 d4 d5 d6 d7 d8 d9 d10 hW4 hU4 hV4 hX4
              obtain ⟨b0, b1, b2, b3, b4, b5, b6, b7, b8, b9, b10⟩ := (unhide hW5).eleven
              obtain ⟨d0, d1, d2, d3, d4, d5, d6, d7, d8, d9, d10⟩ := (unhide hU5).eleven
              have cs2 := hide (same7_any s g c E I gC gE gI cC cE cI uC uE uI eC eE eI _ (unhide hW5).hold.lists (unhide hU5).hold.lists)
              unfold Gd.world at cs2
              go_wp2_with fail
              refine (unhide cs2).mono ?_
              rintro e wz ⟨rfl, hg⟩
              have hW6 := hide ((unhide hW5).on hg)
              have hV6 := hide ((unhide hV5).on hg)
              clear hg cs2 b0 b1 b2 b3 b4 b5 b6 b7 b8 b9 b10 d0 d1 d2 d3 d4 d5 d6 d7 d8 d9 d10 hW5 hU5 hV5
              obtain ⟨b0, b1, b2, b3, b4, b5, b6, b7, b8, b9, b10⟩ := (unhide hW6).eleven
              obtain ⟨d0, d1, d2, d3, d4, d5, d6, d7, d8, d9, d10⟩ := (unhide hV6).eleven
              have fT := (unhide hW6).hold.box.free
              have hfin : Hid (Gd.Law w _ T jC jE jI dC dE dI s g c E1 I1) := (unhide hW6).take (unhide hV6)
              clear hW6 hV6
              go_wp2
              go_roundw
              case rel => exact ⟨i + 1, E1, I1, jC, jE, jI, dC, dE, dI, by have := unhide HL; omega, by go_num, hF1, hfin⟩
              case measure => simp [intOf]; have := unhide HL; omega
    · by_cases h1 : i < len5
      · have h1' : (i : Int) < (len5 : Int) := by omega
        by_cases h2 : i < len6
        · have h2' : (i : Int) < (len6 : Int) := by omega
          have h20 : ¬ (i : Int) < 20 := by omega
          have hfin := hide (unhide hW).grown
          clear hlt hi20
          go_wp2
          go_ret
          exact ⟨rfl, none_below (unhide hfin)⟩
        · have h2' : ¬ (i : Int) < (len6 : Int) := by omega
          have hfin := hide (unhide hW).grown
          clear hlt hi20
          go_wp2
          go_ret
          exact ⟨rfl, none_below (unhide hfin)⟩
      · have h1' : ¬ (i : Int) < (len5 : Int) := by omega
        have hfin := hide (unhide hW).grown
        clear hlt hi20
        go_wp2
        go_ret
        exact ⟨rfl, none_below (unhide hfin)⟩

set_option maxRecDepth 100000 in
theorem lifted (os : Os) (started : os.Started) (H : Type) (enc : TypeId × Value → H) :
    ReturnsInHanded {} Try.checked os 7 .any (Rows.fightBlowsSpec.pre6 enc Try.prog Try.f7 Rows.fightBlowsRow.domain false) (Rows.fightBlowsSpec.post enc Try.prog Try.f7 false true false false) := by
  refine returnsInHanded_of_change (C := Try.checked) own started (by kernel_rfl) Try.func7
    (ChangeSpec.witness6 (enc := enc) (C := Try.checked) false ⟨#[], #[.int .i64 0, .int .i64 0, .slice none 0 0, .slice none 0 0, .int .i64 0, .slice none 0 0, .slice none 0 0], []⟩ 8 (by kernel_rfl) (by kernel_rfl) (by kernel_rfl) (by kernel_rfl)) ?_
  intro W base args ds gs before hval0 hW hcnd _
  have hval : ∀ (j : Nat) t v, Try.f7.params[j]? = some t → args[j]? = some v → Value.okWide Try.prog W .any base t v := hval0
  have hW' := hW
  obtain ⟨p, q, hA0, hV, rfl, hfz, hnd⟩ := hW
  have hA : DataW.TrodAll enc Try.prog W 0 (fun _ => true) true Try.f7.params.toList args.toList ds p := hA0
  rw [Try.params7] at hA hval
  obtain ⟨v0, vs0, d0, ds0, p0, q0, hargs, rfl, rfl, h0, r0⟩ := trodAll_cons hA
  obtain ⟨v1, vs1, d1, ds1, p1, q1, rfl, rfl, rfl, h1, r1⟩ := trodAll_cons r0
  obtain ⟨v2, vs2, d2, ds2, p2, q2, rfl, rfl, rfl, h2, r2⟩ := trodAll_cons r1
  obtain ⟨v3, vs3, d3, ds3, p3, q3, rfl, rfl, rfl, h3, r3⟩ := trodAll_cons r2
  obtain ⟨v4, vs4, d4, ds4, p4, q4, rfl, rfl, rfl, h4, r4⟩ := trodAll_cons r3
  obtain ⟨v5, vs5, d5, ds5, p5, q5, rfl, rfl, rfl, h5, r5⟩ := trodAll_cons r4
  obtain ⟨v6, vs6, d6, ds6, p6, q6, rfl, rfl, rfl, h6, r6⟩ := trodAll_cons r5
  obtain ⟨rfl, rfl, rfl⟩ := trodAll_nil r6
  obtain rfl : args = #[v0, v1, v2, v3, v4, v5, v6] := by cases args; simp_all
  obtain ⟨rfl, rfl⟩ := trodVars_none hV
  obtain ⟨a0, rfl, rfl, rfl, w0⟩ := open_int Try.underlying2 (hval 0 2 v0 rfl rfl) h0
  obtain ⟨a1, rfl, rfl, rfl, w1⟩ := open_int Try.underlying3 (hval 1 3 v1 rfl rfl) h1
  obtain ⟨a2, len2, cap2, rfl⟩ := okWide_slice Try.underlying23 (hval 2 23 v2 rfl rfl)
  have k2 := h2
  have lt2 : ∀ x ∈ p2, x.block < W.heap.size := by obtain ⟨m, hm⟩ := k2; exact DataW.trod_lt m _ _ _ hm
  obtain ⟨z2, w2⟩ : ∃ zs, IsRow .i64 W a2 len2 cap2 zs := by
    obtain ⟨fuel, hf⟩ := h2
    rcases open_ints Try.underlying23 Try.underlying3 (by kernel_rfl) hf with ⟨hcs, _⟩ | ⟨x, l, c, zs, hcs, _, hl, hm, hz, _, hcell, hwz⟩
    · simp [Value.cells] at hcs
      obtain ⟨rfl, rfl, rfl⟩ := hcs
      exact ⟨[], .inl ⟨rfl, rfl, rfl, rfl⟩⟩
    · simp [Value.cells] at hcs
      obtain ⟨rfl, rfl, rfl⟩ := hcs
      exact ⟨zs, .inr ⟨_, rfl, hl, hm, by simpa using hz, hcell, hwz⟩⟩
  obtain ⟨a3, len3, cap3, rfl⟩ := okWide_slice Try.underlying22 (hval 3 22 v3 rfl rfl)
  have k3 := h3
  have lt3 : ∀ x ∈ p3, x.block < W.heap.size := by obtain ⟨m, hm⟩ := k3; exact DataW.trod_lt m _ _ _ hm
  obtain ⟨z3, w3⟩ : ∃ M, ItArg W a3 len3 cap3 M := by
    obtain ⟨fuel, hf⟩ := h3
    exact open_items (by simpa [Value.cells] using hf)
  obtain ⟨a4, rfl, rfl, rfl, w4⟩ := open_int Try.underlying3 (hval 4 3 v4 rfl rfl) h4
  obtain ⟨a5, len5, cap5, rfl⟩ := okWide_slice Try.underlying23 (hval 5 23 v5 rfl rfl)
  have k5 := h5
  have lt5 : ∀ x ∈ p5, x.block < W.heap.size := by obtain ⟨m, hm⟩ := k5; exact DataW.trod_lt m _ _ _ hm
  obtain ⟨z5, w5⟩ : ∃ zs, IsRow .i64 W a5 len5 cap5 zs := by
    obtain ⟨fuel, hf⟩ := h5
    rcases open_ints Try.underlying23 Try.underlying3 (by kernel_rfl) hf with ⟨hcs, _⟩ | ⟨x, l, c, zs, hcs, _, hl, hm, hz, _, hcell, hwz⟩
    · simp [Value.cells] at hcs
      obtain ⟨rfl, rfl, rfl⟩ := hcs
      exact ⟨[], .inl ⟨rfl, rfl, rfl, rfl⟩⟩
    · simp [Value.cells] at hcs
      obtain ⟨rfl, rfl, rfl⟩ := hcs
      exact ⟨zs, .inr ⟨_, rfl, hl, hm, by simpa using hz, hcell, hwz⟩⟩
  obtain ⟨a6, len6, cap6, rfl⟩ := okWide_slice Try.underlying23 (hval 6 23 v6 rfl rfl)
  have k6 := h6
  have lt6 : ∀ x ∈ p6, x.block < W.heap.size := by obtain ⟨m, hm⟩ := k6; exact DataW.trod_lt m _ _ _ hm
  obtain ⟨z6, w6⟩ : ∃ zs, IsRow .i64 W a6 len6 cap6 zs := by
    obtain ⟨fuel, hf⟩ := h6
    rcases open_ints Try.underlying23 Try.underlying3 (by kernel_rfl) hf with ⟨hcs, _⟩ | ⟨x, l, c, zs, hcs, _, hl, hm, hz, _, hcell, hwz⟩
    · simp [Value.cells] at hcs
      obtain ⟨rfl, rfl, rfl⟩ := hcs
      exact ⟨[], .inl ⟨rfl, rfl, rfl, rfl⟩⟩
    · simp [Value.cells] at hcs
      obtain ⟨rfl, rfl, rfl⟩ := hcs
      exact ⟨zs, .inr ⟨_, rfl, hl, hm, by simpa using hz, hcell, hwz⟩⟩
  clear hA0 hval0
  refine (walk a0 a1 a2 len2 cap2 z2 a3 len3 cap3 z3 a4 a5 len5 cap5 z5 a6 len6 cap6 z6 W w0 w1 w2 w3 w4 w5 w6).mono fun e W' ⟨he, bel⟩ => ?_
  subst he
  exact ⟨_, rfl, _, _, _, [], _, [], hW', trodAll_mk1 (shut_bool Try.underlying4 _), (trodAll_cons_mk (shut_int Try.underlying2 w0) (trodAll_cons_mk (shut_int Try.underlying3 w1) (trodAll_cons_mk (Below.trod laidOut (by kernel_rfl) (of_decide_eq_true (by kernel_rfl)) k2 bel lt2) (trodAll_cons_mk (Below.trod laidOut (by kernel_rfl) (of_decide_eq_true (by kernel_rfl)) k3 bel lt3) (trodAll_cons_mk (shut_int Try.underlying3 w4) (trodAll_cons_mk (Below.trod laidOut (by kernel_rfl) (of_decide_eq_true (by kernel_rfl)) k5 bel lt5) (trodAll_cons_mk (Below.trod laidOut (by kernel_rfl) (of_decide_eq_true (by kernel_rfl)) k6 bel lt6) trodAll_mk0))))))), rfl, bel.frame _, fun h => by cases h⟩

theorem over : Rows.fightBlowsRow.holds Try.pinned (OpenSpec.ofChange Rows.fightBlowsSpec) :=
  OpenClaim.holds_of_wide 7 Try.f7 rfl rfl rfl rfl rfl rfl rfl ⟨rfl, rfl, rfl, rfl, rfl⟩ rfl rfl rfl rfl rfl (by kernel_rfl) Try.func7 (by kernel_rfl)
    (of_decide_eq_true (by kernel_rfl)) (by unfold Func.isWrapper; first | (rw [if_pos (by decide +kernel)]; kernel_rfl) | (rw [if_neg (by decide +kernel)]; exact ⟨rfl, rfl⟩))
    (fun os started H enc _ => lifted os started H enc)

theorem proved : Rows.FightBlowsSaid := over
#print axioms proved
end Go.Proofs.Ytgkomdpceilggaa.fightBlows
