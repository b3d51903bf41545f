/-
  In any world what each monster does, and each robot, is the document's, and the world stays as it was: for every seed, floor, kinds, items, frame, row and seat, at this commit; no condition.
-/
import Derived.Test.YtbploaihicakeaaRows
import Derived.WalkKit
import Derived.ProofKit
import Derived.OpenShut
import Derived.Test.YtbploaihicakeaaPart40
import Derived.Test.YtbploaihicakeaaPart32
import Derived.Test.YtbploaihicakeaaPart34
import Derived.Test.YtbploaihicakeaaPart18
import Derived.Test.YtbploaihicakeaaPart24
import Derived.BigQuiet
import Derived.Deep.Cut
import Derived.Deep.CutRange
import Derived.Deep.CutBlock
import Derived.Deep.RegionHeld3
import Derived.ShutString
import Derived.ChangeOld
import Derived.Below
namespace Go.Proofs.Ytbploaihicakeaa.mindsActs
open Go.ChangeShapes Go.WideShapes Go.ChangeAt Go.RowKit
open Go.ChangeMaps (open_string shut_string)
set_option linter.unusedVariables false

theorem own : ownKnob Try.prog.godebug = none := by kernel_rfl
theorem laidOut : laidOutB Try.prog = true := by kernel_rfl

/-- WHAT THE WALK IS TOLD OF A SLICE OF INTEGERS THAT CAME IN: it is nil; or it leads to a row of 'cap' cells, the numbers 'zs' (the first 'len' are its elements, the rest its spare room), each fitting its kind. -/
def IsRow (k : IntKind) (w : World) (a : Option Addr) (len cap : Nat) (zs : List Int) : Prop :=
  (a = none ∧ len = 0 ∧ cap = 0 ∧ zs = []) ∨
  ∃ x, a = some x ∧ len ≤ cap ∧ cap ≤ maxLen ∧ zs.length = cap ∧ (∀ i, i < zs.length → w.cell? (x.add i) = some (.int k (zs.getD i 0))) ∧ ∀ n ∈ zs, (Lit.int k n).wf = true

theorem IsRow.num {w : World} {a : Option Addr} {len cap : Nat} {zs : List Int} (h : IsRow .i64 w a len cap zs) : NumArg w a len (fun i => zs.getD i 0) := by
  rcases h with ⟨rfl, rfl, rfl, rfl⟩ | ⟨x, rfl, hl, hm, hz, hcell, _⟩
  · exact ⟨Nat.zero_le _, .inl rfl⟩
  · refine ⟨Nat.le_trans hl hm, ?_⟩
    by_cases h0 : len = 0
    · exact .inl h0
    · right
      obtain ⟨b, off, spot⟩ := x
      have hspot : spot = none := by simpa [Addr.add] using World.cell?_spot (hcell 0 (by omega))
      subst hspot
      have hlt := Go.block_lt_of_cell (hcell 0 (by omega))
      refine ⟨b, off, rfl, by simpa [Addr.add] using hlt, fun i hi => ?_⟩
      have h := hcell i (by omega)
      by_cases hi0 : i = 0
      · subst hi0
        simpa [Addr.add] using h
      · simpa [Addr.add, hi0] using h


set_option maxRecDepth 8000 in
set_option maxHeartbeats 12800000 in

theorem walk (a0 : Int) (a1 : Int) (a2 : Option Addr) (len2 cap2 : Nat) (z2 : List Int) (a3 : Option Addr) (len3 cap3 : Nat) (z3 : Nat → Nat → Int) (a4 : Int) (a5 : Int) (a6 : Int) (w : World) (w0 : (Lit.int .i64 a0).wf = true) (w1 : (Lit.int .i64 a1).wf = true) (w2 : IsRow .i64 w a2 len2 cap2 z2) (w3 : ItArg w a3 len3 cap3 z3) (w4 : (Lit.int .i64 a4).wf = true) (w5 : (Lit.int .i64 a5).wf = true) (w6 : (Lit.int .i64 a6).wf = true) :
    Calls Try.prog 3 #[.int .i64 a0, .int .i64 a1, .slice a2 len2 cap2, .slice a3 len3 cap3, .int .i64 a4, .int .i64 a5, .int .i64 a6] w fun e w' => e = .returned (.bool true) ∧ Below w.heap.size w w' := by
  have hKd := hide (IsRow.num w2)
  have hIt := hide w3
  clear w0 w1 w2 w3 w4 w5 w6
  go_enter Try.func3, Try.ntmps3
  go_wp2_with fail
  refine (known9_any _).mono ?_
  rintro e wk ⟨rfl, hgk⟩
  have hIk := hide ((unhide hIt).on hgk)
  have hKk := hide ((unhide hKd).on hgk)
  have hgk' := hide hgk
  clear hgk hIt hKd
  go_wp2_with fail
  refine (crowd_full a0 a1 a4 a2 len2 cap2 _ a3 len3 cap3 z3 wk (unhide hKk) (unhide hIk)).mono ?_
  rintro e wa ⟨c, s, g, E, I, hFit, hSet, -, -, hWd, gC, gE, gI, cC, cE, cI, rfl, hcap, l1, l2, l3, n1, n2, n3, hL, hg⟩
  have hW := hide (Gd.law_new (s := s) (g := g) (cC := cC) (cI := cI) (unhide hgk') hcap l1 l2 l3 n1 n2 n3 hL hg)
  have hF := hide hFit
  have hE := hide (Md.fine_of hFit hSet)
  have hGd := hide (Md.good_fit hFit hSet)
  have hcw : Hid (384 ≤ cC) := hWd.cap
  have hc1 := hide hcap
  clear hcap l1 l2 l3 n1 n2 n3 hL hg hFit hSet hWd hIk hKk hgk'
  unfold Gd.world at hW ⊢
  go_upto_region 4 with fail
  obtain ⟨T, hT⟩ : ∃ T, wa.heap.size = T := ⟨_, rfl⟩
  rw [hT] at hW ⊢
  generalize wa.alloc (.cells #[.int .i64 (s 0), .int .i64 (s 1), .int .i64 (s 2), .int .i64 (s 3), .slice (some ⟨gC, 0, none⟩) 384 cC, .slice (some ⟨gE, 0, none⟩) 32 cE, .slice (some ⟨gI, 0, none⟩) 40 cI, .int .i64 (g 0), .int .i64 (g 1), .int .i64 (g 2), .int .i64 (g 3)] 29) = wb at hW ⊢
  clear hT
  obtain ⟨b0, b1, b2, b3, b4, b5, b6, b7, b8, b9, b10⟩ := (unhide hW).eleven
  have ctw := hide (refTwin_any s g c E I gC gE gI cC cE cI _ (unhide hW).hold.lists)
  unfold Gd.world at ctw
  go_wp2_with fail
  refine (unhide ctw).mono ?_
  rintro e wu ⟨uC, uE, uI, eC, eE, eI, rfl, hcap, l1, l2, l3, n1, n2, n3, hL, hg⟩
  have hU := hide (Gd.law_new (s := s) (g := g) (cC := eC) (cI := eI) (unhide hW).grown hcap l1 l2 l3 n1 n2 n3 hL hg)
  have hg2 := hide (grown_trans hg (World.grownBy_alloc wu (.cells #[.int .i64 (s 0), .int .i64 (s 1), .int .i64 (s 2), .int .i64 (s 3), .slice (some ⟨uC, 0, none⟩) 384 eC, .slice (some ⟨uE, 0, none⟩) 32 eE, .slice (some ⟨uI, 0, none⟩) 40 eI, .int .i64 (g 0), .int .i64 (g 1), .int .i64 (g 2), .int .i64 (g 3)] 29) none))
  have hW2 := hide ((unhide hW).on (unhide hg2))
  have hc2 := hide hcap
  clear hcap l1 l2 l3 n1 n2 n3 hL hg ctw b0 b1 b2 b3 b4 b5 b6 b7 b8 b9 b10 hW hg2
  have hW := hide (unhide hW2)
  clear hW2
  unfold Gd.world at hU ⊢
  go_upto_region 5 with fail
  obtain ⟨U, hUe⟩ : ∃ U, wu.heap.size = U := ⟨_, rfl⟩
  rw [hUe] at hU ⊢
  generalize wu.alloc (.cells #[.int .i64 (s 0), .int .i64 (s 1), .int .i64 (s 2), .int .i64 (s 3), .slice (some ⟨uC, 0, none⟩) 384 eC, .slice (some ⟨uE, 0, none⟩) 32 eE, .slice (some ⟨uI, 0, none⟩) 40 eI, .int .i64 (g 0), .int .i64 (g 1), .int .i64 (g 2), .int .i64 (g 3)] 29) = wd at hU hW ⊢
  clear hUe
  have cm : Hid (∀ (i : Int) (x : World), Gd.Lists x gC gE gI c E I → Calls Try.prog 11 #[.agg (Gd.world s gC gE gI cC cE cI g), .int .i64 i] x (Md.Says x (Md.IsMonster s c E i))) := fun i x hx => mindsMonster_any s g c E I gC gE gI cC cE cI i x hx (unhide hF).cells (unhide hc1) (unhide hGd)
  have cr : Hid (∀ (i : Int) (x : World), Gd.Lists x uC uE uI c E I → Calls Try.prog 12 #[.agg (Gd.world s uC uE uI eC eE eI g), .int .i64 i] x (Md.Says x (Md.IsMonster s c E i))) := fun i x hx => refMonster_any s g c E I uC uE uI eC eE eI i x hx (unhide hF).cells (unhide hc2) (unhide hE)
  have bm : Hid (∀ (i : Int) (x : World), Gd.Lists x gC gE gI c E I → Calls Try.prog 13 #[.agg (Gd.world s gC gE gI cC cE cI g), .int .i64 i] x (Md.Says x (Md.IsRobot c E I i))) := fun i x hx => mindsRobot_any s g c E I gC gE gI cC cE cI i x hx (unhide hF).cells (unhide hc1) (unhide hcw) (unhide hGd)
  have br : Hid (∀ (i : Int) (x : World), Gd.Lists x uC uE uI c E I → Calls Try.prog 14 #[.agg (Gd.world s uC uE uI eC eE eI g), .int .i64 i] x (Md.Says x (Md.IsRobot c E I i))) := fun i x hx => refRobot_any s g c E I uC uE uI eC eE eI i x hx (unhide hF).cells (unhide hc2) (unhide hE)
  clear hF hE hGd hcw hc1 hc2
  unfold Gd.world at cm cr bm br
  go_wp2_with fail
  go_loopw [17] (fun vi wr => ∃ i : Nat, i ≤ 32 ∧ vi = .int .i64 (i : Int) ∧ Hid (Gd.Law w wr T gC gE gI cC cE cI s g c E I) ∧ Hid (Gd.Law w wr U uC uE uI eC eE eI s g c E I)) (fun vi _ => 50 - (intOf vi).toNat)
  case atStart => exact ⟨0, by omega, rfl, hW, hU⟩
  case round =>
    clear hW hU
    obtain ⟨i, hi, rfl, hW, hU⟩ := hrel
    by_cases hlt : i < 32
    · have hlt' : (i : Int) < 32 := by omega
      have HL := hide hlt
      clear hlt hi
      have hdr := hide (grown_drew1 (World.grownBy.refl wr none))
      have hkeep : Hid (∀ x, wr.grownBy x none → ((x.cell? ⟨T, 0, none⟩ = some (.int .i64 (s 0)) ∧ x.cell? ⟨T, 1, none⟩ = some (.int .i64 (s 1)) ∧ x.cell? ⟨T, 2, none⟩ = some (.int .i64 (s 2)) ∧ x.cell? ⟨T, 3, none⟩ = some (.int .i64 (s 3)) ∧ x.cell? ⟨T, 4, none⟩ = some (.slice (some ⟨gC, 0, none⟩) 384 cC) ∧ x.cell? ⟨T, 5, none⟩ = some (.slice (some ⟨gE, 0, none⟩) 32 cE) ∧ x.cell? ⟨T, 6, none⟩ = some (.slice (some ⟨gI, 0, none⟩) 40 cI) ∧ x.cell? ⟨T, 7, none⟩ = some (.int .i64 (g 0)) ∧ x.cell? ⟨T, 8, none⟩ = some (.int .i64 (g 1)) ∧ x.cell? ⟨T, 9, none⟩ = some (.int .i64 (g 2)) ∧ x.cell? ⟨T, 10, none⟩ = some (.int .i64 (g 3))) ∧ (x.cell? ⟨U, 0, none⟩ = some (.int .i64 (s 0)) ∧ x.cell? ⟨U, 1, none⟩ = some (.int .i64 (s 1)) ∧ x.cell? ⟨U, 2, none⟩ = some (.int .i64 (s 2)) ∧ x.cell? ⟨U, 3, none⟩ = some (.int .i64 (s 3)) ∧ x.cell? ⟨U, 4, none⟩ = some (.slice (some ⟨uC, 0, none⟩) 384 eC) ∧ x.cell? ⟨U, 5, none⟩ = some (.slice (some ⟨uE, 0, none⟩) 32 eE) ∧ x.cell? ⟨U, 6, none⟩ = some (.slice (some ⟨uI, 0, none⟩) 40 eI) ∧ x.cell? ⟨U, 7, none⟩ = some (.int .i64 (g 0)) ∧ x.cell? ⟨U, 8, none⟩ = some (.int .i64 (g 1)) ∧ x.cell? ⟨U, 9, none⟩ = some (.int .i64 (g 2)) ∧ x.cell? ⟨U, 10, none⟩ = some (.int .i64 (g 3))))) := fun x hx => ⟨((unhide hW).on hx).eleven, ((unhide hU).on hx).eleven⟩
      have hS0 := unhide hkeep wr (World.grownBy.refl _ none)
      have hL1 : Hid (∀ y, wr.grownBy y none → Gd.Lists y gC gE gI c E I) := fun y hy => (unhide hW).hold.lists.on hy
      have hL2 : Hid (∀ y, wr.grownBy y none → Gd.Lists y uC uE uI c E I) := fun y hy => (unhide hU).hold.lists.on hy
      go_upto_region 8 with fail
      go_region_held3 (fun x => (x.cell? ⟨T, 0, none⟩ = some (.int .i64 (s 0)) ∧ x.cell? ⟨T, 1, none⟩ = some (.int .i64 (s 1)) ∧ x.cell? ⟨T, 2, none⟩ = some (.int .i64 (s 2)) ∧ x.cell? ⟨T, 3, none⟩ = some (.int .i64 (s 3)) ∧ x.cell? ⟨T, 4, none⟩ = some (.slice (some ⟨gC, 0, none⟩) 384 cC) ∧ x.cell? ⟨T, 5, none⟩ = some (.slice (some ⟨gE, 0, none⟩) 32 cE) ∧ x.cell? ⟨T, 6, none⟩ = some (.slice (some ⟨gI, 0, none⟩) 40 cI) ∧ x.cell? ⟨T, 7, none⟩ = some (.int .i64 (g 0)) ∧ x.cell? ⟨T, 8, none⟩ = some (.int .i64 (g 1)) ∧ x.cell? ⟨T, 9, none⟩ = some (.int .i64 (g 2)) ∧ x.cell? ⟨T, 10, none⟩ = some (.int .i64 (g 3))) ∧ (x.cell? ⟨U, 0, none⟩ = some (.int .i64 (s 0)) ∧ x.cell? ⟨U, 1, none⟩ = some (.int .i64 (s 1)) ∧ x.cell? ⟨U, 2, none⟩ = some (.int .i64 (s 2)) ∧ x.cell? ⟨U, 3, none⟩ = some (.int .i64 (s 3)) ∧ x.cell? ⟨U, 4, none⟩ = some (.slice (some ⟨uC, 0, none⟩) 384 eC) ∧ x.cell? ⟨U, 5, none⟩ = some (.slice (some ⟨uE, 0, none⟩) 32 eE) ∧ x.cell? ⟨U, 6, none⟩ = some (.slice (some ⟨uI, 0, none⟩) 40 eI) ∧ x.cell? ⟨U, 7, none⟩ = some (.int .i64 (g 0)) ∧ x.cell? ⟨U, 8, none⟩ = some (.int .i64 (g 1)) ∧ x.cell? ⟨U, 9, none⟩ = some (.int .i64 (g 2)) ∧ x.cell? ⟨U, 10, none⟩ = some (.int .i64 (g 3)))) (go_keep) (first
        | (go_at_call 11; refine (unhide cm _ _ (unhide hL1 _ (unhide hdr))).mono ?_; rintro e w1 ⟨v, hv, rfl, hg⟩; have hg1 := hide (grown_trans (unhide hdr) hg); have hv1 := hide hv; have hS1 := unhide hkeep _ (unhide hg1); clear hg hv)
        | (go_at_call 12; refine (unhide cr _ _ (unhide hL2 _ (unhide hg1))).mono ?_; rintro e w2 ⟨v2, hv, rfl, hg⟩; have hg2 := hide (grown_trans (unhide hg1) hg); obtain rfl := (unhide hv1).one hv; have hS2 := unhide hkeep _ (unhide hg2); clear hg hv))
      have hW2 := hide ((unhide hW).on (unhide hg2))
      have hU2 := hide ((unhide hU).on (unhide hg2))
      clear hS0 hS1 hS2 hW hU
      go_wp2
      go_roundw
      case rel => exact ⟨i + 1, by have := unhide HL; omega, by go_num, hW2, hU2⟩
      case measure => simp [intOf]; have := unhide HL; omega
    · obtain rfl : i = 32 := by omega
      have hge : ¬ ((32 : Nat) : Int) < 32 := by omega
      clear hlt hi
      go_wp2_with fail
      go_loopw [18] (fun vi wr => ∃ i : Nat, i ≤ 4 ∧ vi = .int .i64 (i : Int) ∧ Hid (Gd.Law w wr T gC gE gI cC cE cI s g c E I) ∧ Hid (Gd.Law w wr U uC uE uI eC eE eI s g c E I)) (fun vi _ => 50 - (intOf vi).toNat)
      case atStart => exact ⟨0, by omega, rfl, hW, hU⟩
      case round =>
        clear hW hU
        obtain ⟨i, hi, rfl, hW, hU⟩ := hrel
        by_cases hlt : i < 4
        · have hlt' : (i : Int) < 4 := by omega
          have HL := hide hlt
          clear hlt hi
          have hdr := hide (grown_drew1 (World.grownBy.refl wr none))
          have hkeep : Hid (∀ x, wr.grownBy x none → ((x.cell? ⟨T, 0, none⟩ = some (.int .i64 (s 0)) ∧ x.cell? ⟨T, 1, none⟩ = some (.int .i64 (s 1)) ∧ x.cell? ⟨T, 2, none⟩ = some (.int .i64 (s 2)) ∧ x.cell? ⟨T, 3, none⟩ = some (.int .i64 (s 3)) ∧ x.cell? ⟨T, 4, none⟩ = some (.slice (some ⟨gC, 0, none⟩) 384 cC) ∧ x.cell? ⟨T, 5, none⟩ = some (.slice (some ⟨gE, 0, none⟩) 32 cE) ∧ x.cell? ⟨T, 6, none⟩ = some (.slice (some ⟨gI, 0, none⟩) 40 cI) ∧ x.cell? ⟨T, 7, none⟩ = some (.int .i64 (g 0)) ∧ x.cell? ⟨T, 8, none⟩ = some (.int .i64 (g 1)) ∧ x.cell? ⟨T, 9, none⟩ = some (.int .i64 (g 2)) ∧ x.cell? ⟨T, 10, none⟩ = some (.int .i64 (g 3))) ∧ (x.cell? ⟨U, 0, none⟩ = some (.int .i64 (s 0)) ∧ x.cell? ⟨U, 1, none⟩ = some (.int .i64 (s 1)) ∧ x.cell? ⟨U, 2, none⟩ = some (.int .i64 (s 2)) ∧ x.cell? ⟨U, 3, none⟩ = some (.int .i64 (s 3)) ∧ x.cell? ⟨U, 4, none⟩ = some (.slice (some ⟨uC, 0, none⟩) 384 eC) ∧ x.cell? ⟨U, 5, none⟩ = some (.slice (some ⟨uE, 0, none⟩) 32 eE) ∧ x.cell? ⟨U, 6, none⟩ = some (.slice (some ⟨uI, 0, none⟩) 40 eI) ∧ x.cell? ⟨U, 7, none⟩ = some (.int .i64 (g 0)) ∧ x.cell? ⟨U, 8, none⟩ = some (.int .i64 (g 1)) ∧ x.cell? ⟨U, 9, none⟩ = some (.int .i64 (g 2)) ∧ x.cell? ⟨U, 10, none⟩ = some (.int .i64 (g 3))))) := fun x hx => ⟨((unhide hW).on hx).eleven, ((unhide hU).on hx).eleven⟩
          have hS0 := unhide hkeep wr (World.grownBy.refl _ none)
          have hL1 : Hid (∀ y, wr.grownBy y none → Gd.Lists y gC gE gI c E I) := fun y hy => (unhide hW).hold.lists.on hy
          have hL2 : Hid (∀ y, wr.grownBy y none → Gd.Lists y uC uE uI c E I) := fun y hy => (unhide hU).hold.lists.on hy
          go_upto_region 13 with fail
          go_region_held3 (fun x => (x.cell? ⟨T, 0, none⟩ = some (.int .i64 (s 0)) ∧ x.cell? ⟨T, 1, none⟩ = some (.int .i64 (s 1)) ∧ x.cell? ⟨T, 2, none⟩ = some (.int .i64 (s 2)) ∧ x.cell? ⟨T, 3, none⟩ = some (.int .i64 (s 3)) ∧ x.cell? ⟨T, 4, none⟩ = some (.slice (some ⟨gC, 0, none⟩) 384 cC) ∧ x.cell? ⟨T, 5, none⟩ = some (.slice (some ⟨gE, 0, none⟩) 32 cE) ∧ x.cell? ⟨T, 6, none⟩ = some (.slice (some ⟨gI, 0, none⟩) 40 cI) ∧ x.cell? ⟨T, 7, none⟩ = some (.int .i64 (g 0)) ∧ x.cell? ⟨T, 8, none⟩ = some (.int .i64 (g 1)) ∧ x.cell? ⟨T, 9, none⟩ = some (.int .i64 (g 2)) ∧ x.cell? ⟨T, 10, none⟩ = some (.int .i64 (g 3))) ∧ (x.cell? ⟨U, 0, none⟩ = some (.int .i64 (s 0)) ∧ x.cell? ⟨U, 1, none⟩ = some (.int .i64 (s 1)) ∧ x.cell? ⟨U, 2, none⟩ = some (.int .i64 (s 2)) ∧ x.cell? ⟨U, 3, none⟩ = some (.int .i64 (s 3)) ∧ x.cell? ⟨U, 4, none⟩ = some (.slice (some ⟨uC, 0, none⟩) 384 eC) ∧ x.cell? ⟨U, 5, none⟩ = some (.slice (some ⟨uE, 0, none⟩) 32 eE) ∧ x.cell? ⟨U, 6, none⟩ = some (.slice (some ⟨uI, 0, none⟩) 40 eI) ∧ x.cell? ⟨U, 7, none⟩ = some (.int .i64 (g 0)) ∧ x.cell? ⟨U, 8, none⟩ = some (.int .i64 (g 1)) ∧ x.cell? ⟨U, 9, none⟩ = some (.int .i64 (g 2)) ∧ x.cell? ⟨U, 10, none⟩ = some (.int .i64 (g 3)))) (go_keep) (first
            | (go_at_call 13; refine (unhide bm _ _ (unhide hL1 _ (unhide hdr))).mono ?_; rintro e w1 ⟨v, hv, rfl, hg⟩; have hg1 := hide (grown_trans (unhide hdr) hg); have hv1 := hide hv; have hS1 := unhide hkeep _ (unhide hg1); clear hg hv)
            | (go_at_call 14; refine (unhide br _ _ (unhide hL2 _ (unhide hg1))).mono ?_; rintro e w2 ⟨v2, hv, rfl, hg⟩; have hg2 := hide (grown_trans (unhide hg1) hg); obtain rfl := (unhide hv1).one hv; have hS2 := unhide hkeep _ (unhide hg2); clear hg hv))
          have hW2 := hide ((unhide hW).on (unhide hg2))
          have hU2 := hide ((unhide hU).on (unhide hg2))
          clear hS0 hS1 hS2 hW hU
          go_wp2
          go_roundw
          case rel => exact ⟨i + 1, by have := unhide HL; omega, by go_num, hW2, hU2⟩
          case measure => simp [intOf]; have := unhide HL; omega
        · obtain rfl : i = 4 := by omega
          have hge : ¬ ((4 : Nat) : Int) < 4 := by omega
          clear hlt hi
          have hdr := hide (grown_drew1 (World.grownBy.refl wr none))
          have hkeep : Hid (∀ x, wr.grownBy x none → ((x.cell? ⟨T, 0, none⟩ = some (.int .i64 (s 0)) ∧ x.cell? ⟨T, 1, none⟩ = some (.int .i64 (s 1)) ∧ x.cell? ⟨T, 2, none⟩ = some (.int .i64 (s 2)) ∧ x.cell? ⟨T, 3, none⟩ = some (.int .i64 (s 3)) ∧ x.cell? ⟨T, 4, none⟩ = some (.slice (some ⟨gC, 0, none⟩) 384 cC) ∧ x.cell? ⟨T, 5, none⟩ = some (.slice (some ⟨gE, 0, none⟩) 32 cE) ∧ x.cell? ⟨T, 6, none⟩ = some (.slice (some ⟨gI, 0, none⟩) 40 cI) ∧ x.cell? ⟨T, 7, none⟩ = some (.int .i64 (g 0)) ∧ x.cell? ⟨T, 8, none⟩ = some (.int .i64 (g 1)) ∧ x.cell? ⟨T, 9, none⟩ = some (.int .i64 (g 2)) ∧ x.cell? ⟨T, 10, none⟩ = some (.int .i64 (g 3))) ∧ (x.cell? ⟨U, 0, none⟩ = some (.int .i64 (s 0)) ∧ x.cell? ⟨U, 1, none⟩ = some (.int .i64 (s 1)) ∧ x.cell? ⟨U, 2, none⟩ = some (.int .i64 (s 2)) ∧ x.cell? ⟨U, 3, none⟩ = some (.int .i64 (s 3)) ∧ x.cell? ⟨U, 4, none⟩ = some (.slice (some ⟨uC, 0, none⟩) 384 eC) ∧ x.cell? ⟨U, 5, none⟩ = some (.slice (some ⟨uE, 0, none⟩) 32 eE) ∧ x.cell? ⟨U, 6, none⟩ = some (.slice (some ⟨uI, 0, none⟩) 40 eI) ∧ x.cell? ⟨U, 7, none⟩ = some (.int .i64 (g 0)) ∧ x.cell? ⟨U, 8, none⟩ = some (.int .i64 (g 1)) ∧ x.cell? ⟨U, 9, none⟩ = some (.int .i64 (g 2)) ∧ x.cell? ⟨U, 10, none⟩ = some (.int .i64 (g 3))))) := fun x hx => ⟨((unhide hW).on hx).eleven, ((unhide hU).on hx).eleven⟩
          have hS0 := unhide hkeep wr (World.grownBy.refl _ none)
          have hL1 : Hid (∀ y, wr.grownBy y none → Gd.Lists y gC gE gI c E I) := fun y hy => (unhide hW).hold.lists.on hy
          have hL2 : Hid (∀ y, wr.grownBy y none → Gd.Lists y uC uE uI c E I) := fun y hy => (unhide hU).hold.lists.on hy
          have cs := hide (fun x (hx : wr.grownBy x none) => same7_any s g c E I gC gE gI cC cE cI uC uE uI eC eE eI x (unhide hL1 x hx) (unhide hL2 x hx))
          unfold Gd.world at cs
          go_upto_region 15 with fail
          go_region_held3 (fun x => (x.cell? ⟨T, 0, none⟩ = some (.int .i64 (s 0)) ∧ x.cell? ⟨T, 1, none⟩ = some (.int .i64 (s 1)) ∧ x.cell? ⟨T, 2, none⟩ = some (.int .i64 (s 2)) ∧ x.cell? ⟨T, 3, none⟩ = some (.int .i64 (s 3)) ∧ x.cell? ⟨T, 4, none⟩ = some (.slice (some ⟨gC, 0, none⟩) 384 cC) ∧ x.cell? ⟨T, 5, none⟩ = some (.slice (some ⟨gE, 0, none⟩) 32 cE) ∧ x.cell? ⟨T, 6, none⟩ = some (.slice (some ⟨gI, 0, none⟩) 40 cI) ∧ x.cell? ⟨T, 7, none⟩ = some (.int .i64 (g 0)) ∧ x.cell? ⟨T, 8, none⟩ = some (.int .i64 (g 1)) ∧ x.cell? ⟨T, 9, none⟩ = some (.int .i64 (g 2)) ∧ x.cell? ⟨T, 10, none⟩ = some (.int .i64 (g 3))) ∧ (x.cell? ⟨U, 0, none⟩ = some (.int .i64 (s 0)) ∧ x.cell? ⟨U, 1, none⟩ = some (.int .i64 (s 1)) ∧ x.cell? ⟨U, 2, none⟩ = some (.int .i64 (s 2)) ∧ x.cell? ⟨U, 3, none⟩ = some (.int .i64 (s 3)) ∧ x.cell? ⟨U, 4, none⟩ = some (.slice (some ⟨uC, 0, none⟩) 384 eC) ∧ x.cell? ⟨U, 5, none⟩ = some (.slice (some ⟨uE, 0, none⟩) 32 eE) ∧ x.cell? ⟨U, 6, none⟩ = some (.slice (some ⟨uI, 0, none⟩) 40 eI) ∧ x.cell? ⟨U, 7, none⟩ = some (.int .i64 (g 0)) ∧ x.cell? ⟨U, 8, none⟩ = some (.int .i64 (g 1)) ∧ x.cell? ⟨U, 9, none⟩ = some (.int .i64 (g 2)) ∧ x.cell? ⟨U, 10, none⟩ = some (.int .i64 (g 3)))) (go_keep) (first
            | (go_at_call 11; refine (unhide cm _ _ (unhide hL1 _ (unhide hdr))).mono ?_; rintro e w1 ⟨v, hv0, rfl, hg⟩; have hg1 := hide (grown_trans (unhide hdr) hg); have hv1 := hide hv0; have hS1 := unhide hkeep _ (unhide hg1); clear hg hv0)
            | (go_at_call 12; refine (unhide cr _ _ (unhide hL2 _ (unhide hg1))).mono ?_; rintro e w2 ⟨v2, hv, rfl, hg⟩; have hg2 := hide (grown_trans (unhide hg1) hg); obtain rfl := (unhide hv1).one hv; have hS2 := unhide hkeep _ (unhide hg2); clear hg hv)
            | (go_at_call 13; refine (unhide bm _ _ (unhide hL1 _ (unhide hg2))).mono ?_; rintro e w3 ⟨u, hv, rfl, hg⟩; have hg3 := hide (grown_trans (unhide hg2) hg); have hu := hide hv; have hS3 := unhide hkeep _ (unhide hg3); clear hg hv)
            | (go_at_call 14; refine (unhide br _ _ (unhide hL2 _ (unhide hg3))).mono ?_; rintro e w4 ⟨u2, hv, rfl, hg⟩; have hg4 := hide (grown_trans (unhide hg3) hg); obtain rfl := (unhide hu).one hv; have hS4 := unhide hkeep _ (unhide hg4); clear hg hv)
            | (go_at_call 15; refine (unhide cs _ (unhide hg4)).mono ?_; rintro e w5 ⟨rfl, hg⟩; have hg5 := hide (grown_trans (unhide hg4) hg); have hS5 := unhide hkeep _ (unhide hg5); clear hg))
          have hfin := hide (grown_trans (unhide hW).grown (unhide hg5))
          go_wp2
          go_ret
          exact ⟨rfl, none_below (unhide hfin)⟩

set_option maxRecDepth 100000 in
theorem lifted (os : Os) (started : os.Started) (H : Type) (enc : TypeId × Value → H) :
    ReturnsInHanded {} Try.checked os 3 .any (Rows.mindsActsSpec.pre6 enc Try.prog Try.f3 Rows.mindsActsRow.domain false) (Rows.mindsActsSpec.post enc Try.prog Try.f3 false true false false) := by
  refine returnsInHanded_of_change (C := Try.checked) own started (by kernel_rfl) Try.func3
    (ChangeSpec.witness6 (enc := enc) (C := Try.checked) false ⟨#[], #[.int .i64 0, .int .i64 0, .slice none 0 0, .slice none 0 0, .int .i64 0, .int .i64 0, .int .i64 0], []⟩ 8 (by kernel_rfl) (by kernel_rfl) (by kernel_rfl) (by kernel_rfl)) ?_
  intro W base args ds gs before hval0 hW hcnd _
  have hval : ∀ (j : Nat) t v, Try.f3.params[j]? = some t → args[j]? = some v → Value.okWide Try.prog W .any base t v := hval0
  have hW' := hW
  obtain ⟨p, q, hA0, hV, rfl, hfz, hnd⟩ := hW
  have hA : DataW.TrodAll enc Try.prog W 0 (fun _ => true) true Try.f3.params.toList args.toList ds p := hA0
  rw [Try.params3] at hA hval
  obtain ⟨v0, vs0, d0, ds0, p0, q0, hargs, rfl, rfl, h0, r0⟩ := trodAll_cons hA
  obtain ⟨v1, vs1, d1, ds1, p1, q1, rfl, rfl, rfl, h1, r1⟩ := trodAll_cons r0
  obtain ⟨v2, vs2, d2, ds2, p2, q2, rfl, rfl, rfl, h2, r2⟩ := trodAll_cons r1
  obtain ⟨v3, vs3, d3, ds3, p3, q3, rfl, rfl, rfl, h3, r3⟩ := trodAll_cons r2
  obtain ⟨v4, vs4, d4, ds4, p4, q4, rfl, rfl, rfl, h4, r4⟩ := trodAll_cons r3
  obtain ⟨v5, vs5, d5, ds5, p5, q5, rfl, rfl, rfl, h5, r5⟩ := trodAll_cons r4
  obtain ⟨v6, vs6, d6, ds6, p6, q6, rfl, rfl, rfl, h6, r6⟩ := trodAll_cons r5
  obtain ⟨rfl, rfl, rfl⟩ := trodAll_nil r6
  obtain rfl : args = #[v0, v1, v2, v3, v4, v5, v6] := by cases args; simp_all
  obtain ⟨rfl, rfl⟩ := trodVars_none hV
  obtain ⟨a0, rfl, rfl, rfl, w0⟩ := open_int Try.underlying2 (hval 0 2 v0 rfl rfl) h0
  obtain ⟨a1, rfl, rfl, rfl, w1⟩ := open_int Try.underlying3 (hval 1 3 v1 rfl rfl) h1
  obtain ⟨a2, len2, cap2, rfl⟩ := okWide_slice Try.underlying22 (hval 2 22 v2 rfl rfl)
  have k2 := h2
  have lt2 : ∀ x ∈ p2, x.block < W.heap.size := by obtain ⟨m, hm⟩ := k2; exact DataW.trod_lt m _ _ _ hm
  obtain ⟨z2, w2⟩ : ∃ zs, IsRow .i64 W a2 len2 cap2 zs := by
    obtain ⟨fuel, hf⟩ := h2
    rcases open_ints Try.underlying22 Try.underlying3 (by kernel_rfl) hf with ⟨hcs, _⟩ | ⟨x, l, c, zs, hcs, _, hl, hm, hz, _, hcell, hwz⟩
    · simp [Value.cells] at hcs
      obtain ⟨rfl, rfl, rfl⟩ := hcs
      exact ⟨[], .inl ⟨rfl, rfl, rfl, rfl⟩⟩
    · simp [Value.cells] at hcs
      obtain ⟨rfl, rfl, rfl⟩ := hcs
      exact ⟨zs, .inr ⟨_, rfl, hl, hm, by simpa using hz, hcell, hwz⟩⟩
  obtain ⟨a3, len3, cap3, rfl⟩ := okWide_slice Try.underlying23 (hval 3 23 v3 rfl rfl)
  have k3 := h3
  have lt3 : ∀ x ∈ p3, x.block < W.heap.size := by obtain ⟨m, hm⟩ := k3; exact DataW.trod_lt m _ _ _ hm
  obtain ⟨z3, w3⟩ : ∃ M, ItArg W a3 len3 cap3 M := by
    obtain ⟨fuel, hf⟩ := h3
    exact open_items (by simpa [Value.cells] using hf)
  obtain ⟨a4, rfl, rfl, rfl, w4⟩ := open_int Try.underlying3 (hval 4 3 v4 rfl rfl) h4
  obtain ⟨a5, rfl, rfl, rfl, w5⟩ := open_int Try.underlying3 (hval 5 3 v5 rfl rfl) h5
  obtain ⟨a6, rfl, rfl, rfl, w6⟩ := open_int Try.underlying3 (hval 6 3 v6 rfl rfl) h6
  clear hA0 hval0
  refine (walk a0 a1 a2 len2 cap2 z2 a3 len3 cap3 z3 a4 a5 a6 W w0 w1 w2 w3 w4 w5 w6).mono fun e W' ⟨he, bel⟩ => ?_
  subst he
  exact ⟨_, rfl, _, _, _, [], _, [], hW', trodAll_mk1 (shut_bool Try.underlying4 _), (trodAll_cons_mk (shut_int Try.underlying2 w0) (trodAll_cons_mk (shut_int Try.underlying3 w1) (trodAll_cons_mk (Below.trod laidOut (by kernel_rfl) (of_decide_eq_true (by kernel_rfl)) k2 bel lt2) (trodAll_cons_mk (Below.trod laidOut (by kernel_rfl) (of_decide_eq_true (by kernel_rfl)) k3 bel lt3) (trodAll_cons_mk (shut_int Try.underlying3 w4) (trodAll_cons_mk (shut_int Try.underlying3 w5) (trodAll_cons_mk (shut_int Try.underlying3 w6) trodAll_mk0))))))), rfl, bel.frame _, fun h => by cases h⟩

theorem over : Rows.mindsActsRow.holds Try.pinned (OpenSpec.ofChange Rows.mindsActsSpec) :=
  OpenClaim.holds_of_wide 3 Try.f3 rfl rfl rfl rfl rfl rfl rfl ⟨rfl, rfl, rfl, rfl, rfl⟩ rfl rfl rfl rfl rfl (by kernel_rfl) Try.func3 (by kernel_rfl)
    (of_decide_eq_true (by kernel_rfl)) (by unfold Func.isWrapper; first | (rw [if_pos (by decide +kernel)]; kernel_rfl) | (rw [if_neg (by decide +kernel)]; exact ⟨rfl, rfl⟩))
    (fun os started H enc _ => lifted os started H enc)

theorem proved : Rows.MindsActsSaid := over
#print axioms proved
end Go.Proofs.Ytbploaihicakeaa.mindsActs
