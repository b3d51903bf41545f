/-
  For any seed and floor the law GenStocks answers true: monsters stand on floor, each on a cell of its own, four steps or more from the up stair; items lie on floor, each at a place of its own; wares are there just where a shop is; no condition.
-/
import Derived.Test.YtliidnmkjnbiiaaRows
import Derived.WalkKit
import Derived.ProofKit
import Derived.OpenShut
import Derived.Test.YtliidnmkjnbiiaaGenStock
import Derived.Deep.LoopGhost
import Derived.Deep.RegionHeld3
import Derived.Below
import Derived.ChangeOld
import Derived.ShutString
namespace Go.Proofs.Ytliidnmkjnbiiaa.genStocks
open Go.ChangeShapes Go.WideShapes Go.ChangeAt Go.RowKit
open Go.ChangeMaps (open_string shut_string)
set_option linter.unusedVariables false

theorem own : ownKnob Try.prog.godebug = none := by kernel_rfl

set_option maxRecDepth 8000 in
set_option maxHeartbeats 8000000 in

theorem walk (a0 : Int) (a1 : Int) (w0 : (Lit.int .i64 a0).wf = true) (w1 : (Lit.int .i64 a1).wf = true) (w : World) :
    Calls Try.prog 5 #[.int .i64 a0, .int .i64 a1] w fun e w' => e = .returned (.bool true) ∧ Below w.heap.size w w' := by
  clear w0 w1
  go_enter Try.func5, Try.ntmps5
  go_wp2_with fail
  refine (known_any _).mono ?_
  rintro e wk ⟨rfl, hgk⟩
  go_wp2_with fail
  refine (within_ex a1 3 _ (by omega) (by omega)).mono ?_
  rintro e w' ⟨m, rfl, hm1, hm2, hw⟩
  subst w'
  obtain ⟨f, hf⟩ : ∃ f, 1 + m = f := ⟨_, rfl⟩
  have hf1 : 1 ≤ f := by omega
  have hf3 : f ≤ 3 := by omega
  obtain ⟨d, hd, hF⟩ := dice_of a0 f
  have hmk := hide (fun w => make_any a0 f d hd hF hf1 hf3 w)
  have hF' := hide hF
  clear hd hF
  go_wp2_with fail
  refine (unhide hmk _).mono ?_
  rintro e wa ⟨c, F, G, nE, nI, cE, cI, aE, aI, hlev, rfl, hG, hA, hnE, hnI, hE, hI, hga⟩
  obtain ⟨far, hfx⟩ := hlev.facts (unhide hF')
  have hfx' := hide hfx
  have h5 := hide hlev.five
  have hGl := hA.lt
  obtain ⟨w2, hw2⟩ : ∃ w2, wa.alloc (.cells #[.slice (some ⟨G, 0, none⟩) 384 384, .slice aE nE cE, .slice aI nI cI] 27) = w2 := ⟨_, rfl⟩
  have hH2 : Hid (LevHold w wa.heap.size G nE nI cE cI aE aI c w2) := by
    rw [← hw2]
    exact ⟨Arr.lit (heap_alloc_new _ _), hA.alloc _, grown_alloc (grown_none hgk hga) _⟩
  have hE2 : Hid (w2.ownsRow w.heap.size 42 11 (.slice aE nE cE) nE (Gn.flat (Gn.ents d f c F))) := by rw [← hw2]; exact owns_mono (hE.alloc _) hgk.size
  have hI2 : Hid (w2.ownsRow w.heap.size 45 4 (.slice aI nI cI) nI (Gn.flatI (Gn.items d c))) := by rw [← hw2]; exact owns_mono (hI.alloc _) hgk.size
  have b0 := (unhide hH2).c0
  have f3 := hide (Gn.find_at hfx.upl hfx.is3)
  have cfld := hide (levField (unhide hH2) hfx w2.heap.size rfl)
  obtain ⟨u, hu⟩ : ∃ u, u = Gn.up d := ⟨_, rfl⟩
  rw [← hu] at f3 cfld
  have cfind : Hid (Calls Try.prog 14 #[.slice (some ⟨G, 0, none⟩) 384 384, .int .i64 3] w2.drew fun e w' => e = .returned (.int .i64 (u : Int)) ∧ w' = w2.drew) :=
    ((unhide hH2).cells.grown (grown_drew1 (World.grownBy.refl w2 none)) (by simp)).refFind (unhide h5) 3 (u : Int) (unhide f3)
  have hnE' := hide hnE
  have hnI' := hide hnI
  have hil := Gn.items_len d c
  have hlE : (nE : Int) ≤ f + 2 := by
    rw [hnE]
    have := Gn.mons_len d f (f + 2).toNat 0 ((Gn.those (fun i => c i == 1) 384).filter (Gn.afar F))
    unfold Gn.ents
    omega
  have hlI : nI ≤ 7 := by rw [hnI, hil.1]; split <;> omega
  have hil' := hide hil
  clear hlev hA hga hgk hmk hfx hu hE hI hnE hnI hil
  go_wp2_with fail
  clear hw2
  go_region_held3 (fun x => x.cell? ⟨wa.heap.size, 0, none⟩ = some (.slice (some ⟨G, 0, none⟩) 384 384)) (go_keep) (first | (go_at_call 14; refine (unhide cfind).mono ?_; rintro e w' ⟨rfl, hw⟩; subst w') | (go_at_call 13; refine (unhide cfld).mono ?_; rintro e w5 ⟨gF, rfl, hgF, hH5, hAF5, hg5⟩; have z0 := hH5.c0))
  have hH : Hid (StkHold w wa.heap.size G gF nE nI cE cI aE aI d f c F w5) := ⟨hH5, hAF5, (unhide hE2).kept hg5 (by cases (Value.slice aE nE cE).ownBlock <;> simp), (unhide hI2).kept hg5 (by cases (Value.slice aI nI cI).ownBlock <;> simp)⟩
  have b1 := hH5.c1
  have b2 := hH5.c2
  have hlE' : ¬ f + 2 < (nE : Int) := by omega
  have hlI' : ¬ (7 : Int) < (nI : Int) := by omega
  clear hH5 hAF5 hg5 z0 cfld cfind b0 f3 hH2 hE2 hI2
  go_wp2_with fail
  clear b1 b2 hlE' hlI'
  go_loopw [8] (fun vi wr => ∃ k : Nat, k ≤ nE ∧ vi = .int .i64 (k : Int) ∧ StkHold w wa.heap.size G gF nE nI cE cI aE aI d f c F wr) (fun vi _ => 400 - (intOf vi).toNat)
  case atStart => exact ⟨0, by omega, rfl, unhide hH⟩
  case round =>
    clear hH
    obtain ⟨k, hk, rfl, hH0⟩ := hrel
    have hH := hide hH0
    have b0 := hH0.lev.c0
    have b1 := hH0.lev.c1
    have b2 := hH0.lev.c2
    clear hH0
    by_cases hlt : k < nE
    · have hlt' : (k : Int) < (nE : Int) := by omega
      obtain ⟨p, hp⟩ : ∃ p, (Gn.ents d f c F)[k]? = some p := ⟨_, List.getElem?_eq_getElem (by rw [← unhide hnE']; exact hlt)⟩
      obtain ⟨g, haE, hgl, hcell⟩ := ents_cells (unhide hH).ents hp hlt
      obtain ⟨k1, k2, cl3, hcl, hfar⟩ := Gn.ents_at (unhide hF') hf1 hp
      obtain ⟨K, cl⟩ := p
      simp only at k1 k2 cl3 hcl hfar
      subst haE
      obtain ⟨X, hX⟩ : ∃ X, X = (cl : Int) % 24 := ⟨_, rfl⟩
      obtain ⟨Y, hY⟩ : ∃ Y, Y = (cl : Int) / 24 := ⟨_, rfl⟩
      obtain ⟨hp1, hhp⟩ : ∃ x, x = Gn.hp K := ⟨_, rfl⟩
      obtain ⟨at1, hat⟩ : ∃ x, x = Gn.atk K := ⟨_, rfl⟩
      obtain ⟨df1, hdf⟩ : ∃ x, x = Gn.df K := ⟨_, rfl⟩
      have hec : Gn.entCells (K, cl) = [.int .i64 K, .int .i64 0, .int .i64 0, .int .i64 X, .int .i64 Y, .int .i64 hp1, .int .i64 hp1, .int .i64 at1, .int .i64 df1, .int .i64 0, .int .i64 0] := by
        unfold Gn.entCells Gn.ent
        rw [← hhp, ← hat, ← hdf, ← hX, ← hY]
      rw [hec] at hcell
      have e0 := hcell 0 (by omega)
      have e1 := hcell 1 (by omega)
      have e2 := hcell 2 (by omega)
      have e3 := hcell 3 (by omega)
      have e4 := hcell 4 (by omega)
      have e5 := hcell 5 (by omega)
      have e6 := hcell 6 (by omega)
      have e7 := hcell 7 (by omega)
      have e8 := hcell 8 (by omega)
      have e9 := hcell 9 (by omega)
      have e10 := hcell 10 (by omega)
      simp only [List.getElem?_cons_zero, List.getElem?_cons_succ, Nat.add_zero] at e0 e1 e2 e3 e4 e5 e6 e7 e8 e9 e10
      have hXY : Y * 24 + X = (cl : Int) := by omega
      have hYb : 0 ≤ Y ∧ Y ≤ 15 := by omega
      have hXb : 0 ≤ X ∧ X ≤ 23 := by omega
      have hhpp : 1 ≤ hp1 := by rw [hhp]; unfold Gn.hp; split; omega; split <;> omega
      have hnb1 : nE ≤ 5 := by omega
      have hat1 : Gr.at 384 c X Y = 1 := by rw [hX, hY, Gr.at_cell c cl cl3]; exact hcl
      have q1 : wr.cell? ⟨gF, cl, none⟩ = some (.int .i64 (F cl)) := (unhide hH).fld.cell cl3
      have hgFl := (unhide hH).fld.lt
      have hbl := (unhide hH).lev.box.lt
      have hHx : Hid (∀ o, StkHold w wa.heap.size G gF nE nI cE cI (some ⟨g, 0, none⟩) aI d f c F (wr.alloc o)) := fun o => (unhide hH).on (World.grownBy_alloc _ _ _)
      have hcat : Hid (∀ o, Calls Try.prog 16 #[.slice (some ⟨G, 0, none⟩) 384 384, .int .i64 X, .int .i64 Y] (wr.alloc o) fun e w' => e = .returned (.int .i64 1) ∧ w' = wr.alloc o) := fun o => by
        have hA := (unhide hHx o).lev.cells
        have h := refAt_any (wr.alloc o).heap.size (some ⟨G, 0, none⟩) 384 384 c X Y (wr.alloc o) (hA.vec _ hA.lt (by decide)) (fun i => by have := unhide h5 i; omega)
        rw [hat1] at h
        exact h
      have hcl3' : (cl : Int) < 384 := by omega
      have hp' := hide hp
      have hHL := hide hlt
      clear hcell hec hX hY hhp hat hdf hp hcl hat1 hlt hk
      go_wp2_with (go_at_call 16; refine (unhide hcat _).mono ?_; rintro e w' ⟨rfl, hw⟩; subst w')
      go_loopw [10] (fun vq wr2 => ∃ q : Nat, q ≤ k ∧ vq = .int .i64 (q : Int) ∧ StkHold w wa.heap.size G gF nE nI cE cI (some ⟨g, 0, none⟩) aI d f c F wr2 ∧ wr2.cell? ⟨wr.heap.size, 3, none⟩ = some (.int .i64 X) ∧ wr2.cell? ⟨wr.heap.size, 4, none⟩ = some (.int .i64 Y) ∧ wr.heap.size < wr2.heap.size) (fun vq _ => 400 - (intOf vq).toNat)
      case atStart => exact ⟨0, by omega, rfl, unhide hHx _, by simp, by simp, by simp⟩
      case round =>
        clear hHx hcat b0 b1 b2 e0 e1 e2 e3 e4 e5 e6 e7 e8 e9 e10 q1 hH
        obtain ⟨q, hq, rfl, hH2, x3, x4, hlt2⟩ := hrel
        have hH := hide hH2
        have b1 := hH2.lev.c1
        clear hH2
        by_cases hqk : q < k
        · have hqk' : (q : Int) < (k : Int) := by omega
          obtain ⟨p2, hp2⟩ : ∃ p, (Gn.ents d f c F)[q]? = some p := ⟨_, List.getElem?_eq_getElem (by rw [← unhide hnE']; have := unhide hHL; omega)⟩
          obtain ⟨g2, hg2, hgl2, hcell2⟩ := ents_cells (unhide hH).ents hp2 (by have := unhide hHL; omega)
          simp only [Option.some.injEq, Addr.mk.injEq, and_true] at hg2
          subst hg2
          have hne := Gn.ents_apart (unhide hF') hf1 hqk hp2 (unhide hp')
          obtain ⟨K2, cl2⟩ := p2
          have e3 := hcell2 3 (by omega)
          have e4 := hcell2 4 (by omega)
          obtain ⟨X2, hX2⟩ : ∃ X, X = (cl2 : Int) % 24 := ⟨_, rfl⟩
          obtain ⟨Y2, hY2⟩ : ∃ Y, Y = (cl2 : Int) / 24 := ⟨_, rfl⟩
          have e3' : wr.cell? ⟨g, q * 11 + 3, none⟩ = some (.int .i64 X2) := by rw [e3, hX2]; rfl
          have e4' : wr.cell? ⟨g, q * 11 + 4, none⟩ = some (.int .i64 Y2) := by rw [e4, hY2]; rfl
          have hqn : (q : Int) < (nE : Int) := by have := unhide hHL; omega
          have hxy : ¬ (X2 = X ∧ Y2 = Y) := by
            rintro ⟨r1, r2⟩
            simp only at hne
            omega
          have hdr : Hid (∀ n, StkHold w wa.heap.size G gF nE nI cE cI (some ⟨g, 0, none⟩) aI d f c F (wr.drewN n)) := fun n => (unhide hH).on (grown_drew (World.grownBy.refl wr none) n)
          by_cases hxx : X2 = X
          · have g1 : (X2 == X) = true := by simpa using hxx
            have g2 : (Y2 == Y) = false := by simpa using fun h => hxy ⟨hxx, h⟩
            clear e3 e4 hcell2 hp2 hne hX2 hY2 hxy hxx
            go_wp2_with fail
            go_quiet (fail)
            go_wp2
            go_roundw
            case rel => exact ⟨q + 1, by omega, by go_num, unhide hdr _, x3, x4, hlt2⟩
            case measure => simp [intOf]; omega
          · have g1 : (X2 == X) = false := by simpa using hxx
            clear e3 e4 hcell2 hp2 hne hX2 hY2 hxy hxx
            go_wp2_with fail
            go_quiet (fail)
            go_wp2
            go_roundw
            case rel => exact ⟨q + 1, by omega, by go_num, unhide hdr _, x3, x4, hlt2⟩
            case measure => simp [intOf]; omega
        · have hge : ¬ (q : Int) < (k : Int) := by omega
          go_wp2
          go_roundw
          case rel => exact ⟨k + 1, by have := unhide hHL; omega, by go_num, unhide hH⟩
          case measure => simp [intOf]; omega
    · have hge : ¬ (k : Int) < (nE : Int) := by omega
      clear hlt hk
      go_wp2_with fail
      clear b0 b1 b2 hge
      go_loopw [11, 12] (fun vw vi wr3 => ∃ i wn : Nat, i ≤ nI ∧ vi = .int .i64 (i : Int) ∧ vw = .int .i64 (wn : Int) ∧ wn = i - Gn.lying d c ∧ StkHold w wa.heap.size G gF nE nI cE cI aE aI d f c F wr3) (fun _ vi _ => 400 - (intOf vi).toNat)
      case atStart => exact ⟨0, 0, by omega, rfl, rfl, by omega, unhide hH⟩
      case round =>
        clear hH
        obtain ⟨i, wn, hi, rfl, rfl, hwn, hH0⟩ := hrel
        have hH := hide hH0
        have b0 := hH0.lev.c0
        have b2 := hH0.lev.c2
        clear hH0
        by_cases hlt : i < nI
        · have hlt' : (i : Int) < (nI : Int) := by omega
          obtain ⟨p, hp⟩ : ∃ p, (Gn.items d c)[i]? = some p := ⟨_, List.getElem?_eq_getElem (by rw [← unhide hnI']; exact hlt)⟩
          obtain ⟨g, haI, hgl, hcell⟩ := items_cells (unhide hH).items hp hlt
          subst haI
          have e0 := hcell 0 (by omega)
          have e1 := hcell 1 (by omega)
          have e2 := hcell 2 (by omega)
          have e3 := hcell 3 (by omega)
          by_cases hly : i < Gn.lying d c
          · obtain ⟨K, cl, rfl, cl3, hcl, k1, k2⟩ := Gn.items_lie (unhide hF') hly hp
            obtain ⟨X, hX⟩ : ∃ X, X = (cl : Int) % 24 := ⟨_, rfl⟩
            obtain ⟨Y, hY⟩ : ∃ Y, Y = (cl : Int) / 24 := ⟨_, rfl⟩
            rw [← hX, ← hY] at e0 e1 e2 e3
            simp only [Gn.itemCells, List.getElem?_cons_zero, List.getElem?_cons_succ, Nat.add_zero] at e0 e1 e2 e3
            have hat1 : Gr.at 384 c X Y = 1 := by rw [hX, hY, Gr.at_cell c cl cl3]; exact hcl
            have hHx : Hid (∀ o, StkHold w wa.heap.size G gF nE nI cE cI aE (some ⟨g, 0, none⟩) d f c F (wr.alloc o)) := fun o => (unhide hH).on (World.grownBy_alloc _ _ _)
            have hcat : Hid (∀ o, Calls Try.prog 16 #[.slice (some ⟨G, 0, none⟩) 384 384, .int .i64 X, .int .i64 Y] (wr.alloc o) fun e w' => e = .returned (.int .i64 1) ∧ w' = wr.alloc o) := fun o => by
              have hA := (unhide hHx o).lev.cells
              have h := refAt_any (wr.alloc o).heap.size (some ⟨G, 0, none⟩) 384 384 c X Y (wr.alloc o) (hA.vec _ hA.lt (by decide)) (fun i => by have := unhide h5 i; omega)
              rw [hat1] at h
              exact h
            have hbl := (unhide hH).lev.box.lt
            have hXY : Hid (Y * 24 + X = (cl : Int)) := by show Y * 24 + X = (cl : Int); omega
            have hp' := hide hp
            have hHL := hide hlt
            have hLY := hide hly
            have hwn0 : Hid (wn = (i + 1) - Gn.lying d c) := by show wn = _; omega
            have hpe : Hid (((K, (1 : Int), (cl : Int) % 24, (cl : Int) / 24) : Gn.Itm) = (K, 1, X, Y)) := by show _ = _; rw [hX, hY]
            rw [unhide hpe] at hp'
            clear hcell hp hat1 hcl hX hY hlt hly hi hwn hpe
            go_wp2_with (go_at_call 16; refine (unhide hcat _).mono ?_; rintro e w' ⟨rfl, hw⟩; subst w')
            go_loopw [14] (fun vq wr4 => ∃ q : Nat, q ≤ i ∧ vq = .int .i64 (q : Int) ∧ StkHold w wa.heap.size G gF nE nI cE cI aE (some ⟨g, 0, none⟩) d f c F wr4 ∧ Arr wr4 wr.heap.size 45 4 (fun j => #[Value.int .i64 K, .int .i64 1, .int .i64 X, .int .i64 Y][j]?.getD undef)) (fun vq _ => 400 - (intOf vq).toNat)
            case atStart => exact ⟨0, by omega, rfl, unhide hHx _, Arr.lit (heap_alloc_new _ _)⟩
            case round =>
              clear hHx hcat b0 b2 e0 e1 e2 e3 hH
              obtain ⟨q, hq, rfl, hH2, hXA⟩ := hrel
              have hH := hide hH2
              have hXA' := hide hXA
              have b2 := hH2.lev.c2
              have x0 := hXA.cell (i := 0) (by omega)
              have x1 := hXA.cell (i := 1) (by omega)
              have x2 := hXA.cell (i := 2) (by omega)
              have x3 := hXA.cell (i := 3) (by omega)
              simp only [List.getElem?_toArray, List.getElem?_cons_zero, List.getElem?_cons_succ, Option.getD_some] at x0 x1 x2 x3
              clear hH2 hXA
              by_cases hqk : q < i
              · have hqk' : (q : Int) < (i : Int) := by omega
                obtain ⟨p2, hp2⟩ : ∃ p, (Gn.items d c)[q]? = some p := ⟨_, List.getElem?_eq_getElem (by rw [← unhide hnI']; have := unhide hHL; omega)⟩
                obtain ⟨g2, hg2, hgl2, hcell2⟩ := items_cells (unhide hH).items hp2 (by have := unhide hHL; omega)
                simp only [Option.some.injEq, Addr.mk.injEq, and_true] at hg2
                subst hg2
                have hne := Gn.items_apart (unhide hF') hqk (unhide hLY) hp2 (unhide hp')
                obtain ⟨K2, cl2, rfl, _, _, _, _⟩ := Gn.items_lie (unhide hF') (by have := unhide hLY; omega) hp2
                simp only at hne
                have e0 := hcell2 0 (by omega)
                have e1 := hcell2 1 (by omega)
                have e2 := hcell2 2 (by omega)
                have e3 := hcell2 3 (by omega)
                simp only [Gn.itemCells, List.getElem?_cons_zero, List.getElem?_cons_succ, Nat.add_zero] at e0 e1 e2 e3
                obtain ⟨X2, hX2⟩ : ∃ X, X = (cl2 : Int) % 24 := ⟨_, rfl⟩
                obtain ⟨Y2, hY2⟩ : ∃ Y, Y = (cl2 : Int) / 24 := ⟨_, rfl⟩
                rw [← hX2] at e2 hne
                rw [← hY2] at e3 hne
                have hqn : (q : Int) < (nI : Int) := by have := unhide hHL; omega
                have hdr : Hid (∀ n, StkHold w wa.heap.size G gF nE nI cE cI aE (some ⟨g, 0, none⟩) d f c F (wr.drewN n)) := fun n => (unhide hH).on (grown_drew (World.grownBy.refl wr none) n)
                have hxr := hide (fun n => (unhide hXA').grown (grown_drew (World.grownBy.refl wr none) n) (by simp))
                have hcs : ((X2 == X) = false) ∨ ((X2 == X) = true ∧ (Y2 == Y) = false) := by
                  by_cases hxx : X2 = X
                  · exact .inr ⟨by simpa using hxx, by simpa using fun h => hne ⟨hxx, h⟩⟩
                  · exact .inl (by simpa using hxx)
                have hks : ((K2 == K) = true) ∨ ((K2 == K) = false) := by cases (K2 == K) <;> simp
                clear hcell2 hp2 hne hX2 hY2
                rcases hks with hks | hks
                all_goals
                  rcases hcs with g1 | ⟨g1, g2⟩
                  all_goals
                    go_wp2_with fail
                    go_quiet (fail)
                    go_wp2
                    go_roundw
                    case rel => exact ⟨q + 1, by omega, by go_num, unhide hdr _, unhide hxr _⟩
                    case measure => simp [intOf]; omega
              · have hge : ¬ (q : Int) < (i : Int) := by omega
                go_wp2
                go_roundw
                case rel => exact ⟨i + 1, wn, by have := unhide hHL; omega, by go_num, rfl, unhide hwn0, unhide hH⟩
                case measure => simp [intOf]; omega
          · obtain ⟨K, A, rfl, k1, k2⟩ := Gn.items_ware (unhide hF') (by omega) hp
            simp only [Gn.itemCells, List.getElem?_cons_zero, List.getElem?_cons_succ, Nat.add_zero] at e0 e1 e2 e3
            have hwn0 : Hid (wn + 1 = (i + 1) - Gn.lying d c) := by show wn + 1 = _; omega
            have hwb : wn ≤ 7 := by omega
            have hHx : Hid (∀ o, StkHold w wa.heap.size G gF nE nI cE cI aE (some ⟨g, 0, none⟩) d f c F (wr.alloc o)) := fun o => (unhide hH).on (World.grownBy_alloc _ _ _)
            have hHL := hide hlt
            clear hcell hp hly hwn hi hlt
            go_wp2
            go_roundw
            case rel => exact ⟨i + 1, wn + 1, by have := unhide hHL; omega, by go_num, by go_num, unhide hwn0, unhide hHx _⟩
            case measure => simp [intOf]; omega
        · have hge : ¬ (i : Int) < (nI : Int) := by omega
          have hwf : wn = if Gr.find 384 c 5 < 0 then 0 else 3 := by
            have h1 := (unhide hil').1
            have h2 := unhide hnI'
            rw [hwn, show i = nI by omega, h2, h1]
            omega
          obtain ⟨S, hS⟩ : ∃ S, Gr.find 384 c 5 = S := ⟨_, rfl⟩
          rw [hS] at hwf
          have cf := (unhide hH).lev.cells.refFind (unhide h5) 5 S hS
          clear hlt hi hwn hS
          by_cases hS0 : S < 0
          · rw [if_pos hS0] at hwf
            subst hwf
            have hS1 : decide (0 ≤ S) = false := by simp; omega
            go_wp2_with (go_at_call 14; refine cf.mono ?_; rintro e w' ⟨rfl, hw⟩; subst w')
            go_ret
            exact ⟨rfl, grown_belowAll (unhide hH).lev.grown⟩
          · rw [if_neg hS0] at hwf
            subst hwf
            have hS1 : decide (0 ≤ S) = true := by simp; omega
            go_wp2_with (go_at_call 14; refine cf.mono ?_; rintro e w' ⟨rfl, hw⟩; subst w')
            go_ret
            exact ⟨rfl, grown_belowAll (unhide hH).lev.grown⟩

set_option maxRecDepth 100000 in
theorem lifted (os : Os) (started : os.Started) (H : Type) (enc : TypeId × Value → H) :
    ReturnsInHanded {} Try.checked os 5 .any (Rows.genStocksSpec.pre6 enc Try.prog Try.f5 Rows.genStocksRow.domain false) (Rows.genStocksSpec.post enc Try.prog Try.f5 false true false false) := by
  refine returnsInHanded_of_change (C := Try.checked) own started (by kernel_rfl) Try.func5
    (ChangeSpec.witness6 (enc := enc) (C := Try.checked) false ⟨#[], #[.int .i64 0, .int .i64 0], []⟩ 8 (by kernel_rfl) (by kernel_rfl) (by kernel_rfl) (by kernel_rfl)) ?_
  intro W base args ds gs before hval0 hW hcnd _
  have hval : ∀ (j : Nat) t v, Try.f5.params[j]? = some t → args[j]? = some v → Value.okWide Try.prog W .any base t v := hval0
  have hW' := hW
  obtain ⟨p, q, hA0, hV, rfl, hfz, hnd⟩ := hW
  have hA : DataW.TrodAll enc Try.prog W 0 (fun _ => true) true Try.f5.params.toList args.toList ds p := hA0
  rw [Try.params5] at hA hval
  obtain ⟨v0, vs0, d0, ds0, p0, q0, hargs, rfl, rfl, h0, r0⟩ := trodAll_cons hA
  obtain ⟨v1, vs1, d1, ds1, p1, q1, rfl, rfl, rfl, h1, r1⟩ := trodAll_cons r0
  obtain ⟨rfl, rfl, rfl⟩ := trodAll_nil r1
  obtain rfl : args = #[v0, v1] := by cases args; simp_all
  obtain ⟨rfl, rfl⟩ := trodVars_none hV
  obtain ⟨a0, rfl, rfl, rfl, w0⟩ := open_int Try.underlying2 (hval 0 2 v0 rfl rfl) h0
  obtain ⟨a1, rfl, rfl, rfl, w1⟩ := open_int Try.underlying3 (hval 1 3 v1 rfl rfl) h1
  clear hA0 hval0
  refine (walk a0 a1 w0 w1 W).mono fun e W' ⟨he, hg⟩ => ?_
  subst he
  exact ⟨_, rfl, _, _, _, [], _, [], hW', trodAll_mk1 (shut_bool Try.underlying4 _), (trodAll_cons_mk (shut_int Try.underlying2 w0) (trodAll_cons_mk (shut_int Try.underlying3 w1) trodAll_mk0)), rfl, hg.frame _, fun h => by cases h⟩

theorem over : Rows.genStocksRow.holds Try.pinned (OpenSpec.ofChange Rows.genStocksSpec) :=
  OpenClaim.holds_of_wide 5 Try.f5 rfl rfl rfl rfl rfl rfl rfl ⟨rfl, rfl, rfl, rfl, rfl⟩ rfl rfl rfl rfl rfl (by kernel_rfl) Try.func5 (by kernel_rfl)
    (of_decide_eq_true (by kernel_rfl)) (by unfold Func.isWrapper; first | (rw [if_pos (by decide +kernel)]; kernel_rfl) | (rw [if_neg (by decide +kernel)]; exact ⟨rfl, rfl⟩))
    (fun os started H enc _ => lifted os started H enc)

theorem proved : Rows.GenStocksSaid :=
  over
#print axioms proved
end Go.Proofs.Ytliidnmkjnbiiaa.genStocks
