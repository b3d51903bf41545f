/-
  What is picked up and dropped where nothing lies is there again, and a full bag takes nothing: for every seed, kind of item and number of potions in the bag, at this commit; no condition.
-/
import Derived.Test.YthngbjmiblbohaaRows
import Derived.WalkKit
import Derived.ProofKit
import Derived.OpenShut
import Derived.Test.YthngbjmiblbohaaGoodsEnd
import Derived.BigQuiet
import Derived.Deep.Cut
import Derived.Deep.RegionHeld3
import Derived.Below
import Derived.ChangeOld
import Derived.ShutString
namespace Go.Proofs.Ythngbjmiblbohaa.goodsBack
open Go.ChangeShapes Go.WideShapes Go.ChangeAt Go.RowKit
open Go.ChangeMaps (open_string shut_string)
set_option linter.unusedVariables false

theorem own : ownKnob Try.prog.godebug = none := by kernel_rfl

set_option maxRecDepth 8000 in
set_option maxHeartbeats 12800000 in

theorem walk (a0 : Int) (a1 : Int) (a2 : Int) (w0 : (Lit.int .i64 a0).wf = true) (w1 : (Lit.int .i64 a1).wf = true) (w2 : (Lit.int .i64 a2).wf = true) (w : World) :
    Calls Try.prog 8 #[.int .i64 a0, .int .i64 a1, .int .i64 a2] w fun e w' => e = .returned (.bool true) ∧ Below w.heap.size w w' := by
  clear w0 w1 w2
  obtain ⟨hd, hhd⟩ : ∃ n : Nat, a2 % 5 = (n : Int) := ⟨(a2 % 5).toNat, by omega⟩
  have hd5 : hd ≤ 4 := by omega
  obtain ⟨kd, hkd⟩ : ∃ n, a1 % 3 = n := ⟨_, rfl⟩
  have kd0 : 0 ≤ kd := by omega
  have kd3 : kd < 3 := by omega
  have cS : Hid (∀ wq, Calls Try.prog 11 #[.int .i64 a2, .int .i64 5] wq fun e w' => e = .returned (.int .i64 (hd : Int)) ∧ w' = wq) := fun wq => by
    have h := within7_any a2 5 wq (by omega) (by omega)
    rw [hhd] at h
    exact h
  have cK : Hid (∀ wq, Calls Try.prog 11 #[.int .i64 a1, .int .i64 3] wq fun e w' => e = .returned (.int .i64 kd) ∧ w' = wq) := fun wq => by
    have h := within7_any a1 3 wq (by omega) (by omega)
    rw [hkd] at h
    exact h
  clear hhd hkd
  go_enter Try.func8, Try.ntmps8
  go_wp2_with fail
  refine (known7_any _).mono ?_
  rintro e wk ⟨rfl, hgk⟩
  have hgk' := hide hgk
  clear hgk
  go_wp2_with fail
  refine (world_bare a0 0 0 1 0 (by decide) (by decide) _).mono ?_
  rintro e wa ⟨c, kc, s, g, E, hS0, -, -, -, -, gC, gE, gI, cC, cE, cI, rfl, hcap, l1, l2, l3, n1, n2, n3, hL, hg⟩
  have hS : Gd.Sit c g E (fun _ _ => 0) 0 1 kc := hS0
  have hW := hide (Gd.law_new (s := s) (g := g) (cC := cC) (cI := cI) (unhide hgk') hcap l1 l2 l3 n1 n2 n3 hL hg)
  have hpc := Gd.fit_cell (c := c) (kd := 1 + kd) (q := kc) (by omega) (by omega) hS.kc4 hS.walk
  have hEx := hS.x
  have hEy := hS.y
  have ch : Hid (∀ x : World, Own x gE 32 E → Calls Try.prog 25 #[.slice (some ⟨gE, 0, none⟩) 32 cE, .int .i64 0] x (Says x (.int .i64 1))) := fun x hx => by
    have h := refHero7_any gE cE E 0 x hx
    rw [hS.hero] at h
    exact h
  have hit := fun J hJ => do_items s g c E (fun _ _ => 0) J gC gE gI cC cE cI 1 kc 0 8 hS (.inr (.inl rfl)) hJ
  clear hit
  obtain ⟨X, hX⟩ : ∃ X, (kc : Int) % 24 = X := ⟨_, rfl⟩
  obtain ⟨Y, hY⟩ : ∃ Y, (kc : Int) / 24 = Y := ⟨_, rfl⟩
  rw [hX] at hEx hpc
  rw [hY] at hEy hpc
  have cdo : Hid (∀ (I J : Nat → Nat → Int) (input : Int), Gd.Ok c 40 I → (input = 8 ∨ input = 5 ∧ ∀ shop, Gd.goldOf I 0 X Y shop (g 0) 5 = g 0) → (∀ shop, Gd.act I 40 0 X Y shop (g 0) input = J) → ∀ (jC jE jI dC dE dI : Nat) (x : World), Gd.Lists x jC jE jI c E I → Calls Try.prog 13 #[.agg (Gd.world s jC jE jI dC dE dI g), .int .i64 0, .int .i64 input] x (Gd.Worlds x s g c E J)) := fun I J input hI hi hJ jC jE jI dC dE dI x hx => by
    refine do_items s g c E I J jC jE jI dC dE dI 1 kc 0 input (hS.items hI) ?_ ?_ x hx
    · rcases hi with rfl | ⟨rfl, h⟩
      · exact .inr (.inl rfl)
      · refine .inr (.inr ⟨rfl, ?_⟩)
        rw [hX, hY]
        exact h _
    · rw [hX, hY]
      exact hJ _
  have hok0 : Hid (∀ n, n ≤ 4 → Gd.Ok c 40 (Gd.pack (Gd.row (1 + kd) 1 X Y) n)) := fun n hn => Gd.ok_pack (hpc.placed (by omega)) rfl n hn
  have hnx : Hid (∀ I gd shop input, Gd.Ok c 40 I → Gd.Ok c 40 (Gd.act I 40 0 X Y shop gd input)) := fun I gd shop input hI => by
    rw [← hX, ← hY]
    exact hI.act (by omega) (by omega) (by unfold Gr.inB; exact decide_eq_true ⟨by omega, by omega, by have := hS.kc4; omega, by have := hS.kc4; omega⟩) (by rw [Gr.at_cell c kc hS.kc4]; exact hS.walk) shop gd input
  clear hcap l1 l2 l3 n1 n2 n3 hL hg hgk' hS hS0 hX hY hpc
  unfold Gd.world at hW ⊢
  go_upto_region 4 with fail
  obtain ⟨T, hT⟩ : ∃ T, wa.heap.size = T := ⟨_, rfl⟩
  rw [hT] at hW ⊢
  generalize wa.alloc (.cells #[.int .i64 (s 0), .int .i64 (s 1), .int .i64 (s 2), .int .i64 (s 3), .slice (some ⟨gC, 0, none⟩) 384 cC, .slice (some ⟨gE, 0, none⟩) 32 cE, .slice (some ⟨gI, 0, none⟩) 40 cI, .int .i64 (g 0), .int .i64 (g 1), .int .i64 (g 2), .int .i64 (g 3)] 29) = wb at hW ⊢
  clear hT
  have q5 := (unhide hW).eleven.2.2.2.2.2.1
  go_wp2_with fail
  refine (unhide ch _ (unhide hW).hold.lists.own).mono ?_
  rintro e wc ⟨rfl, hg⟩
  have hW1 := hide ((unhide hW).on hg)
  clear hg hW q5 ch
  go_wp2_with fail
  refine (unhide cS _).mono ?_
  rintro e wy ⟨rfl, hy⟩
  subst wy
  clear cS
  have q5 := (unhide hW1).eleven.2.2.2.2.2.1
  have q6 := (unhide hW1).eleven.2.2.2.2.2.2.1
  have e14 : wc.cell? ⟨gE, 14, none⟩ = some (.int .i64 X) := by
    rw [(unhide hW1).hold.lists.ents.cell (by omega), ← hEx]
    rfl
  have e15 : wc.cell? ⟨gE, 15, none⟩ = some (.int .i64 Y) := by
    rw [(unhide hW1).hold.lists.ents.cell (by omega), ← hEy]
    rfl
  have fI := (unhide hW1).hold.lists.items.free
  have r0 := (unhide hW1).at 0 (by omega) 0 rfl
  have r1 := (unhide hW1).at 1 (by omega) 0 rfl
  have r2 := (unhide hW1).at 2 (by omega) 0 rfl
  have r3 := (unhide hW1).at 3 (by omega) 0 rfl
  have hTI : T ≠ gI := (unhide hW1).hold.bI
  have hIT : gI ≠ T := hTI.symm
  have hEI : gE ≠ gI := (unhide hW1).hold.eI
  have hIE : gI ≠ gE := hEI.symm
  clear hEx hEy
  go_upto_region 6 with fail
  go_cut [] from 12 (fun wx => Hid (Gd.Law w wx T gC gE gI cC cE cI s g c E (Gd.pack (Gd.row (1 + kd) 1 X Y) 0)))
  case first =>
    have hv : Hid (IntKind.i64.wrap (1 + kd) = 1 + kd) := by
      show _ = _
      rw [IntKind.wrap_i64]
      omega
    have hst : Hid (∀ y, Gd.Law w y T gC gE gI cC cE cI s g c E (fun _ _ => 0) → Gd.Law w ((((y.setCell ⟨gI, 0, none⟩ (.int .i64 (1 + kd))).setCell ⟨gI, 1, none⟩ (.int .i64 1)).setCell ⟨gI, 2, none⟩ (.int .i64 X)).setCell ⟨gI, 3, none⟩ (.int .i64 Y)) T gC gE gI cC cE cI s g c E (Gd.pack (Gd.row (1 + kd) 1 X Y) 0)) := fun y hy => (hy.put 0 (1 + kd) 1 X Y).same (Gd.pack_first _)
    go_region_held3 (fun x => x.cell? ⟨T, 6, none⟩ = some (.slice (some ⟨gI, 0, none⟩) 40 cI) ∧ x.cell? ⟨T, 5, none⟩ = some (.slice (some ⟨gE, 0, none⟩) 32 cE) ∧ x.cell? ⟨gE, 14, none⟩ = some (.int .i64 X) ∧ x.cell? ⟨gE, 15, none⟩ = some (.int .i64 Y)) (go_keep) (first | (go_at_call 11; refine (unhide cK _).mono ?_; rintro e wy ⟨rfl, hy⟩; subst wy))
    all_goals
      go_wp2_with fail
      go_meet
      rw [unhide hv]
      exact (unhide hst wc (unhide hW1)).on (grown_drew1 (World.grownBy.refl _ _))
  case rest =>
    have hW2 := hide (unhide hcut)
    clear hcut hW1 q5 q6 e14 e15 fI r0 r1 r2 r3 hTI hIT hEI hIE cK
    go_wp2_with fail
    go_loopw [9] (fun vi wr => ∃ k : Nat, k ≤ hd ∧ vi = .int .i64 (k : Int) ∧ Hid (Gd.Law w wr T gC gE gI cC cE cI s g c E (Gd.pack (Gd.row (1 + kd) 1 X Y) k))) (fun vi _ => 10 - (intOf vi).toNat)
    case atStart => exact ⟨0, by omega, rfl, hW2⟩
    case round =>
      clear hW2
      obtain ⟨k, hk, rfl, hWr⟩ := hrel
      by_cases hlt : k < hd
      · have hlt' : (k : Int) < (hd : Int) := by omega
        have HL := hide hlt
        obtain ⟨m, hm⟩ : ∃ m : Nat, m = 5 + k := ⟨_, rfl⟩
        have hmi : 5 + (k : Int) = (m : Int) := by omega
        have hm40 : (m : Int) < 40 := by omega
        have q6 := (unhide hWr).eleven.2.2.2.2.2.2.1
        have fI := (unhide hWr).hold.lists.items.free
        obtain ⟨u0, u1, u2, u3⟩ := (unhide hWr).hold.lists.its.row (k := m) (by omega)
        have hput : Hid (Gd.Law w _ T gC gE gI cC cE cI s g c E (Gd.pack (Gd.row (1 + kd) 1 X Y) (k + 1))) := ((unhide hWr).put m 1 2 0 (k : Int)).same (by rw [hm]; exact Gd.pack_more _ k)
        clear hlt hk hm
        go_wp2
        go_roundw
        case rel => exact ⟨k + 1, by have := unhide HL; omega, by go_num, hput⟩
        case measure => simp [intOf]; have := unhide HL; omega
      · obtain rfl : k = hd := by omega
        have hge : ¬ (k : Int) < (k : Int) := by omega
        obtain ⟨b0, b1, b2, b3, b4, b5, b6, b7, b8, b9, b10⟩ := (unhide hWr).eleven
        clear hlt hk
        by_cases h4 : k = 4
        · subst h4
          have cd := hide (unhide cdo _ _ 5 (unhide hok0 4 (by omega)) (.inr ⟨rfl, fun _ => Gd.pick_gold (by omega)⟩) (fun _ => Gd.pick_full (by omega)))
          clear cdo hok0 hnx
          unfold Gd.world at cd
          go_wp2_with fail
          refine (unhide cd _ _ _ _ _ _ _ (unhide hWr).hold.lists).mono ?_
          rintro e wv ⟨jC, jE, jI, dC, dE, dI, rfl, hcap, l1, l2, l3, n1, n2, n3, hL, hg⟩
          have hWv := hide ((unhide hWr).on hg)
          have hV := hide (Gd.law_new (s := s) (g := g) (cC := dC) (cI := dI) (unhide hWr).grown hcap l1 l2 l3 n1 n2 n3 hL hg)
          clear hcap l1 l2 l3 n1 n2 n3 hL hg cd hWr b0 b1 b2 b3 b4 b5 b6 b7 b8 b9 b10
          unfold Gd.world at hV ⊢
          go_upto_region 12 with fail
          obtain ⟨T2, hT2⟩ : ∃ T2, wv.heap.size = T2 := ⟨_, rfl⟩
          have hWd := hide ((unhide hWv).on (World.grownBy_alloc wv (.cells #[.int .i64 (s 0), .int .i64 (s 1), .int .i64 (s 2), .int .i64 (s 3), .slice (some ⟨jC, 0, none⟩) 384 dC, .slice (some ⟨jE, 0, none⟩) 32 dE, .slice (some ⟨jI, 0, none⟩) 40 dI, .int .i64 (g 0), .int .i64 (g 1), .int .i64 (g 2), .int .i64 (g 3)] 29) none))
          rw [hT2] at hV ⊢
          generalize wv.alloc (.cells #[.int .i64 (s 0), .int .i64 (s 1), .int .i64 (s 2), .int .i64 (s 3), .slice (some ⟨jC, 0, none⟩) 384 dC, .slice (some ⟨jE, 0, none⟩) 32 dE, .slice (some ⟨jI, 0, none⟩) 40 dI, .int .i64 (g 0), .int .i64 (g 1), .int .i64 (g 2), .int .i64 (g 3)] 29) = wd at hV hWd ⊢
          clear hT2 hWv
          obtain ⟨b0, b1, b2, b3, b4, b5, b6, b7, b8, b9, b10⟩ := (unhide hV).eleven
          obtain ⟨d0, d1, d2, d3, d4, d5, d6, d7, d8, d9, d10⟩ := (unhide hWd).eleven
          have cs := hide (same7_any s g c E _ jC jE jI dC dE dI gC gE gI cC cE cI wd (unhide hV).hold.lists (unhide hWd).hold.lists)
          unfold Gd.world at cs
          go_wp2_with fail
          refine (unhide cs).mono ?_
          rintro e wh ⟨rfl, hg⟩
          have hfin := hide (grown_trans (unhide hV).grown hg)
          clear hg cs
          go_wp2
          go_ret
          exact ⟨rfl, none_below (unhide hfin)⟩
        · have hk4 : k < 4 := by omega
          have hne4 : ((k : Int) == 4) = false := by simp; omega
          have hne4' : ¬ (k : Int) = 4 := by omega
          have cd := hide (unhide cdo _ _ 5 (unhide hok0 k (by omega)) (.inr ⟨rfl, fun _ => Gd.pick_gold (by omega)⟩) (fun _ => Gd.pick_pack (by omega) hk4))
          have hok1 : Hid (Gd.Ok c 40 (Gd.pack (Gd.row (1 + kd) 2 0 (k : Int)) k)) := by
            have h := unhide hnx _ 0 false 5 (unhide hok0 k (by omega))
            rw [Gd.pick_pack (by omega) hk4] at h
            exact h
          clear hok0 hnx
          unfold Gd.world at cd
          go_wp2_with fail
          refine (unhide cd _ _ _ _ _ _ _ (unhide hWr).hold.lists).mono ?_
          rintro e wv ⟨jC, jE, jI, dC, dE, dI, rfl, hcap, l1, l2, l3, n1, n2, n3, hL, hg⟩
          have hWv := hide ((unhide hWr).on hg)
          have hV := hide (Gd.law_new (s := s) (g := g) (cC := dC) (cI := dI) (unhide hWr).grown hcap l1 l2 l3 n1 n2 n3 hL hg)
          clear hcap l1 l2 l3 n1 n2 n3 hL hg cd hWr b0 b1 b2 b3 b4 b5 b6 b7 b8 b9 b10
          unfold Gd.world at hV ⊢
          go_upto_region 12 with fail
          obtain ⟨T2, hT2⟩ : ∃ T2, wv.heap.size = T2 := ⟨_, rfl⟩
          have hWd := hide ((unhide hWv).on (World.grownBy_alloc wv (.cells #[.int .i64 (s 0), .int .i64 (s 1), .int .i64 (s 2), .int .i64 (s 3), .slice (some ⟨jC, 0, none⟩) 384 dC, .slice (some ⟨jE, 0, none⟩) 32 dE, .slice (some ⟨jI, 0, none⟩) 40 dI, .int .i64 (g 0), .int .i64 (g 1), .int .i64 (g 2), .int .i64 (g 3)] 29) none))
          rw [hT2] at hV ⊢
          generalize wv.alloc (.cells #[.int .i64 (s 0), .int .i64 (s 1), .int .i64 (s 2), .int .i64 (s 3), .slice (some ⟨jC, 0, none⟩) 384 dC, .slice (some ⟨jE, 0, none⟩) 32 dE, .slice (some ⟨jI, 0, none⟩) 40 dI, .int .i64 (g 0), .int .i64 (g 1), .int .i64 (g 2), .int .i64 (g 3)] 29) = wd at hV hWd ⊢
          clear hT2 hWv
          obtain ⟨b0, b1, b2, b3, b4, b5, b6, b7, b8, b9, b10⟩ := (unhide hV).eleven
          have v1 := (unhide hV).at 1 (by omega) 2 rfl
          have v3 := (unhide hV).at 3 (by omega) (k : Int) rfl
          by_cases h0 : 0 < k
          · have hgt : (0 : Int) < (k : Int) := by omega
            have cd2 := hide (unhide cdo _ _ 8 (unhide hok1) (.inl rfl) (fun _ => Gd.drop_low h0 hk4))
            have HK := hide h0
            clear cdo hok1 h0 h4
            unfold Gd.world at cd2
            go_wp2_with fail
            refine (unhide cd2 _ _ _ _ _ _ _ (unhide hV).hold.lists).mono ?_
            rintro e wf ⟨pC, pE, pI, fC, fE, fI, rfl, hcap, l1, l2, l3, n1, n2, n3, hL, hg⟩
            have hV2 := hide ((unhide hV).on hg)
            have hU := hide (Gd.law_new (s := s) (g := g) (cC := fC) (cI := fI) (unhide hV).grown hcap l1 l2 l3 n1 n2 n3 hL hg)
            clear hcap l1 l2 l3 n1 n2 n3 hL hg cd2 hV b0 b1 b2 b3 b4 b5 b6 b7 b8 b9 b10 v1 v3 hWd
            unfold Gd.world at hU ⊢
            go_upto_region 17 with fail
            obtain ⟨T3, hT3⟩ : ∃ T3, wf.heap.size = T3 := ⟨_, rfl⟩
            have hV3 := hide ((unhide hV2).on (World.grownBy_alloc wf (.cells #[.int .i64 (s 0), .int .i64 (s 1), .int .i64 (s 2), .int .i64 (s 3), .slice (some ⟨pC, 0, none⟩) 384 fC, .slice (some ⟨pE, 0, none⟩) 32 fE, .slice (some ⟨pI, 0, none⟩) 40 fI, .int .i64 (g 0), .int .i64 (g 1), .int .i64 (g 2), .int .i64 (g 3)] 29) none))
            rw [hT3] at hU ⊢
            generalize wf.alloc (.cells #[.int .i64 (s 0), .int .i64 (s 1), .int .i64 (s 2), .int .i64 (s 3), .slice (some ⟨pC, 0, none⟩) 384 fC, .slice (some ⟨pE, 0, none⟩) 32 fE, .slice (some ⟨pI, 0, none⟩) 40 fI, .int .i64 (g 0), .int .i64 (g 1), .int .i64 (g 2), .int .i64 (g 3)] 29) = wg at hU hV3 ⊢
            clear hT3 hV2
            have b6 := (unhide hV3).eleven.2.2.2.2.2.2.1
            have d6 := (unhide hU).eleven.2.2.2.2.2.2.1
            have v0 := (unhide hV3).at 0 (by omega) (1 + kd) rfl
            have v1 := (unhide hV3).at 1 (by omega) 2 rfl
            have v2 := (unhide hV3).at 2 (by omega) 0 rfl
            have v3 := (unhide hV3).at 3 (by omega) (k : Int) rfl
            have x0 := (unhide hU).at 0 (by omega) (1 + kd) rfl
            have x1 := (unhide hU).at 1 (by omega) 2 rfl
            have x2 := (unhide hU).at 2 (by omega) 0 rfl
            have x3 := (unhide hU).at 3 (by omega) (k : Int) rfl
            have x21 := (unhide hU).at 21 (by omega) 1 rfl
            have hfin : Hid (∀ n, w.grownBy (wg.drewN n) none) := fun n => grown_drew (unhide hU).grown n
            go_wp2_with fail
            go_quiet (fail)
            go_wp2
            go_ret
            exact ⟨rfl, none_below (unhide hfin _)⟩
          · obtain rfl : k = 0 := by omega
            have cd2 := hide (unhide cdo _ _ 8 (unhide hok1) (.inl rfl) (fun _ => Gd.drop_first (by omega) (by omega)))
            clear cdo hok1 h0 h4
            unfold Gd.world at cd2
            go_wp2_with fail
            refine (unhide cd2 _ _ _ _ _ _ _ (unhide hV).hold.lists).mono ?_
            rintro e wf ⟨pC, pE, pI, fC, fE, fI, rfl, hcap, l1, l2, l3, n1, n2, n3, hL, hg⟩
            have hW2 := hide ((unhide hWd).on hg)
            have hU := hide (Gd.law_new (s := s) (g := g) (cC := fC) (cI := fI) (unhide hV).grown hcap l1 l2 l3 n1 n2 n3 hL hg)
            clear hcap l1 l2 l3 n1 n2 n3 hL hg cd2 hV b0 b1 b2 b3 b4 b5 b6 b7 b8 b9 b10 v1 v3 hWd
            unfold Gd.world at hU ⊢
            go_upto_region 17 with fail
            obtain ⟨T3, hT3⟩ : ∃ T3, wf.heap.size = T3 := ⟨_, rfl⟩
            have hW3 := hide ((unhide hW2).on (World.grownBy_alloc wf (.cells #[.int .i64 (s 0), .int .i64 (s 1), .int .i64 (s 2), .int .i64 (s 3), .slice (some ⟨pC, 0, none⟩) 384 fC, .slice (some ⟨pE, 0, none⟩) 32 fE, .slice (some ⟨pI, 0, none⟩) 40 fI, .int .i64 (g 0), .int .i64 (g 1), .int .i64 (g 2), .int .i64 (g 3)] 29) none))
            rw [hT3] at hU ⊢
            generalize wf.alloc (.cells #[.int .i64 (s 0), .int .i64 (s 1), .int .i64 (s 2), .int .i64 (s 3), .slice (some ⟨pC, 0, none⟩) 384 fC, .slice (some ⟨pE, 0, none⟩) 32 fE, .slice (some ⟨pI, 0, none⟩) 40 fI, .int .i64 (g 0), .int .i64 (g 1), .int .i64 (g 2), .int .i64 (g 3)] 29) = wg at hU hW3 ⊢
            clear hT3 hW2
            obtain ⟨b0, b1, b2, b3, b4, b5, b6, b7, b8, b9, b10⟩ := (unhide hU).eleven
            obtain ⟨d0, d1, d2, d3, d4, d5, d6, d7, d8, d9, d10⟩ := (unhide hW3).eleven
            have cs := hide (same7_any s g c E _ pC pE pI fC fE fI gC gE gI cC cE cI wg (unhide hU).hold.lists (unhide hW3).hold.lists)
            unfold Gd.world at cs
            go_wp2_with fail
            refine (unhide cs).mono ?_
            rintro e wh ⟨rfl, hg⟩
            have hfin := hide (grown_trans (unhide hU).grown hg)
            clear hg cs
            go_wp2
            go_ret
            exact ⟨rfl, none_below (unhide hfin)⟩

set_option maxRecDepth 100000 in
theorem lifted (os : Os) (started : os.Started) (H : Type) (enc : TypeId × Value → H) :
    ReturnsInHanded {} Try.checked os 8 .any (Rows.goodsBackSpec.pre6 enc Try.prog Try.f8 Rows.goodsBackRow.domain false) (Rows.goodsBackSpec.post enc Try.prog Try.f8 false true false false) := by
  refine returnsInHanded_of_change (C := Try.checked) own started (by kernel_rfl) Try.func8
    (ChangeSpec.witness6 (enc := enc) (C := Try.checked) false ⟨#[], #[.int .i64 0, .int .i64 0, .int .i64 0], []⟩ 8 (by kernel_rfl) (by kernel_rfl) (by kernel_rfl) (by kernel_rfl)) ?_
  intro W base args ds gs before hval0 hW hcnd _
  have hval : ∀ (j : Nat) t v, Try.f8.params[j]? = some t → args[j]? = some v → Value.okWide Try.prog W .any base t v := hval0
  have hW' := hW
  obtain ⟨p, q, hA0, hV, rfl, hfz, hnd⟩ := hW
  have hA : DataW.TrodAll enc Try.prog W 0 (fun _ => true) true Try.f8.params.toList args.toList ds p := hA0
  rw [Try.params8] at hA hval
  obtain ⟨v0, vs0, d0, ds0, p0, q0, hargs, rfl, rfl, h0, r0⟩ := trodAll_cons hA
  obtain ⟨v1, vs1, d1, ds1, p1, q1, rfl, rfl, rfl, h1, r1⟩ := trodAll_cons r0
  obtain ⟨v2, vs2, d2, ds2, p2, q2, rfl, rfl, rfl, h2, r2⟩ := trodAll_cons r1
  obtain ⟨rfl, rfl, rfl⟩ := trodAll_nil r2
  obtain rfl : args = #[v0, v1, v2] := by cases args; simp_all
  obtain ⟨rfl, rfl⟩ := trodVars_none hV
  obtain ⟨a0, rfl, rfl, rfl, w0⟩ := open_int Try.underlying2 (hval 0 2 v0 rfl rfl) h0
  obtain ⟨a1, rfl, rfl, rfl, w1⟩ := open_int Try.underlying3 (hval 1 3 v1 rfl rfl) h1
  obtain ⟨a2, rfl, rfl, rfl, w2⟩ := open_int Try.underlying3 (hval 2 3 v2 rfl rfl) h2
  clear hA0 hval0
  refine (walk a0 a1 a2 w0 w1 w2 W).mono fun e W' ⟨he, hg⟩ => ?_
  subst he
  exact ⟨_, rfl, _, _, _, [], _, [], hW', trodAll_mk1 (shut_bool Try.underlying4 _), (trodAll_cons_mk (shut_int Try.underlying2 w0) (trodAll_cons_mk (shut_int Try.underlying3 w1) (trodAll_cons_mk (shut_int Try.underlying3 w2) trodAll_mk0))), rfl, hg.frame _, fun h => by cases h⟩

theorem over : Rows.goodsBackRow.holds Try.pinned (OpenSpec.ofChange Rows.goodsBackSpec) :=
  OpenClaim.holds_of_wide 8 Try.f8 rfl rfl rfl rfl rfl rfl rfl ⟨rfl, rfl, rfl, rfl, rfl⟩ rfl rfl rfl rfl rfl (by kernel_rfl) Try.func8 (by kernel_rfl)
    (of_decide_eq_true (by kernel_rfl)) (by unfold Func.isWrapper; first | (rw [if_pos (by decide +kernel)]; kernel_rfl) | (rw [if_neg (by decide +kernel)]; exact ⟨rfl, rfl⟩))
    (fun os started H enc _ => lifted os started H enc)

theorem proved : Rows.GoodsBackSaid :=
  over
#print axioms proved
end Go.Proofs.Ythngbjmiblbohaa.goodsBack
