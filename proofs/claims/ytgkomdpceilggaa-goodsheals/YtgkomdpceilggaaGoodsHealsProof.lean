/-
  A potion brings six points, to the most at the utmost, and takes the poison; it is gone then; without one nothing happens: for every seed, hit points, poison and number of potions, at this commit; no condition.
-/
import Derived.Test.YtgkomdpceilggaaRows
import Derived.WalkKit
import Derived.ProofKit
import Derived.OpenShut
import Derived.Test.YtgkomdpceilggaaPart24
import Derived.BigQuiet
import Derived.Deep.Cut
import Derived.Deep.CutRange
import Derived.Deep.RegionHeld3
import Derived.Below
import Derived.ChangeOld
import Derived.ShutString
namespace Go.Proofs.Ytgkomdpceilggaa.goodsHeals
open Go.ChangeShapes Go.WideShapes Go.ChangeAt Go.RowKit
open Go.ChangeMaps (open_string shut_string)
set_option linter.unusedVariables false

theorem own : ownKnob Try.prog.godebug = none := by kernel_rfl

set_option maxRecDepth 8000 in
set_option maxHeartbeats 12800000 in

theorem walk (a0 : Int) (a1 : Int) (a2 : Int) (a3 : Int) (w0 : (Lit.int .i64 a0).wf = true) (w1 : (Lit.int .i64 a1).wf = true) (w2 : (Lit.int .i64 a2).wf = true) (w3 : (Lit.int .i64 a3).wf = true) (w : World) :
    Calls Try.prog 6 #[.int .i64 a0, .int .i64 a1, .int .i64 a2, .int .i64 a3] w fun e w' => e = .returned (.bool true) ∧ Below w.heap.size w w' := by
  clear w0 w1 w2 w3
  obtain ⟨mn, hmn⟩ : ∃ n : Nat, a3 % 4 = (n : Int) := ⟨(a3 % 4).toNat, by omega⟩
  have mn4 : mn < 4 := by omega
  have cM : Hid (∀ wq, Calls Try.prog 11 #[.int .i64 a3, .int .i64 4] wq fun e w' => e = .returned (.int .i64 (mn : Int)) ∧ w' = wq) := fun wq => by
    have h := within7_any a3 4 wq (by omega) (by omega)
    rw [hmn] at h
    exact h
  clear hmn
  obtain ⟨f, hf⟩ : ∃ f : Int → Int → Int, Hid (∀ a n, f a n = a % n) := ⟨fun a n => a % n, fun _ _ => rfl⟩
  have cW : Hid (∀ a n wq, 0 < n → n ≤ 20 → Calls Try.prog 11 #[.int .i64 a, .int .i64 n] wq fun e w' => e = .returned (.int .i64 (f a n)) ∧ w' = wq) := fun a n wq h1 h2 => by
    rw [unhide hf]
    exact within7_any a n wq h1 (by omega)
  have p0 : 0 ≤ f a1 20 := by rw [unhide hf]; omega
  have p1 : f a1 20 < 20 := by rw [unhide hf]; omega
  have q0 : 0 ≤ f a2 10 := by rw [unhide hf]; omega
  have q1 : f a2 10 < 10 := by rw [unhide hf]; omega
  clear hf
  go_enter Try.func6, Try.ntmps6
  go_wp2_with fail
  refine (known7_any _).mono ?_
  rintro e wk ⟨rfl, hgk⟩
  have hgk' := hide hgk
  clear hgk
  go_wp2_with fail
  refine (world_bare a0 0 0 1 0 (by decide) (by decide) _).mono ?_
  rintro e wa ⟨c, kc, s, g, E, hS0, -, -, -, hEe, gC, gE, gI, cC, cE, cI, rfl, hcap, l1, l2, l3, n1, n2, n3, hL, hg⟩
  have hS : Hid (Gd.Sit c g E (fun _ _ => 0) 0 1 kc) := hS0
  have hM : Hid (E 1 6 = 20) := by
    show E 1 6 = 20
    rw [hEe]
    rfl
  have hW := hide (Gd.law_new (s := s) (g := g) (cC := cC) (cI := cI) (unhide hgk') hcap l1 l2 l3 n1 n2 n3 hL hg)
  have ch : Hid (∀ x : World, Own x gE 32 E → Calls Try.prog 24 #[.slice (some ⟨gE, 0, none⟩) 32 cE, .int .i64 0] x (Says x (.int .i64 1))) := fun x hx => by
    have h := refHero7_any gE cE E 0 x hx
    rw [(unhide hS).hero] at h
    exact h
  have cdo : Hid (∀ (E : Nat → Nat → Int) (k : Nat), Gd.Sit c g E (Gd.flasks k mn) 0 1 kc → ∀ (jC jE jI dC dE dI : Nat) (x : World), Gd.Lists x jC jE jI c E (Gd.flasks k mn) → Calls Try.prog 13 #[.agg (Gd.world s jC jE jI dC dE dI g), .int .i64 0, .int .i64 6] x (Gd.Worlds x s g c (Gd.entsOf E (Gd.flasks k mn) 1 0 6) (Gd.act (Gd.flasks k mn) 40 0 ((kc : Int) % 24) ((kc : Int) / 24) (decide (c kc = 5)) (g (0 : Int).toNat) 6))) := fun E k hs jC jE jI dC dE dI x hx => by
    have h := do_sit s g c E _ jC jE jI dC dE dI 1 kc 0 6 hs x hx
    have hg : Gd.goldOf (Gd.flasks k mn) 0 ((kc : Int) % 24) ((kc : Int) / 24) (decide (c kc = 5)) (g (0 : Int).toNat) 6 = g (0 : Int).toNat := rfl
    rw [hg, Gd.give_same] at h
    exact h
  have hokf : Hid (∀ a b, b ≤ 4 → Gd.Ok c 40 (Gd.flasks a b)) := fun a b hb => Gd.ok_flasks c a b hb
  clear hcap l1 l2 l3 n1 n2 n3 hL hg hgk' hS0 hEe
  unfold Gd.world at hW ⊢
  go_upto_region 4 with fail
  obtain ⟨T, hT⟩ : ∃ T, wa.heap.size = T := ⟨_, rfl⟩
  rw [hT] at hW ⊢
  generalize wa.alloc (.cells #[.int .i64 (s 0), .int .i64 (s 1), .int .i64 (s 2), .int .i64 (s 3), .slice (some ⟨gC, 0, none⟩) 384 cC, .slice (some ⟨gE, 0, none⟩) 32 cE, .slice (some ⟨gI, 0, none⟩) 40 cI, .int .i64 (g 0), .int .i64 (g 1), .int .i64 (g 2), .int .i64 (g 3)] 29) = wb at hW ⊢
  clear hT
  have q5 := (unhide hW).eleven.2.2.2.2.2.1
  go_wp2_with fail
  refine (unhide ch _ (unhide hW).hold.lists.own).mono ?_
  rintro e wc ⟨rfl, hg⟩
  have hW1 := hide ((unhide hW).on hg)
  clear hg hW q5 ch
  have q5 := (unhide hW1).eleven.2.2.2.2.2.1
  have fE := (unhide hW1).hold.lists.ents.free
  have e16 := (unhide hW1).of 16 (by omega) _ rfl
  have e20 := (unhide hW1).of 20 (by omega) _ rfl
  have hTE : T ≠ gE := (unhide hW1).hold.bE
  have hET : gE ≠ T := hTE.symm
  obtain ⟨E1, hE1⟩ : ∃ E1, E1 = Gd.set (Gd.set E 1 5 (1 + f a1 20)) 1 9 (f a2 10) := ⟨_, rfl⟩
  have hS1 : Hid (Gd.Sit c g E1 (Gd.flasks 0 0) 0 1 kc) := by
    show Gd.Sit _ _ _ _ _ _ _
    rw [hE1, ← Gd.flask_none]
    exact ((unhide hS).stat 1 5 _ (.inl rfl) (by omega) (by omega)).stat 1 9 _ (.inr rfl) q0 (by omega)
  have hE5 : Hid (1 ≤ E1 1 5 ∧ E1 1 5 ≤ 20 ∧ E1 1 6 = 20) := by
    show _ ∧ _ ∧ _
    rw [hE1, Gd.set_other (by omega), Gd.set_same, Gd.set_other (by omega), Gd.set_other (by omega)]
    exact ⟨by omega, by omega, unhide hM⟩
  have hst : Hid (Gd.Law w ((wc.setCell ⟨gE, 16, none⟩ (.int .i64 (1 + f a1 20))).setCell ⟨gE, 20, none⟩ (.int .i64 (f a2 10))) T gC gE gI cC cE cI s g c E1 (Gd.flasks 0 0)) := by
    show Gd.Law _ _ _ _ _ _ _ _ _ _ _ _ _ _
    rw [hE1, ← Gd.flask_none]
    exact ((unhide hW1).stat 1 5 (by omega) (1 + f a1 20)).stat 1 9 (by omega) (f a2 10)
  clear hE1 hM hS
  go_upto_region 5 with fail
  go_cut [] from 21 (fun wx => Hid (Gd.Law w wx T gC gE gI cC cE cI s g c E1 (Gd.flasks 0 0)))
  case first =>
    have hv : Hid (IntKind.i64.wrap (1 + f a1 20) = 1 + f a1 20) := by
      show _ = _
      rw [IntKind.wrap_i64]
      omega
    go_region_held3 (fun x => x.cell? ⟨T, 5, none⟩ = some (.slice (some ⟨gE, 0, none⟩) 32 cE)) (go_keep) (first | (go_at_call 11; refine (unhide cW _ _ _ (by decide) (by decide)).mono ?_; rintro e wy ⟨rfl, hy⟩; subst wy))
    all_goals
      go_wp2_with fail
      go_meet
      first
        | exact (unhide hst).on (grown_drew1 (World.grownBy.refl _ _))
        | (rw [unhide hv]; exact (unhide hst).on (grown_drew1 (World.grownBy.refl _ _)))
  case rest =>
    have hW2 := hide (unhide hcut)
    clear hcut hW1 q5 fE e16 e20 hTE hET cW p0 p1 q0 q1 hst
    go_wp2_with fail
    refine (unhide cM _).mono ?_
    rintro e wy ⟨rfl, hy⟩
    subst wy
    clear cM
    go_wp2_with fail
    go_loopw [11] (fun vi wr => ∃ k : Nat, k ≤ mn ∧ vi = .int .i64 (k : Int) ∧ Hid (Gd.Law w wr T gC gE gI cC cE cI s g c E1 (Gd.flasks 0 k))) (fun vi _ => 10 - (intOf vi).toNat)
    case atStart => exact ⟨0, by omega, rfl, hW2⟩
    case round =>
      clear hW2
      obtain ⟨k, hk, rfl, hWr⟩ := hrel
      by_cases hlt : k < mn
      · have hlt' : (k : Int) < (mn : Int) := by omega
        have hk40 : (k : Int) < 40 := by omega
        have HL := hide hlt
        have q6 := (unhide hWr).eleven.2.2.2.2.2.2.1
        have fI := (unhide hWr).hold.lists.items.free
        obtain ⟨u0, u1, u2, u3⟩ := (unhide hWr).hold.lists.its.row (k := k) (by omega)
        have hput : Hid (Gd.Law w _ T gC gE gI cC cE cI s g c E1 (Gd.flasks 0 (k + 1))) := ((unhide hWr).put k 1 2 0 (k : Int)).same (Gd.flask_more k)
        clear hlt hk
        go_wp2
        go_roundw
        case rel => exact ⟨k + 1, by have := unhide HL; omega, by go_num, hput⟩
        case measure => simp [intOf]; have := unhide HL; omega
      · obtain rfl : k = mn := by omega
        have hge : ¬ (k : Int) < (k : Int) := by omega
        have q5 := (unhide hWr).eleven.2.2.2.2.2.1
        have e16 := (unhide hWr).of 16 (by omega) _ rfl
        have hS2 : Hid (Gd.Sit c g E1 (Gd.flasks 0 k) 0 1 kc) := (unhide hS1).items (unhide hokf 0 k (by omega))
        clear hlt hk hS1
        go_wp2_with fail
        go_loopw [1, 12] (fun v1 vi wr => ∃ (j : Nat) (E : Nat → Nat → Int) (gC gE gI cC cE cI : Nat), j ≤ k ∧ vi = .int .i64 (j : Int) ∧ v1 = .int .i64 (E 1 5) ∧ Hid (Gd.Sit c g E (Gd.flasks j k) 0 1 kc) ∧ Hid (1 ≤ E 1 5 ∧ E 1 5 ≤ 20 ∧ E 1 6 = 20) ∧ Hid (Gd.Law w wr T gC gE gI cC cE cI s g c E (Gd.flasks j k))) (fun _ vi _ => 20 - (intOf vi).toNat)
        case atStart => exact ⟨0, E1, gC, gE, gI, cC, cE, cI, by omega, rfl, rfl, hS2, hE5, hWr⟩
        case round =>
          clear hWr q5 e16 hS2 hE5
          obtain ⟨j, E, gC, gE, gI, cC, cE, cI, hj, rfl, rfl, hS, hE5, hW⟩ := hrel
          have hj4 : (j : Int) < 4 := by omega
          have cd := hide (unhide cdo E j (unhide hS) gC gE gI cC cE cI)
          obtain ⟨b0, b1, b2, b3, b4, b5, b6, b7, b8, b9, b10⟩ := (unhide hW).eleven
          by_cases hlt : j < k
          · rw [Gd.flask_use hlt (by omega), Gd.flask_ents hlt (by omega)] at cd
            have HL := hide hlt
            have hnge : ¬ (k : Int) ≤ (j : Int) := by omega
            have hj40 : (j : Int) < 40 := by omega
            obtain ⟨P, hP⟩ : ∃ P, E 1 5 = P := ⟨_, rfl⟩
            have h1 := (unhide hE5).1
            have h2 := (unhide hE5).2.1
            have h3 := (unhide hE5).2.2
            rw [hP] at h1 h2 ⊢
            obtain ⟨F, hF⟩ : ∃ F, Gd.heal E 1 = F := ⟨_, rfl⟩
            have hF5 : Hid (F 1 5 = min (P + 6) 20) := by show F 1 5 = _; rw [← hF, Gd.heal_hp, hP, h3]
            have hF9 : Hid (F 1 9 = 0) := by show F 1 9 = _; rw [← hF, Gd.heal_poison]
            have hF6 : Hid (1 ≤ F 1 5 ∧ F 1 5 ≤ 20 ∧ F 1 6 = 20) := ⟨by rw [unhide hF5]; omega, by rw [unhide hF5]; omega, by rw [← hF, Gd.heal_max, h3]⟩
            have hSF : Hid (Gd.Sit c g F (Gd.flasks (j + 1) k) 0 1 kc) := by
              show Gd.Sit _ _ _ _ _ _ _
              rw [← hF]
              exact ((unhide hS).items (unhide hokf (j + 1) k (by omega))).heal (by omega) (by omega)
            rw [hF] at cd
            clear hlt hj hP h3 hF hE5 cdo hS
            unfold Gd.world at cd
            go_wp2_with fail
            refine (unhide cd _ (unhide hW).hold.lists).mono ?_
            rintro e wv ⟨jC, jE, jI, dC, dE, dI, rfl, hcap, l1, l2, l3, n1, n2, n3, hL, hg⟩
            have hg2 := hide (grown_trans hg (World.grownBy_alloc wv (.cells #[.int .i64 (s 0), .int .i64 (s 1), .int .i64 (s 2), .int .i64 (s 3), .slice (some ⟨jC, 0, none⟩) 384 dC, .slice (some ⟨jE, 0, none⟩) 32 dE, .slice (some ⟨jI, 0, none⟩) 40 dI, .int .i64 (g 0), .int .i64 (g 1), .int .i64 (g 2), .int .i64 (g 3)] 29) none))
            have hV := hide (Gd.law_new (s := s) (g := g) (cC := dC) (cI := dI) (unhide hW).grown hcap l1 l2 l3 n1 n2 n3 hL hg)
            have hov : Hid (∀ x', (wv.alloc (.cells #[.int .i64 (s 0), .int .i64 (s 1), .int .i64 (s 2), .int .i64 (s 3), .slice (some ⟨jC, 0, none⟩) 384 dC, .slice (some ⟨jE, 0, none⟩) 32 dE, .slice (some ⟨jI, 0, none⟩) 40 dI, .int .i64 (g 0), .int .i64 (g 1), .int .i64 (g 2), .int .i64 (g 3)] 29)).grownBy x' none → Gd.Law w (((((((((((x'.setCell ⟨T, 0, none⟩ (.int .i64 (s 0))).setCell ⟨T, 1, none⟩ (.int .i64 (s 1))).setCell ⟨T, 2, none⟩ (.int .i64 (s 2))).setCell ⟨T, 3, none⟩ (.int .i64 (s 3))).setCell ⟨T, 4, none⟩ (.slice (some ⟨jC, 0, none⟩) 384 dC)).setCell ⟨T, 5, none⟩ (.slice (some ⟨jE, 0, none⟩) 32 dE)).setCell ⟨T, 6, none⟩ (.slice (some ⟨jI, 0, none⟩) 40 dI)).setCell ⟨T, 7, none⟩ (.int .i64 (g 0))).setCell ⟨T, 8, none⟩ (.int .i64 (g 1))).setCell ⟨T, 9, none⟩ (.int .i64 (g 2))).setCell ⟨T, 10, none⟩ (.int .i64 (g 3))) T jC jE jI dC dE dI s g c F (Gd.flasks (j + 1) k)) := fun x' hx => (unhide hW).over (s' := s) (g' := g) (dC := dC) (dI := dI) hcap l1 l2 l3 n1 n2 n3 ((hL.on (World.grownBy_alloc _ _ none)).on hx) (grown_trans (unhide hg2) hx)
            clear hcap l1 l2 l3 n1 n2 n3 hL hg cd b0 b1 b2 b3 b4 b5 b6 b7 b8 b9 b10
            unfold Gd.world at hV ⊢
            go_upto_region 16 with fail
            obtain ⟨T2, hT2⟩ : ∃ T2, wv.heap.size = T2 := ⟨_, rfl⟩
            have hWd := hide ((unhide hW).on (unhide hg2))
            rw [hT2] at hV ⊢
            generalize wv.alloc (.cells #[.int .i64 (s 0), .int .i64 (s 1), .int .i64 (s 2), .int .i64 (s 3), .slice (some ⟨jC, 0, none⟩) 384 dC, .slice (some ⟨jE, 0, none⟩) 32 dE, .slice (some ⟨jI, 0, none⟩) 40 dI, .int .i64 (g 0), .int .i64 (g 1), .int .i64 (g 2), .int .i64 (g 3)] 29) = wd at hV hWd hg2 hov ⊢
            clear hT2 hW hg2
            obtain ⟨b0, b1, b2, b3, b4, b5, b6, b7, b8, b9, b10⟩ := (unhide hV).eleven
            obtain ⟨d0, d1, d2, d3, d4, d5, d6, d7, d8, d9, d10⟩ := (unhide hWd).eleven
            have fT := (unhide hWd).hold.box.free
            have hrow := (unhide hV).hold.lists.its.row (k := j) (by omega)
            rw [Gd.flask_no (by omega)] at hrow
            have x0 : wd.cell? ⟨jI, j * 4, none⟩ = some (.int .i64 0) := hrow.1
            have x1 : wd.cell? ⟨jI, j * 4 + 1, none⟩ = some (.int .i64 0) := hrow.2.1
            have x2 : wd.cell? ⟨jI, j * 4 + 2, none⟩ = some (.int .i64 0) := hrow.2.2.1
            have x3 : wd.cell? ⟨jI, j * 4 + 3, none⟩ = some (.int .i64 0) := hrow.2.2.2
            have y9 := (unhide hV).of 20 (by omega) 0 (unhide hF9)
            have hfin := hide (unhide hov wd (World.grownBy.refl _ _))
            clear hrow hov hWd
            by_cases hbig : P + 6 ≤ 20
            · have hm : min (P + 6) 20 = P + 6 := by omega
              have y5 := (unhide hV).of 16 (by omega) (P + 6) (by rw [← hm]; exact unhide hF5)
              rw [hm] at hF5
              clear hm hV
              go_wp2
              go_roundw
              case rel => exact ⟨j + 1, F, jC, jE, jI, dC, dE, dI, by have := unhide HL; omega, by go_num, by rw [unhide hF5]; exact congrArg (Value.int .i64) (by split <;> omega), hSF, hF6, hfin⟩
              case measure => simp [intOf]; have := unhide HL; omega
            · have hm : min (P + 6) 20 = 20 := by omega
              have y5 := (unhide hV).of 16 (by omega) 20 (by rw [← hm]; exact unhide hF5)
              rw [hm] at hF5
              clear hm hV
              go_wp2
              go_roundw
              case rel => exact ⟨j + 1, F, jC, jE, jI, dC, dE, dI, by have := unhide HL; omega, by go_num, by rw [unhide hF5]; exact congrArg (Value.int .i64) (by split <;> omega), hSF, hF6, hfin⟩
              case measure => simp [intOf]; have := unhide HL; omega
          · obtain rfl : j = k := by omega
            rw [Gd.flask_dry (Nat.le_refl _), Gd.flask_rest (Nat.le_refl _)] at cd
            clear hlt hj cdo hE5 hS
            unfold Gd.world at cd
            go_wp2_with fail
            refine (unhide cd _ (unhide hW).hold.lists).mono ?_
            rintro e wv ⟨jC, jE, jI, dC, dE, dI, rfl, hcap, l1, l2, l3, n1, n2, n3, hL, hg⟩
            have hWv := hide ((unhide hW).on hg)
            have hV := hide (Gd.law_new (s := s) (g := g) (cC := dC) (cI := dI) (unhide hW).grown hcap l1 l2 l3 n1 n2 n3 hL hg)
            clear hcap l1 l2 l3 n1 n2 n3 hL hg cd hW b0 b1 b2 b3 b4 b5 b6 b7 b8 b9 b10
            unfold Gd.world at hV ⊢
            go_upto_region 16 with fail
            obtain ⟨T2, hT2⟩ : ∃ T2, wv.heap.size = T2 := ⟨_, rfl⟩
            have hWd := hide ((unhide hWv).on (World.grownBy_alloc wv (.cells #[.int .i64 (s 0), .int .i64 (s 1), .int .i64 (s 2), .int .i64 (s 3), .slice (some ⟨jC, 0, none⟩) 384 dC, .slice (some ⟨jE, 0, none⟩) 32 dE, .slice (some ⟨jI, 0, none⟩) 40 dI, .int .i64 (g 0), .int .i64 (g 1), .int .i64 (g 2), .int .i64 (g 3)] 29) none))
            rw [hT2] at hV ⊢
            generalize wv.alloc (.cells #[.int .i64 (s 0), .int .i64 (s 1), .int .i64 (s 2), .int .i64 (s 3), .slice (some ⟨jC, 0, none⟩) 384 dC, .slice (some ⟨jE, 0, none⟩) 32 dE, .slice (some ⟨jI, 0, none⟩) 40 dI, .int .i64 (g 0), .int .i64 (g 1), .int .i64 (g 2), .int .i64 (g 3)] 29) = wd at hV hWd ⊢
            clear hT2 hWv
            obtain ⟨b0, b1, b2, b3, b4, b5, b6, b7, b8, b9, b10⟩ := (unhide hV).eleven
            obtain ⟨d0, d1, d2, d3, d4, d5, d6, d7, d8, d9, d10⟩ := (unhide hWd).eleven
            have cs := hide (same7_any s g c E _ jC jE jI dC dE dI gC gE gI cC cE cI wd (unhide hV).hold.lists (unhide hWd).hold.lists)
            unfold Gd.world at cs
            go_wp2_with fail
            refine (unhide cs).mono ?_
            rintro e wh ⟨rfl, hg⟩
            have hfin := hide (grown_trans (unhide hV).grown hg)
            clear hg cs
            go_wp2
            go_ret
            exact ⟨rfl, none_below (unhide hfin)⟩

set_option maxRecDepth 100000 in
theorem lifted (os : Os) (started : os.Started) (H : Type) (enc : TypeId × Value → H) :
    ReturnsInHanded {} Try.checked os 6 .any (Rows.goodsHealsSpec.pre6 enc Try.prog Try.f6 Rows.goodsHealsRow.domain false) (Rows.goodsHealsSpec.post enc Try.prog Try.f6 false true false false) := by
  refine returnsInHanded_of_change (C := Try.checked) own started (by kernel_rfl) Try.func6
    (ChangeSpec.witness6 (enc := enc) (C := Try.checked) false ⟨#[], #[.int .i64 0, .int .i64 0, .int .i64 0, .int .i64 0], []⟩ 8 (by kernel_rfl) (by kernel_rfl) (by kernel_rfl) (by kernel_rfl)) ?_
  intro W base args ds gs before hval0 hW hcnd _
  have hval : ∀ (j : Nat) t v, Try.f6.params[j]? = some t → args[j]? = some v → Value.okWide Try.prog W .any base t v := hval0
  have hW' := hW
  obtain ⟨p, q, hA0, hV, rfl, hfz, hnd⟩ := hW
  have hA : DataW.TrodAll enc Try.prog W 0 (fun _ => true) true Try.f6.params.toList args.toList ds p := hA0
  rw [Try.params6] at hA hval
  obtain ⟨v0, vs0, d0, ds0, p0, q0, hargs, rfl, rfl, h0, r0⟩ := trodAll_cons hA
  obtain ⟨v1, vs1, d1, ds1, p1, q1, rfl, rfl, rfl, h1, r1⟩ := trodAll_cons r0
  obtain ⟨v2, vs2, d2, ds2, p2, q2, rfl, rfl, rfl, h2, r2⟩ := trodAll_cons r1
  obtain ⟨v3, vs3, d3, ds3, p3, q3, rfl, rfl, rfl, h3, r3⟩ := trodAll_cons r2
  obtain ⟨rfl, rfl, rfl⟩ := trodAll_nil r3
  obtain rfl : args = #[v0, v1, v2, v3] := by cases args; simp_all
  obtain ⟨rfl, rfl⟩ := trodVars_none hV
  obtain ⟨a0, rfl, rfl, rfl, w0⟩ := open_int Try.underlying2 (hval 0 2 v0 rfl rfl) h0
  obtain ⟨a1, rfl, rfl, rfl, w1⟩ := open_int Try.underlying3 (hval 1 3 v1 rfl rfl) h1
  obtain ⟨a2, rfl, rfl, rfl, w2⟩ := open_int Try.underlying3 (hval 2 3 v2 rfl rfl) h2
  obtain ⟨a3, rfl, rfl, rfl, w3⟩ := open_int Try.underlying3 (hval 3 3 v3 rfl rfl) h3
  clear hA0 hval0
  refine (walk a0 a1 a2 a3 w0 w1 w2 w3 W).mono fun e W' ⟨he, hg⟩ => ?_
  subst he
  exact ⟨_, rfl, _, _, _, [], _, [], hW', trodAll_mk1 (shut_bool Try.underlying4 _), (trodAll_cons_mk (shut_int Try.underlying2 w0) (trodAll_cons_mk (shut_int Try.underlying3 w1) (trodAll_cons_mk (shut_int Try.underlying3 w2) (trodAll_cons_mk (shut_int Try.underlying3 w3) trodAll_mk0)))), rfl, hg.frame _, fun h => by cases h⟩

theorem over : Rows.goodsHealsRow.holds Try.pinned (OpenSpec.ofChange Rows.goodsHealsSpec) :=
  OpenClaim.holds_of_wide 6 Try.f6 rfl rfl rfl rfl rfl rfl rfl ⟨rfl, rfl, rfl, rfl, rfl⟩ rfl rfl rfl rfl rfl (by kernel_rfl) Try.func6 (by kernel_rfl)
    (of_decide_eq_true (by kernel_rfl)) (by unfold Func.isWrapper; first | (rw [if_pos (by decide +kernel)]; kernel_rfl) | (rw [if_neg (by decide +kernel)]; exact ⟨rfl, rfl⟩))
    (fun os started H enc _ => lifted os started H enc)

theorem proved : Rows.GoodsHealsSaid :=
  over
#print axioms proved
end Go.Proofs.Ytgkomdpceilggaa.goodsHeals
