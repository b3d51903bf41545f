/-
  Gold is counted, five a piece, up to the most that may be, and never lies in a bag: for every seed, what gold there was, and how many pieces are picked up, at this commit; no condition.
-/
import Derived.Test.YthngbjmiblbohabRows
import Derived.WalkKit
import Derived.ProofKit
import Derived.OpenShut
import Derived.Test.YthngbjmiblbohabGoodsEnd
import Derived.BigQuiet
import Derived.Deep.Cut
import Derived.Deep.CutRange
import Derived.Deep.RegionHeld3
import Derived.Below
import Derived.ChangeOld
import Derived.ShutString
namespace Go.Proofs.Ythngbjmiblbohab.goodsGold
open Go.ChangeShapes Go.WideShapes Go.ChangeAt Go.RowKit
open Go.ChangeMaps (open_string shut_string)
set_option linter.unusedVariables false

theorem own : ownKnob Try.prog.godebug = none := by kernel_rfl

set_option maxRecDepth 8000 in
set_option maxHeartbeats 12800000 in

theorem walk (a0 : Int) (a1 : Int) (a2 : Int) (w0 : (Lit.int .i64 a0).wf = true) (w1 : (Lit.int .i64 a1).wf = true) (w2 : (Lit.int .i64 a2).wf = true) (w : World) :
    Calls Try.prog 4 #[.int .i64 a0, .int .i64 a1, .int .i64 a2] w fun e w' => e = .returned (.bool true) ∧ Below w.heap.size w w' := by
  clear w0 w1 w2
  obtain ⟨mn, hmn⟩ : ∃ n : Nat, a2 % 10 = (n : Int) := ⟨(a2 % 10).toNat, by omega⟩
  have mn10 : mn < 10 := by omega
  have cM : Hid (∀ wq, Calls Try.prog 8 #[.int .i64 a2, .int .i64 10] wq fun e w' => e = .returned (.int .i64 (mn : Int)) ∧ w' = wq) := fun wq => by
    have h := within7_any a2 10 wq (by omega) (by omega)
    rw [hmn] at h
    exact h
  clear hmn
  go_enter Try.func4, Try.ntmps4
  go_wp2_with fail
  refine (known7_any _).mono ?_
  rintro e wk ⟨rfl, hgk⟩
  have hgk' := hide hgk
  clear hgk
  go_wp2_with fail
  refine (world_bare a0 0 2 1 a1 (by decide) (by decide) _).mono ?_
  rintro e wa ⟨c, kc, s, g, E, hS0, -, -, -, -, gC, gE, gI, cC, cE, cI, rfl, hcap, l1, l2, l3, n1, n2, n3, hL, hg⟩
  have hS : Gd.Sit c g E (fun _ _ => 0) 2 1 kc := hS0
  have hW := hide (Gd.law_new (s := s) (g := g) (cC := cC) (cI := cI) (unhide hgk') hcap l1 l2 l3 n1 n2 n3 hL hg)
  have hEx := hS.x
  have hEy := hS.y
  have ch : Hid (∀ x : World, Own x gE 32 E → Calls Try.prog 7 #[.slice (some ⟨gE, 0, none⟩) 32 cE, .int .i64 2] x (Says x (.int .i64 1))) := fun x hx => by
    have h := refHero7_any gE cE E 2 x hx
    rw [hS.hero] at h
    exact h
  have hokk : Hid (∀ k, Gd.Ok c 40 (En.put (fun _ _ => 0) k (Gd.row 4 1 ((kc : Int) % 24) ((kc : Int) / 24)))) := fun k => Gd.ok_gold (by omega) (by omega) hS.kc4 hS.walk
  have hok0 := hide (Gd.ok_none c)
  obtain ⟨X, hX⟩ : ∃ X, (kc : Int) % 24 = X := ⟨_, rfl⟩
  obtain ⟨Y, hY⟩ : ∃ Y, (kc : Int) / 24 = Y := ⟨_, rfl⟩
  rw [hX] at hEx
  rw [hY] at hEy
  rw [hX, hY] at hokk
  have cdo : Hid (∀ (gk : Nat → Int) (k : Nat), k < 40 → Gd.Fine c gk E (fun _ _ => 0) → ∀ (jC jE jI dC dE dI : Nat) (x : World), Gd.Lists x jC jE jI c E (En.put (fun _ _ => 0) k (Gd.row 4 1 X Y)) → Calls Try.prog 9 #[.agg (Gd.world s jC jE jI dC dE dI gk), .int .i64 2, .int .i64 5] x (Gd.Worlds x s (Gd.give gk 2 (min (gk 2 + 5) 999)) c E (fun _ _ => 0))) := fun gk k hk hf jC jE jI dC dE dI x hx => by
    have h := do_sit s gk c E _ jC jE jI dC dE dI 1 kc 2 5 { hS with fine := { hf with ok := unhide hokk k } } x hx
    rw [hX, hY, (Gd.gold_pick hk).1, (Gd.gold_pick hk).2] at h
    have he : Gd.entsOf E (En.put (fun _ _ => 0) k (Gd.row 4 1 X Y)) 1 2 5 = E := if_neg (by omega)
    rw [he] at h
    exact h
  have hFine := hide hS.fine
  have hcc : Hid (∀ i, 0 ≤ c i ∧ c i ≤ 255) := hS.fine.cells
  clear hcap l1 l2 l3 n1 n2 n3 hL hg hgk' hS hS0 hX hY
  unfold Gd.world at hW ⊢
  go_upto_region 4 with fail
  obtain ⟨T, hT⟩ : ∃ T, wa.heap.size = T := ⟨_, rfl⟩
  rw [hT] at hW ⊢
  generalize wa.alloc (.cells #[.int .i64 (s 0), .int .i64 (s 1), .int .i64 (s 2), .int .i64 (s 3), .slice (some ⟨gC, 0, none⟩) 384 cC, .slice (some ⟨gE, 0, none⟩) 32 cE, .slice (some ⟨gI, 0, none⟩) 40 cI, .int .i64 (g 0), .int .i64 (g 1), .int .i64 (g 2), .int .i64 (g 3)] 28) = wb at hW ⊢
  clear hT
  have q5 := (unhide hW).eleven.2.2.2.2.2.1
  go_wp2_with fail
  refine (unhide ch _ (unhide hW).hold.lists.own).mono ?_
  rintro e wc ⟨rfl, hg⟩
  have hW1 := hide ((unhide hW).on hg)
  clear hg hW q5 ch
  have q9 := (unhide hW1).eleven.2.2.2.2.2.2.2.2.2.1
  go_wp2_with fail
  go_loopw [9, 10] (fun v9 vi wr => ∃ (k : Nat) (gk : Nat → Int) (gC gE gI cC cE cI : Nat), k ≤ mn ∧ vi = .int .i64 (k : Int) ∧ v9 = .int .i64 (gk 2) ∧ Hid (Gd.Fine c gk E (fun _ _ => 0)) ∧ Hid (Gd.Law w wr T gC gE gI cC cE cI s gk c E (fun _ _ => 0))) (fun _ vi _ => 20 - (intOf vi).toNat)
  case atStart => exact ⟨0, g, gC, gE, gI, cC, cE, cI, by omega, rfl, rfl, hFine, hW1⟩
  case round =>
    clear hW1 q9 hFine
    obtain ⟨k, gk, gC, gE, gI, cC, cE, cI, hk, rfl, rfl, hFine, hW⟩ := hrel
    go_wp2_with fail
    refine (unhide cM _).mono ?_
    rintro e wy ⟨rfl, hy⟩
    subst wy
    by_cases hlt : k < mn
    · have hlt' : (k : Int) < (mn : Int) := by omega
      have HL := hide hlt
      have hk40 : (k : Int) < 40 := by omega
      have g0 := ((unhide hFine).gold 2 (by omega)).1
      have g9 := ((unhide hFine).gold 2 (by omega)).2
      have q5 := (unhide hW).eleven.2.2.2.2.2.1
      have q6 := (unhide hW).eleven.2.2.2.2.2.2.1
      have e14 : wr.cell? ⟨gE, 14, none⟩ = some (.int .i64 X) := by
        rw [(unhide hW).hold.lists.ents.cell (by omega), ← hEx]
        rfl
      have e15 : wr.cell? ⟨gE, 15, none⟩ = some (.int .i64 Y) := by
        rw [(unhide hW).hold.lists.ents.cell (by omega), ← hEy]
        rfl
      have fI := (unhide hW).hold.lists.items.free
      obtain ⟨u0, u1, u2, u3⟩ := (unhide hW).hold.lists.its.row (k := k) (by omega)
      have hTI : T ≠ gI := (unhide hW).hold.bI
      have hIT : gI ≠ T := hTI.symm
      have hEI : gE ≠ gI := (unhide hW).hold.eI
      have hIE : gI ≠ gE := hEI.symm
      have cd := hide (unhide cdo gk k (by omega) (unhide hFine) gC gE gI cC cE cI)
      have hEx' := hide hEx
      have hEy' := hide hEy
      clear hlt hk hEx hEy cdo
      go_upto_region 9 with fail
      go_cut [] from 22 to 63 (fun wx => Hid (Gd.Law w wx T gC gE gI cC cE cI s gk c E (En.put (fun _ _ => 0) k (Gd.row 4 1 X Y))))
      case first =>
        have hst := hide ((unhide hW).put k 4 1 X Y)
        go_region_held3 (fun x => x.cell? ⟨T, 6, none⟩ = some (.slice (some ⟨gI, 0, none⟩) 40 cI) ∧ x.cell? ⟨T, 5, none⟩ = some (.slice (some ⟨gE, 0, none⟩) 32 cE) ∧ x.cell? ⟨gE, 14, none⟩ = some (.int .i64 X) ∧ x.cell? ⟨gE, 15, none⟩ = some (.int .i64 Y)) (go_keep) (fail)
        all_goals
          go_wp2_with fail
          go_meet
          exact (unhide hst).on (grown_drew1 (World.grownBy.refl _ _))
      case rest =>
        have hW2 := hide (unhide hcut)
        clear hcut hW q5 q6 e14 e15 fI u0 u1 u2 u3 hTI hIT hEI hIE
        obtain ⟨b0, b1, b2, b3, b4, b5, b6, b7, b8, b9, b10⟩ := (unhide hW2).eleven
        unfold Gd.world at cd
        go_upto_region 10 with fail
        rename_i hKK
        have hK0 := hide hKK
        clear hKK
        go_wp2_with fail
        refine (unhide cd _ (unhide hW2).hold.lists).mono ?_
        rintro e wv ⟨jC, jE, jI, dC, dE, dI, rfl, hcap, l1, l2, l3, n1, n2, n3, hL, hg⟩
        have hF2 := hide (Gd.fine_give (t := 2) (v := min (gk 2 + 5) 999) (unhide hFine) (by omega) (by omega) (unhide hok0))
        have hg2 : Gd.give gk 2 (min (gk 2 + 5) 999) 2 = min (gk 2 + 5) 999 := if_pos rfl
        obtain ⟨gn, hgn⟩ : ∃ gn, Gd.give gk 2 (min (gk 2 + 5) 999) = gn := ⟨_, rfl⟩
        rw [hgn] at hF2 hg2 ⊢
        have hV : Hid (Gd.Law w (((((((((((wv.setCell ⟨T, 0, none⟩ (.int .i64 (s 0))).setCell ⟨T, 1, none⟩ (.int .i64 (s 1))).setCell ⟨T, 2, none⟩ (.int .i64 (s 2))).setCell ⟨T, 3, none⟩ (.int .i64 (s 3))).setCell ⟨T, 4, none⟩ (.slice (some ⟨jC, 0, none⟩) 384 dC)).setCell ⟨T, 5, none⟩ (.slice (some ⟨jE, 0, none⟩) 32 dE)).setCell ⟨T, 6, none⟩ (.slice (some ⟨jI, 0, none⟩) 40 dI)).setCell ⟨T, 7, none⟩ (.int .i64 (gn 0))).setCell ⟨T, 8, none⟩ (.int .i64 (gn 1))).setCell ⟨T, 9, none⟩ (.int .i64 (gn 2))).setCell ⟨T, 10, none⟩ (.int .i64 (gn 3))) T jC jE jI dC dE dI s gn c E (fun _ _ => 0)) := (unhide hW2).over (s' := s) (g' := gn) (dC := dC) (dI := dI) hcap l1 l2 l3 n1 n2 n3 hL hg
        obtain ⟨y0, y1, y2, y3, y4, y5, y6, y7, y8, y9, y10⟩ := ((unhide hW2).on hg).eleven
        have fT := ((unhide hW2).on hg).hold.box.free
        clear hcap l1 l2 l3 n1 n2 n3 hL hg cd hW2 b0 b1 b2 b3 b4 b5 b6 b7 b8 b9 b10 hgn hFine
        have hg2' := hide hg2
        clear hg2
        unfold Gd.world
        go_wp2_with fail
        generalize (((((((((((wv.setCell ⟨T, 0, none⟩ (.int .i64 (s 0))).setCell ⟨T, 1, none⟩ (.int .i64 (s 1))).setCell ⟨T, 2, none⟩ (.int .i64 (s 2))).setCell ⟨T, 3, none⟩ (.int .i64 (s 3))).setCell ⟨T, 4, none⟩ (.slice (some ⟨jC, 0, none⟩) 384 dC)).setCell ⟨T, 5, none⟩ (.slice (some ⟨jE, 0, none⟩) 32 dE)).setCell ⟨T, 6, none⟩ (.slice (some ⟨jI, 0, none⟩) 40 dI)).setCell ⟨T, 7, none⟩ (.int .i64 (gn 0))).setCell ⟨T, 8, none⟩ (.int .i64 (gn 1))).setCell ⟨T, 9, none⟩ (.int .i64 (gn 2))).setCell ⟨T, 10, none⟩ (.int .i64 (gn 3))) = wz at hV ⊢
        clear y0 y1 y2 y3 y4 y5 y6 y7 y8 y9 y10 fT
        have c6 := (unhide hV).eleven.2.2.2.2.2.2.1
        have c9 := (unhide hV).eleven.2.2.2.2.2.2.2.2.2.1
        have hrow := (unhide hV).hold.lists.its.row (k := k) (by have := unhide HL; omega)
        have x0 : wz.cell? ⟨jI, k * 4, none⟩ = some (.int .i64 0) := hrow.1
        have x1 : wz.cell? ⟨jI, k * 4 + 1, none⟩ = some (.int .i64 0) := hrow.2.1
        have x2 : wz.cell? ⟨jI, k * 4 + 2, none⟩ = some (.int .i64 0) := hrow.2.2.1
        have x3 : wz.cell? ⟨jI, k * 4 + 3, none⟩ = some (.int .i64 0) := hrow.2.2.2
        rw [unhide hg2'] at c9
        clear hrow
        refine unhide hK0 _ _ (gold_tail (gk 2) k T jI dI wz g0 g9 hk40 c6 c9 x0 x1 x2 x3 _ _ _ _ _ _ _ _ _ _ _ _ _ _ _ _ _ _ _ _ _ _ _ _ _ _ _ _ _ _ _ _ _ _ _ _ _ _ _ _ _ _ _ _ _ _ _ _ _ _ _ _ _ _ _ _ _ _ _ _ _ _ _ _ _ _ _ _ _ _ ?_)
        intro v47 v48 v49 v50 v51 v52 v53 v54 v55 v56 v57 v58 v59 v60 v61 v62 v63
        clear c6 c9 x0 x1 x2 x3 hK0
        go_wp2
        go_roundw
        case rel => exact ⟨k + 1, gn, jC, jE, jI, dC, dE, dI, by have := unhide HL; omega, by go_num, by rw [unhide hg2'], hF2, hV⟩
        case measure => simp [intOf]; have := unhide HL; omega
    · have hge : ¬ (k : Int) < (mn : Int) := by omega
      obtain ⟨b0, b1, b2, b3, b4, b5, b6, b7, b8, b9, b10⟩ := (unhide hW).eleven
      have cck := hide (check_any s gk c E (fun _ _ => 0) gC gE gI cC cE cI wr (unhide hW).hold.lists (unhide hcc))
      clear hlt hk cdo hEx hEy
      unfold Gd.world at cck
      go_wp2_with fail
      refine (unhide cck).mono ?_
      rintro e wz ⟨r, rfl, hr, hg⟩
      obtain rfl : r = true := hr.2 (unhide hok0)
      have hWz := hide ((unhide hW).on hg)
      have csl := hide (refSlot_same gI 40 cI (fun _ _ => 0) 2 wz (unhide hWz).hold.lists.its)
      rw [Gd.slot_none] at csl
      have z6 := (unhide hWz).eleven.2.2.2.2.2.2.1
      clear hr hg hW b0 b1 b2 b3 b4 b5 b6 b7 b8 b9 b10 cck
      go_wp2_with fail
      refine (unhide csl).mono ?_
      rintro e wy ⟨rfl, hy⟩
      subst wy
      have hfin := hide (unhide hWz).grown
      go_wp2
      go_ret
      exact ⟨rfl, none_below (unhide hfin)⟩

set_option maxRecDepth 100000 in
theorem lifted (os : Os) (started : os.Started) (H : Type) (enc : TypeId × Value → H) :
    ReturnsInHanded {} Try.checked os 4 .any (Rows.goodsGoldSpec.pre6 enc Try.prog Try.f4 Rows.goodsGoldRow.domain false) (Rows.goodsGoldSpec.post enc Try.prog Try.f4 false true false false) := by
  refine returnsInHanded_of_change (C := Try.checked) own started (by kernel_rfl) Try.func4
    (ChangeSpec.witness6 (enc := enc) (C := Try.checked) false ⟨#[], #[.int .i64 0, .int .i64 0, .int .i64 0], []⟩ 8 (by kernel_rfl) (by kernel_rfl) (by kernel_rfl) (by kernel_rfl)) ?_
  intro W base args ds gs before hval0 hW hcnd _
  have hval : ∀ (j : Nat) t v, Try.f4.params[j]? = some t → args[j]? = some v → Value.okWide Try.prog W .any base t v := hval0
  have hW' := hW
  obtain ⟨p, q, hA0, hV, rfl, hfz, hnd⟩ := hW
  have hA : DataW.TrodAll enc Try.prog W 0 (fun _ => true) true Try.f4.params.toList args.toList ds p := hA0
  rw [Try.params4] at hA hval
  obtain ⟨v0, vs0, d0, ds0, p0, q0, hargs, rfl, rfl, h0, r0⟩ := trodAll_cons hA
  obtain ⟨v1, vs1, d1, ds1, p1, q1, rfl, rfl, rfl, h1, r1⟩ := trodAll_cons r0
  obtain ⟨v2, vs2, d2, ds2, p2, q2, rfl, rfl, rfl, h2, r2⟩ := trodAll_cons r1
  obtain ⟨rfl, rfl, rfl⟩ := trodAll_nil r2
  obtain rfl : args = #[v0, v1, v2] := by cases args; simp_all
  obtain ⟨rfl, rfl⟩ := trodVars_none hV
  obtain ⟨a0, rfl, rfl, rfl, w0⟩ := open_int Try.underlying2 (hval 0 2 v0 rfl rfl) h0
  obtain ⟨a1, rfl, rfl, rfl, w1⟩ := open_int Try.underlying3 (hval 1 3 v1 rfl rfl) h1
  obtain ⟨a2, rfl, rfl, rfl, w2⟩ := open_int Try.underlying3 (hval 2 3 v2 rfl rfl) h2
  clear hA0 hval0
  refine (walk a0 a1 a2 w0 w1 w2 W).mono fun e W' ⟨he, hg⟩ => ?_
  subst he
  exact ⟨_, rfl, _, _, _, [], _, [], hW', trodAll_mk1 (shut_bool Try.underlying4 _), (trodAll_cons_mk (shut_int Try.underlying2 w0) (trodAll_cons_mk (shut_int Try.underlying3 w1) (trodAll_cons_mk (shut_int Try.underlying3 w2) trodAll_mk0))), rfl, hg.frame _, fun h => by cases h⟩

theorem over : Rows.goodsGoldRow.holds Try.pinned (OpenSpec.ofChange Rows.goodsGoldSpec) :=
  OpenClaim.holds_of_wide 4 Try.f4 rfl rfl rfl rfl rfl rfl rfl ⟨rfl, rfl, rfl, rfl, rfl⟩ rfl rfl rfl rfl rfl (by kernel_rfl) Try.func4 (by kernel_rfl)
    (of_decide_eq_true (by kernel_rfl)) (by unfold Func.isWrapper; first | (rw [if_pos (by decide +kernel)]; kernel_rfl) | (rw [if_neg (by decide +kernel)]; exact ⟨rfl, rfl⟩))
    (fun os started H enc _ => lifted os started H enc)

theorem proved : Rows.GoodsGoldSaid :=
  over
#print axioms proved
end Go.Proofs.Ythngbjmiblbohab.goodsGold
