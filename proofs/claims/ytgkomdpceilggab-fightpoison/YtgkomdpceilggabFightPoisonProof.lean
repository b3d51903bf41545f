/-
  What was poisoned loses a point a frame for as many frames as it was, no more; stun goes by frames: for every number of hit points, of poison, of stun and of frames, at this commit; no condition.
-/
import Derived.Test.YtgkomdpceilggabRows
import Derived.WalkKit
import Derived.ProofKit
import Derived.OpenShut
import Derived.Test.YtgkomdpceilggabPart32
import Derived.BigQuiet
import Derived.Deep.Cut
import Derived.Deep.CutRange
import Derived.Deep.RegionHeld3
import Derived.Below
import Derived.ChangeOld
import Derived.ShutString
namespace Go.Proofs.Ytgkomdpceilggab.fightPoison
open Go.ChangeShapes Go.WideShapes Go.ChangeAt Go.RowKit
open Go.ChangeMaps (open_string shut_string)
set_option linter.unusedVariables false

theorem own : ownKnob Try.prog.godebug = none := by kernel_rfl

set_option maxRecDepth 8000 in
set_option maxHeartbeats 12800000 in

theorem walk (a0 : Int) (a1 : Int) (a2 : Int) (a3 : Int) (a4 : Int) (w0 : (Lit.int .i64 a0).wf = true) (w1 : (Lit.int .i64 a1).wf = true) (w2 : (Lit.int .i64 a2).wf = true) (w3 : (Lit.int .i64 a3).wf = true) (w4 : (Lit.int .i64 a4).wf = true) (w : World) :
    Calls Try.prog 3 #[.int .i64 a0, .int .i64 a1, .int .i64 a2, .int .i64 a3, .int .i64 a4] w fun e w' => e = .returned (.bool true) ∧ Below w.heap.size w w' := by
  clear w0 w1 w2 w3 w4
  obtain ⟨fn, hfn⟩ : ∃ n : Nat, a4 % 12 = (n : Int) := ⟨(a4 % 12).toNat, by omega⟩
  have fn12 : fn < 12 := by omega
  have cM : Hid (∀ wq, Calls Try.prog 8 #[.int .i64 a4, .int .i64 12] wq fun e w' => e = .returned (.int .i64 (fn : Int)) ∧ w' = wq) := fun wq => by
    have h := within8_any a4 12 wq (by omega) (by omega)
    rw [hfn] at h
    exact h
  clear hfn
  obtain ⟨f, hf⟩ : ∃ f : Int → Int → Int, Hid (∀ a n, f a n = a % n) := ⟨fun a n => a % n, fun _ _ => rfl⟩
  have cW : Hid (∀ a n wq, 0 < n → n ≤ 20 → Calls Try.prog 8 #[.int .i64 a, .int .i64 n] wq fun e w' => e = .returned (.int .i64 (f a n)) ∧ w' = wq) := fun a n wq h1 h2 => by
    rw [unhide hf]
    exact within8_any a n wq h1 (by omega)
  have p0 : 0 ≤ f a1 20 := by rw [unhide hf]; omega
  have p1 : f a1 20 < 20 := by rw [unhide hf]; omega
  have q0 : 0 ≤ f a2 10 := by rw [unhide hf]; omega
  have q1 : f a2 10 < 10 := by rw [unhide hf]; omega
  have r0 : 0 ≤ f a3 10 := by rw [unhide hf]; omega
  have r1 : f a3 10 < 10 := by rw [unhide hf]; omega
  clear hf
  go_enter Try.func3, Try.ntmps3
  go_wp2_with fail
  refine (known8_any _).mono ?_
  rintro e wk ⟨rfl, hgk⟩
  have hgk' := hide hgk
  clear hgk
  go_wp2_with fail
  refine (world_bare 3 0 0 1 0 (by decide) (by decide) _).mono ?_
  rintro e wa ⟨c, kc, s, g, E, hS0, -, -, -, hEe, gC, gE, gI, cC, cE, cI, rfl, hcap, l1, l2, l3, n1, n2, n3, hL, hg⟩
  have hS : Hid (Gd.Sit c g E (fun _ _ => 0) 0 1 kc) := hS0
  have hEe' : Hid (E = En.put (fun _ _ => 0) 1 (Gd.folk 0 kc 1)) := hEe
  have hW := hide (Gd.law_new (s := s) (g := g) (cC := cC) (cI := cI) (unhide hgk') hcap l1 l2 l3 n1 n2 n3 hL hg)
  have ch : Hid (∀ x : World, Own x gE 32 E → Calls Try.prog 7 #[.slice (some ⟨gE, 0, none⟩) 32 cE, .int .i64 0] x (Says x (.int .i64 1))) := fun x hx => by
    have h := refHero7_any gE cE E 0 x hx
    rw [(unhide hS).hero] at h
    exact h
  clear hcap l1 l2 l3 n1 n2 n3 hL hg hgk' hS0 hEe
  unfold Gd.world at hW ⊢
  go_upto_region 4 with fail
  obtain ⟨T, hT⟩ : ∃ T, wa.heap.size = T := ⟨_, rfl⟩
  rw [hT] at hW ⊢
  generalize wa.alloc (.cells #[.int .i64 (s 0), .int .i64 (s 1), .int .i64 (s 2), .int .i64 (s 3), .slice (some ⟨gC, 0, none⟩) 384 cC, .slice (some ⟨gE, 0, none⟩) 32 cE, .slice (some ⟨gI, 0, none⟩) 40 cI, .int .i64 (g 0), .int .i64 (g 1), .int .i64 (g 2), .int .i64 (g 3)] 28) = wb at hW ⊢
  clear hT
  have q5 := (unhide hW).eleven.2.2.2.2.2.1
  go_wp2_with fail
  refine (unhide ch _ (unhide hW).hold.lists.own).mono ?_
  rintro e wc ⟨rfl, hg⟩
  have hW1 := hide ((unhide hW).on hg)
  clear hg hW q5 ch
  have q5 := (unhide hW1).eleven.2.2.2.2.2.1
  have fE := (unhide hW1).hold.lists.ents.free
  have e16 := (unhide hW1).of 16 (by omega) _ rfl
  have e20 := (unhide hW1).of 20 (by omega) _ rfl
  have e21 := (unhide hW1).of 21 (by omega) _ rfl
  have hTE : T ≠ gE := (unhide hW1).hold.bE
  have hET : gE ≠ T := hTE.symm
  obtain ⟨E1, hE1⟩ : ∃ E1, E1 = Gd.set (Gd.set (Gd.set E 1 5 (1 + f a1 20)) 1 9 (f a2 10)) 1 10 (f a3 10) := ⟨_, rfl⟩
  have hF1 : Hid (Ft.Fit c E1 (fun _ _ => 0)) := by
    show Ft.Fit _ _ _
    rw [hE1]
    exact Ft.sick_fit (unhide hEe') (unhide hS).fine.cells (unhide hS).fine.ok (by omega) (by omega) q0 (by omega) r0 (by omega)
  have hK1 : Hid (Ft.Sick (1 + f a1 20) (f a2 10) (f a3 10) 0 E1) := by
    show Ft.Sick _ _ _ _ _
    rw [hE1]
    exact Ft.sick_first (unhide hEe') (by omega) q0 r0
  have hst : Hid (Gd.Law w (((wc.setCell ⟨gE, 16, none⟩ (.int .i64 (1 + f a1 20))).setCell ⟨gE, 20, none⟩ (.int .i64 (f a2 10))).setCell ⟨gE, 21, none⟩ (.int .i64 (f a3 10))) T gC gE gI cC cE cI s g c E1 (fun _ _ => 0)) := by
    show Gd.Law _ _ _ _ _ _ _ _ _ _ _ _ _ _
    rw [hE1]
    exact (((unhide hW1).stat 1 5 (by omega) (1 + f a1 20)).stat 1 9 (by omega) (f a2 10)).stat 1 10 (by omega) (f a3 10)
  have h15 : Hid (E1 1 5 = 1 + f a1 20 ∧ E1 1 9 = f a2 10 ∧ E1 1 10 = f a3 10) := by
    show _ ∧ _ ∧ _
    rw [hE1]
    exact ⟨by rw [Gd.set_other (by omega), Gd.set_other (by omega), Gd.set_same], by rw [Gd.set_other (by omega), Gd.set_same], Gd.set_same _ _ _ _⟩
  clear hE1 hS hEe'
  go_upto_region 5 with fail
  go_cut [] from 21 (fun wx => Hid (Gd.Law w wx T gC gE gI cC cE cI s g c E1 (fun _ _ => 0)))
  case first =>
    have hv : IntKind.i64.wrap (1 + f a1 20) = 1 + f a1 20 := by
      rw [IntKind.wrap_i64]
      omega
    go_region_held3 (fun x => x.cell? ⟨T, 5, none⟩ = some (.slice (some ⟨gE, 0, none⟩) 32 cE)) (go_keep) (first | (go_at_call 8; refine (unhide cW _ _ _ (by decide) (by decide)).mono ?_; rintro e wy ⟨rfl, hy⟩; subst wy))
    all_goals
      go_wp2_with fail
      go_meet
      exact (unhide hst).on (grown_drew1 (World.grownBy.refl _ _))
  case rest =>
    have hW2 := hide (unhide hcut)
    clear hcut hW1 q5 fE e16 e20 e21 hTE hET cW hst
    obtain ⟨hp, hhp⟩ : ∃ hp, 1 + f a1 20 = hp := ⟨_, rfl⟩
    obtain ⟨po, hpo⟩ : ∃ po, f a2 10 = po := ⟨_, rfl⟩
    obtain ⟨st, hst⟩ : ∃ st, f a3 10 = st := ⟨_, rfl⟩
    have hp1 : 1 ≤ hp := by omega
    have hp20 : hp ≤ 20 := by omega
    rw [hpo] at q0 q1
    rw [hst] at r0 r1
    rw [hhp, hpo, hst] at hK1 h15
    clear p0 p1 hhp hpo hst
    have q5 := (unhide hW2).eleven.2.2.2.2.2.1
    have e16 := (unhide hW2).of 16 (by omega) hp (unhide h15).1
    have e20 := (unhide hW2).of 20 (by omega) po (unhide h15).2.1
    have e21 := (unhide hW2).of 21 (by omega) st (unhide h15).2.2
    have hdr : Hid (∀ n, Gd.Law w (wc.drewN n) T gC gE gI cC cE cI s g c E1 (fun _ _ => 0)) := fun n => (unhide hW2).on (grown_drew (World.grownBy.refl _ _) n)
    go_wp2_with fail
    go_quiet (fail)
    have hW3 := hide (unhide hdr nq)
    clear hdr hW2 q5 e16 e20 e21
    generalize wc.drewN nq = wq at hW3 ⊢
    go_wp2_with fail
    refine (unhide cM _).mono ?_
    rintro e wy ⟨rfl, hy⟩
    subst wy
    clear cM
    go_wp2_with fail
    go_loopw [13] (fun vi wr => ∃ (i : Nat) (E I : Nat → Nat → Int) (gC gE gI cC cE cI : Nat), i ≤ fn ∧ vi = .int .i64 (i : Int) ∧ Hid (Ft.Fit c E I) ∧ Hid (Ft.Sick hp po st (i : Int) E) ∧ Hid (Gd.Law w wr T gC gE gI cC cE cI s g c E I)) (fun vi _ => 20 - (intOf vi).toNat)
    case atStart => exact ⟨0, E1, _, gC, gE, gI, cC, cE, cI, by omega, rfl, hF1, hK1, hW3⟩
    case round =>
      clear hW3 hF1 hK1 h15
      obtain ⟨i, E, I, gC, gE, gI, cC, cE, cI, hi, rfl, hF, hK, hW⟩ := hrel
      by_cases hlt : i < fn
      · have hlt' : (i : Int) < (fn : Int) := by omega
        have HL := hide hlt
        obtain ⟨b0, b1, b2, b3, b4, b5, b6, b7, b8, b9, b10⟩ := (unhide hW).eleven
        have ca := hide (fightAil_any s g c E I gC gE gI cC cE cI wr (unhide hW).hold.lists (unhide hF))
        have hF2 := hide ((unhide hF).ail 32 (by omega))
        have hK2 := hide ((unhide hK).next (I := I))
        obtain ⟨P, hP⟩ : ∃ P, Ft.ailE E I 32 = P := ⟨_, rfl⟩
        obtain ⟨F, J⟩ := P
        rw [hP] at ca hF2 hK2
        clear hlt hi hP
        unfold Gd.world at ca
        go_wp2_with fail
        refine (unhide ca).mono ?_
        rintro e wv ⟨jC, jE, jI, dC, dE, dI, rfl, hcap, l1, l2, l3, n1, n2, n3, hL, hg⟩
        have hV : Hid (Gd.Law w (((((((((((wv.setCell ⟨T, 0, none⟩ (.int .i64 (s 0))).setCell ⟨T, 1, none⟩ (.int .i64 (s 1))).setCell ⟨T, 2, none⟩ (.int .i64 (s 2))).setCell ⟨T, 3, none⟩ (.int .i64 (s 3))).setCell ⟨T, 4, none⟩ (.slice (some ⟨jC, 0, none⟩) 384 dC)).setCell ⟨T, 5, none⟩ (.slice (some ⟨jE, 0, none⟩) 32 dE)).setCell ⟨T, 6, none⟩ (.slice (some ⟨jI, 0, none⟩) 40 dI)).setCell ⟨T, 7, none⟩ (.int .i64 (g 0))).setCell ⟨T, 8, none⟩ (.int .i64 (g 1))).setCell ⟨T, 9, none⟩ (.int .i64 (g 2))).setCell ⟨T, 10, none⟩ (.int .i64 (g 3))) T jC jE jI dC dE dI s g c F J) := (unhide hW).over (s' := s) (g' := g) (dC := dC) (dI := dI) hcap l1 l2 l3 n1 n2 n3 hL hg
        obtain ⟨y0, y1, y2, y3, y4, y5, y6, y7, y8, y9, y10⟩ := ((unhide hW).on hg).eleven
        have fT := ((unhide hW).on hg).hold.box.free
        clear hcap l1 l2 l3 n1 n2 n3 hL hg ca b0 b1 b2 b3 b4 b5 b6 b7 b8 b9 b10 hW hF hK
        unfold Gd.world
        go_wp2
        go_roundw
        case rel => exact ⟨i + 1, F, J, jC, jE, jI, dC, dE, dI, by have := unhide HL; omega, by go_num, hF2, by have h := unhide hK2; exact (show Ft.Sick hp po st ((i + 1 : Nat) : Int) F by rw [show ((i + 1 : Nat) : Int) = (i : Int) + 1 by omega]; exact h), hV⟩
        case measure => simp [intOf]; have := unhide HL; omega
      · obtain rfl : i = fn := by omega
        have hge : ¬ (i : Int) < (i : Int) := by omega
        have q5 := (unhide hW).eleven.2.2.2.2.2.1
        have hfin := hide (unhide hW).grown
        have k0 := fun v hv => (unhide hW).of 11 (by omega) v hv
        have k16 := fun v hv => (unhide hW).of 16 (by omega) v hv
        have k20 := fun v hv => (unhide hW).of 20 (by omega) v hv
        have k21 := fun v hv => (unhide hW).of 21 (by omega) v hv
        have hKs := (unhide hK).2
        have h12 : (i : Int) < 12 := by omega
        clear hlt hi hK hF
        obtain ⟨L, hLe, hLa, hLb⟩ : ∃ L : Int, min (i : Int) po = L ∧ ((i : Int) ≤ po → L = (i : Int)) ∧ (¬ (i : Int) ≤ po → L = po) := ⟨_, rfl, by omega, by omega⟩
        rw [hLe] at hKs
        rcases hKs with ⟨h0, hle⟩ | ⟨h0, hlt, h5, h9, h10⟩
        · have c0 := k0 0 h0
          clear k0 k16 k20 k21 hW h0
          by_cases hm : (i : Int) ≤ po
          · have := hLa hm
            subst this
            clear hLa hLb hLe
            go_wp2
            all_goals
              go_ret
              exact ⟨rfl, none_below (unhide hfin)⟩
          · have := hLb hm
            subst this
            clear hLa hLb hLe
            go_wp2
            all_goals
              go_ret
              exact ⟨rfl, none_below (unhide hfin)⟩
        · have c5 := k16 _ h5
          have c9 := k20 _ h9
          have hlt' : ¬ hp ≤ L := by omega
          by_cases hs : 0 ≤ st - (i : Int)
          · have c10 := k21 (st - (i : Int)) (by rw [h10]; omega)
            clear k0 k16 k20 k21 hW h0 h5 h9 h10
            by_cases hm : (i : Int) ≤ po
            · have := hLa hm
              subst this
              clear hLa hLb hLe
              go_wp2
              all_goals
                go_ret
                first
                  | exact ⟨rfl, none_below (unhide hfin)⟩
                  | exact ⟨ret_bool (by simp; omega), none_below (unhide hfin)⟩
            · have := hLb hm
              subst this
              clear hLa hLb hLe
              go_wp2
              all_goals
                go_ret
                first
                  | exact ⟨rfl, none_below (unhide hfin)⟩
                  | exact ⟨ret_bool (by simp; omega), none_below (unhide hfin)⟩
          · have c10 := k21 0 (by rw [h10]; omega)
            clear k0 k16 k20 k21 hW h0 h5 h9 h10
            by_cases hm : (i : Int) ≤ po
            · have := hLa hm
              subst this
              clear hLa hLb hLe
              go_wp2
              all_goals
                go_ret
                first
                  | exact ⟨rfl, none_below (unhide hfin)⟩
                  | exact ⟨ret_bool (by simp; omega), none_below (unhide hfin)⟩
            · have := hLb hm
              subst this
              clear hLa hLb hLe
              go_wp2
              all_goals
                go_ret
                first
                  | exact ⟨rfl, none_below (unhide hfin)⟩
                  | exact ⟨ret_bool (by simp; omega), none_below (unhide hfin)⟩

set_option maxRecDepth 100000 in
theorem lifted (os : Os) (started : os.Started) (H : Type) (enc : TypeId × Value → H) :
    ReturnsInHanded {} Try.checked os 3 .any (Rows.fightPoisonSpec.pre6 enc Try.prog Try.f3 Rows.fightPoisonRow.domain false) (Rows.fightPoisonSpec.post enc Try.prog Try.f3 false true false false) := by
  refine returnsInHanded_of_change (C := Try.checked) own started (by kernel_rfl) Try.func3
    (ChangeSpec.witness6 (enc := enc) (C := Try.checked) false ⟨#[], #[.int .i64 0, .int .i64 0, .int .i64 0, .int .i64 0, .int .i64 0], []⟩ 8 (by kernel_rfl) (by kernel_rfl) (by kernel_rfl) (by kernel_rfl)) ?_
  intro W base args ds gs before hval0 hW hcnd _
  have hval : ∀ (j : Nat) t v, Try.f3.params[j]? = some t → args[j]? = some v → Value.okWide Try.prog W .any base t v := hval0
  have hW' := hW
  obtain ⟨p, q, hA0, hV, rfl, hfz, hnd⟩ := hW
  have hA : DataW.TrodAll enc Try.prog W 0 (fun _ => true) true Try.f3.params.toList args.toList ds p := hA0
  rw [Try.params3] at hA hval
  obtain ⟨v0, vs0, d0, ds0, p0, q0, hargs, rfl, rfl, h0, r0⟩ := trodAll_cons hA
  obtain ⟨v1, vs1, d1, ds1, p1, q1, rfl, rfl, rfl, h1, r1⟩ := trodAll_cons r0
  obtain ⟨v2, vs2, d2, ds2, p2, q2, rfl, rfl, rfl, h2, r2⟩ := trodAll_cons r1
  obtain ⟨v3, vs3, d3, ds3, p3, q3, rfl, rfl, rfl, h3, r3⟩ := trodAll_cons r2
  obtain ⟨v4, vs4, d4, ds4, p4, q4, rfl, rfl, rfl, h4, r4⟩ := trodAll_cons r3
  obtain ⟨rfl, rfl, rfl⟩ := trodAll_nil r4
  obtain rfl : args = #[v0, v1, v2, v3, v4] := by cases args; simp_all
  obtain ⟨rfl, rfl⟩ := trodVars_none hV
  obtain ⟨a0, rfl, rfl, rfl, w0⟩ := open_int Try.underlying3 (hval 0 3 v0 rfl rfl) h0
  obtain ⟨a1, rfl, rfl, rfl, w1⟩ := open_int Try.underlying3 (hval 1 3 v1 rfl rfl) h1
  obtain ⟨a2, rfl, rfl, rfl, w2⟩ := open_int Try.underlying3 (hval 2 3 v2 rfl rfl) h2
  obtain ⟨a3, rfl, rfl, rfl, w3⟩ := open_int Try.underlying3 (hval 3 3 v3 rfl rfl) h3
  obtain ⟨a4, rfl, rfl, rfl, w4⟩ := open_int Try.underlying3 (hval 4 3 v4 rfl rfl) h4
  clear hA0 hval0
  refine (walk a0 a1 a2 a3 a4 w0 w1 w2 w3 w4 W).mono fun e W' ⟨he, hg⟩ => ?_
  subst he
  exact ⟨_, rfl, _, _, _, [], _, [], hW', trodAll_mk1 (shut_bool Try.underlying4 _), (trodAll_cons_mk (shut_int Try.underlying3 w0) (trodAll_cons_mk (shut_int Try.underlying3 w1) (trodAll_cons_mk (shut_int Try.underlying3 w2) (trodAll_cons_mk (shut_int Try.underlying3 w3) (trodAll_cons_mk (shut_int Try.underlying3 w4) trodAll_mk0))))), rfl, hg.frame _, fun h => by cases h⟩

theorem over : Rows.fightPoisonRow.holds Try.pinned (OpenSpec.ofChange Rows.fightPoisonSpec) :=
  OpenClaim.holds_of_wide 3 Try.f3 rfl rfl rfl rfl rfl rfl rfl ⟨rfl, rfl, rfl, rfl, rfl⟩ rfl rfl rfl rfl rfl (by kernel_rfl) Try.func3 (by kernel_rfl)
    (of_decide_eq_true (by kernel_rfl)) (by unfold Func.isWrapper; first | (rw [if_pos (by decide +kernel)]; kernel_rfl) | (rw [if_neg (by decide +kernel)]; exact ⟨rfl, rfl⟩))
    (fun os started H enc _ => lifted os started H enc)

theorem proved : Rows.FightPoisonSaid :=
  over
#print axioms proved
end Go.Proofs.Ytgkomdpceilggab.fightPoison
