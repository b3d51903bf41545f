/-
  A blow takes what the one's arm is above the other's guard, one at least, and up to two more; a sword is worth three, a mail two: for every seed, frame, kind, with and without sword and mail, whoever hits, at this commit; no condition.
-/
import Derived.Test.YtgkomdpceilggabRows
import Derived.WalkKit
import Derived.ProofKit
import Derived.OpenShut
import Derived.Test.YtgkomdpceilggabPart34
import Derived.BigQuiet
import Derived.Deep.Cut
import Derived.Deep.CutRange
import Derived.Deep.CutBlock
import Derived.Deep.RegionHeld3
import Derived.Below
import Derived.ChangeOld
import Derived.ShutString
namespace Go.Proofs.Ytgkomdpceilggab.fightArms
open Go.ChangeShapes Go.WideShapes Go.ChangeAt Go.RowKit
open Go.ChangeMaps (open_string shut_string)
set_option linter.unusedVariables false

theorem own : ownKnob Try.prog.godebug = none := by kernel_rfl

set_option maxRecDepth 8000 in
set_option maxHeartbeats 12800000 in

theorem walk (a0 : Int) (a1 : Int) (a2 : Int) (a3 : Bool) (a4 : Bool) (a5 : Bool) (w0 : (Lit.int .i64 a0).wf = true) (w1 : (Lit.int .i64 a1).wf = true) (w2 : (Lit.int .i64 a2).wf = true) (w : World) :
    Calls Try.prog 4 #[.int .i64 a0, .int .i64 a1, .int .i64 a2, .bool a3, .bool a4, .bool a5] w fun e w' => e = .returned (.bool true) ∧ Below w.heap.size w w' := by
  clear w0 w1 w2
  obtain ⟨W, hWb, cW⟩ : ∃ W : Int → Int → Int, Hid (∀ a n, 0 < n → 0 ≤ W a n ∧ W a n < n) ∧ Hid (∀ a n wq, 0 < n → n ≤ 1048576 → Calls Try.prog 8 #[.int .i64 a, .int .i64 n] wq fun e w' => e = .returned (.int .i64 (W a n)) ∧ w' = wq) := ⟨fun a n => a % n, fun a n hn => ⟨Int.emod_nonneg _ (by omega), Int.emod_lt_of_pos _ hn⟩, fun a n wq h1 h2 => within8_any a n wq h1 (by omega)⟩
  go_enter Try.func4, Try.ntmps4
  go_wp2_with fail
  refine (known8_any _).mono ?_
  rintro e wk ⟨rfl, hgk⟩
  have hgk' := hide hgk
  clear hgk
  go_wp2_with fail
  refine (world_bare a0 0 0 1 0 (by decide) (by decide) _).mono ?_
  rintro e wa ⟨c, kc, s, g, E, hS0, hFl, -, -, hEe, gC, gE, gI, cC, cE, cI, rfl, hcap, l1, l2, l3, n1, n2, n3, hL, hg⟩
  have hEe' : Hid (E = En.put (fun _ _ => 0) 1 (Gd.folk 0 kc 1)) := hEe
  have hF := hide hFl
  have hS : Hid (Gd.hero E 0 = 1) := hS0.hero
  have hcc : Hid (∀ i, 0 ≤ c i ∧ c i ≤ 255) := hS0.fine.cells
  have hroom : Hid (∃ q, q < 384 ∧ Gr.walkB (c q) = true ∧ En.first (En.atQ E ((q : Int) % 24) ((q : Int) / 24)) 32 < 0) := by
    rw [unhide hEe']
    exact Ft.first_room hFl
  have hW := hide (Gd.law_new (s := s) (g := g) (cC := cC) (cI := cI) (unhide hgk') hcap l1 l2 l3 n1 n2 n3 hL hg)
  clear hcap l1 l2 l3 n1 n2 n3 hL hg hgk' hS0 hEe hFl
  unfold Gd.world at hW ⊢
  go_upto_region 4 with fail
  obtain ⟨T, hT⟩ : ∃ T, wa.heap.size = T := ⟨_, rfl⟩
  rw [hT] at hW ⊢
  generalize wa.alloc (.cells #[.int .i64 (s 0), .int .i64 (s 1), .int .i64 (s 2), .int .i64 (s 3), .slice (some ⟨gC, 0, none⟩) 384 cC, .slice (some ⟨gE, 0, none⟩) 32 cE, .slice (some ⟨gI, 0, none⟩) 40 cI, .int .i64 (g 0), .int .i64 (g 1), .int .i64 (g 2), .int .i64 (g 3)] 28) = wb at hW ⊢
  clear hT
  have b1 := (unhide hW).eleven.2.1
  have fT := (unhide hW).hold.box.free
  go_wp2_with fail
  refine (unhide cW _ _ _ (by decide) (by decide)).mono ?_
  rintro e wy ⟨rfl, hy⟩
  subst wy
  obtain ⟨fr, hfe⟩ : ∃ fr, W a1 1000 = fr := ⟨_, rfl⟩
  rw [hfe]
  have hW1 := hide ((unhide hW).tick fr)
  obtain ⟨s2, hs2⟩ : ∃ s2, Ft.tick s fr = s2 := ⟨_, rfl⟩
  rw [hs2] at hW1
  clear hfe hs2
  go_upto_region 5 with fail
  generalize wb.setCell ⟨T, 1, none⟩ (.int .i64 fr) = wc at hW1 ⊢
  clear b1 fT hW
  have b5 := (unhide hW1).eleven.2.2.2.2.2.1
  have ch := hide (refHero7_any gE cE E 0 _ (unhide hW1).hold.lists.own)
  rw [unhide hS] at ch
  clear hS
  go_wp2_with fail
  refine (unhide ch).mono ?_
  rintro e wd ⟨rfl, hg⟩
  have hW := hide ((unhide hW1).on hg)
  clear hg hW1 b5 ch
  have hw3 := unhide hWb a2 3 (by omega)
  go_wp2_with fail
  refine (unhide cW _ _ _ (by decide) (by decide)).mono ?_
  rintro e wy ⟨rfl, hy⟩
  subst wy
  obtain ⟨kd, hkd⟩ : ∃ kd, 2 + W a2 3 = kd := ⟨_, rfl⟩
  have kd2 : 2 ≤ kd := by omega
  have kd4 : kd ≤ 4 := by omega
  have cst := hide (entRefStats_any kd wd)
  obtain ⟨st, hst⟩ : ∃ st, En.stats kd = st := ⟨_, rfl⟩
  have hsf := hide (En.stats_fit (show 1 ≤ kd by omega) kd4)
  rw [hst] at hsf cst
  have hst' := hide hst
  obtain ⟨w30, w33⟩ := hw3
  clear hst cW
  unfold En.cells at cst
  go_wp2_with fail
  refine (unhide cst).mono ?_
  rintro e w1 ⟨rfl, hg1⟩
  clear hkd w30 w33
  have hQ := hide (Lie.born w1 st 33)
  have hg2 := hide (grown_trans hg1 (World.grownBy_alloc w1 (.cells (En.cells st) 33) none))
  have hoff : Hid (Ft.Off w w1.heap.size T T gC gE gI) := by
    have q1 := ((unhide hW).on hg1).hold.box.lt
    have q3 := ((unhide hW).on hg1).hold.lists.cells.lt
    have q4 := ((unhide hW).on hg1).hold.lists.ents.lt
    have q5 := ((unhide hW).on hg1).hold.lists.items.lt
    have q6 := (unhide hW).grown.size
    have q7 := hg1.size
    exact ⟨by omega, by omega, by omega, by omega, by omega, by omega⟩
  have hW1 := hide ((unhide hW).on (unhide hg2))
  clear hg1 cst hW hg2
  unfold En.cells at hQ hW1
  go_upto_region 7 with fail
  obtain ⟨Q, hQe⟩ : ∃ Q, w1.heap.size = Q := ⟨_, rfl⟩
  rw [hQe] at hQ hoff ⊢
  generalize w1.alloc (.cells #[.int .i64 (st 0), .int .i64 (st 1), .int .i64 (st 2), .int .i64 (st 3), .int .i64 (st 4), .int .i64 (st 5), .int .i64 (st 6), .int .i64 (st 7), .int .i64 (st 8), .int .i64 (st 9), .int .i64 (st 10)] 33) = we at hQ hW1 ⊢
  clear hQe
  go_upto_block 0 with fail
  go_cut [16] from 44 (fun va wx => ∃ q : Nat, q < 384 ∧ va = .int .i64 (q : Int) ∧ wx = we)
  case first =>
    obtain ⟨p, hp, hpw, hpf⟩ := unhide hroom
    have hpp := hide (show p < 384 ∧ c p ≠ 0 ∧ En.first (En.atQ E ((p : Int) % 24) ((p : Int) / 24)) 32 < 0 from ⟨hp, by have := (Gr.walkB_iff _).1 hpw; omega, hpf⟩)
    clear hp hpw hpf
    have b4 := (unhide hW1).eleven.2.2.2.2.1
    have b5 := (unhide hW1).eleven.2.2.2.2.2.1
    go_wp2_with fail
    go_loop [16] (fun va => ∃ q : Nat, q ≤ p ∧ va = .int .i64 (q : Int)) (fun va => 500 - (intOf va).toNat)
    case atStart => exact ⟨0, by omega, rfl⟩
    case round =>
      obtain ⟨q, hq, rfl⟩ := hrel
      have hq4 : q < 384 := by have := (unhide hpp).1; omega
      have hq4' : (q : Int) < 384 := by omega
      have HQ := hide hq
      have u0 : we.cell? ⟨gC, q, none⟩ = some (.int .u8 (c q)) := (unhide hW1).hold.lists.cells.cell hq4
      have ca := hide (fun wx (hx : Own wx gE 32 E) => entRefAt_same gE 32 cE E ((q : Int) % 24) ((q : Int) / 24) wx hx.ents)
      have t1 : (q : Int).tmod 24 = (q : Int) % 24 := Int.tmod_eq_emod_of_nonneg (by omega)
      have t2 : IntKind.i64.wrap ((q : Int).tdiv 24) = (q : Int) / 24 := by
        rw [Int.tdiv_eq_ediv_of_nonneg (by omega), IntKind.wrap_i64]
        omega
      have hpq : Hid (q = p → c q ≠ 0 ∧ En.first (En.atQ E ((q : Int) % 24) ((q : Int) / 24)) 32 < 0) := fun e => by
        rw [e]
        exact (unhide hpp).2
      obtain ⟨z, hz⟩ : ∃ z, En.first (En.atQ E ((q : Int) % 24) ((q : Int) / 24)) 32 = z := ⟨_, rfl⟩
      rw [hz] at ca hpq
      by_cases hc0 : c q = 0
      · rw [hc0] at u0
        have hnp : Hid (q ≠ p) := fun e => (unhide hpq e).1 hc0
        clear hz hq hc0
        go_wp2
        go_round
        case rel => exact ⟨q + 1, by have := unhide HQ; have h2 : q ≠ p := unhide hnp; omega, by go_num⟩
        case measure => simp [intOf]; have := (unhide hpp).1; have := unhide HQ; omega
      · have hc0' : (c q == 0) = false := by simpa using hc0
        clear hz hq hc0
        go_wp2_with fail
        refine (unhide ca _ (unhide hW1).hold.lists.own).mono ?_
        rintro e wy ⟨rfl, hy⟩
        subst wy
        by_cases hz0 : z < 0
        · have hz1 : ¬ 0 ≤ z := by omega
          go_wp2_with fail
          go_meet
          exact ⟨q, hq4, rfl, rfl⟩
        · have hz1 : 0 ≤ z := by omega
          have hnp : Hid (q ≠ p) := fun e => hz0 (unhide hpq e).2
          go_wp2
          go_round
          case rel => exact ⟨q + 1, by have := unhide HQ; have h2 : q ≠ p := unhide hnp; omega, by go_num⟩
          case measure => simp [intOf]; have := (unhide hpp).1; have := unhide HQ; omega
  case rest =>
    obtain ⟨q, hq, rfl, rfl⟩ := hcut
    have t1 : (q : Int).tmod 24 = (q : Int) % 24 := Int.tmod_eq_emod_of_nonneg (by omega)
    have t2 : IntKind.i64.wrap ((q : Int).tdiv 24) = (q : Int) / 24 := by
      rw [Int.tdiv_eq_ediv_of_nonneg (by omega), IntKind.wrap_i64]
      omega
    obtain ⟨X, hX⟩ : ∃ X, (q : Int) % 24 = X := ⟨_, rfl⟩
    obtain ⟨Y, hY⟩ : ∃ Y, (q : Int) / 24 = Y := ⟨_, rfl⟩
    rw [hX] at t1
    rw [hY] at t2
    have z3 := (unhide hQ).ent.2.2.2.1
    have z4 := (unhide hQ).ent.2.2.2.2.1
    have zf := (unhide hQ).free
    have hW2 := hide (((unhide hW1).off (unhide hoff) 3 (.int .i64 X)).off (unhide hoff) 4 (.int .i64 Y))
    have hQ2 := hide (((unhide hQ).upd 3 X).upd 4 Y)
    clear hroom
    go_upto_region 11 with fail
    try rw [hX]
    try rw [hY]
    clear hX hY
    generalize (wc.setCell ⟨Q, 3, none⟩ (.int .i64 X)).setCell ⟨Q, 4, none⟩ (.int .i64 Y) = wf at hW2 hQ2 ⊢
    clear z3 z4 zf hW1 hQ t1 t2
    obtain ⟨em, hem⟩ : ∃ em, En.upd (En.upd st 3 X) 4 Y = em := ⟨_, rfl⟩
    have hem' := hide hem
    have he : ∀ l, l ≠ 3 → l ≠ 4 → em l = st l := fun l h3 h4 => by rw [← hem, En.upd_other h4, En.upd_other h3]
    rw [hem] at hQ2
    have e0 := hide ((he 0 (by omega) (by omega)).trans (unhide hsf).1)
    have e7 := hide (he 7 (by omega) (by omega))
    have e8 := hide (he 8 (by omega) (by omega))
    have hGens : Hid (En.Gens 32 E) := by
      show En.Gens 32 E
      rw [unhide hEe']
      exact (Ft.first_fit (unhide hF) (Gd.ok_none c)).gens
    have csp := hide (refSpawn_fit gE cE E em _ (unhide hW2).hold.lists.own.ents (by rw [unhide e0]; omega) (by rw [unhide e0]; omega) (unhide hGens))
    clear hem he hGens
    obtain ⟨c0, c1, c2, c3, c4, c5, c6, c7, c8, c9, c10⟩ := (unhide hQ2).ent
    have b5 := (unhide hW2).eleven.2.2.2.2.2.1
    unfold En.cells at csp
    go_wp2_with fail
    refine (unhide csp).mono ?_
    rintro e' wg (⟨r, hr, hr0, jE, cap, rfl, hlo, hnc, hcm, hown, hgr⟩ | ⟨hfull, rfl, hgr⟩)
    rotate_left
    · have h0 : E 0 0 = 0 := by
        rw [unhide hEe']
        rfl
      exact absurd h0 (hfull 0 (by omega))
    have hr1 : r ≠ 1 := by
      rintro rfl
      have h : (1 : Int) = 0 := by
        rw [unhide hEe'] at hr0
        exact hr0
      omega
    have hW3 := hide ((unhide hW2).folk hnc hlo hown hgr)
    have hQ3 := hide (((unhide hQ2).on hgr).other (unhide hoff).nT.symm 5 (.slice (some ⟨jE, 0, none⟩) 32 cap))
    have hQj : Hid (jE ≠ Q) := (show jE ≠ Q by have := (unhide hQ2).lt; omega)
    have y5 := ((unhide hW2).on hgr).eleven.2.2.2.2.2.1
    have fT := ((unhide hW2).on hgr).hold.box.free
    obtain ⟨E2, hE2⟩ : ∃ E2, Gd.set (En.put E r (En.gen em ((E r 1 + 1) % 256))) 1 5 20 = E2 := ⟨_, rfl⟩
    have hD : Hid (∀ a b, Ft.Duel E2 (Ft.kit a b) 1 r kd a b) := fun a b => by
      rw [← hE2, ← unhide hem', unhide hEe']
      exact Ft.duel_of (unhide hst') kd2 kd4 hr hr1
    have hFt : Hid (∀ a b, Ft.Fit c E2 (Ft.kit a b)) := fun a b => by
      rw [← hE2, ← unhide hem', unhide hEe']
      exact Ft.duel_fit (unhide hF) (unhide hst') kd2 kd4 hr1 (by omega) (by omega)
    have hr32 : (r : Int) < 32 := by omega
    have HR := hide hr
    clear c0 c1 c2 c3 c4 c5 c6 c7 c8 c9 c10 b5 csp hr0 hlo hnc hcm hown hgr hW2 hQ2 hr1 hr
    go_upto_region 13 with fail
    generalize wg.setCell ⟨T, 5, none⟩ (.slice (some ⟨jE, 0, none⟩) 32 cap) = wh at hW3 hQ3 ⊢
    clear y5 fT
    have hW4 : Hid (Gd.Law w (wh.setCell ⟨jE, 16, none⟩ (.int .i64 20)) T gC jE gI cC cap cI s2 g c E2 (fun _ _ => 0)) := by
      show Gd.Law _ _ _ _ _ _ _ _ _ _ _ _ _ _
      rw [← hE2]
      exact (unhide hW3).stat 1 5 (by omega) 20
    have hQ4 := hide ((unhide hQ3).other (unhide hQj) 16 (.int .i64 20))
    have b5 := (unhide hW3).eleven.2.2.2.2.2.1
    have fE := (unhide hW3).hold.lists.ents.free
    have e16 := (unhide hW3).of 16 (by omega) _ rfl
    clear hE2
    go_upto_if 83 with fail
    generalize wh.setCell ⟨jE, 16, none⟩ (.int .i64 20) = wi at hW4 hQ4 ⊢
    clear hW3 hQ3 b5 fE e16
    go_cut [] from 83 to 87 (fun wx => Hid (Gd.Law w wx T gC jE gI cC cap cI s2 g c E2 (Ft.kit1 a3)) ∧ Hid (Lie wx Q 33 11 (Ints em)))
    case first =>
      cases a3
      · go_wp2_with fail
        go_meet
        exact ⟨hW4, hQ4⟩
      · have q6 := (unhide hW4).eleven.2.2.2.2.2.2.1
        obtain ⟨x0, x1, x2, x3⟩ := (unhide hW4).hold.lists.its.row (show 0 < 40 by omega)
        have fI := (unhide hW4).hold.lists.items.free
        have hp := hide ((unhide hW4).put 0 2 3 0 0)
        have hq := hide (((((unhide hQ4).other (unhide hoff).nI.symm 0 (.int .i64 2)).other (unhide hoff).nI.symm 1 (.int .i64 3)).other (unhide hoff).nI.symm 2 (.int .i64 0)).other (unhide hoff).nI.symm 3 (.int .i64 0))
        go_wp2_with fail
        go_meet
        exact ⟨hp, hq⟩
    case rest =>
      clear hW4 hQ4
      obtain ⟨hW4, hQ4⟩ := hcut
      go_upto_if 88 with fail
      go_cut [] from 88 to 92 (fun wx => Hid (Gd.Law w wx T gC jE gI cC cap cI s2 g c E2 (Ft.kit a3 a4)) ∧ Hid (Lie wx Q 33 11 (Ints em)))
      case first =>
        cases a4
        · go_wp2_with fail
          go_meet
          exact ⟨hW4, hQ4⟩
        · have q6 := (unhide hW4).eleven.2.2.2.2.2.2.1
          obtain ⟨x0, x1, x2, x3⟩ := (unhide hW4).hold.lists.its.row (show 1 < 40 by omega)
          have fI := (unhide hW4).hold.lists.items.free
          have hp := hide ((unhide hW4).put 1 3 3 0 1)
          have hq := hide (((((unhide hQ4).other (unhide hoff).nI.symm 4 (.int .i64 3)).other (unhide hoff).nI.symm 5 (.int .i64 3)).other (unhide hoff).nI.symm 6 (.int .i64 0)).other (unhide hoff).nI.symm 7 (.int .i64 1))
          go_wp2_with fail
          go_meet
          exact ⟨hp, hq⟩
      case rest =>
        clear hW4 hQ4
        obtain ⟨hW, hQ⟩ := hcut
        have c0 := (unhide hQ).ent.1
        have c7 := (unhide hQ).ent.2.2.2.2.2.2.2.1
        have c8 := (unhide hQ).ent.2.2.2.2.2.2.2.2.1
        rw [unhide e0] at c0
        rw [unhide e7] at c7
        rw [unhide e8] at c8
        clear e7 e8
        have hDu := hide (unhide hD a3 a4)
        have hFi := hide (unhide hFt a3 a4)
        clear hD hFt
        have s70 : 0 ≤ st 7 := (unhide hsf).2.2.2.2.2.2.2.2.1
        have s75 : st 7 ≤ 5 := (unhide hsf).2.2.2.2.2.2.2.2.2.1
        have s80 : 0 ≤ st 8 := (unhide hsf).2.2.2.2.2.2.2.2.2.2.1
        have s81 : st 8 ≤ 1 := (unhide hsf).2.2.2.2.2.2.2.2.2.2.2.1
        have q5 := (unhide hW).eleven.2.2.2.2.2.1
        cases a5
        · cases a4
          · go_upto_region 26 with fail
            obtain ⟨B, hB⟩ : ∃ B, (if 1 < st 7 - 1 then st 7 - 1 else (1 : Int)) = B := ⟨_, rfl⟩
            rw [hB]
            have hB1 : 1 ≤ B := by rw [← hB]; split <;> omega
            have hB9 : B ≤ 5 := by rw [← hB]; split <;> omega
            have hb := (unhide hDu).beast s2 (base := B) (by rw [unhide hst', ← hB]; simp; split <;> omega)
            rw [show ((1 : Nat) : Int) = 1 from rfl] at hb
            have k16 := (unhide hW).of 16 (by omega) 20 (unhide hDu).h5
            clear hB

            have chit := hide (fightHit_any s2 g c E2 (Ft.kit a3 false) gC jE gI cC cap cI (r : Int) 1 wc (unhide hW).hold.lists (unhide hFi))
            obtain ⟨E3, hE3⟩ : ∃ G, Ft.hitE s2 E2 (Ft.kit a3 false) (r : Int) 1 = G := ⟨_, rfl⟩
            obtain ⟨I3, hI3⟩ : ∃ G, Ft.hitI s2 E2 (Ft.kit a3 false) (r : Int) 1 = G := ⟨_, rfl⟩
            rw [hE3, hI3] at chit
            rw [hE3] at hb
            clear hE3 hI3 q5
            obtain ⟨b0, b1, b2, b3, b4, b5, b6, b7, b8, b9, b10⟩ := (unhide hW).eleven
            unfold Gd.world at chit
            go_wp2_with fail
            refine (unhide chit).mono ?_
            rintro e wv ⟨jC, jF, jI, dC, dE, dI, rfl, hcap, l1, l2, l3, n1, n2, n3, hL, hg⟩
            have hV := hide (Gd.law_new (s := s2) (g := g) (cC := dC) (cI := dI) (unhide hW).grown hcap l1 l2 l3 n1 n2 n3 hL hg)
            have hQ5 := hide (((unhide hQ).on hg).on (World.grownBy_alloc wv (.cells #[.int .i64 (s2 0), .int .i64 (s2 1), .int .i64 (s2 2), .int .i64 (s2 3), .slice (some ⟨jC, 0, none⟩) 384 dC, .slice (some ⟨jF, 0, none⟩) 32 dE, .slice (some ⟨jI, 0, none⟩) 40 dI, .int .i64 (g 0), .int .i64 (g 1), .int .i64 (g 2), .int .i64 (g 3)] 28) none))
            clear hcap l1 l2 l3 n1 n2 n3 hL hg chit b0 b1 b2 b3 b4 b5 b6 b7 b8 b9 b10 c0 c7 c8 hW hQ
            unfold Gd.world at hV ⊢
            go_upto_region 28 with fail
            obtain ⟨V, hVe⟩ : ∃ V, wv.heap.size = V := ⟨_, rfl⟩
            rw [hVe] at hV ⊢
            generalize wv.alloc (.cells #[.int .i64 (s2 0), .int .i64 (s2 1), .int .i64 (s2 2), .int .i64 (s2 3), .slice (some ⟨jC, 0, none⟩) 384 dC, .slice (some ⟨jF, 0, none⟩) 32 dE, .slice (some ⟨jI, 0, none⟩) 40 dI, .int .i64 (g 0), .int .i64 (g 1), .int .i64 (g 2), .int .i64 (g 3)] 28) = wz at hV hQ5 ⊢
            clear hVe
            have v5 := (unhide hV).eleven.2.2.2.2.2.1
            have hfin := hide (unhide hV).grown
            have c0 := (unhide hQ5).ent.1
            rw [unhide e0] at c0

            obtain ⟨h0, hlo, hhi, hpo, hsn⟩ := hb
            have k0 := (unhide hV).of 11 (by omega) 1 h0
            have k5 := (unhide hV).of 16 (by omega) (E3 1 5) rfl
            have k9 := (unhide hV).of 20 (by omega) (E3 1 9) rfl
            have k10 := (unhide hV).of 21 (by omega) (E3 1 10) rfl
            obtain ⟨x5, hx5⟩ : ∃ x, E3 1 5 = x := ⟨_, rfl⟩
            obtain ⟨x9, hx9⟩ : ∃ x, E3 1 9 = x := ⟨_, rfl⟩
            obtain ⟨x10, hx10⟩ : ∃ x, E3 1 10 = x := ⟨_, rfl⟩
            rw [hx5] at hlo hhi k5
            rw [hx9] at hpo k9
            rw [hx10] at hsn k10
            clear hx5 hx9 hx10 h0 k16
            have hlo' : B ≤ 20 - x5 := hlo
            have hhi' : 20 - x5 ≤ B + 2 := hhi
            by_cases h4 : kd = 4
            · have p9 : 0 < x9 := hpo.2 h4
              have p10 : ¬ 0 < x10 := fun h => by have := hsn h; omega
              have r4 : (kd == 4) = true := by simpa using h4
              clear hpo hsn h4
              go_wp2_with fail
              go_quiet (fail)
              go_wp2
              all_goals
                go_ret
                first
                  | exact ⟨rfl, none_below (grown_drew (unhide hfin) _)⟩
                  | exact ⟨ret_bool (by simp; omega), none_below (grown_drew (unhide hfin) _)⟩

            · have p9 : ¬ 0 < x9 := fun h => h4 (hpo.1 h)
              have r4 : (kd == 4) = false := by simpa using h4
              by_cases h10 : 0 < x10
              · have r3 : (kd != 3) = false := by have := hsn h10; simp [this]
                clear hpo hsn h4
                go_wp2_with fail
                go_quiet (fail)
                go_wp2
                all_goals
                  go_ret
                  first
                    | exact ⟨rfl, none_below (grown_drew (unhide hfin) _)⟩
                    | exact ⟨ret_bool (by simp; omega), none_below (grown_drew (unhide hfin) _)⟩

              · clear hpo hsn h4
                go_wp2_with fail
                go_quiet (fail)
                go_wp2
                all_goals
                  go_ret
                  first
                    | exact ⟨rfl, none_below (grown_drew (unhide hfin) _)⟩
                    | exact ⟨ret_bool (by simp; omega), none_below (grown_drew (unhide hfin) _)⟩
          · go_upto_region 26 with fail
            obtain ⟨B, hB⟩ : ∃ B, (if 1 < st 7 - 3 then st 7 - 3 else (1 : Int)) = B := ⟨_, rfl⟩
            rw [hB]
            have hB1 : 1 ≤ B := by rw [← hB]; split <;> omega
            have hB9 : B ≤ 5 := by rw [← hB]; split <;> omega
            have hb := (unhide hDu).beast s2 (base := B) (by rw [unhide hst', ← hB]; simp; split <;> omega)
            rw [show ((1 : Nat) : Int) = 1 from rfl] at hb
            have k16 := (unhide hW).of 16 (by omega) 20 (unhide hDu).h5
            clear hB

            have chit := hide (fightHit_any s2 g c E2 (Ft.kit a3 true) gC jE gI cC cap cI (r : Int) 1 wc (unhide hW).hold.lists (unhide hFi))
            obtain ⟨E3, hE3⟩ : ∃ G, Ft.hitE s2 E2 (Ft.kit a3 true) (r : Int) 1 = G := ⟨_, rfl⟩
            obtain ⟨I3, hI3⟩ : ∃ G, Ft.hitI s2 E2 (Ft.kit a3 true) (r : Int) 1 = G := ⟨_, rfl⟩
            rw [hE3, hI3] at chit
            rw [hE3] at hb
            clear hE3 hI3 q5
            obtain ⟨b0, b1, b2, b3, b4, b5, b6, b7, b8, b9, b10⟩ := (unhide hW).eleven
            unfold Gd.world at chit
            go_wp2_with fail
            refine (unhide chit).mono ?_
            rintro e wv ⟨jC, jF, jI, dC, dE, dI, rfl, hcap, l1, l2, l3, n1, n2, n3, hL, hg⟩
            have hV := hide (Gd.law_new (s := s2) (g := g) (cC := dC) (cI := dI) (unhide hW).grown hcap l1 l2 l3 n1 n2 n3 hL hg)
            have hQ5 := hide (((unhide hQ).on hg).on (World.grownBy_alloc wv (.cells #[.int .i64 (s2 0), .int .i64 (s2 1), .int .i64 (s2 2), .int .i64 (s2 3), .slice (some ⟨jC, 0, none⟩) 384 dC, .slice (some ⟨jF, 0, none⟩) 32 dE, .slice (some ⟨jI, 0, none⟩) 40 dI, .int .i64 (g 0), .int .i64 (g 1), .int .i64 (g 2), .int .i64 (g 3)] 28) none))
            clear hcap l1 l2 l3 n1 n2 n3 hL hg chit b0 b1 b2 b3 b4 b5 b6 b7 b8 b9 b10 c0 c7 c8 hW hQ
            unfold Gd.world at hV ⊢
            go_upto_region 28 with fail
            obtain ⟨V, hVe⟩ : ∃ V, wv.heap.size = V := ⟨_, rfl⟩
            rw [hVe] at hV ⊢
            generalize wv.alloc (.cells #[.int .i64 (s2 0), .int .i64 (s2 1), .int .i64 (s2 2), .int .i64 (s2 3), .slice (some ⟨jC, 0, none⟩) 384 dC, .slice (some ⟨jF, 0, none⟩) 32 dE, .slice (some ⟨jI, 0, none⟩) 40 dI, .int .i64 (g 0), .int .i64 (g 1), .int .i64 (g 2), .int .i64 (g 3)] 28) = wz at hV hQ5 ⊢
            clear hVe
            have v5 := (unhide hV).eleven.2.2.2.2.2.1
            have hfin := hide (unhide hV).grown
            have c0 := (unhide hQ5).ent.1
            rw [unhide e0] at c0

            obtain ⟨h0, hlo, hhi, hpo, hsn⟩ := hb
            have k0 := (unhide hV).of 11 (by omega) 1 h0
            have k5 := (unhide hV).of 16 (by omega) (E3 1 5) rfl
            have k9 := (unhide hV).of 20 (by omega) (E3 1 9) rfl
            have k10 := (unhide hV).of 21 (by omega) (E3 1 10) rfl
            obtain ⟨x5, hx5⟩ : ∃ x, E3 1 5 = x := ⟨_, rfl⟩
            obtain ⟨x9, hx9⟩ : ∃ x, E3 1 9 = x := ⟨_, rfl⟩
            obtain ⟨x10, hx10⟩ : ∃ x, E3 1 10 = x := ⟨_, rfl⟩
            rw [hx5] at hlo hhi k5
            rw [hx9] at hpo k9
            rw [hx10] at hsn k10
            clear hx5 hx9 hx10 h0 k16
            have hlo' : B ≤ 20 - x5 := hlo
            have hhi' : 20 - x5 ≤ B + 2 := hhi
            by_cases h4 : kd = 4
            · have p9 : 0 < x9 := hpo.2 h4
              have p10 : ¬ 0 < x10 := fun h => by have := hsn h; omega
              have r4 : (kd == 4) = true := by simpa using h4
              clear hpo hsn h4
              go_wp2_with fail
              go_quiet (fail)
              go_wp2
              all_goals
                go_ret
                first
                  | exact ⟨rfl, none_below (grown_drew (unhide hfin) _)⟩
                  | exact ⟨ret_bool (by simp; omega), none_below (grown_drew (unhide hfin) _)⟩

            · have p9 : ¬ 0 < x9 := fun h => h4 (hpo.1 h)
              have r4 : (kd == 4) = false := by simpa using h4
              by_cases h10 : 0 < x10
              · have r3 : (kd != 3) = false := by have := hsn h10; simp [this]
                clear hpo hsn h4
                go_wp2_with fail
                go_quiet (fail)
                go_wp2
                all_goals
                  go_ret
                  first
                    | exact ⟨rfl, none_below (grown_drew (unhide hfin) _)⟩
                    | exact ⟨ret_bool (by simp; omega), none_below (grown_drew (unhide hfin) _)⟩

              · clear hpo hsn h4
                go_wp2_with fail
                go_quiet (fail)
                go_wp2
                all_goals
                  go_ret
                  first
                    | exact ⟨rfl, none_below (grown_drew (unhide hfin) _)⟩
                    | exact ⟨ret_bool (by simp; omega), none_below (grown_drew (unhide hfin) _)⟩
        · cases a3
          · cases a4
            · go_upto_region 22 with fail
              have hWd : Hid (∀ n, Gd.Law w (wc.drewN n) T gC jE gI cC cap cI s2 g c E2 (Ft.kit false false)) := fun n => (unhide hW).on (grown_drew (World.grownBy.refl _ _) n)
              have hQd : Hid (∀ n, Lie (wc.drewN n) Q 33 11 (Ints em)) := fun n => (unhide hQ).on (grown_drew (World.grownBy.refl _ _) n)
              go_quiet (fail)
              clear hW hQ c0 c7 c8 q5
              have hW := hide (unhide hWd nq)
              have hQ := hide (unhide hQd nq)
              clear hWd hQd
              generalize wc.drewN nq = wc at hW hQ ⊢
              have q5 := (unhide hW).eleven.2.2.2.2.2.1
              have c0 := (unhide hQ).ent.1
              have c7 := (unhide hQ).ent.2.2.2.2.2.2.2.1
              have c8 := (unhide hQ).ent.2.2.2.2.2.2.2.2.1
              go_upto_region 26 with fail
              obtain ⟨B, hB⟩ : ∃ B, 5 - st 8 = B := ⟨_, rfl⟩
              rw [hB]
              have hB1 : 1 ≤ B := by omega
              have hB9 : B ≤ 8 := by omega
              have hb := (unhide hDu).man s2 (base := B) (by rw [unhide hst', ← hB]; simp; omega)
              rw [show ((1 : Nat) : Int) = 1 from rfl, unhide hst'] at hb
              obtain ⟨u0, u1, u2, u3, u4, u5, u6, u7, u8, u9, u10⟩ := (unhide hW).hold.lists.own.ents.row (unhide HR)
              rw [(unhide hDu).b5, unhide hst'] at u5
              have s5 : st 5 = st 6 := (unhide hsf).2.2.2.2.2.1
              have s64 : 4 ≤ st 6 := (unhide hsf).2.2.2.2.2.2.1
              have s620 : st 6 ≤ 20 := (unhide hsf).2.2.2.2.2.2.2.1
              clear hB u0 u1 u2 u3 u4 u6 u7 u8 u9 u10
              obtain ⟨hp, hhp⟩ : ∃ x, st 5 = x := ⟨_, rfl⟩
              rw [hhp] at hb u5 s5
              have hp4 : 4 ≤ hp := by omega
              have hp20 : hp ≤ 20 := by omega
              clear hhp s5 s64 s620

              have chit := hide (fightHit_any s2 g c E2 (Ft.kit false false) gC jE gI cC cap cI 1 (r : Int) wc (unhide hW).hold.lists (unhide hFi))
              obtain ⟨E3, hE3⟩ : ∃ G, Ft.hitE s2 E2 (Ft.kit false false) 1 (r : Int) = G := ⟨_, rfl⟩
              obtain ⟨I3, hI3⟩ : ∃ G, Ft.hitI s2 E2 (Ft.kit false false) 1 (r : Int) = G := ⟨_, rfl⟩
              rw [hE3, hI3] at chit
              rw [hE3] at hb
              clear hE3 hI3 q5
              obtain ⟨b0, b1, b2, b3, b4, b5, b6, b7, b8, b9, b10⟩ := (unhide hW).eleven
              unfold Gd.world at chit
              go_wp2_with fail
              refine (unhide chit).mono ?_
              rintro e wv ⟨jC, jF, jI, dC, dE, dI, rfl, hcap, l1, l2, l3, n1, n2, n3, hL, hg⟩
              have hV := hide (Gd.law_new (s := s2) (g := g) (cC := dC) (cI := dI) (unhide hW).grown hcap l1 l2 l3 n1 n2 n3 hL hg)
              have hQ5 := hide (((unhide hQ).on hg).on (World.grownBy_alloc wv (.cells #[.int .i64 (s2 0), .int .i64 (s2 1), .int .i64 (s2 2), .int .i64 (s2 3), .slice (some ⟨jC, 0, none⟩) 384 dC, .slice (some ⟨jF, 0, none⟩) 32 dE, .slice (some ⟨jI, 0, none⟩) 40 dI, .int .i64 (g 0), .int .i64 (g 1), .int .i64 (g 2), .int .i64 (g 3)] 28) none))
              clear hcap l1 l2 l3 n1 n2 n3 hL hg chit b0 b1 b2 b3 b4 b5 b6 b7 b8 b9 b10 c0 c7 c8 hW hQ
              unfold Gd.world at hV ⊢
              go_upto_region 28 with fail
              obtain ⟨V, hVe⟩ : ∃ V, wv.heap.size = V := ⟨_, rfl⟩
              rw [hVe] at hV ⊢
              generalize wv.alloc (.cells #[.int .i64 (s2 0), .int .i64 (s2 1), .int .i64 (s2 2), .int .i64 (s2 3), .slice (some ⟨jC, 0, none⟩) 384 dC, .slice (some ⟨jF, 0, none⟩) 32 dE, .slice (some ⟨jI, 0, none⟩) 40 dI, .int .i64 (g 0), .int .i64 (g 1), .int .i64 (g 2), .int .i64 (g 3)] 28) = wz at hV hQ5 ⊢
              clear hVe
              have v5 := (unhide hV).eleven.2.2.2.2.2.1
              have hfin := hide (unhide hV).grown
              have c0 := (unhide hQ5).ent.1
              rw [unhide e0] at c0

              clear u5
              obtain ⟨u0, u1, u2, u3, u4, u5, u6, u7, u8, u9, u10⟩ := (unhide hV).hold.lists.own.ents.row (unhide HR)
              clear u1 u2 u3 u4 u6 u7 u8
              rcases hb with ⟨h0, hle⟩ | ⟨h0, hlo, hhi, h9, h10⟩
              · rw [h0] at u0
                clear h0 u5 u9 u10
                go_wp2
                all_goals
                  go_ret
                  first
                    | exact ⟨rfl, none_below (unhide hfin)⟩
                    | exact ⟨ret_bool (by simp; omega), none_below (unhide hfin)⟩
              · rw [h9] at u9
                rw [h10] at u10
                have h0' : (E3 r 0 == 0) = false := by simpa using h0
                obtain ⟨x0, hx0⟩ : ∃ x, E3 r 0 = x := ⟨_, rfl⟩
                obtain ⟨x5, hx5⟩ : ∃ x, E3 r 5 = x := ⟨_, rfl⟩
                rw [hx0] at u0 h0'
                rw [hx5] at hlo hhi u5
                clear hx0 hx5 h0 h9 h10
                go_wp2_with fail
                go_quiet (fail)
                go_wp2
                all_goals
                  go_ret
                  first
                    | exact ⟨rfl, none_below (grown_drew (unhide hfin) _)⟩
                    | exact ⟨ret_bool (by simp; omega), none_below (grown_drew (unhide hfin) _)⟩
            · go_upto_region 22 with fail
              have hWd : Hid (∀ n, Gd.Law w (wc.drewN n) T gC jE gI cC cap cI s2 g c E2 (Ft.kit false true)) := fun n => (unhide hW).on (grown_drew (World.grownBy.refl _ _) n)
              have hQd : Hid (∀ n, Lie (wc.drewN n) Q 33 11 (Ints em)) := fun n => (unhide hQ).on (grown_drew (World.grownBy.refl _ _) n)
              go_quiet (fail)
              clear hW hQ c0 c7 c8 q5
              have hW := hide (unhide hWd nq)
              have hQ := hide (unhide hQd nq)
              clear hWd hQd
              generalize wc.drewN nq = wc at hW hQ ⊢
              have q5 := (unhide hW).eleven.2.2.2.2.2.1
              have c0 := (unhide hQ).ent.1
              have c7 := (unhide hQ).ent.2.2.2.2.2.2.2.1
              have c8 := (unhide hQ).ent.2.2.2.2.2.2.2.2.1
              go_upto_region 26 with fail
              obtain ⟨B, hB⟩ : ∃ B, 5 - st 8 = B := ⟨_, rfl⟩
              rw [hB]
              have hB1 : 1 ≤ B := by omega
              have hB9 : B ≤ 8 := by omega
              have hb := (unhide hDu).man s2 (base := B) (by rw [unhide hst', ← hB]; simp; omega)
              rw [show ((1 : Nat) : Int) = 1 from rfl, unhide hst'] at hb
              obtain ⟨u0, u1, u2, u3, u4, u5, u6, u7, u8, u9, u10⟩ := (unhide hW).hold.lists.own.ents.row (unhide HR)
              rw [(unhide hDu).b5, unhide hst'] at u5
              have s5 : st 5 = st 6 := (unhide hsf).2.2.2.2.2.1
              have s64 : 4 ≤ st 6 := (unhide hsf).2.2.2.2.2.2.1
              have s620 : st 6 ≤ 20 := (unhide hsf).2.2.2.2.2.2.2.1
              clear hB u0 u1 u2 u3 u4 u6 u7 u8 u9 u10
              obtain ⟨hp, hhp⟩ : ∃ x, st 5 = x := ⟨_, rfl⟩
              rw [hhp] at hb u5 s5
              have hp4 : 4 ≤ hp := by omega
              have hp20 : hp ≤ 20 := by omega
              clear hhp s5 s64 s620

              have chit := hide (fightHit_any s2 g c E2 (Ft.kit false true) gC jE gI cC cap cI 1 (r : Int) wc (unhide hW).hold.lists (unhide hFi))
              obtain ⟨E3, hE3⟩ : ∃ G, Ft.hitE s2 E2 (Ft.kit false true) 1 (r : Int) = G := ⟨_, rfl⟩
              obtain ⟨I3, hI3⟩ : ∃ G, Ft.hitI s2 E2 (Ft.kit false true) 1 (r : Int) = G := ⟨_, rfl⟩
              rw [hE3, hI3] at chit
              rw [hE3] at hb
              clear hE3 hI3 q5
              obtain ⟨b0, b1, b2, b3, b4, b5, b6, b7, b8, b9, b10⟩ := (unhide hW).eleven
              unfold Gd.world at chit
              go_wp2_with fail
              refine (unhide chit).mono ?_
              rintro e wv ⟨jC, jF, jI, dC, dE, dI, rfl, hcap, l1, l2, l3, n1, n2, n3, hL, hg⟩
              have hV := hide (Gd.law_new (s := s2) (g := g) (cC := dC) (cI := dI) (unhide hW).grown hcap l1 l2 l3 n1 n2 n3 hL hg)
              have hQ5 := hide (((unhide hQ).on hg).on (World.grownBy_alloc wv (.cells #[.int .i64 (s2 0), .int .i64 (s2 1), .int .i64 (s2 2), .int .i64 (s2 3), .slice (some ⟨jC, 0, none⟩) 384 dC, .slice (some ⟨jF, 0, none⟩) 32 dE, .slice (some ⟨jI, 0, none⟩) 40 dI, .int .i64 (g 0), .int .i64 (g 1), .int .i64 (g 2), .int .i64 (g 3)] 28) none))
              clear hcap l1 l2 l3 n1 n2 n3 hL hg chit b0 b1 b2 b3 b4 b5 b6 b7 b8 b9 b10 c0 c7 c8 hW hQ
              unfold Gd.world at hV ⊢
              go_upto_region 28 with fail
              obtain ⟨V, hVe⟩ : ∃ V, wv.heap.size = V := ⟨_, rfl⟩
              rw [hVe] at hV ⊢
              generalize wv.alloc (.cells #[.int .i64 (s2 0), .int .i64 (s2 1), .int .i64 (s2 2), .int .i64 (s2 3), .slice (some ⟨jC, 0, none⟩) 384 dC, .slice (some ⟨jF, 0, none⟩) 32 dE, .slice (some ⟨jI, 0, none⟩) 40 dI, .int .i64 (g 0), .int .i64 (g 1), .int .i64 (g 2), .int .i64 (g 3)] 28) = wz at hV hQ5 ⊢
              clear hVe
              have v5 := (unhide hV).eleven.2.2.2.2.2.1
              have hfin := hide (unhide hV).grown
              have c0 := (unhide hQ5).ent.1
              rw [unhide e0] at c0

              clear u5
              obtain ⟨u0, u1, u2, u3, u4, u5, u6, u7, u8, u9, u10⟩ := (unhide hV).hold.lists.own.ents.row (unhide HR)
              clear u1 u2 u3 u4 u6 u7 u8
              rcases hb with ⟨h0, hle⟩ | ⟨h0, hlo, hhi, h9, h10⟩
              · rw [h0] at u0
                clear h0 u5 u9 u10
                go_wp2
                all_goals
                  go_ret
                  first
                    | exact ⟨rfl, none_below (unhide hfin)⟩
                    | exact ⟨ret_bool (by simp; omega), none_below (unhide hfin)⟩
              · rw [h9] at u9
                rw [h10] at u10
                have h0' : (E3 r 0 == 0) = false := by simpa using h0
                obtain ⟨x0, hx0⟩ : ∃ x, E3 r 0 = x := ⟨_, rfl⟩
                obtain ⟨x5, hx5⟩ : ∃ x, E3 r 5 = x := ⟨_, rfl⟩
                rw [hx0] at u0 h0'
                rw [hx5] at hlo hhi u5
                clear hx0 hx5 h0 h9 h10
                go_wp2_with fail
                go_quiet (fail)
                go_wp2
                all_goals
                  go_ret
                  first
                    | exact ⟨rfl, none_below (grown_drew (unhide hfin) _)⟩
                    | exact ⟨ret_bool (by simp; omega), none_below (grown_drew (unhide hfin) _)⟩
          · cases a4
            · go_upto_region 22 with fail
              have hWd : Hid (∀ n, Gd.Law w (wc.drewN n) T gC jE gI cC cap cI s2 g c E2 (Ft.kit true false)) := fun n => (unhide hW).on (grown_drew (World.grownBy.refl _ _) n)
              have hQd : Hid (∀ n, Lie (wc.drewN n) Q 33 11 (Ints em)) := fun n => (unhide hQ).on (grown_drew (World.grownBy.refl _ _) n)
              go_quiet (fail)
              clear hW hQ c0 c7 c8 q5
              have hW := hide (unhide hWd nq)
              have hQ := hide (unhide hQd nq)
              clear hWd hQd
              generalize wc.drewN nq = wc at hW hQ ⊢
              have q5 := (unhide hW).eleven.2.2.2.2.2.1
              have c0 := (unhide hQ).ent.1
              have c7 := (unhide hQ).ent.2.2.2.2.2.2.2.1
              have c8 := (unhide hQ).ent.2.2.2.2.2.2.2.2.1
              go_upto_region 26 with fail
              obtain ⟨B, hB⟩ : ∃ B, 8 - st 8 = B := ⟨_, rfl⟩
              rw [hB]
              have hB1 : 1 ≤ B := by omega
              have hB9 : B ≤ 8 := by omega
              have hb := (unhide hDu).man s2 (base := B) (by rw [unhide hst', ← hB]; simp; omega)
              rw [show ((1 : Nat) : Int) = 1 from rfl, unhide hst'] at hb
              obtain ⟨u0, u1, u2, u3, u4, u5, u6, u7, u8, u9, u10⟩ := (unhide hW).hold.lists.own.ents.row (unhide HR)
              rw [(unhide hDu).b5, unhide hst'] at u5
              have s5 : st 5 = st 6 := (unhide hsf).2.2.2.2.2.1
              have s64 : 4 ≤ st 6 := (unhide hsf).2.2.2.2.2.2.1
              have s620 : st 6 ≤ 20 := (unhide hsf).2.2.2.2.2.2.2.1
              clear hB u0 u1 u2 u3 u4 u6 u7 u8 u9 u10
              obtain ⟨hp, hhp⟩ : ∃ x, st 5 = x := ⟨_, rfl⟩
              rw [hhp] at hb u5 s5
              have hp4 : 4 ≤ hp := by omega
              have hp20 : hp ≤ 20 := by omega
              clear hhp s5 s64 s620

              have chit := hide (fightHit_any s2 g c E2 (Ft.kit true false) gC jE gI cC cap cI 1 (r : Int) wc (unhide hW).hold.lists (unhide hFi))
              obtain ⟨E3, hE3⟩ : ∃ G, Ft.hitE s2 E2 (Ft.kit true false) 1 (r : Int) = G := ⟨_, rfl⟩
              obtain ⟨I3, hI3⟩ : ∃ G, Ft.hitI s2 E2 (Ft.kit true false) 1 (r : Int) = G := ⟨_, rfl⟩
              rw [hE3, hI3] at chit
              rw [hE3] at hb
              clear hE3 hI3 q5
              obtain ⟨b0, b1, b2, b3, b4, b5, b6, b7, b8, b9, b10⟩ := (unhide hW).eleven
              unfold Gd.world at chit
              go_wp2_with fail
              refine (unhide chit).mono ?_
              rintro e wv ⟨jC, jF, jI, dC, dE, dI, rfl, hcap, l1, l2, l3, n1, n2, n3, hL, hg⟩
              have hV := hide (Gd.law_new (s := s2) (g := g) (cC := dC) (cI := dI) (unhide hW).grown hcap l1 l2 l3 n1 n2 n3 hL hg)
              have hQ5 := hide (((unhide hQ).on hg).on (World.grownBy_alloc wv (.cells #[.int .i64 (s2 0), .int .i64 (s2 1), .int .i64 (s2 2), .int .i64 (s2 3), .slice (some ⟨jC, 0, none⟩) 384 dC, .slice (some ⟨jF, 0, none⟩) 32 dE, .slice (some ⟨jI, 0, none⟩) 40 dI, .int .i64 (g 0), .int .i64 (g 1), .int .i64 (g 2), .int .i64 (g 3)] 28) none))
              clear hcap l1 l2 l3 n1 n2 n3 hL hg chit b0 b1 b2 b3 b4 b5 b6 b7 b8 b9 b10 c0 c7 c8 hW hQ
              unfold Gd.world at hV ⊢
              go_upto_region 28 with fail
              obtain ⟨V, hVe⟩ : ∃ V, wv.heap.size = V := ⟨_, rfl⟩
              rw [hVe] at hV ⊢
              generalize wv.alloc (.cells #[.int .i64 (s2 0), .int .i64 (s2 1), .int .i64 (s2 2), .int .i64 (s2 3), .slice (some ⟨jC, 0, none⟩) 384 dC, .slice (some ⟨jF, 0, none⟩) 32 dE, .slice (some ⟨jI, 0, none⟩) 40 dI, .int .i64 (g 0), .int .i64 (g 1), .int .i64 (g 2), .int .i64 (g 3)] 28) = wz at hV hQ5 ⊢
              clear hVe
              have v5 := (unhide hV).eleven.2.2.2.2.2.1
              have hfin := hide (unhide hV).grown
              have c0 := (unhide hQ5).ent.1
              rw [unhide e0] at c0

              clear u5
              obtain ⟨u0, u1, u2, u3, u4, u5, u6, u7, u8, u9, u10⟩ := (unhide hV).hold.lists.own.ents.row (unhide HR)
              clear u1 u2 u3 u4 u6 u7 u8
              rcases hb with ⟨h0, hle⟩ | ⟨h0, hlo, hhi, h9, h10⟩
              · rw [h0] at u0
                clear h0 u5 u9 u10
                go_wp2
                all_goals
                  go_ret
                  first
                    | exact ⟨rfl, none_below (unhide hfin)⟩
                    | exact ⟨ret_bool (by simp; omega), none_below (unhide hfin)⟩
              · rw [h9] at u9
                rw [h10] at u10
                have h0' : (E3 r 0 == 0) = false := by simpa using h0
                obtain ⟨x0, hx0⟩ : ∃ x, E3 r 0 = x := ⟨_, rfl⟩
                obtain ⟨x5, hx5⟩ : ∃ x, E3 r 5 = x := ⟨_, rfl⟩
                rw [hx0] at u0 h0'
                rw [hx5] at hlo hhi u5
                clear hx0 hx5 h0 h9 h10
                go_wp2_with fail
                go_quiet (fail)
                go_wp2
                all_goals
                  go_ret
                  first
                    | exact ⟨rfl, none_below (grown_drew (unhide hfin) _)⟩
                    | exact ⟨ret_bool (by simp; omega), none_below (grown_drew (unhide hfin) _)⟩
            · go_upto_region 22 with fail
              have hWd : Hid (∀ n, Gd.Law w (wc.drewN n) T gC jE gI cC cap cI s2 g c E2 (Ft.kit true true)) := fun n => (unhide hW).on (grown_drew (World.grownBy.refl _ _) n)
              have hQd : Hid (∀ n, Lie (wc.drewN n) Q 33 11 (Ints em)) := fun n => (unhide hQ).on (grown_drew (World.grownBy.refl _ _) n)
              go_quiet (fail)
              clear hW hQ c0 c7 c8 q5
              have hW := hide (unhide hWd nq)
              have hQ := hide (unhide hQd nq)
              clear hWd hQd
              generalize wc.drewN nq = wc at hW hQ ⊢
              have q5 := (unhide hW).eleven.2.2.2.2.2.1
              have c0 := (unhide hQ).ent.1
              have c7 := (unhide hQ).ent.2.2.2.2.2.2.2.1
              have c8 := (unhide hQ).ent.2.2.2.2.2.2.2.2.1
              go_upto_region 26 with fail
              obtain ⟨B, hB⟩ : ∃ B, 8 - st 8 = B := ⟨_, rfl⟩
              rw [hB]
              have hB1 : 1 ≤ B := by omega
              have hB9 : B ≤ 8 := by omega
              have hb := (unhide hDu).man s2 (base := B) (by rw [unhide hst', ← hB]; simp; omega)
              rw [show ((1 : Nat) : Int) = 1 from rfl, unhide hst'] at hb
              obtain ⟨u0, u1, u2, u3, u4, u5, u6, u7, u8, u9, u10⟩ := (unhide hW).hold.lists.own.ents.row (unhide HR)
              rw [(unhide hDu).b5, unhide hst'] at u5
              have s5 : st 5 = st 6 := (unhide hsf).2.2.2.2.2.1
              have s64 : 4 ≤ st 6 := (unhide hsf).2.2.2.2.2.2.1
              have s620 : st 6 ≤ 20 := (unhide hsf).2.2.2.2.2.2.2.1
              clear hB u0 u1 u2 u3 u4 u6 u7 u8 u9 u10
              obtain ⟨hp, hhp⟩ : ∃ x, st 5 = x := ⟨_, rfl⟩
              rw [hhp] at hb u5 s5
              have hp4 : 4 ≤ hp := by omega
              have hp20 : hp ≤ 20 := by omega
              clear hhp s5 s64 s620

              have chit := hide (fightHit_any s2 g c E2 (Ft.kit true true) gC jE gI cC cap cI 1 (r : Int) wc (unhide hW).hold.lists (unhide hFi))
              obtain ⟨E3, hE3⟩ : ∃ G, Ft.hitE s2 E2 (Ft.kit true true) 1 (r : Int) = G := ⟨_, rfl⟩
              obtain ⟨I3, hI3⟩ : ∃ G, Ft.hitI s2 E2 (Ft.kit true true) 1 (r : Int) = G := ⟨_, rfl⟩
              rw [hE3, hI3] at chit
              rw [hE3] at hb
              clear hE3 hI3 q5
              obtain ⟨b0, b1, b2, b3, b4, b5, b6, b7, b8, b9, b10⟩ := (unhide hW).eleven
              unfold Gd.world at chit
              go_wp2_with fail
              refine (unhide chit).mono ?_
              rintro e wv ⟨jC, jF, jI, dC, dE, dI, rfl, hcap, l1, l2, l3, n1, n2, n3, hL, hg⟩
              have hV := hide (Gd.law_new (s := s2) (g := g) (cC := dC) (cI := dI) (unhide hW).grown hcap l1 l2 l3 n1 n2 n3 hL hg)
              have hQ5 := hide (((unhide hQ).on hg).on (World.grownBy_alloc wv (.cells #[.int .i64 (s2 0), .int .i64 (s2 1), .int .i64 (s2 2), .int .i64 (s2 3), .slice (some ⟨jC, 0, none⟩) 384 dC, .slice (some ⟨jF, 0, none⟩) 32 dE, .slice (some ⟨jI, 0, none⟩) 40 dI, .int .i64 (g 0), .int .i64 (g 1), .int .i64 (g 2), .int .i64 (g 3)] 28) none))
              clear hcap l1 l2 l3 n1 n2 n3 hL hg chit b0 b1 b2 b3 b4 b5 b6 b7 b8 b9 b10 c0 c7 c8 hW hQ
              unfold Gd.world at hV ⊢
              go_upto_region 28 with fail
              obtain ⟨V, hVe⟩ : ∃ V, wv.heap.size = V := ⟨_, rfl⟩
              rw [hVe] at hV ⊢
              generalize wv.alloc (.cells #[.int .i64 (s2 0), .int .i64 (s2 1), .int .i64 (s2 2), .int .i64 (s2 3), .slice (some ⟨jC, 0, none⟩) 384 dC, .slice (some ⟨jF, 0, none⟩) 32 dE, .slice (some ⟨jI, 0, none⟩) 40 dI, .int .i64 (g 0), .int .i64 (g 1), .int .i64 (g 2), .int .i64 (g 3)] 28) = wz at hV hQ5 ⊢
              clear hVe
              have v5 := (unhide hV).eleven.2.2.2.2.2.1
              have hfin := hide (unhide hV).grown
              have c0 := (unhide hQ5).ent.1
              rw [unhide e0] at c0

              clear u5
              obtain ⟨u0, u1, u2, u3, u4, u5, u6, u7, u8, u9, u10⟩ := (unhide hV).hold.lists.own.ents.row (unhide HR)
              clear u1 u2 u3 u4 u6 u7 u8
              rcases hb with ⟨h0, hle⟩ | ⟨h0, hlo, hhi, h9, h10⟩
              · rw [h0] at u0
                clear h0 u5 u9 u10
                go_wp2
                all_goals
                  go_ret
                  first
                    | exact ⟨rfl, none_below (unhide hfin)⟩
                    | exact ⟨ret_bool (by simp; omega), none_below (unhide hfin)⟩
              · rw [h9] at u9
                rw [h10] at u10
                have h0' : (E3 r 0 == 0) = false := by simpa using h0
                obtain ⟨x0, hx0⟩ : ∃ x, E3 r 0 = x := ⟨_, rfl⟩
                obtain ⟨x5, hx5⟩ : ∃ x, E3 r 5 = x := ⟨_, rfl⟩
                rw [hx0] at u0 h0'
                rw [hx5] at hlo hhi u5
                clear hx0 hx5 h0 h9 h10
                go_wp2_with fail
                go_quiet (fail)
                go_wp2
                all_goals
                  go_ret
                  first
                    | exact ⟨rfl, none_below (grown_drew (unhide hfin) _)⟩
                    | exact ⟨ret_bool (by simp; omega), none_below (grown_drew (unhide hfin) _)⟩

set_option maxRecDepth 100000 in
theorem lifted (os : Os) (started : os.Started) (H : Type) (enc : TypeId × Value → H) :
    ReturnsInHanded {} Try.checked os 4 .any (Rows.fightArmsSpec.pre6 enc Try.prog Try.f4 Rows.fightArmsRow.domain false) (Rows.fightArmsSpec.post enc Try.prog Try.f4 false true false false) := by
  refine returnsInHanded_of_change (C := Try.checked) own started (by kernel_rfl) Try.func4
    (ChangeSpec.witness6 (enc := enc) (C := Try.checked) false ⟨#[], #[.int .i64 0, .int .i64 0, .int .i64 0, .bool false, .bool false, .bool false], []⟩ 8 (by kernel_rfl) (by kernel_rfl) (by kernel_rfl) (by kernel_rfl)) ?_
  intro W base args ds gs before hval0 hW hcnd _
  have hval : ∀ (j : Nat) t v, Try.f4.params[j]? = some t → args[j]? = some v → Value.okWide Try.prog W .any base t v := hval0
  have hW' := hW
  obtain ⟨p, q, hA0, hV, rfl, hfz, hnd⟩ := hW
  have hA : DataW.TrodAll enc Try.prog W 0 (fun _ => true) true Try.f4.params.toList args.toList ds p := hA0
  rw [Try.params4] at hA hval
  obtain ⟨v0, vs0, d0, ds0, p0, q0, hargs, rfl, rfl, h0, r0⟩ := trodAll_cons hA
  obtain ⟨v1, vs1, d1, ds1, p1, q1, rfl, rfl, rfl, h1, r1⟩ := trodAll_cons r0
  obtain ⟨v2, vs2, d2, ds2, p2, q2, rfl, rfl, rfl, h2, r2⟩ := trodAll_cons r1
  obtain ⟨v3, vs3, d3, ds3, p3, q3, rfl, rfl, rfl, h3, r3⟩ := trodAll_cons r2
  obtain ⟨v4, vs4, d4, ds4, p4, q4, rfl, rfl, rfl, h4, r4⟩ := trodAll_cons r3
  obtain ⟨v5, vs5, d5, ds5, p5, q5, rfl, rfl, rfl, h5, r5⟩ := trodAll_cons r4
  obtain ⟨rfl, rfl, rfl⟩ := trodAll_nil r5
  obtain rfl : args = #[v0, v1, v2, v3, v4, v5] := by cases args; simp_all
  obtain ⟨rfl, rfl⟩ := trodVars_none hV
  obtain ⟨a0, rfl, rfl, rfl, w0⟩ := open_int Try.underlying2 (hval 0 2 v0 rfl rfl) h0
  obtain ⟨a1, rfl, rfl, rfl, w1⟩ := open_int Try.underlying3 (hval 1 3 v1 rfl rfl) h1
  obtain ⟨a2, rfl, rfl, rfl, w2⟩ := open_int Try.underlying3 (hval 2 3 v2 rfl rfl) h2
  obtain ⟨a3, rfl, rfl, rfl⟩ := open_bool Try.underlying4 (hval 3 4 v3 rfl rfl) h3
  obtain ⟨a4, rfl, rfl, rfl⟩ := open_bool Try.underlying4 (hval 4 4 v4 rfl rfl) h4
  obtain ⟨a5, rfl, rfl, rfl⟩ := open_bool Try.underlying4 (hval 5 4 v5 rfl rfl) h5
  clear hA0 hval0
  refine (walk a0 a1 a2 a3 a4 a5 w0 w1 w2 W).mono fun e W' ⟨he, hg⟩ => ?_
  subst he
  exact ⟨_, rfl, _, _, _, [], _, [], hW', trodAll_mk1 (shut_bool Try.underlying4 _), (trodAll_cons_mk (shut_int Try.underlying2 w0) (trodAll_cons_mk (shut_int Try.underlying3 w1) (trodAll_cons_mk (shut_int Try.underlying3 w2) (trodAll_cons_mk (shut_bool Try.underlying4 _) (trodAll_cons_mk (shut_bool Try.underlying4 _) (trodAll_cons_mk (shut_bool Try.underlying4 _) trodAll_mk0)))))), rfl, hg.frame _, fun h => by cases h⟩

theorem over : Rows.fightArmsRow.holds Try.pinned (OpenSpec.ofChange Rows.fightArmsSpec) :=
  OpenClaim.holds_of_wide 4 Try.f4 rfl rfl rfl rfl rfl rfl rfl ⟨rfl, rfl, rfl, rfl, rfl⟩ rfl rfl rfl rfl rfl (by kernel_rfl) Try.func4 (by kernel_rfl)
    (of_decide_eq_true (by kernel_rfl)) (by unfold Func.isWrapper; first | (rw [if_pos (by decide +kernel)]; kernel_rfl) | (rw [if_neg (by decide +kernel)]; exact ⟨rfl, rfl⟩))
    (fun os started H enc _ => lifted os started H enc)

theorem proved : Rows.FightArmsSaid :=
  over
#print axioms proved
end Go.Proofs.Ytgkomdpceilggab.fightArms
