/-
  A monster goes nearer, by one step, to a hero that it sees, alone with it on a floor; one that sees none goes any way or none: for every seed, floor, places and frame, at this commit; no condition.
-/
import Derived.Test.YtbploaihicakeaaRows
import Derived.WalkKit
import Derived.ProofKit
import Derived.OpenShut
import Derived.Test.YtbploaihicakeaaPart40
import Derived.Test.YtbploaihicakeaaPart44
import Derived.Test.YtbploaihicakeaaPart33
import Derived.Test.YtbploaihicakeaaPart24
import Derived.Test.YtbploaihicakeaaPart05
import Derived.Test.YtbploaihicakeaaPart29
import Derived.Test.YtbploaihicakeaaPart27
import Derived.BigQuiet
import Derived.Deep.Cut
import Derived.Deep.CutRange
import Derived.Deep.CutBlock
import Derived.Deep.RegionHeld3
import Derived.Below
import Derived.ChangeOld
import Derived.ShutString
namespace Go.Proofs.Ytbploaihicakeaa.mindsSight
open Go.ChangeShapes Go.WideShapes Go.ChangeAt Go.RowKit
open Go.ChangeMaps (open_string shut_string)
set_option linter.unusedVariables false

theorem own : ownKnob Try.prog.godebug = none := by kernel_rfl

set_option maxRecDepth 8000 in
set_option maxHeartbeats 12800000 in

theorem walk (a0 : Int) (a1 : Int) (a2 : Int) (a3 : Int) (a4 : Int) (w0 : (Lit.int .i64 a0).wf = true) (w1 : (Lit.int .i64 a1).wf = true) (w2 : (Lit.int .i64 a2).wf = true) (w3 : (Lit.int .i64 a3).wf = true) (w4 : (Lit.int .i64 a4).wf = true) (w : World) :
    Calls Try.prog 5 #[.int .i64 a0, .int .i64 a1, .int .i64 a2, .int .i64 a3, .int .i64 a4] w fun e w' => e = .returned (.bool true) ∧ Below w.heap.size w w' := by
  have cW := hide (fun wq => within9_any a2 1000 wq (by omega) (by omega))
  have cW4 := hide (fun wq => within9_any a4 1000 wq (by omega) (by omega))
  obtain ⟨q, hq⟩ : ∃ q, a2 % 1000 = q := ⟨_, rfl⟩
  have q0 : 0 ≤ q := by omega
  have q9 : q < 1000 := by omega
  obtain ⟨fr, hfr⟩ : ∃ fr, a4 % 1000 = fr := ⟨_, rfl⟩
  rw [hq] at cW
  rw [hfr] at cW4
  clear w0 w1 w2 w3 w4 hq hfr
  obtain ⟨i0, hi, hz0, hz1, hz2⟩ := info_parts info_int
  go_enter Try.func5, Try.ntmps5
  go_wp2_with fail
  refine (known9_any _).mono ?_
  rintro e wk ⟨rfl, hgk⟩
  have hgk' := hide hgk
  clear hgk
  go_wp2_with fail
  refine (unhide cW _).mono ?_
  rintro e wy ⟨rfl, hy⟩
  subst wy
  have ww := hide (world_wide a0 a1 0 (1 + 3 * q) 0 (by omega) (by omega) wk)
  have hr32 : ((1 + 3 * q) % 32).toNat < 32 := by omega
  clear cW
  go_wp2_with fail
  refine (unhide ww).mono ?_
  rintro e wa ⟨c, kc, s0, g, E, hSit, hFl, hE0, hWd, gC, gE, gI, cC, cE, cI, rfl, hcap, l1, l2, l3, n1, n2, n3, hL, hg⟩
  obtain ⟨r, hr⟩ : ∃ r, ((1 + 3 * q) % 32).toNat = r := ⟨_, rfl⟩
  rw [hr] at hr32 hE0
  have hW := hide (Gd.law_new (s := s0) (g := g) (cC := cC) (cI := cI) (unhide hgk') hcap l1 l2 l3 n1 n2 n3 hL hg)
  have hLone : Hid (Md.Lone E r 0 kc) := by rw [hE0]; exact Md.lone_folk hr32 hSit.kc4
  have hFl2 := hide hFl
  have hkw := hide hSit.walk
  have hc8 : Hid (∀ i, 0 ≤ c i ∧ c i ≤ 255) := fun i => ⟨(hFl.five i).1, by have := (hFl.five i).2; omega⟩
  clear hcap l1 l2 l3 n1 n2 n3 hL hg hSit hFl hE0 hWd hr hgk' ww q0 q9
  unfold Gd.world at hW ⊢
  go_upto_region 4 with fail
  obtain ⟨T, hT⟩ : ∃ T, wa.heap.size = T := ⟨_, rfl⟩
  rw [hT] at hW ⊢
  generalize wa.alloc (.cells #[.int .i64 (s0 0), .int .i64 (s0 1), .int .i64 (s0 2), .int .i64 (s0 3), .slice (some ⟨gC, 0, none⟩) 384 cC, .slice (some ⟨gE, 0, none⟩) 32 cE, .slice (some ⟨gI, 0, none⟩) 40 cI, .int .i64 (g 0), .int .i64 (g 1), .int .i64 (g 2), .int .i64 (g 3)] 29) = wb at hW ⊢
  clear hT
  have b1 := (unhide hW).eleven.2.1
  have fT := (unhide hW).hold.box.free
  go_wp2_with fail
  refine (unhide cW4 _).mono ?_
  rintro e wy ⟨rfl, hy⟩
  subst wy
  have hW1 := hide ((unhide hW).tick fr)
  obtain ⟨s, hs2⟩ : ∃ s, Ft.tick s0 fr = s := ⟨_, rfl⟩
  rw [hs2] at hW1
  clear hs2 cW4
  go_upto_region 5 with fail
  generalize wb.setCell ⟨T, 1, none⟩ (.int .i64 fr) = wt at hW1 ⊢
  clear b1 fT hW
  have b5 := (unhide hW1).eleven.2.2.2.2.2.1
  have ch := hide (refHero7_any gE cE E 0 wt (unhide hW1).hold.lists.own)
  rw [(unhide hLone).hero] at ch
  go_wp2_with fail
  refine (unhide ch).mono ?_
  rintro e wl ⟨rfl, hg⟩
  have hW0 := hide ((unhide hW1).on hg)
  clear hg ch b5 hW1
  have hr' : (r : Int) < 32 := by omega
  obtain ⟨p, hpe⟩ : ∃ p : Nat → Bool, (fun i => Gr.walkB (c i) && decide (En.first (En.atQ E ((i : Int) % 24) ((i : Int) / 24)) 32 < 0)) = p := ⟨_, rfl⟩
  have hpi : Hid (∀ i, p i = (Gr.walkB (c i) && decide (En.first (En.atQ E ((i : Int) % 24) ((i : Int) / 24)) 32 < 0))) := fun i => by rw [← hpe]
  have hpd : Hid (∀ i, i < 384 → p i = true → Gr.walkB (c i) = true ∧ kc ≠ i) := fun i hi4 h => by
    rw [unhide hpi i, Bool.and_eq_true, decide_eq_true_eq] at h
    refine ⟨h.1, ?_⟩
    rintro rfl
    have hst := h.2
    rw [← (unhide hLone).x, ← (unhide hLone).y, (unhide hLone).self] at hst
    omega
  have hsome : Hid (∃ i, i < 384 ∧ p i = true) := by
    obtain ⟨u, hu, huk, huw⟩ := Md.other_cell (unhide hFl2) kc
    refine ⟨u, hu, ?_⟩
    rw [unhide hpi u, huw, (unhide hLone).none (by omega)]
    rfl
  clear hpe
  obtain ⟨B0, hB0⟩ : ∃ B0, wl.heap.size = B0 := ⟨_, rfl⟩
  have hB0' := hide hB0
  clear hB0
  go_wp2_with fail
  go_loopw [13, 14] (fun vl vi wr => ∃ k : Nat, k ≤ 384 ∧ vi = .int .i64 (k : Int) ∧ Hid (Lst wr B0 vl (Gn.those p k)) ∧ Hid (wl.grownBy wr none)) (fun _ vi _ => 400 - (intOf vi).toNat)
  case atStart => exact ⟨0, by omega, rfl, World.ownsRow_nil _ _ _ _, World.grownBy.refl _ _⟩
  case round =>
    obtain ⟨k, hk, rfl, hown1, hg1⟩ := hrel
    have hsz : B0 ≤ wr.heap.size := by rw [← unhide hB0']; exact (unhide hg1).size
    have hln := Gn.those_len p k
    by_cases hlt : k < 384
    · have hW := hide ((unhide hW0).on (unhide hg1))
      have b4 := (unhide hW).eleven.2.2.2.2.1
      have b5 := (unhide hW).eleven.2.2.2.2.2.1
      have q1 : wr.cell? ⟨gC, k, none⟩ = some (.int .u8 (c k)) := (unhide hW).hold.lists.cells.cell hlt
      have qb := unhide hc8 k
      have cK := hide (fun wq => refWalk_any (c k) wq)
      have ca := hide (entRefAt_same gE 32 cE E ((k : Int) % 24) ((k : Int) / 24) wr (unhide hW).hold.lists.own.ents)
      have t3 : IntKind.i64.wrap ((k : Int) / 24) = (k : Int) / 24 := by rw [IntKind.wrap_i64]; omega
      have hlt' : (k : Int) < 384 := by omega
      have HL := hide hlt
      have hpk := hide (unhide hpi k)
      have hyes := hide (@Gn.those_yes p k)
      have hno := hide (@Gn.those_no p k)
      obtain ⟨wkk, hwk⟩ : ∃ z, Gr.walkB (c k) = z := ⟨_, rfl⟩
      obtain ⟨z, hz⟩ : ∃ z, En.first (En.atQ E ((k : Int) % 24) ((k : Int) / 24)) 32 = z := ⟨_, rfl⟩
      rw [hwk] at cK hpk
      rw [hz] at ca hpk
      clear hlt hk hwk hz hW
      go_wp2_with fail
      refine (unhide cK _).mono ?_
      rintro e wy ⟨rfl, hy⟩
      subst wy
      clear cK
      cases wkk
      · have hpf : Hid (Gn.those p (k + 1) = Gn.those p k) := unhide hno (by rw [unhide hpk]; rfl)
        clear hpk hyes hno ca b4 b5 q1 t3
        go_wp2
        go_roundw
        case rel => exact ⟨k + 1, by have := unhide HL; omega, by go_num, by rw [unhide hpf]; exact hown1, hg1⟩
        case measure => simp [intOf]; omega
      go_wp2_with fail
      refine (unhide ca).mono ?_
      rintro e wy ⟨rfl, hy⟩
      subst wy
      clear ca b4 b5 q1 t3
      by_cases hzn : z < 0
      rotate_left
      · have hpf : Hid (Gn.those p (k + 1) = Gn.those p k) := unhide hno (by rw [unhide hpk, decide_eq_false hzn]; rfl)
        clear hpk hyes hno
        go_wp2
        go_roundw
        case rel => exact ⟨k + 1, by have := unhide HL; omega, by go_num, by rw [unhide hpf]; exact hown1, hg1⟩
        case measure => simp [intOf]; omega
      · have hpt : Hid (Gn.those p (k + 1) = Gn.those p k ++ [k]) := unhide hyes (by rw [unhide hpk, decide_eq_true hzn]; rfl)
        obtain ⟨l, hl⟩ : ∃ l, l = Gn.those p k := ⟨_, rfl⟩
        rw [← hl] at hown1 hln hpt
        clear hl hpk hyes hno
        have hLl := hide (unhide hown1)
        unfold Lst at hLl
        go_wp2_with (at_builtin; refine wpList_append_own _ rfl _ _ 22 rfl B0 3 i0 (.int .i64 0) 1 8 Try.underlying22 hi hz0 hz1 hz2 rfl (by decide) _ _ _ rfl ((unhide hLl).alloc _) ⟨wr.heap.size, 0, none⟩ 1 1 [.int .i64 (k : Int)] rfl rfl ?_ ?_ ?_ ?_ ?_ ?_)
        · exact one_at _ _ _ _ rfl
        · intro u hu; simp at hu; subst hu; rfl
        · unfold maxLen; omega
        · omega
        · simp; omega
        intro v' w1 hown' hgrow _
        rw [natInts_more] at hown'
        have hown2 : Hid (Lst w1 B0 v' (Gn.those p (k + 1))) := by
          rw [unhide hpt]
          show w1.ownsRow _ _ _ _ _ _
          rw [List.length_append]
          exact hown'
        have hg2 := hide (grown_own (grown_alloc (unhide hg1) _) hgrow (fun n e => by rw [unhide hB0']; exact ((unhide hLl).lt n e).1))
        clear hown' hgrow hown1 hg1 hLl
        go_wp2
        go_roundw
        case rel => exact ⟨k + 1, by have := unhide HL; omega, by go_num, hown2, hg2⟩
        case measure => simp [intOf]; omega
    · obtain rfl : k = 384 := by omega
      have hge : ¬ ((384 : Nat) : Int) < 384 := by omega
      have hLcap := hk
      clear hlt hk
      have hW4 := hLcap
      unfold Lst at hown1
      obtain ⟨oa, ocap, hov, hol, hovec⟩ := own_vec (unhide hown1) (by unfold maxLen; omega)
      subst hov
      have hpos : 0 < (Gn.those p 384).length := by
        obtain ⟨i, hi4, hip⟩ := unhide hsome
        exact Gn.those_pos hi4 hip
      obtain ⟨L, hL⟩ : ∃ L, L = (Gn.those p 384).length := ⟨_, rfl⟩
      obtain ⟨J, hJ⟩ : ∃ J : Nat, (J : Int) = a3 % (L : Int) := ⟨(a3 % (L : Int)).toNat, Int.toNat_of_nonneg (Int.emod_nonneg _ (by omega))⟩
      have hJL : J < L := by have := Int.emod_lt_of_pos a3 (b := (L : Int)) (by omega); omega
      obtain ⟨A, hA1, hA4, hAp⟩ := Gn.those_at (p := p) (n := 384) (i := J) (by omega)
      have hvJ := hovec.at (k := J) (by omega)
      obtain ⟨ob, oo, rfl, hob, hcJ⟩ := hvJ
      have qJ : wr.cell? ⟨ob, oo + J, none⟩ = some (.int .i64 (A : Int)) := by rw [hcJ]; show some (Value.int .i64 ((natInts (Gn.those p 384))[J]?.getD 0)) = _; rw [natInts_is hA1]
      have cI := hide (fun (wq : World) => within9_any a3 (L : Int) wq (by omega) (by omega))
      rw [← hJ] at cI
      rw [← hL]
      have hJL' : (J : Int) < (L : Int) := by omega
      have hAA := hide (unhide hpd A hA4 hAp)
      have HA := hide hA4
      have hW := hide ((unhide hW0).on (unhide hg1))
      clear hown1 hg1 hol hovec hpos hL hJ hJL hA1 hA4 hAp hob hcJ hsome hln hge hsz hW0 hW4 hLcap
      go_wp2_with fail
      refine (unhide cI _).mono ?_
      rintro e wy ⟨rfl, hy⟩
      subst wy
      clear cI
      have cst := hide (entRefStats_any 3 wr)
      have hst6 : Hid (En.stats 3 0 = 3 ∧ (0 ≤ En.stats 3 6 ∧ En.stats 3 6 ≤ 20)) := ⟨rfl, by show (0 : Int) ≤ En.stats 3 6; decide, by show En.stats 3 6 ≤ (20 : Int); decide⟩
      obtain ⟨st, hst⟩ : ∃ st, En.stats 3 = st := ⟨_, rfl⟩
      rw [hst] at cst hst6
      clear hst
      unfold En.cells at cst
      go_wp2_with fail
      refine (unhide cst).mono ?_
      rintro e w3 ⟨rfl, hg1⟩
      have hQ := hide (Lie.born w3 st 36)
      have hg2 := hide (grown_trans hg1 (World.grownBy_alloc w3 (.cells (En.cells st) 36) none))
      have hoff : Hid (Ft.Off w w3.heap.size T T gC gE gI) := by
        have q1 := ((unhide hW).on hg1).hold.box.lt
        have q3 := ((unhide hW).on hg1).hold.lists.cells.lt
        have q4 := ((unhide hW).on hg1).hold.lists.ents.lt
        have q5 := ((unhide hW).on hg1).hold.lists.items.lt
        have q6 := (unhide hW).grown.size
        have q7 := hg1.size
        exact ⟨by omega, by omega, by omega, by omega, by omega, by omega⟩
      have hW1 := hide ((unhide hW).on (unhide hg2))
      have t1 : IntKind.i64.wrap ((A : Int) / 24) = (A : Int) / 24 := by have := unhide HA; rw [IntKind.wrap_i64]; omega
      clear hg1 cst hg2 hW qJ hJL'
      unfold En.cells at hQ hW1
      go_upto_region 14 with fail
      obtain ⟨Q, hQe⟩ : ∃ Q, w3.heap.size = Q := ⟨_, rfl⟩
      rw [hQe] at hQ hoff ⊢
      generalize w3.alloc (.cells #[.int .i64 (st 0), .int .i64 (st 1), .int .i64 (st 2), .int .i64 (st 3), .int .i64 (st 4), .int .i64 (st 5), .int .i64 (st 6), .int .i64 (st 7), .int .i64 (st 8), .int .i64 (st 9), .int .i64 (st 10)] 36) = wd at hQ hW1 ⊢
      clear hQe
      have z3 := (unhide hQ).ent.2.2.2.1
      have z4 := (unhide hQ).ent.2.2.2.2.1
      have zf := (unhide hQ).free
      have hW2 := hide (((unhide hW1).off (unhide hoff) 3 (.int .i64 ((A : Int) % 24))).off (unhide hoff) 4 (.int .i64 ((A : Int) / 24)))
      have hQ2 := hide (((unhide hQ).upd 3 ((A : Int) % 24)).upd 4 ((A : Int) / 24))
      go_upto_region 15 with fail
      generalize (wd.setCell ⟨Q, 3, none⟩ (.int .i64 ((A : Int) % 24))).setCell ⟨Q, 4, none⟩ (.int .i64 ((A : Int) / 24)) = we at hW2 hQ2 ⊢
      clear z3 z4 zf hQ hW1 t1
      have hrt0 : Hid (En.upd (En.upd st 3 ((A : Int) % 24)) 4 ((A : Int) / 24) 0 = 3 ∧ En.upd (En.upd st 3 ((A : Int) % 24)) 4 ((A : Int) / 24) 3 = (A : Int) % 24 ∧ En.upd (En.upd st 3 ((A : Int) % 24)) 4 ((A : Int) / 24) 4 = (A : Int) / 24 ∧ (0 ≤ En.upd (En.upd st 3 ((A : Int) % 24)) 4 ((A : Int) / 24) 6 ∧ En.upd (En.upd st 3 ((A : Int) % 24)) 4 ((A : Int) / 24) 6 ≤ 20)) := by
        rw [En.upd_other (by omega), En.upd_other (by omega), En.upd_other (by omega), En.upd_same, En.upd_same, En.upd_other (by omega), En.upd_other (by omega)]
        exact ⟨(unhide hst6).1, rfl, rfl, (unhide hst6).2⟩
      obtain ⟨rt, hrt⟩ : ∃ z, En.upd (En.upd st 3 ((A : Int) % 24)) 4 ((A : Int) / 24) = z := ⟨_, rfl⟩
      rw [hrt] at hrt0 hQ2
      obtain ⟨f, hf32, hfr, hf0, hf1, hfl⟩ := (unhide hLone).spare
      have csp := hide (refSpawn_some gE 32 cE f E rt we (unhide hW2).hold.lists.own.ents (by rw [(unhide hrt0).1]; omega) hf32 hf0 (fun j h => by unfold En.freeQ; simpa using hfl j h) ((unhide hLone).good (Md.ok_none c)).gens)
      have hDuo : Hid (Md.Duo (En.put E f (En.gen rt ((E f 1 + 1) % 256))) r f kc A) := (unhide hLone).duo hf32 hfr (unhide HA) (unhide hAA).2 (unhide hrt0).1 (unhide hrt0).2.1 (unhide hrt0).2.2.1 (unhide hrt0).2.2.2 (by omega)
      obtain ⟨F, hFe⟩ : ∃ F, En.put E f (En.gen rt ((E f 1 + 1) % 256)) = F := ⟨_, rfl⟩
      rw [hFe] at csp hDuo
      have b5 := (unhide hW2).eleven.2.2.2.2.2.1
      obtain ⟨c0, c1, c2, c3, c4, c5, c6, c7, c8, c9, c10⟩ := (unhide hQ2).ent
      have hq3 : Hid (rt 3 = (A : Int) % 24 ∧ rt 4 = (A : Int) / 24) := ⟨(unhide hrt0).2.1, (unhide hrt0).2.2.1⟩
      have hf' : (f : Int) < 32 := by omega
      clear hrt hFe hf32 hfr hf0 hf1 hfl hst6 hrt0 hLone hpd
      unfold En.cells at csp
      go_wp2_with fail
      refine (unhide csp).mono ?_
      rintro e' wg ⟨jE, cap, rfl, hlo, hnc, hcm, hown, hgr⟩
      have hW5 := hide ((unhide hW2).folk hnc hlo hown hgr)
      have hQ5 : Hid (Lie (wg.setCell ⟨T, 5, none⟩ (.slice (some ⟨jE, 0, none⟩) 32 cap)) Q 36 11 (Ints rt)) := ((unhide hQ2).on hgr).other (unhide hoff).nT.symm 5 _
      have y5 := ((unhide hW2).on hgr).eleven.2.2.2.2.2.1
      have fT := ((unhide hW2).on hgr).hold.box.free
      clear hlo hnc hcm hown hgr csp b5 c0 c1 c2 c3 c4 c5 c6 c7 c8 c9 c10 hW2 hQ2 hoff
      go_upto_region 17 with fail
      generalize wg.setCell ⟨T, 5, none⟩ (.slice (some ⟨jE, 0, none⟩) 32 cap) = wh at hW5 hQ5 ⊢
      clear y5 fT
      have b5 := (unhide hW5).eleven.2.2.2.2.2.1
      obtain ⟨-, -, -, u3, u4, -, -, -, -, -, -⟩ := (unhide hW5).hold.lists.own.ents.row hr32
      rw [(unhide hDuo).hx] at u3
      rw [(unhide hDuo).hy] at u4
      have hk4 := (unhide hDuo).m4
      have hxb : Hid ((0 ≤ (kc : Int) % 24 ∧ (kc : Int) % 24 < 24) ∧ 0 ≤ (kc : Int) / 24 ∧ (kc : Int) / 24 < 16 ∧ (kc : Int) / 24 * 24 + (kc : Int) % 24 = (kc : Int)) := (show (0 ≤ (kc : Int) % 24 ∧ (kc : Int) % 24 < 24) ∧ 0 ≤ (kc : Int) / 24 ∧ (kc : Int) / 24 < 16 ∧ (kc : Int) / 24 * 24 + (kc : Int) % 24 = (kc : Int) by omega)
      obtain ⟨x, hx⟩ : ∃ x, (kc : Int) % 24 = x := ⟨_, rfl⟩
      obtain ⟨y, hy⟩ : ∃ y, (kc : Int) / 24 = y := ⟨_, rfl⟩
      rw [hx] at u3
      rw [hy] at u4
      rw [hx, hy] at hxb
      have hxy := hide (And.intro hx hy)
      clear hx hy hk4
      go_cut [20, 21] from 91 to 102 (fun va vb wx => va = .int .i64 x ∧ vb = .int .i64 y ∧ Hid (Gd.Law w wx T gC jE gI cC cap cI s g c F (fun _ _ => 0)) ∧ Hid (Lie wx Q 36 11 (Ints rt)))
      case first =>
        go_quiet (fail)
        go_wp2_with fail
        go_meet
        exact ⟨rfl, rfl, (unhide hW5).on (grown_drew (World.grownBy.refl _ none) _), (unhide hQ5).on (grown_drew (World.grownBy.refl _ none) _)⟩
      case rest =>
        clear hW5 hQ5 b5 u3 u4
        obtain ⟨rfl, rfl, hW, hQ⟩ := hcut
        have m1 : IntKind.i64.wrap (y * 24) = y * 24 := by have := unhide hxb; rw [IntKind.wrap_i64]; omega
        have m2 : IntKind.i64.wrap (y * 24 + x) = (kc : Int) := by have := unhide hxb; have := (unhide hDuo).m4; rw [IntKind.wrap_i64]; omega
        have b4 := (unhide hW).eleven.2.2.2.2.1
        have cf : Hid (∀ b, b = wc.heap.size → Calls Try.prog 27 #[.slice (some ⟨gC, 0, none⟩) 384 cC, .slice none 0 0, .slice (some ⟨b, 0, none⟩) 1 1] (wc.alloc (.cells #[.int .i64 (kc : Int)] 3)) (IsFieldOf (wc.alloc (.cells #[.int .i64 (kc : Int)] 3)) (fun i => Gr.openB c 0 (fun _ => false) i = true) (Gr.tgt c (fun _ => (kc : Int)) 1))) := fun b hb => by
          subst hb
          have hL := (unhide hW).hold.lists.on (World.grownBy_alloc wc (.cells #[.int .i64 (kc : Int)] 3) none)
          have h4 := (unhide hDuo).m4
          exact refField_any (some ⟨gC, 0, none⟩) none (some ⟨wc.heap.size, 0, none⟩) 0 1 cC 0 1 c (fun _ => (kc : Int)) (fun _ => false) _ hL.vec (unhide hc8) ⟨by unfold maxLen; omega, .inl rfl⟩ (Nv.one_row wc (kc : Int) 3) (fun _ => ⟨by omega, by omega⟩)
        go_wp2_with fail
        refine (unhide cf _ rfl).mono ?_
        rintro e w6 ⟨H, ⟨gF, rfl, hgF, hAF, hB6⟩, hFd⟩
        have hg6 := grown_trans (World.grownBy_alloc wc (.cells #[.int .i64 (kc : Int)] 3) none) (below_grown hB6)
        have hW6 := hide ((unhide hW).on hg6)
        have hQ6 := hide ((unhide hQ).on hg6)
        have hA6 := hide hAF
        have hFd' := hide hFd
        clear hg6 hgF hAF hB6 hFd cf b4 m1 m2 hW hQ
        obtain ⟨b0, b1, b2, b3, b4, b5, b6, b7, b8, b9, b10⟩ := (unhide hW6).eleven
        have cM := hide (mindsMonster_any s g c F (fun _ _ => 0) gC jE gI cC cap cI (f : Int) w6 (unhide hW6).hold.lists (unhide hc8) (unhide hW6).cap ((unhide hDuo).good (Md.ok_none c)))
        unfold Gd.world at cM
        go_wp2_with fail
        refine (unhide cM).mono ?_
        rintro e w7 ⟨v, hv, rfl, hg7⟩
        have hv' := hide hv
        have hW7 := hide ((unhide hW6).on hg7)
        have hQ7 := hide ((unhide hQ6).on hg7)
        have hA7 := hide ((unhide hA6).grown hg7 (by simp))
        clear hv hg7 b0 b1 b2 b3 b4 b5 b6 b7 b8 b9 b10 cM hW6 hQ6 hA6
        have cw := hide (fun wq => refWay_any v wq)
        have wb := Fx.way_bd v
        have horc : Hid (∀ R, Fx.isRoot (((x - (A : Int) % 24) * (x - (A : Int) % 24) + (y - (A : Int) / 24) * (y - (A : Int) / 24)) * 65536) R → (R ≤ 1536 ∧ Gr.Sees 384 c ((A : Int) % 24) ((A : Int) / 24) x y → ∃ p : Nat, 1 ≤ v ∧ v ≤ 4 ∧ p < 384 ∧ (A : Int) % 24 + (Fx.way v).1 = (p : Int) % 24 ∧ (A : Int) / 24 + (Fx.way v).2 = (p : Int) / 24 ∧ H p = H A - 1) ∧ (¬ (R ≤ 1536 ∧ Gr.Sees 384 c ((A : Int) % 24) ((A : Int) / 24) x y) → 0 ≤ v ∧ v ≤ 4)) := fun R hR => by
          have h1 := (unhide hDuo).orc (R := R) (unhide hFl2) (unhide hkw) (unhide hAA).1 (by rw [(unhide hxy).1, (unhide hxy).2]; exact hR) (unhide hFd') (unhide hv')
          unfold Md.Spots at h1
          rw [(unhide hxy).1, (unhide hxy).2] at h1
          exact h1
        have hhi := hide (Md.field_high (unhide hFd') (unhide HA))
        have hlo' := hide ((unhide hFd').lo A (unhide HA))
        obtain ⟨dx, hdx⟩ : ∃ dx, (Fx.way v).1 = dx := ⟨_, rfl⟩
        obtain ⟨dy, hdy⟩ : ∃ dy, (Fx.way v).2 = dy := ⟨_, rfl⟩
        rw [hdx] at cw wb horc
        rw [hdy] at cw wb horc
        have hwb := hide wb
        clear hdx hdy wb hv'
        go_wp2_with fail
        refine (unhide cw _).mono ?_
        rintro e wy ⟨rfl, hy⟩
        subst wy
        clear cw
        have hab : Hid ((0 ≤ (A : Int) % 24 ∧ (A : Int) % 24 < 24) ∧ 0 ≤ (A : Int) / 24 ∧ (A : Int) / 24 < 16 ∧ (A : Int) / 24 * 24 + (A : Int) % 24 = (A : Int)) := (show (0 ≤ (A : Int) % 24 ∧ (A : Int) % 24 < 24) ∧ 0 ≤ (A : Int) / 24 ∧ (A : Int) / 24 < 16 ∧ (A : Int) / 24 * 24 + (A : Int) % 24 = (A : Int) by have := unhide HA; omega)
        have hQk : Hid (∀ z, w7.grownBy z none → z.cell? ⟨Q, 3, none⟩ = some (.int .i64 ((A : Int) % 24)) ∧ z.cell? ⟨Q, 4, none⟩ = some (.int .i64 ((A : Int) / 24))) := fun z hz => by
          have h3 := ((unhide hQ7).on hz).ent.2.2.2.1
          have h4 := ((unhide hQ7).on hz).ent.2.2.2.2.1
          rw [(unhide hq3).1] at h3
          rw [(unhide hq3).2] at h4
          exact ⟨h3, h4⟩
        obtain ⟨ex, hex⟩ : ∃ ex, (A : Int) % 24 = ex := ⟨_, rfl⟩
        obtain ⟨ey, hey⟩ : ∃ ey, (A : Int) / 24 = ey := ⟨_, rfl⟩
        rw [hex, hey] at hQk horc hab
        clear hex hey hQ7 hq3 hxy hDuo hAA
        obtain ⟨z3, z4⟩ := unhide hQk _ (World.grownBy.refl _ none)
        have b4 := (unhide hW7).eleven.2.2.2.2.1
        have k1 := unhide hab
        have k2 := unhide hxb
        have cD := hide (fun wq => refDist_any (x - ex) (y - ey) wq (by omega) (by omega) (by omega) (by omega))
        have cS := hide (refSees_any (some ⟨gC, 0, none⟩) 384 cC c ex ey x y w7 (unhide hW7).hold.lists.vec (unhide hc8))
        have e1 : IntKind.i64.wrap (x - ex) = x - ex := by rw [IntKind.wrap_i64]; omega
        have e2 : IntKind.i64.wrap (y - ey) = y - ey := by rw [IntKind.wrap_i64]; omega
        clear k1 k2
        go_wp2_with fail
        refine (unhide cD _).mono ?_
        rintro e wy ⟨R, rfl, hR, hy⟩
        subst wy
        have hor := hide (unhide horc R hR)
        clear cD hR horc e1 e2
        by_cases hR1 : R ≤ 1536
        · go_wp2_with fail
          refine (unhide cS).mono ?_
          rintro e w8 ⟨sb, rfl, hsb, hB8⟩
          have hg8 := hide (below_grown hB8)
          have hW8 := hide ((unhide hW7).on (unhide hg8))
          have hA8 := hide ((unhide hA7).grown (unhide hg8) (by simp))
          have hQk8 := hide (unhide hQk w8 (unhide hg8))
          have hsb' := hide hsb
          clear hsb hB8 cS b4 z3 z4 hW7 hA7 hQk
          cases sb
          · have hv04 := hide ((unhide hor).2 (fun hh => absurd ((unhide hsb').2 hh.2) (by simp)))
            clear hor hsb'
            have b1 := (unhide hW8).eleven.2.1
            have fT := (unhide hW8).hold.box.free
            have h0 := (unhide hv04).1
            have h4 := (unhide hv04).2
            have h0' : v ≥ 0 := by omega
            have hfin : Hid (∀ u, w.grownBy ((w8).setCell ⟨T, 1, none⟩ u) none) := fun u => grown_store (unhide hW8).grown ⟨T, 1, none⟩ (unhide hW8).lT u
            clear hv04 hW8
            go_wp2
            go_ret
            exact ⟨rfl, none_below (unhide hfin _)⟩
          · obtain ⟨p, v1, v4, hp, ep, eq, hHp⟩ := (unhide hor).1 ⟨hR1, (unhide hsb').1 rfl⟩
            have uA : w8.cell? ⟨gF, A, none⟩ = some (.int .i64 (H A)) := (unhide hA8).cell (unhide HA)
            have uP : w8.cell? ⟨gF, p, none⟩ = some (.int .i64 (H A - 1)) := by rw [← hHp]; exact (unhide hA8).cell hp
            obtain ⟨z3, z4⟩ := unhide hQk8
            have k0 := unhide hwb
            have k1 := unhide hab
            have k2 := unhide hhi
            have k3 := unhide hlo'
            have g1 : IntKind.i64.wrap (ey + dy) = ey + dy := by rw [IntKind.wrap_i64]; omega
            have g2 : IntKind.i64.wrap ((ey + dy) * 24) = (ey + dy) * 24 := by rw [IntKind.wrap_i64]; omega
            have g3 : IntKind.i64.wrap ((ey + dy) * 24 + ex) = (ey + dy) * 24 + ex := by rw [IntKind.wrap_i64]; omega
            have g4 : IntKind.i64.wrap ((ey + dy) * 24 + ex + dx) = (p : Int) := by rw [IntKind.wrap_i64]; omega
            have g5 : (p : Int) < 384 := by omega
            have g6 : (A : Int) < 384 := by have := unhide HA; omega
            have g7 : (v != 0) = true := by simp; omega
            have g8 : IntKind.i64.wrap (H A - 1) = H A - 1 := by rw [IntKind.wrap_i64]; omega
            have hfin := hide (unhide hW8).grown
            clear hor hsb' hp ep eq hHp k0 k1 k2 k3 v1 v4 hQk8
            go_upto_region 23 with fail
            go_quiet (fail)
            go_wp2
            go_ret
            exact ⟨rfl, none_below (grown_drew (unhide hfin) _)⟩
        · have hv04 := hide ((unhide hor).2 (fun hh => hR1 hh.1))
          have hW8 := hide (unhide hW7)
          clear hor cS hW7 hA7 hQk
          have b4' := b4
          clear b4'
          have b1 := (unhide hW8).eleven.2.1
          have fT := (unhide hW8).hold.box.free
          have h0 := (unhide hv04).1
          have h4 := (unhide hv04).2
          have h0' : v ≥ 0 := by omega
          have hfin : Hid (∀ u, w.grownBy ((w7).setCell ⟨T, 1, none⟩ u) none) := fun u => grown_store (unhide hW8).grown ⟨T, 1, none⟩ (unhide hW8).lT u
          clear hv04 hW8
          go_wp2
          go_ret
          exact ⟨rfl, none_below (unhide hfin _)⟩

set_option maxRecDepth 100000 in
theorem lifted (os : Os) (started : os.Started) (H : Type) (enc : TypeId × Value → H) :
    ReturnsInHanded {} Try.checked os 5 .any (Rows.mindsSightSpec.pre6 enc Try.prog Try.f5 Rows.mindsSightRow.domain false) (Rows.mindsSightSpec.post enc Try.prog Try.f5 false true false false) := by
  refine returnsInHanded_of_change (C := Try.checked) own started (by kernel_rfl) Try.func5
    (ChangeSpec.witness6 (enc := enc) (C := Try.checked) false ⟨#[], #[.int .i64 0, .int .i64 0, .int .i64 0, .int .i64 0, .int .i64 0], []⟩ 8 (by kernel_rfl) (by kernel_rfl) (by kernel_rfl) (by kernel_rfl)) ?_
  intro W base args ds gs before hval0 hW hcnd _
  have hval : ∀ (j : Nat) t v, Try.f5.params[j]? = some t → args[j]? = some v → Value.okWide Try.prog W .any base t v := hval0
  have hW' := hW
  obtain ⟨p, q, hA0, hV, rfl, hfz, hnd⟩ := hW
  have hA : DataW.TrodAll enc Try.prog W 0 (fun _ => true) true Try.f5.params.toList args.toList ds p := hA0
  rw [Try.params5] at hA hval
  obtain ⟨v0, vs0, d0, ds0, p0, q0, hargs, rfl, rfl, h0, r0⟩ := trodAll_cons hA
  obtain ⟨v1, vs1, d1, ds1, p1, q1, rfl, rfl, rfl, h1, r1⟩ := trodAll_cons r0
  obtain ⟨v2, vs2, d2, ds2, p2, q2, rfl, rfl, rfl, h2, r2⟩ := trodAll_cons r1
  obtain ⟨v3, vs3, d3, ds3, p3, q3, rfl, rfl, rfl, h3, r3⟩ := trodAll_cons r2
  obtain ⟨v4, vs4, d4, ds4, p4, q4, rfl, rfl, rfl, h4, r4⟩ := trodAll_cons r3
  obtain ⟨rfl, rfl, rfl⟩ := trodAll_nil r4
  obtain rfl : args = #[v0, v1, v2, v3, v4] := by cases args; simp_all
  obtain ⟨rfl, rfl⟩ := trodVars_none hV
  obtain ⟨a0, rfl, rfl, rfl, w0⟩ := open_int Try.underlying2 (hval 0 2 v0 rfl rfl) h0
  obtain ⟨a1, rfl, rfl, rfl, w1⟩ := open_int Try.underlying3 (hval 1 3 v1 rfl rfl) h1
  obtain ⟨a2, rfl, rfl, rfl, w2⟩ := open_int Try.underlying3 (hval 2 3 v2 rfl rfl) h2
  obtain ⟨a3, rfl, rfl, rfl, w3⟩ := open_int Try.underlying3 (hval 3 3 v3 rfl rfl) h3
  obtain ⟨a4, rfl, rfl, rfl, w4⟩ := open_int Try.underlying3 (hval 4 3 v4 rfl rfl) h4
  clear hA0 hval0
  refine (walk a0 a1 a2 a3 a4 w0 w1 w2 w3 w4 W).mono fun e W' ⟨he, hg⟩ => ?_
  subst he
  exact ⟨_, rfl, _, _, _, [], _, [], hW', trodAll_mk1 (shut_bool Try.underlying4 _), (trodAll_cons_mk (shut_int Try.underlying2 w0) (trodAll_cons_mk (shut_int Try.underlying3 w1) (trodAll_cons_mk (shut_int Try.underlying3 w2) (trodAll_cons_mk (shut_int Try.underlying3 w3) (trodAll_cons_mk (shut_int Try.underlying3 w4) trodAll_mk0))))), rfl, hg.frame _, fun h => by cases h⟩

theorem over : Rows.mindsSightRow.holds Try.pinned (OpenSpec.ofChange Rows.mindsSightSpec) :=
  OpenClaim.holds_of_wide 5 Try.f5 rfl rfl rfl rfl rfl rfl rfl ⟨rfl, rfl, rfl, rfl, rfl⟩ rfl rfl rfl rfl rfl (by kernel_rfl) Try.func5 (by kernel_rfl)
    (of_decide_eq_true (by kernel_rfl)) (by unfold Func.isWrapper; first | (rw [if_pos (by decide +kernel)]; kernel_rfl) | (rw [if_neg (by decide +kernel)]; exact ⟨rfl, rfl⟩))
    (fun os started H enc _ => lifted os started H enc)

theorem proved : Rows.MindsSightSaid :=
  over
#print axioms proved
end Go.Proofs.Ytbploaihicakeaa.mindsSight
