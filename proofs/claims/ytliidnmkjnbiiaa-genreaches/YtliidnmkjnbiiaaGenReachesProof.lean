/-
  For any seed and floor the law GenReaches answers true: every cell that can be walked on is reached from the up stair; there is one of each stair, one shop at most, five doors at most, walls all about; no condition.
-/
import Derived.Test.YtliidnmkjnbiiaaRows
import Derived.WalkKit
import Derived.ProofKit
import Derived.OpenShut
import Derived.Test.YtliidnmkjnbiiaaGenFld
import Derived.Deep.LoopGhost
import Derived.Deep.RegionHeld3
import Derived.Below
import Derived.ChangeOld
import Derived.ShutString
namespace Go.Proofs.Ytliidnmkjnbiiaa.genReaches
open Go.ChangeShapes Go.WideShapes Go.ChangeAt Go.RowKit
open Go.ChangeMaps (open_string shut_string)
set_option linter.unusedVariables false

theorem own : ownKnob Try.prog.godebug = none := by kernel_rfl

theorem many_up {c : Nat → Int} {k cv : Nat} (hc : c k = (cv : Int)) (j : Nat) : (if j = cv then Value.int .i64 (((Gn.many c (cv : Int) k : Nat) : Int) + 1) else .int .i64 ((Gn.many c (j : Int) k : Nat) : Int)) = .int .i64 ((Gn.many c (j : Int) (k + 1) : Nat) : Int) := by
  rw [Gn.many]
  by_cases e : j = cv
  · rw [if_pos e, e, if_pos hc]
    rfl
  · rw [if_neg e, if_neg (by omega)]
    rfl

theorem many_bd (c : Nat → Int) (v : Int) : ∀ n, Gn.many c v n ≤ n
  | 0 => Nat.le_refl _
  | n + 1 => by
    have := many_bd c v n
    rw [Gn.many]
    split <;> omega

set_option maxRecDepth 8000 in
set_option maxHeartbeats 4000000 in

theorem walk (a0 : Int) (a1 : Int) (w0 : (Lit.int .i64 a0).wf = true) (w1 : (Lit.int .i64 a1).wf = true) (w : World) :
    Calls Try.prog 4 #[.int .i64 a0, .int .i64 a1] w fun e w' => e = .returned (.bool true) ∧ Below w.heap.size w w' := by
  clear w0 w1
  go_enter Try.func4, Try.ntmps4
  go_wp2_with fail
  refine (known_any _).mono ?_
  rintro e wk ⟨rfl, hgk⟩
  go_wp2_with fail
  refine (within_ex a1 3 _ (by omega) (by omega)).mono ?_
  rintro e w' ⟨m, rfl, hm1, hm2, hw⟩
  subst w'
  obtain ⟨f, hf⟩ : ∃ f, 1 + m = f := ⟨_, rfl⟩
  have hf1 : 1 ≤ f := by omega
  have hf3 : f ≤ 3 := by omega
  obtain ⟨d, hd, hF⟩ := dice_of a0 f
  have hmk := hide (fun w => make_any a0 f d hd hF hf1 hf3 w)
  have hF' := hide hF
  clear hd hF
  go_wp2_with fail
  refine (unhide hmk _).mono ?_
  rintro e wa ⟨c, F, G, nE, nI, cE, cI, aE, aI, hlev, rfl, hG, hA, -, -, -, -, hga⟩
  obtain ⟨far, hfx⟩ := hlev.facts (unhide hF')
  have hfx' := hide hfx
  have h5 := hide hlev.five
  have hGl := hA.lt
  obtain ⟨w2, hw2⟩ : ∃ w2, wa.alloc (.cells #[.slice (some ⟨G, 0, none⟩) 384 384, .slice aE nE cE, .slice aI nI cI] 27) = w2 := ⟨_, rfl⟩
  have hH2 : Hid (LevHold w wa.heap.size G nE nI cE cI aE aI c w2) := by
    rw [← hw2]
    exact ⟨Arr.lit (heap_alloc_new _ _), hA.alloc _, grown_alloc (grown_none hgk hga) _⟩
  have b0 := (unhide hH2).c0
  have f3 := hide (Gn.find_at hfx.upl hfx.is3)
  have f4 := hide (Gn.find_at hfx.farl hfx.is4)
  have hfl := hfx.farl
  have cfld := hide (levField (unhide hH2) hfx w2.heap.size rfl)
  obtain ⟨u, hu⟩ : ∃ u, u = Gn.up d := ⟨_, rfl⟩
  rw [← hu] at f3 cfld
  have cfind : Hid (Calls Try.prog 14 #[.slice (some ⟨G, 0, none⟩) 384 384, .int .i64 3] w2.drew fun e w' => e = .returned (.int .i64 (u : Int)) ∧ w' = w2.drew) :=
    ((unhide hH2).cells.grown (grown_drew1 (World.grownBy.refl w2 none)) (by simp)).refFind (unhide h5) 3 (u : Int) (unhide f3)
  have hbl := (unhide hH2).box.lt
  clear hlev hA hga hgk hmk hfx hu
  go_wp2_with fail
  clear hw2
  go_region_held3 (fun x => x.cell? ⟨wa.heap.size, 0, none⟩ = some (.slice (some ⟨G, 0, none⟩) 384 384)) (go_keep) (first | (go_at_call 14; refine (unhide cfind).mono ?_; rintro e w' ⟨rfl, hw⟩; subst w') | (go_at_call 13; refine (unhide cfld).mono ?_; rintro e w5 ⟨gF, rfl, hgF, hH5, hAF5, hg5⟩; have z0 := hH5.c0))
  have hH5' := hide hH5
  have hAF5' := hide hAF5
  clear hH5 hAF5 hg5 z0 cfld cfind b0 f3 hH2
  have hb5 := (unhide hH5').box.lt
  have hG5 := (unhide hH5').cells.lt
  have hF5 := (unhide hAF5').lt
  have hlw : w.heap.size ≤ w5.heap.size := (unhide hH5').grown.size
  go_wp2_with fail
  go_loopw [9] (fun vi wr => ∃ k : Nat, k ≤ 384 ∧ vi = .int .i64 (k : Int) ∧ LevHold w wa.heap.size G nE nI cE cI aE aI c wr ∧ Arr wr gF 3 384 (Ints F) ∧ Arr wr w5.heap.size 39 6 (fun j => .int .i64 ((Gn.many c (j : Int) k : Nat) : Int))) (fun vi _ => 400 - (intOf vi).toNat)
  case atStart =>
    refine ⟨0, by omega, rfl, (unhide hH5').on (World.grownBy_alloc _ _ _), (unhide hAF5').alloc _, ⟨_, heap_alloc_new _ _, rfl, fun j hj => ?_⟩⟩
    rcases (show j = 0 ∨ j = 1 ∨ j = 2 ∨ j = 3 ∨ j = 4 ∨ j = 5 by omega) with rfl | rfl | rfl | rfl | rfl | rfl <;> rfl
  case round =>
    clear hH5' hAF5'
    obtain ⟨k, hk, rfl, hH, hAF, hM⟩ := hrel
    have hH1 := hide hH
    have hAF1 := hide hAF
    have hM1 := hide hM
    have b0 := hH.c0
    clear hH hAF hM
    by_cases hlt : k < 384
    · have hlt' : (k : Int) < 384 := by omega
      obtain ⟨cv, hcv⟩ : ∃ cv : Nat, c k = (cv : Int) := ⟨(c k).toNat, by have := unhide h5 k; omega⟩
      have q1 : wr.cell? ⟨G, k, none⟩ = some (.int .u8 (cv : Int)) := by rw [(unhide hH1).cells.cell hlt]; show some (Value.int .u8 (c k)) = _; rw [hcv]
      have q2 : wr.cell? ⟨gF, k, none⟩ = some (.int .i64 (F k)) := (unhide hAF1).cell hlt
      have hcv5 : cv ≤ 5 := by have := unhide h5 k; omega
      have hc5' : (cv : Int) ≤ 5 := by omega
      have hreach := (unhide hfx').reach (unhide hF') k hlt
      have hin : Hid (cv ≠ 0 → 1 ≤ k % 24 ∧ k % 24 ≤ 22 ∧ 1 ≤ k / 24 ∧ k / 24 ≤ 14) := fun h => Gn.dug_in (unhide hF') k (((unhide hfx').nz k).1 (by omega))
      obtain ⟨bb, hbb⟩ : ∃ bb, Gr.walkB (cv : Int) = bb := ⟨_, rfl⟩
      have hFk : decide (0 ≤ F k) = bb := by
        rw [← hbb, Bool.eq_iff_iff, decide_eq_true_eq, hreach, Gr.walkB_iff, hcv]
        omega
      have hwk : ∀ w', Calls Try.prog 15 #[.int .i64 (cv : Int)] w' fun e w'' => e = .returned (.bool bb) ∧ w'' = w' := fun w' => by rw [← hbb]; exact refWalk_any _ w'
      have hgt : decide ((5 : Int) < (cv : Int)) = false := by simp; omega
      have hcv' := hide hcv
      have HL := hide hlt
      clear hreach hbb hcv hlt hk
      go_wp2_with fail
      go_quiet ((go_at_call 15; exact Calls.quiet_of_same (hwk _)))
      obtain ⟨wq, hwq⟩ : ∃ wq, wr.drewN nq = wq := ⟨_, rfl⟩
      rw [hwq]
      have hgq : wr.grownBy wq none := by rw [← hwq]; exact grown_drew (World.grownBy.refl wr none) nq
      have hHq := hide ((unhide hH1).on hgq)
      have hAFq := hide ((unhide hAF1).grown hgq (by simp))
      have hMq := hide ((unhide hM1).grown hgq (by simp))
      have b1 := (unhide hHq).c0
      have q1 : wq.cell? ⟨G, k, none⟩ = some (.int .u8 (cv : Int)) := by rw [(unhide hHq).cells.cell (unhide HL)]; show some (Value.int .u8 (c k)) = _; rw [unhide hcv']
      have q3 : wq.cell? ⟨w5.heap.size, cv, none⟩ = some (.int .i64 ((Gn.many c (cv : Int) k : Nat) : Int)) := (unhide hMq).cell (by omega)
      have q4 := (unhide hMq).free cv
      have hmb := many_bd c (cv : Int) k
      have hM2 := hide (((unhide hMq).store cv (.int .i64 (((Gn.many c (cv : Int) k : Nat) : Int) + 1))).congr (G := fun j => .int .i64 ((Gn.many c (j : Int) (k + 1) : Nat) : Int)) fun j _ => many_up (unhide hcv') j)
      have hH2 : Hid (LevHold w wa.heap.size G nE nI cE cI aE aI c (wq.setCell ⟨w5.heap.size, cv, none⟩ (.int .i64 (((Gn.many c (cv : Int) k : Nat) : Int) + 1)))) :=
        ⟨(unhide hHq).box.grown (grown_put _ _ _ _) (by simp; omega), (unhide hHq).cells.grown (grown_put _ _ _ _) (by simp; omega), grown_own (unhide hHq).grown (grown_put _ _ _ _) (fun n e => by cases e; exact hlw)⟩
      have hAF2 := hide ((unhide hAFq).grown (grown_put wq w5.heap.size cv (.int .i64 (((Gn.many c (cv : Int) k : Nat) : Int) + 1))) (by simp; omega))
      obtain ⟨w6, hw6⟩ : ∃ w6, wq.setCell ⟨w5.heap.size, cv, none⟩ (.int .i64 (((Gn.many c (cv : Int) k : Nat) : Int) + 1)) = w6 := ⟨_, rfl⟩
      rw [hw6] at hM2 hH2 hAF2
      have b2 := (unhide hH2).c0
      have q5 : w6.cell? ⟨G, k, none⟩ = some (.int .u8 (cv : Int)) := by rw [(unhide hH2).cells.cell (unhide HL)]; show some (Value.int .u8 (c k)) = _; rw [unhide hcv']
      obtain ⟨MM, hMM⟩ : ∃ MM, MM = Gn.many c (cv : Int) k := ⟨_, rfl⟩
      rw [← hMM] at q3 hmb hw6
      have hmb' : (MM : Int) ≤ 384 := by omega
      have hcv6 : (cv : Int) < 6 := by omega
      clear hMM hM1 hH1 hAF1 hHq hAFq hMq hgq hwq hwk hFk hgt
      by_cases hz : cv = 0
      · have hz' : ((cv : Int) != 0) = false := by simp [hz]
        clear hz
        go_wp2
        all_goals
          go_roundw
          case rel => exact ⟨k + 1, by have := unhide HL; omega, by go_num, unhide hH2, unhide hAF2, unhide hM2⟩
          case measure => simp [intOf]; omega
      · obtain ⟨i1, i2, i3, i4⟩ := unhide hin hz
        have g1 : ((k : Int) % 24 == 0) = false := by rw [beq_eq_false_iff_ne]; omega
        have g2 : ((k : Int) / 24 == 0) = false := by rw [beq_eq_false_iff_ne]; omega
        have g3 : ((k : Int) % 24 == 23) = false := by rw [beq_eq_false_iff_ne]; omega
        have g4 : ((k : Int) / 24 == 15) = false := by rw [beq_eq_false_iff_ne]; omega
        clear i1 i2 i3 i4 hz
        go_wp2
        all_goals
          go_roundw
          case rel => exact ⟨k + 1, by have := unhide HL; omega, by go_num, unhide hH2, unhide hAF2, unhide hM2⟩
          case measure => simp [intOf]; omega
    · have hge : ¬ (k : Int) < 384 := by omega
      obtain rfl : k = 384 := by omega
      have m3 : Gn.many c 3 384 = 1 := by rw [Gn.many_one c 3 (Gn.up d) 384 (fun i _ => (unhide hfx').is3 i), if_pos (unhide hfx').upl]
      have m4 : Gn.many c 4 384 = 1 := by rw [Gn.many_one c 4 far 384 (fun i _ => (unhide hfx').is4 i), if_pos hfl]
      have m5 : Gn.many c 5 384 ≤ 1 := by
        rcases (unhide hfx').five1 with h | ⟨q, hq, h⟩
        · rw [Gn.many_none c 5 384 (fun i _ => h i)]; omega
        · rw [Gn.many_one c 5 q 384 (fun i _ => h i)]; split <;> omega
      have m2 : Gn.many c 2 384 ≤ 5 := Nat.le_trans (Gn.many_le 384 (fun i _ => (unhide hfx').door i)) (Gn.dug_doors d 384 5)
      have z2 := (unhide hM1).cell (i := 2) (by omega)
      have z3 := (unhide hM1).cell (i := 3) (by omega)
      have z4 := (unhide hM1).cell (i := 4) (by omega)
      have z5 := (unhide hM1).cell (i := 5) (by omega)
      obtain ⟨M2, hM2⟩ : ∃ x : Nat, x = Gn.many c 2 384 := ⟨_, rfl⟩
      obtain ⟨M5, hM5⟩ : ∃ x : Nat, x = Gn.many c 5 384 := ⟨_, rfl⟩
      have z2' : wr.cell? ⟨w5.heap.size, 2, none⟩ = some (.int .i64 (M2 : Int)) := by rw [hM2]; exact z2
      have z5' : wr.cell? ⟨w5.heap.size, 5, none⟩ = some (.int .i64 (M5 : Int)) := by rw [hM5]; exact z5
      have z3' : wr.cell? ⟨w5.heap.size, 3, none⟩ = some (.int .i64 1) := by
        have h := z3
        rw [show ((3 : Nat) : Int) = 3 from rfl, m3] at h
        exact h
      have z4' : wr.cell? ⟨w5.heap.size, 4, none⟩ = some (.int .i64 1) := by
        have h := z4
        rw [show ((4 : Nat) : Int) = 4 from rfl, m4] at h
        exact h
      have g2 : (M2 : Int) ≤ 5 := by omega
      have g5 : (M5 : Int) ≤ 1 := by omega
      have q2 : wr.cell? ⟨gF, far, none⟩ = some (.int .i64 (F far)) := (unhide hAF1).cell hfl
      have hfl' : (far : Int) < 384 := by omega
      have hpos := (unhide hfx').pos
      have cf4 := (unhide hH1).cells.refFind (unhide h5) 4 (far : Int) (unhide f4)
      clear z2 z3 z4 z5 hM2 hM5 m2 m3 m4 m5 hlt hk
      go_wp2_with (go_at_call 14; refine cf4.mono ?_; rintro e w' ⟨rfl, hw⟩; subst w')
      go_ret
      exact ⟨rfl, grown_belowAll (unhide hH1).grown⟩

set_option maxRecDepth 100000 in
theorem lifted (os : Os) (started : os.Started) (H : Type) (enc : TypeId × Value → H) :
    ReturnsInHanded {} Try.checked os 4 .any (Rows.genReachesSpec.pre6 enc Try.prog Try.f4 Rows.genReachesRow.domain false) (Rows.genReachesSpec.post enc Try.prog Try.f4 false true false false) := by
  refine returnsInHanded_of_change (C := Try.checked) own started (by kernel_rfl) Try.func4
    (ChangeSpec.witness6 (enc := enc) (C := Try.checked) false ⟨#[], #[.int .i64 0, .int .i64 0], []⟩ 8 (by kernel_rfl) (by kernel_rfl) (by kernel_rfl) (by kernel_rfl)) ?_
  intro W base args ds gs before hval0 hW hcnd _
  have hval : ∀ (j : Nat) t v, Try.f4.params[j]? = some t → args[j]? = some v → Value.okWide Try.prog W .any base t v := hval0
  have hW' := hW
  obtain ⟨p, q, hA0, hV, rfl, hfz, hnd⟩ := hW
  have hA : DataW.TrodAll enc Try.prog W 0 (fun _ => true) true Try.f4.params.toList args.toList ds p := hA0
  rw [Try.params4] at hA hval
  obtain ⟨v0, vs0, d0, ds0, p0, q0, hargs, rfl, rfl, h0, r0⟩ := trodAll_cons hA
  obtain ⟨v1, vs1, d1, ds1, p1, q1, rfl, rfl, rfl, h1, r1⟩ := trodAll_cons r0
  obtain ⟨rfl, rfl, rfl⟩ := trodAll_nil r1
  obtain rfl : args = #[v0, v1] := by cases args; simp_all
  obtain ⟨rfl, rfl⟩ := trodVars_none hV
  obtain ⟨a0, rfl, rfl, rfl, w0⟩ := open_int Try.underlying2 (hval 0 2 v0 rfl rfl) h0
  obtain ⟨a1, rfl, rfl, rfl, w1⟩ := open_int Try.underlying3 (hval 1 3 v1 rfl rfl) h1
  clear hA0 hval0
  refine (walk a0 a1 w0 w1 W).mono fun e W' ⟨he, hg⟩ => ?_
  subst he
  exact ⟨_, rfl, _, _, _, [], _, [], hW', trodAll_mk1 (shut_bool Try.underlying4 _), (trodAll_cons_mk (shut_int Try.underlying2 w0) (trodAll_cons_mk (shut_int Try.underlying3 w1) trodAll_mk0)), rfl, hg.frame _, fun h => by cases h⟩

theorem over : Rows.genReachesRow.holds Try.pinned (OpenSpec.ofChange Rows.genReachesSpec) :=
  OpenClaim.holds_of_wide 4 Try.f4 rfl rfl rfl rfl rfl rfl rfl ⟨rfl, rfl, rfl, rfl, rfl⟩ rfl rfl rfl rfl rfl (by kernel_rfl) Try.func4 (by kernel_rfl)
    (of_decide_eq_true (by kernel_rfl)) (by unfold Func.isWrapper; first | (rw [if_pos (by decide +kernel)]; kernel_rfl) | (rw [if_neg (by decide +kernel)]; exact ⟨rfl, rfl⟩))
    (fun os started H enc _ => lifted os started H enc)

theorem proved : Rows.GenReachesSaid :=
  over
#print axioms proved
end Go.Proofs.Ytliidnmkjnbiiaa.genReaches
