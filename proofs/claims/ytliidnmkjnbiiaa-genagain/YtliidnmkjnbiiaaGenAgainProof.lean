/-
  For any seed, floor and place the law GenAgain answers true: a floor is the same whenever it is made, and nobody else's; no condition.
-/
import Derived.Test.YtliidnmkjnbiiaaRows
import Derived.WalkKit
import Derived.ProofKit
import Derived.OpenShut
import Derived.Test.YtliidnmkjnbiiaaGenStr
import Derived.Below
import Derived.ChangeOld
import Derived.ShutString
namespace Go.Proofs.Ytliidnmkjnbiiaa.genAgain
open Go.ChangeShapes Go.WideShapes Go.ChangeAt Go.RowKit
open Go.ChangeMaps (open_string shut_string)
set_option linter.unusedVariables false

theorem own : ownKnob Try.prog.godebug = none := by kernel_rfl

set_option maxRecDepth 8000 in
set_option maxHeartbeats 4000000 in

theorem walk (a0 : Int) (a1 : Int) (a2 : Int) (w0 : (Lit.int .i64 a0).wf = true) (w1 : (Lit.int .i64 a1).wf = true) (w2 : (Lit.int .i64 a2).wf = true) (w : World) :
    Calls Try.prog 6 #[.int .i64 a0, .int .i64 a1, .int .i64 a2] w fun e w' => e = .returned (.bool true) ∧ Below w.heap.size w w' := by
  clear w0 w1 w2
  go_enter Try.func6, Try.ntmps6
  go_wp2_with fail
  refine (known_any _).mono ?_
  rintro e wk ⟨rfl, hgk⟩
  go_wp2_with fail
  refine (within_ex a1 3 _ (by omega) (by omega)).mono ?_
  rintro e w' ⟨m, rfl, hm1, hm2, hw⟩
  subst w'
  obtain ⟨f, hf⟩ : ∃ f, 1 + m = f := ⟨_, rfl⟩
  have hf1 : 1 ≤ f := by omega
  have hf3 : f ≤ 3 := by omega
  obtain ⟨d, hd, hF⟩ := dice_of a0 f
  have hmk := hide (fun w => make_any a0 f d hd hF hf1 hf3 w)
  clear hd hF
  go_wp2_with fail
  refine (unhide hmk _).mono ?_
  rintro e wa ⟨c, F, G, nE, nI, cE, cI, aE, aI, hlev, rfl, hG, hA, hnE, hnI, -, -, hga⟩
  have hlev' := hide hlev
  have hA1 := hide hA
  have hga1 := hide (grown_none hgk hga)
  have hnE' := hide hnE
  have hnI' := hide hnI
  have hGl := hA.lt
  have hkw := hgk.size
  clear hlev hA hga hnE hnI hgk
  go_wp2_with fail
  refine (within_ex a2 384 _ (by omega) (by omega)).mono ?_
  rintro e w' ⟨q, rfl, hq1, hq2, hw⟩
  subst w'
  obtain ⟨k, hk⟩ : ∃ k : Nat, q = (k : Int) := ⟨q.toNat, by omega⟩
  subst hk
  have hk3 : k < 384 := by omega
  obtain ⟨w2, hw2⟩ : ∃ w2, w2 = wa.alloc (.cells #[.slice (some ⟨G, 0, none⟩) 384 384, .slice aE nE cE, .slice aI nI cI] 27) := ⟨_, rfl⟩
  have hA2 : Hid (Arr w2 G 5 384 (Byts c)) := by rw [hw2]; exact (unhide hA1).alloc _
  have hB2 : Hid (Arr w2 wa.heap.size 27 3 (fun j => #[Value.slice (some ⟨G, 0, none⟩) 384 384, .slice aE nE cE, .slice aI nI cI][j]?.getD undef)) := by rw [hw2]; exact Arr.lit (heap_alloc_new _ _)
  have hg2 : Hid (w.grownBy w2 none) := by rw [hw2]; exact grown_alloc (unhide hga1) _
  rw [← hw2]
  obtain ⟨b0, b1, b2⟩ := (unhide hB2).three
  simp only [List.getElem?_toArray, List.getElem?_cons_zero, List.getElem?_cons_succ, Option.getD_some] at b0 b1 b2
  have q1 : w2.cell? ⟨G, k, none⟩ = some (.int .u8 (c k)) := (unhide hA2).cell hk3
  have q2 := (unhide hA2).free k
  clear hw2 hA1 hga1 b1 b2
  go_wp2_with fail
  obtain ⟨w3, hw3⟩ : ∃ w3, w3 = w2.setCell ⟨G, k, none⟩ (.int .u8 99) := ⟨_, rfl⟩
  have hA3 : Hid (Arr w3 G 5 384 (Byts (Gr.upd c k 99))) := by rw [hw3]; exact (unhide hA2).byte k 99
  have hB3 : Hid (Arr w3 wa.heap.size 27 3 (fun j => #[Value.slice (some ⟨G, 0, none⟩) 384 384, .slice aE nE cE, .slice aI nI cI][j]?.getD undef)) := by rw [hw3]; exact (unhide hB2).grown (grown_put _ _ _ _) (by simp; omega)
  have hkG : w.heap.size ≤ G := by omega
  have hg3 : Hid (w.grownBy w3 none) := by rw [hw3]; exact grown_own (unhide hg2) (grown_put _ _ _ _) (fun n e => by cases e; exact hkG)
  rw [← hw3]
  clear q1 q2 b0 hw3 hA2 hB2 hg2
  refine (unhide hmk _).mono ?_
  rintro e w4 ⟨c', F', G', nE', nI', cE', cI', aE', aI', hlev2, rfl, hG', hA4, hnE2, hnI2, -, -, hg4⟩
  obtain ⟨rfl, rfl⟩ := (unhide hlev').one hlev2
  obtain rfl : nE = nE' := by rw [unhide hnE', hnE2]
  obtain rfl : nI = nI' := by rw [unhide hnI', hnI2]
  have hG3 := (unhide hA3).lt
  have hb3 := (unhide hB3).lt
  obtain ⟨w5, hw5⟩ : ∃ w5, w5 = w4.alloc (.cells #[.slice (some ⟨G', 0, none⟩) 384 384, .slice aE' nE cE', .slice aI' nI cI'] 27) := ⟨_, rfl⟩
  have hA5 : Hid (Arr w5 G 5 384 (Byts (Gr.upd c k 99))) := by rw [hw5]; exact ((unhide hA3).grown hg4 (by simp)).alloc _
  have hB5 : Hid (Arr w5 wa.heap.size 27 3 (fun j => #[Value.slice (some ⟨G, 0, none⟩) 384 384, .slice aE nE cE, .slice aI nI cI][j]?.getD undef)) := by rw [hw5]; exact ((unhide hB3).grown hg4 (by simp)).alloc _
  have hA5' : Hid (Arr w5 G' 5 384 (Byts c)) := by rw [hw5]; exact hA4.alloc _
  have hB5' : Hid (Arr w5 w4.heap.size 27 3 (fun j => #[Value.slice (some ⟨G', 0, none⟩) 384 384, .slice aE' nE cE', .slice aI' nI cI'][j]?.getD undef)) := by rw [hw5]; exact Arr.lit (heap_alloc_new _ _)
  have hg5 : Hid (w.grownBy w5 none) := by rw [hw5]; exact grown_alloc (grown_none (unhide hg3) hg4) _
  have hs4 := hg4.size
  have hww : w4.alloc (.cells #[.slice (some ⟨G', 0, none⟩) 384 384, .slice aE' nE cE', .slice aI' nI cI'] 27) = w5 := hw5.symm
  obtain ⟨b0, b1, b2⟩ := (unhide hB5).three
  obtain ⟨d0, d1, d2⟩ := (unhide hB5').three
  simp only [List.getElem?_toArray, List.getElem?_cons_zero, List.getElem?_cons_succ, Option.getD_some] at b0 b1 b2 d0 d1 d2
  have q1 : w5.cell? ⟨G, k, none⟩ = some (.int .u8 99) := by
    have h := (unhide hA5).cell hk3
    rw [h]
    show some (Value.int .u8 (Gr.upd c k 99 k)) = _
    rw [Gr.upd_at]
  have q2 := (unhide hA5).free k
  have q3 : w5.cell? ⟨G', k, none⟩ = some (.int .u8 (c k)) := (unhide hA5').cell hk3
  obtain ⟨w6, hw6⟩ : ∃ w6, w5.setCell ⟨G, k, none⟩ (.int .u8 (c k)) = w6 := ⟨_, rfl⟩
  have hA6 : Arr w6 G 5 384 (Byts c) := by
    rw [← hw6]
    have h := (unhide hA5).byte k (c k)
    rw [upd_back] at h
    exact h
  have hA6' : Arr w6 G' 5 384 (Byts c) := by rw [← hw6]; exact (unhide hA5').grown (grown_put _ _ _ _) (by simp; omega)
  have t1 := hA6.text
  have t2 := hA6'.text
  have e0 : w6.cell? ⟨wa.heap.size, 0, none⟩ = some (.slice (some ⟨G, 0, none⟩) 384 384) := by
    have h : Arr w6 wa.heap.size 27 3 (fun j => #[Value.slice (some ⟨G, 0, none⟩) 384 384, .slice aE nE cE, .slice aI nI cI][j]?.getD undef) := by rw [← hw6]; exact (unhide hB5).grown (grown_put _ _ _ _) (by simp; omega)
    exact h.cell (by omega)
  have e1 : w6.cell? ⟨w4.heap.size, 0, none⟩ = some (.slice (some ⟨G', 0, none⟩) 384 384) := by
    have h : Arr w6 w4.heap.size 27 3 (fun j => #[Value.slice (some ⟨G', 0, none⟩) 384 384, .slice aE' nE cE', .slice aI' nI cI'][j]?.getD undef) := by rw [← hw6]; exact (unhide hB5').grown (grown_put _ _ _ _) (by simp; omega)
    exact h.cell (by omega)
  have hg6 : Hid (w.grownBy w6 none) := by rw [← hw6]; exact grown_own (unhide hg5) (grown_put _ _ _ _) (fun n e => by cases e; exact hkG)
  obtain ⟨S, hS⟩ : ∃ S, S = Gn.text c := ⟨_, rfl⟩
  rw [← hS] at t1 t2
  clear hS hA6 hA6' hw5 hA4 hg4 hlev2 hnE2 hnI2 hA3 hB3 hg3 hA5 hA5' hB5 hB5' hg5 hmk hnE' hnI' hlev'
  go_wp2
  go_ret
  exact ⟨rfl, grown_belowAll (unhide hg6)⟩

set_option maxRecDepth 100000 in
theorem lifted (os : Os) (started : os.Started) (H : Type) (enc : TypeId × Value → H) :
    ReturnsInHanded {} Try.checked os 6 .any (Rows.genAgainSpec.pre6 enc Try.prog Try.f6 Rows.genAgainRow.domain false) (Rows.genAgainSpec.post enc Try.prog Try.f6 false true false false) := by
  refine returnsInHanded_of_change (C := Try.checked) own started (by kernel_rfl) Try.func6
    (ChangeSpec.witness6 (enc := enc) (C := Try.checked) false ⟨#[], #[.int .i64 0, .int .i64 0, .int .i64 0], []⟩ 8 (by kernel_rfl) (by kernel_rfl) (by kernel_rfl) (by kernel_rfl)) ?_
  intro W base args ds gs before hval0 hW hcnd _
  have hval : ∀ (j : Nat) t v, Try.f6.params[j]? = some t → args[j]? = some v → Value.okWide Try.prog W .any base t v := hval0
  have hW' := hW
  obtain ⟨p, q, hA0, hV, rfl, hfz, hnd⟩ := hW
  have hA : DataW.TrodAll enc Try.prog W 0 (fun _ => true) true Try.f6.params.toList args.toList ds p := hA0
  rw [Try.params6] at hA hval
  obtain ⟨v0, vs0, d0, ds0, p0, q0, hargs, rfl, rfl, h0, r0⟩ := trodAll_cons hA
  obtain ⟨v1, vs1, d1, ds1, p1, q1, rfl, rfl, rfl, h1, r1⟩ := trodAll_cons r0
  obtain ⟨v2, vs2, d2, ds2, p2, q2, rfl, rfl, rfl, h2, r2⟩ := trodAll_cons r1
  obtain ⟨rfl, rfl, rfl⟩ := trodAll_nil r2
  obtain rfl : args = #[v0, v1, v2] := by cases args; simp_all
  obtain ⟨rfl, rfl⟩ := trodVars_none hV
  obtain ⟨a0, rfl, rfl, rfl, w0⟩ := open_int Try.underlying2 (hval 0 2 v0 rfl rfl) h0
  obtain ⟨a1, rfl, rfl, rfl, w1⟩ := open_int Try.underlying3 (hval 1 3 v1 rfl rfl) h1
  obtain ⟨a2, rfl, rfl, rfl, w2⟩ := open_int Try.underlying3 (hval 2 3 v2 rfl rfl) h2
  clear hA0 hval0
  refine (walk a0 a1 a2 w0 w1 w2 W).mono fun e W' ⟨he, hg⟩ => ?_
  subst he
  exact ⟨_, rfl, _, _, _, [], _, [], hW', trodAll_mk1 (shut_bool Try.underlying4 _), (trodAll_cons_mk (shut_int Try.underlying2 w0) (trodAll_cons_mk (shut_int Try.underlying3 w1) (trodAll_cons_mk (shut_int Try.underlying3 w2) trodAll_mk0))), rfl, hg.frame _, fun h => by cases h⟩

theorem over : Rows.genAgainRow.holds Try.pinned (OpenSpec.ofChange Rows.genAgainSpec) :=
  OpenClaim.holds_of_wide 6 Try.f6 rfl rfl rfl rfl rfl rfl rfl ⟨rfl, rfl, rfl, rfl, rfl⟩ rfl rfl rfl rfl rfl (by kernel_rfl) Try.func6 (by kernel_rfl)
    (of_decide_eq_true (by kernel_rfl)) (by unfold Func.isWrapper; first | (rw [if_pos (by decide +kernel)]; kernel_rfl) | (rw [if_neg (by decide +kernel)]; exact ⟨rfl, rfl⟩))
    (fun os started H enc _ => lifted os started H enc)

theorem proved : Rows.GenAgainSaid :=
  over
#print axioms proved
end Go.Proofs.Ytliidnmkjnbiiaa.genAgain
