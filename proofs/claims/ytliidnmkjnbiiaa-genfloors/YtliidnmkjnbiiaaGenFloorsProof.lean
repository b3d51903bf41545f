/-
  For any seed and any floor the law GenFloors answers true: each floor that there is is the document's own, made a second time; of any other there is none; no condition.
-/
import Derived.Test.YtliidnmkjnbiiaaRows
import Derived.WalkKit
import Derived.ProofKit
import Derived.OpenShut
import Derived.Test.YtliidnmkjnbiiaaGenSame
import Derived.Deep.LoopGhost
import Derived.Deep.RegionHeld3
import Derived.Below
import Derived.ChangeOld
import Derived.ShutString
namespace Go.Proofs.Ytliidnmkjnbiiaa.genFloors
open Go.ChangeShapes Go.WideShapes Go.ChangeAt Go.RowKit
open Go.ChangeMaps (open_string shut_string)
set_option linter.unusedVariables false

theorem own : ownKnob Try.prog.godebug = none := by kernel_rfl

set_option maxRecDepth 8000 in
set_option maxHeartbeats 8000000 in

theorem walk (a0 : Int) (a1 : Int) (w0 : (Lit.int .i64 a0).wf = true) (w1 : (Lit.int .i64 a1).wf = true) (w : World) :
    Calls Try.prog 3 #[.int .i64 a0, .int .i64 a1] w fun e w' => e = .returned (.bool true) ∧ Below w.heap.size w w' := by
  clear w0 w1
  go_enter Try.func3, Try.ntmps3
  go_wp2_with fail
  refine (known_any _).mono ?_
  rintro e wk ⟨rfl, hgk⟩
  go_wp2_with fail
  by_cases hf : a1 < 1 ∨ 3 < a1
  · refine (make_bad a0 a1 _ hf).mono ?_
    rintro e wa ⟨rfl, hga⟩
    have hfin := hide (grown_none hgk hga)
    clear hgk hga
    rcases hf with h | h
    · go_wp2
      go_ret
      exact ⟨rfl, grown_belowAll (grown_alloc (unhide hfin) _)⟩
    · have h1 : ¬ a1 < 1 := by omega
      go_wp2
      go_ret
      exact ⟨rfl, grown_belowAll (grown_alloc (unhide hfin) _)⟩
  · have hf1 : 1 ≤ a1 := by omega
    have hf3 : a1 ≤ 3 := by omega
    have hn1 : ¬ a1 < 1 := by omega
    have hn3 : ¬ 3 < a1 := by omega
    obtain ⟨d, hd, hF⟩ := dice_of a0 a1
    refine (make_any a0 a1 d hd hF hf1 hf3 _).mono ?_
    rintro e wa ⟨c, F, G, nE, nI, cE, cI, aE, aI, hlev, rfl, hG, hA, hnE, hnI, hE, hI, hga⟩
    obtain ⟨w3, hw3⟩ : ∃ w3, wa.alloc (.cells #[.slice (some ⟨G, 0, none⟩) 384 384, .slice aE nE cE, .slice aI nI cI] 27) = w3 := ⟨_, rfl⟩
    have hal : wa.grownBy w3 none := by rw [← hw3]; exact World.grownBy_alloc _ _ _
    have hA3 := hide (hA.grown hal (by simp))
    have hkw := hgk.size
    have hE3 := hide (owns_mono (owns_on hE hal) hkw)
    have hI3 := hide (owns_mono (owns_on hI hal) hkw)
    have hB3 : Hid (Arr w3 wa.heap.size 27 3 (fun j => #[Value.slice (some ⟨G, 0, none⟩) 384 384, .slice aE nE cE, .slice aI nI cI][j]?.getD undef)) := by
      rw [← hw3]
      exact Arr.lit (heap_alloc_new _ _)
    have hg3 := hide (grown_none (grown_none hgk hga) hal)
    have hlE : nE ≤ 100 := by
      rw [hnE]
      have := Gn.mons_len d a1 (a1 + 2).toNat 0 ((Gn.those (fun i => c i == 1) 384).filter (Gn.afar F))
      unfold Gn.ents
      omega
    have hlI : nI ≤ 100 := by
      rw [hnI]
      have := Gn.lie_len d 4 0 (Gn.those (fun i => c i == 1) 384)
      unfold Gn.items
      rw [List.length_append]
      split
      · simp; omega
      · unfold Gn.wares
        rw [List.length_map, List.length_range]
        omega
    have keep : Hid (∀ x, w3.grownBy x none → (x.cell? ⟨wa.heap.size, 0, none⟩ = some (.slice (some ⟨G, 0, none⟩) 384 384) ∧ x.cell? ⟨wa.heap.size, 1, none⟩ = some (.slice aE nE cE) ∧ x.cell? ⟨wa.heap.size, 2, none⟩ = some (.slice aI nI cI))) := fun x h =>
      ⟨((unhide hB3).grown h (by simp)).cell (by omega), ((unhide hB3).grown h (by simp)).cell (by omega), ((unhide hB3).grown h (by simp)).cell (by omega)⟩
    have hd3 : w3.grownBy w3.drew none := grown_drew1 (World.grownBy.refl _ none)
    have cref : Hid (Calls Try.prog 11 #[.int .i64 a0, .int .i64 a1] w3.drew (fun e w' => ∃ (G2 cE2 cI2 : Nat) (aE2 aI2 : Option Addr), e = .returned (.agg #[.slice (some ⟨G2, 0, none⟩) 384 384, .slice aE2 nE cE2, .slice aI2 nI cI2]) ∧ Hid (w3.grownBy w' none) ∧ Hid (Arr w' G2 5 384 (Byts c)) ∧ Hid (w'.ownsRow w.heap.size 42 11 (.slice aE2 nE cE2) nE (Gn.flat (Gn.ents d a1 c F))) ∧ Hid (w'.ownsRow w.heap.size 45 4 (.slice aI2 nI cI2) nI (Gn.flatI (Gn.items d c))))) :=
      (refMake_any a0 a1 d hd hF hf1 hf3 w3.drew).mono fun e w' h => by
        obtain ⟨c', F', G2, nE2, nI2, cE2, cI2, aE2, aI2, hlev2, he, hG2, hA2, hnE2, hnI2, hE2, hI2, hg2⟩ := h
        obtain ⟨rfl, rfl⟩ := hlev.one hlev2
        obtain rfl : nE2 = nE := by rw [hnE2, hnE]
        obtain rfl : nI2 = nI := by rw [hnI2, hnI]
        have hsz : w.heap.size ≤ w3.drew.heap.size := (unhide hg3).size
        exact ⟨G2, cE2, cI2, aE2, aI2, he, grown_none hd3 hg2, hA2, owns_mono hE2 hsz, owns_mono hI2 hsz⟩
    have csame : Hid (∀ x (G2 cE2 cI2 : Nat) (aE2 aI2 : Option Addr), Hid (w3.grownBy x none) → Hid (Arr x G2 5 384 (Byts c)) → Hid (x.ownsRow w.heap.size 42 11 (.slice aE2 nE cE2) nE (Gn.flat (Gn.ents d a1 c F))) → Hid (x.ownsRow w.heap.size 45 4 (.slice aI2 nI cI2) nI (Gn.flatI (Gn.items d c))) → Calls Try.prog 10 #[.agg #[.slice (some ⟨G, 0, none⟩) 384 384, .slice aE nE cE, .slice aI nI cI], .agg #[.slice (some ⟨G2, 0, none⟩) 384 384, .slice aE2 nE cE2, .slice aI2 nI cI2]] x (fun e w' => e = .returned (.bool true) ∧ Hid (w3.grownBy w' none))) := fun x G2 cE2 cI2 aE2 aI2 hg hA2 hE2 hI2 =>
      (same_any x c w.heap.size G G2 nE nI cE cE2 cI cI2 aE aE2 aI aI2 (Gn.ents d a1 c F) (Gn.items d c) ((unhide hA3).grown (unhide hg) (by simp)) (unhide hA2) hnE hnI hlE hlI (owns_on (unhide hE3) (unhide hg)) (unhide hE2) (owns_on (unhide hI3) (unhide hg)) (unhide hI2)).mono fun e w' ⟨he, hg'⟩ => ⟨he, grown_none (unhide hg) hg'⟩
    obtain ⟨b0, b1, b2⟩ := unhide keep w3.drew hd3
    clear hd hF hlev hA hnE hnI hE hI hga hgk hal hd3 hf hlE hlI
    go_upto_region 6 with fail
    clear hw3
    go_region_held3 (fun x => x.cell? ⟨wa.heap.size, 0, none⟩ = some (.slice (some ⟨G, 0, none⟩) 384 384) ∧ x.cell? ⟨wa.heap.size, 1, none⟩ = some (.slice aE nE cE) ∧ x.cell? ⟨wa.heap.size, 2, none⟩ = some (.slice aI nI cI)) (go_keep) (first | (go_at_call 11; refine (unhide cref).mono ?_; rintro e w4 ⟨G2, cE2, cI2, aE2, aI2, rfl, hg4, hA4, hE4, hI4⟩; obtain ⟨z1, z2, z3⟩ := unhide keep w4 (unhide hg4)) | (go_at_call 10; refine (unhide csame _ _ _ _ _ _ hg4 hA4 hE4 hI4).mono ?_; rintro e w5 ⟨rfl, hg5⟩; obtain ⟨z1, z2, z3⟩ := unhide keep w5 (unhide hg5)))
    have hfin := hide (grown_none (unhide hg3) (unhide hg5))
    clear cref csame keep
    go_wp2
    go_ret
    exact ⟨rfl, grown_belowAll (unhide hfin)⟩

set_option maxRecDepth 100000 in
theorem lifted (os : Os) (started : os.Started) (H : Type) (enc : TypeId × Value → H) :
    ReturnsInHanded {} Try.checked os 3 .any (Rows.genFloorsSpec.pre6 enc Try.prog Try.f3 Rows.genFloorsRow.domain false) (Rows.genFloorsSpec.post enc Try.prog Try.f3 false true false false) := by
  refine returnsInHanded_of_change (C := Try.checked) own started (by kernel_rfl) Try.func3
    (ChangeSpec.witness6 (enc := enc) (C := Try.checked) false ⟨#[], #[.int .i64 0, .int .i64 0], []⟩ 8 (by kernel_rfl) (by kernel_rfl) (by kernel_rfl) (by kernel_rfl)) ?_
  intro W base args ds gs before hval0 hW hcnd _
  have hval : ∀ (j : Nat) t v, Try.f3.params[j]? = some t → args[j]? = some v → Value.okWide Try.prog W .any base t v := hval0
  have hW' := hW
  obtain ⟨p, q, hA0, hV, rfl, hfz, hnd⟩ := hW
  have hA : DataW.TrodAll enc Try.prog W 0 (fun _ => true) true Try.f3.params.toList args.toList ds p := hA0
  rw [Try.params3] at hA hval
  obtain ⟨v0, vs0, d0, ds0, p0, q0, hargs, rfl, rfl, h0, r0⟩ := trodAll_cons hA
  obtain ⟨v1, vs1, d1, ds1, p1, q1, rfl, rfl, rfl, h1, r1⟩ := trodAll_cons r0
  obtain ⟨rfl, rfl, rfl⟩ := trodAll_nil r1
  obtain rfl : args = #[v0, v1] := by cases args; simp_all
  obtain ⟨rfl, rfl⟩ := trodVars_none hV
  obtain ⟨a0, rfl, rfl, rfl, w0⟩ := open_int Try.underlying2 (hval 0 2 v0 rfl rfl) h0
  obtain ⟨a1, rfl, rfl, rfl, w1⟩ := open_int Try.underlying3 (hval 1 3 v1 rfl rfl) h1
  clear hA0 hval0
  refine (walk a0 a1 w0 w1 W).mono fun e W' ⟨he, hg⟩ => ?_
  subst he
  exact ⟨_, rfl, _, _, _, [], _, [], hW', trodAll_mk1 (shut_bool Try.underlying4 _), (trodAll_cons_mk (shut_int Try.underlying2 w0) (trodAll_cons_mk (shut_int Try.underlying3 w1) trodAll_mk0)), rfl, hg.frame _, fun h => by cases h⟩

theorem over : Rows.genFloorsRow.holds Try.pinned (OpenSpec.ofChange Rows.genFloorsSpec) :=
  OpenClaim.holds_of_wide 3 Try.f3 rfl rfl rfl rfl rfl rfl rfl ⟨rfl, rfl, rfl, rfl, rfl⟩ rfl rfl rfl rfl rfl (by kernel_rfl) Try.func3 (by kernel_rfl)
    (of_decide_eq_true (by kernel_rfl)) (by unfold Func.isWrapper; first | (rw [if_pos (by decide +kernel)]; kernel_rfl) | (rw [if_neg (by decide +kernel)]; exact ⟨rfl, rfl⟩))
    (fun os started H enc _ => lifted os started H enc)

theorem proved : Rows.GenFloorsSaid :=
  over
#print axioms proved
end Go.Proofs.Ytliidnmkjnbiiaa.genFloors
