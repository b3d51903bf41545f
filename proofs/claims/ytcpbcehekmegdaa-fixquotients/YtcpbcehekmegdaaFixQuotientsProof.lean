/-
  For any two whole numbers the law FixQuotients answers true: a quotient times its divisor is the dividend or a little less; no condition.
-/
import Derived.Test.YtcpbcehekmegdaaRows
import Derived.WalkKit
import Derived.ProofKit
import Derived.OpenShut
import Derived.Test.YtcpbcehekmegdaaFixMore
namespace Go.Proofs.Ytcpbcehekmegdaa.fixQuotients
open Go.ChangeShapes Go.WideShapes Go.ChangeAt Go.RowKit
set_option linter.unusedVariables false

theorem own : ownKnob Try.prog.godebug = none := by kernel_rfl

theorem quo_facts (A B : Int) (hA1 : 0 ≤ A) (hA2 : A < 1073741824) (hB1 : 1 ≤ B) (hB2 : B ≤ 1073741824) :
    0 ≤ (A * 65536).fdiv B ∧ (A * 65536).fdiv B ≤ 70368744177664 ∧ 0 ≤ (A * 65536).fdiv B * B ∧ (A * 65536).fdiv B * B ≤ A * 65536 ∧ A * 65536 < ((A * 65536).fdiv B + 1) * B ∧ ((A * 65536).fdiv B + 1) * B ≤ 140737488355328 := by
  rw [Fx.fdiv_pos _ _ (by omega)]
  have e := Int.mul_ediv_add_emod (A * 65536) B
  have m1 := Int.emod_nonneg (A * 65536) (b := B) (by omega)
  have m2 := Int.emod_lt_of_pos (A * 65536) (b := B) (by omega)
  have q0 : 0 ≤ A * 65536 / B := Int.ediv_nonneg (by omega) (by omega)
  have q1 : A * 65536 / B ≤ A * 65536 := Int.ediv_le_self _ (by omega)
  rw [Int.mul_comm B] at e
  rw [Int.add_mul, Int.one_mul]
  have z := Int.mul_nonneg q0 (show 0 ≤ B by omega)
  omega


theorem walk (a0 : Int) (a1 : Int) (w0 : (Lit.int .i64 a0).wf = true) (w1 : (Lit.int .i64 a1).wf = true) (w : World) :
    Calls Try.prog 8 #[.int .i64 a0, .int .i64 a1] w fun e w' => e = .returned (.bool true) ∧ Grown w w' := by
  go_enter Try.func8, Try.ntmps8
  go_wp2_with fail
  refine (known_any _).mono ?_
  rintro e w1 ⟨rfl, rfl⟩
  go_wp2_with fail
  refine (within_ex _ _ _ (by omega) (by omega)).mono ?_
  rintro e w2 ⟨A, rfl, hA1, hA2, rfl⟩
  go_wp2_with fail
  refine (within_ex _ _ _ (by omega) (by omega)).mono ?_
  rintro e w3 ⟨B, rfl, hB1, hB2, rfl⟩
  obtain ⟨q1, q2, q3, q4, q5, q6⟩ := quo_facts A (1 + B) hA1 hA2 (by omega) (by omega)
  go_wp2_with fail
  refine (div_any _ _ _ (by omega) (by omega) (by omega)).mono ?_
  rintro e w4 ⟨rfl, rfl⟩
  generalize (A * 65536).fdiv (1 + B) = Q at *
  go_wp2
  go_ret
  exact ⟨rfl, Grown.refl _⟩

set_option maxRecDepth 100000 in
theorem lifted (os : Os) (started : os.Started) (H : Type) (enc : TypeId × Value → H) :
    ReturnsInHanded {} Try.checked os 8 .any (Rows.fixQuotientsSpec.pre6 enc Try.prog Try.f8 Rows.fixQuotientsRow.domain false) (Rows.fixQuotientsSpec.post enc Try.prog Try.f8 false true false false) := by
  refine returnsInHanded_of_change (C := Try.checked) own started (by kernel_rfl) Try.func8
    (ChangeSpec.witness6 (enc := enc) (C := Try.checked) false ⟨#[], #[.int .i64 0, .int .i64 0], []⟩ 8 (by kernel_rfl) (by kernel_rfl) (by kernel_rfl) (by kernel_rfl)) ?_
  intro W base args ds gs before hval0 hW hcnd _
  have hval : ∀ (j : Nat) t v, Try.f8.params[j]? = some t → args[j]? = some v → Value.okWide Try.prog W .any base t v := hval0
  have hW' := hW
  obtain ⟨p, q, hA0, hV, rfl, hfz, hnd⟩ := hW
  have hA : DataW.TrodAll enc Try.prog W 0 (fun _ => true) true Try.f8.params.toList args.toList ds p := hA0
  rw [Try.params8] at hA hval
  obtain ⟨v0, vs0, d0, ds0, p0, q0, hargs, rfl, rfl, h0, r0⟩ := trodAll_cons hA
  obtain ⟨v1, vs1, d1, ds1, p1, q1, rfl, rfl, rfl, h1, r1⟩ := trodAll_cons r0
  obtain ⟨rfl, rfl, rfl⟩ := trodAll_nil r1
  obtain rfl : args = #[v0, v1] := by cases args; simp_all
  obtain ⟨rfl, rfl⟩ := trodVars_none hV
  obtain ⟨a0, rfl, rfl, rfl, w0⟩ := open_int Try.underlying3 (hval 0 3 v0 rfl rfl) h0
  obtain ⟨a1, rfl, rfl, rfl, w1⟩ := open_int Try.underlying3 (hval 1 3 v1 rfl rfl) h1
  clear hA0 hval0
  simp only [List.append_nil] at hW'
  refine (walk a0 a1 w0 w1 W).mono fun e W' ⟨he, hg⟩ => ?_
  subst he
  exact ⟨_, rfl, post_of_same (pa := []) (pv := []) hW' (fun _ _ _ => (trodAll_cons_mk (shut_bool Try.underlying4 _) trodAll_mk0)) (fun sp _ => (trodAll_cons_mk (shut_int Try.underlying3 w0) (trodAll_cons_mk (shut_int Try.underlying3 w1) trodAll_mk0))) (fun _ _ => rfl) rfl
    (hg.frame _) hg.2.1 (ok_one (by kernel_rfl) rfl (okWide_bool_mk Try.underlying4 _))⟩

theorem over : Rows.fixQuotientsRow.holds Try.pinned (OpenSpec.ofChange Rows.fixQuotientsSpec) :=
  OpenClaim.holds_of_wide 8 Try.f8 rfl rfl rfl rfl rfl rfl rfl ⟨rfl, rfl, rfl, rfl, rfl⟩ rfl rfl rfl rfl rfl (by kernel_rfl) Try.func8 (by kernel_rfl)
    (of_decide_eq_true (by kernel_rfl)) (by unfold Func.isWrapper; first | (rw [if_pos (by decide +kernel)]; kernel_rfl) | (rw [if_neg (by decide +kernel)]; exact ⟨rfl, rfl⟩))
    (fun os started H enc _ => lifted os started H enc)

theorem proved : Rows.FixQuotientsSaid :=
  over
#print axioms proved
end Go.Proofs.Ytcpbcehekmegdaa.fixQuotients
