/-
  For any whole number and any step the law FixRoots answers true: roots and distances are the document's, a root squared is at most the number and one more squared is above it; no condition.
-/
import Derived.Test.YtcpbcehekmegdaaRows
import Derived.WalkKit
import Derived.ProofKit
import Derived.OpenShut
import Derived.Test.YtcpbcehekmegdaaFixMore
namespace Go.Proofs.Ytcpbcehekmegdaa.fixRoots
open Go.ChangeShapes Go.WideShapes Go.ChangeAt Go.RowKit
set_option linter.unusedVariables false

theorem own : ownKnob Try.prog.godebug = none := by kernel_rfl

theorem root_bd (n r : Int) (hn : n ≤ 9223372036854775807) (h : Fx.isRoot n r) : r ≤ 3037000499 := by
  obtain ⟨h0, h1, h2⟩ := h
  apply Int.not_lt.1
  intro hc
  have := Int.mul_self_le_mul_self (a := 3037000500) (b := r) (by omega) (by omega)
  omega

theorem root_bd2 (n r : Int) (hn : n < 4611686018427387904) (h : Fx.isRoot n r) : (r + 1) * (r + 1) ≤ 4611686018427387904 := by
  obtain ⟨h0, h1, h2⟩ := h
  have hr : r + 1 ≤ 2147483648 := by
    apply Int.not_lt.1
    intro hc
    have := Int.mul_self_le_mul_self (a := 2147483648) (b := r) (by omega) (by omega)
    omega
  have := Int.mul_self_le_mul_self (a := r + 1) (b := 2147483648) (by omega) hr
  omega

theorem turn_sq (x y : Int) : -y * -y + x * x = x * x + y * y := by
  rw [Int.neg_mul_neg, Int.add_comm]


theorem walk (a0 : Int) (a1 : Int) (a2 : Int) (w0 : (Lit.int .i64 a0).wf = true) (w1 : (Lit.int .i64 a1).wf = true) (w2 : (Lit.int .i64 a2).wf = true) (w : World) :
    Calls Try.prog 5 #[.int .i64 a0, .int .i64 a1, .int .i64 a2] w fun e w' => e = .returned (.bool true) ∧ Grown w w' := by
  have hwf : -9223372036854775808 ≤ a0 ∧ a0 ≤ 9223372036854775807 := by
    have h := w0
    simp only [Lit.wf, Bool.and_eq_true, decide_eq_true_eq, show IntKind.i64.min = -9223372036854775808 from by decide, show IntKind.i64.max = 9223372036854775807 from by decide] at h
    exact h
  obtain ⟨hw1, hw2⟩ := hwf
  clear w0 w1 w2
  go_enter Try.func5, Try.ntmps5
  go_wp2_with fail
  refine (known_any _).mono ?_
  rintro e w1 ⟨rfl, rfl⟩
  go_wp2_with fail
  rcases (by omega : a0 < 0 ∨ (0 ≤ a0 ∧ a0 < 4611686018427387904) ∨ 4611686018427387904 ≤ a0) with hn | ⟨hn, hn2⟩ | hn
  · refine (root_neg _ _ hn).mono ?_
    rintro e w2 ⟨rfl, rfl⟩
    go_wp2_with fail
    refine (refRoot_neg _ _ hn hw1).mono ?_
    rintro e w3 ⟨rfl, rfl⟩
    go_wp2_with fail
    refine (within_ex _ _ _ (by omega) (by omega)).mono ?_
    rintro e w4 ⟨A, rfl, hA1, hA2, rfl⟩
    go_wp2_with fail
    refine (within_ex _ _ _ (by omega) (by omega)).mono ?_
    rintro e w5 ⟨B, rfl, hB1, hB2, rfl⟩
    go_wp2_with fail
    refine (dist_any _ _ _ (by omega) (by omega) (by omega) (by omega)).mono ?_
    rintro e w6 ⟨D, rfl, hD, rfl⟩
    go_wp2_with fail
    refine (refDist_any _ _ _ (by omega) (by omega) (by omega) (by omega)).mono ?_
    rintro e w7 ⟨E, rfl, hE, rfl⟩
    obtain rfl : E = D := Fx.root_one hE hD
    clear hE
    go_wp2_with fail
    refine (dist_any _ _ _ (by omega) (by omega) (by omega) (by omega)).mono ?_
    rintro e w8 ⟨F, rfl, hF, rfl⟩
    obtain rfl : F = E := Fx.root_one hF hD
    clear hF
    go_wp2_with fail
    refine (dist_any _ _ _ (by omega) (by omega) (by omega) (by omega)).mono ?_
    rintro e w9 ⟨G, rfl, hG, rfl⟩
    obtain rfl : G = F := Fx.root_one (by rw [turn_sq] at hG; exact hG) hD
    clear hG
    go_wp2
    go_ret
    exact ⟨rfl, Grown.refl _⟩
  · refine (root_any _ _ hn hw2).mono ?_
    rintro e w2 ⟨r, rfl, hr, rfl⟩
    have hb := root_bd a0 r hw2 hr
    have hb2 := root_bd2 a0 r hn2 hr
    have hr' : 0 ≤ r ∧ r * r ≤ a0 ∧ a0 < (r + 1) * (r + 1) := hr
    obtain ⟨r0, r1, r2⟩ := hr'
    have r3 := Int.mul_nonneg r0 r0
    have r4 : 0 ≤ (r + 1) * (r + 1) := by omega
    go_wp2_with fail
    refine (refRoot_any _ _ (by omega) hw2).mono ?_
    rintro e w3 ⟨s, rfl, hs, rfl⟩
    obtain rfl : s = r := Fx.root_one hs hr
    clear hs hr
    go_wp2_with fail
    refine (within_ex _ _ _ (by omega) (by omega)).mono ?_
    rintro e w4 ⟨A, rfl, hA1, hA2, rfl⟩
    go_wp2_with fail
    refine (within_ex _ _ _ (by omega) (by omega)).mono ?_
    rintro e w5 ⟨B, rfl, hB1, hB2, rfl⟩
    go_wp2_with fail
    refine (dist_any _ _ _ (by omega) (by omega) (by omega) (by omega)).mono ?_
    rintro e w6 ⟨D, rfl, hD, rfl⟩
    go_wp2_with fail
    refine (refDist_any _ _ _ (by omega) (by omega) (by omega) (by omega)).mono ?_
    rintro e w7 ⟨E, rfl, hE, rfl⟩
    obtain rfl : E = D := Fx.root_one hE hD
    clear hE
    go_wp2_with fail
    refine (dist_any _ _ _ (by omega) (by omega) (by omega) (by omega)).mono ?_
    rintro e w8 ⟨F, rfl, hF, rfl⟩
    obtain rfl : F = E := Fx.root_one hF hD
    clear hF
    go_wp2_with fail
    refine (dist_any _ _ _ (by omega) (by omega) (by omega) (by omega)).mono ?_
    rintro e w9 ⟨G, rfl, hG, rfl⟩
    obtain rfl : G = F := Fx.root_one (by rw [turn_sq] at hG; exact hG) hD
    clear hG
    go_wp2
    go_ret
    exact ⟨rfl, Grown.refl _⟩
  · refine (root_any _ _ (by omega) hw2).mono ?_
    rintro e w2 ⟨r, rfl, hr, rfl⟩
    have hb := root_bd a0 r hw2 hr
    have hr' : 0 ≤ r ∧ r * r ≤ a0 ∧ a0 < (r + 1) * (r + 1) := hr
    obtain ⟨r0, r1, r2⟩ := hr'
    go_wp2_with fail
    refine (refRoot_any _ _ (by omega) hw2).mono ?_
    rintro e w3 ⟨s, rfl, hs, rfl⟩
    obtain rfl : s = r := Fx.root_one hs hr
    clear hs hr r1 r2
    go_wp2_with fail
    refine (within_ex _ _ _ (by omega) (by omega)).mono ?_
    rintro e w4 ⟨A, rfl, hA1, hA2, rfl⟩
    go_wp2_with fail
    refine (within_ex _ _ _ (by omega) (by omega)).mono ?_
    rintro e w5 ⟨B, rfl, hB1, hB2, rfl⟩
    go_wp2_with fail
    refine (dist_any _ _ _ (by omega) (by omega) (by omega) (by omega)).mono ?_
    rintro e w6 ⟨D, rfl, hD, rfl⟩
    go_wp2_with fail
    refine (refDist_any _ _ _ (by omega) (by omega) (by omega) (by omega)).mono ?_
    rintro e w7 ⟨E, rfl, hE, rfl⟩
    obtain rfl : E = D := Fx.root_one hE hD
    clear hE
    go_wp2_with fail
    refine (dist_any _ _ _ (by omega) (by omega) (by omega) (by omega)).mono ?_
    rintro e w8 ⟨F, rfl, hF, rfl⟩
    obtain rfl : F = E := Fx.root_one hF hD
    clear hF
    go_wp2_with fail
    refine (dist_any _ _ _ (by omega) (by omega) (by omega) (by omega)).mono ?_
    rintro e w9 ⟨G, rfl, hG, rfl⟩
    obtain rfl : G = F := Fx.root_one (by rw [turn_sq] at hG; exact hG) hD
    clear hG
    go_wp2
    go_ret
    exact ⟨rfl, Grown.refl _⟩

set_option maxRecDepth 100000 in
theorem lifted (os : Os) (started : os.Started) (H : Type) (enc : TypeId × Value → H) :
    ReturnsInHanded {} Try.checked os 5 .any (Rows.fixRootsSpec.pre6 enc Try.prog Try.f5 Rows.fixRootsRow.domain false) (Rows.fixRootsSpec.post enc Try.prog Try.f5 false true false false) := by
  refine returnsInHanded_of_change (C := Try.checked) own started (by kernel_rfl) Try.func5
    (ChangeSpec.witness6 (enc := enc) (C := Try.checked) false ⟨#[], #[.int .i64 0, .int .i64 0, .int .i64 0], []⟩ 8 (by kernel_rfl) (by kernel_rfl) (by kernel_rfl) (by kernel_rfl)) ?_
  intro W base args ds gs before hval0 hW hcnd _
  have hval : ∀ (j : Nat) t v, Try.f5.params[j]? = some t → args[j]? = some v → Value.okWide Try.prog W .any base t v := hval0
  have hW' := hW
  obtain ⟨p, q, hA0, hV, rfl, hfz, hnd⟩ := hW
  have hA : DataW.TrodAll enc Try.prog W 0 (fun _ => true) true Try.f5.params.toList args.toList ds p := hA0
  rw [Try.params5] at hA hval
  obtain ⟨v0, vs0, d0, ds0, p0, q0, hargs, rfl, rfl, h0, r0⟩ := trodAll_cons hA
  obtain ⟨v1, vs1, d1, ds1, p1, q1, rfl, rfl, rfl, h1, r1⟩ := trodAll_cons r0
  obtain ⟨v2, vs2, d2, ds2, p2, q2, rfl, rfl, rfl, h2, r2⟩ := trodAll_cons r1
  obtain ⟨rfl, rfl, rfl⟩ := trodAll_nil r2
  obtain rfl : args = #[v0, v1, v2] := by cases args; simp_all
  obtain ⟨rfl, rfl⟩ := trodVars_none hV
  obtain ⟨a0, rfl, rfl, rfl, w0⟩ := open_int Try.underlying3 (hval 0 3 v0 rfl rfl) h0
  obtain ⟨a1, rfl, rfl, rfl, w1⟩ := open_int Try.underlying3 (hval 1 3 v1 rfl rfl) h1
  obtain ⟨a2, rfl, rfl, rfl, w2⟩ := open_int Try.underlying3 (hval 2 3 v2 rfl rfl) h2
  clear hA0 hval0
  simp only [List.append_nil] at hW'
  refine (walk a0 a1 a2 w0 w1 w2 W).mono fun e W' ⟨he, hg⟩ => ?_
  subst he
  exact ⟨_, rfl, post_of_same (pa := []) (pv := []) hW' (fun _ _ _ => (trodAll_cons_mk (shut_bool Try.underlying4 _) trodAll_mk0)) (fun sp _ => (trodAll_cons_mk (shut_int Try.underlying3 w0) (trodAll_cons_mk (shut_int Try.underlying3 w1) (trodAll_cons_mk (shut_int Try.underlying3 w2) trodAll_mk0)))) (fun _ _ => rfl) rfl
    (hg.frame _) hg.2.1 (ok_one (by kernel_rfl) rfl (okWide_bool_mk Try.underlying4 _))⟩

theorem over : Rows.fixRootsRow.holds Try.pinned (OpenSpec.ofChange Rows.fixRootsSpec) :=
  OpenClaim.holds_of_wide 5 Try.f5 rfl rfl rfl rfl rfl rfl rfl ⟨rfl, rfl, rfl, rfl, rfl⟩ rfl rfl rfl rfl rfl (by kernel_rfl) Try.func5 (by kernel_rfl)
    (of_decide_eq_true (by kernel_rfl)) (by unfold Func.isWrapper; first | (rw [if_pos (by decide +kernel)]; kernel_rfl) | (rw [if_neg (by decide +kernel)]; exact ⟨rfl, rfl⟩))
    (fun os started H enc _ => lifted os started H enc)

theorem proved : Rows.FixRootsSaid :=
  over
#print axioms proved
end Go.Proofs.Ytcpbcehekmegdaa.fixRoots
