/-
  For any whole number the law FixSquares answers true: the root of a square is what was squared, of one less one less, and a step along a row is 256 parts a cell; no condition.
-/
import Derived.Test.YtcpbcehekmegdabRows
import Derived.WalkKit
import Derived.ProofKit
import Derived.OpenShut
import Derived.Test.YtcpbcehekmegdabFixMore
namespace Go.Proofs.Ytcpbcehekmegdab.fixSquares
open Go.ChangeShapes Go.WideShapes Go.ChangeAt Go.RowKit
set_option linter.unusedVariables false

theorem own : ownKnob Try.prog.godebug = none := by kernel_rfl

theorem sq_root (n : Int) (h : 0 ≤ n) : Fx.isRoot (n * n) n := by
  refine ⟨h, Int.le_refl _, ?_⟩
  have e : (n + 1) * (n + 1) = n * n + n + n + 1 := by rw [Int.add_mul, Int.mul_add]; omega
  omega

theorem sq_less (n : Int) (h : 1 ≤ n) : Fx.isRoot (n * n - 1) (n - 1) := by
  have e : (n - 1) * (n - 1) = n * n - n - n + 1 := by rw [Int.sub_mul, Int.mul_sub]; omega
  refine ⟨by omega, by rw [e]; omega, ?_⟩
  rw [show n - 1 + 1 = n from by omega]
  omega

theorem dist_row (k : Int) (h : 0 ≤ k) : Fx.isRoot ((k * k + 0 * 0) * 65536) (256 * k) := by
  have e : (256 * k) * (256 * k) = k * k * 65536 := by
    rw [show (65536 : Int) = 256 * 256 from by decide]; ac_rfl
  have e2 : (256 * k + 1) * (256 * k + 1) = 256 * k * (256 * k) + 256 * k + 256 * k + 1 := by rw [Int.add_mul, Int.mul_add]; omega
  refine ⟨by omega, by rw [e]; omega, by rw [e2, e]; omega⟩


theorem walk (a0 : Int) (w0 : (Lit.int .i64 a0).wf = true) (w : World) :
    Calls Try.prog 3 #[.int .i64 a0] w fun e w' => e = .returned (.bool true) ∧ Grown w w' := by
  go_enter Try.func3, Try.ntmps3
  go_wp2_with fail
  refine (known_any _).mono ?_
  rintro e w1 ⟨rfl, rfl⟩
  go_wp2_with fail
  refine (within_ex _ _ _ (by omega) (by omega)).mono ?_
  rintro e w2 ⟨n, rfl, h1, h2, rfl⟩
  have hs := sq_root n h1
  have hd := dist_row (n % 1000) (by omega)
  obtain ⟨hm1, hm2⟩ := Fx.mul_bd n n 2147483648 (by omega) (by omega) (by omega) (by omega) (by omega)
  have hm0 := Int.mul_nonneg h1 h1
  rcases (by omega : n = 0 ∨ 1 ≤ n) with hn | hn
  · subst hn
    go_wp2_with (first
      | (go_at_call 6; refine (root_any _ _ (by omega) (by omega)).mono ?_; rintro e w' ⟨r, rfl, hr, rfl⟩; obtain rfl : r = 0 := Fx.root_one hr hs; clear hr)
      | (go_at_call 7; refine (dist_any _ _ _ (by omega) (by omega) (by omega) (by omega)).mono ?_; rintro e w' ⟨r, rfl, hr, rfl⟩; obtain rfl : r = _ := Fx.root_one hr hd; clear hr))
    go_ret
    exact ⟨rfl, Grown.refl _⟩
  · have hl := sq_less n hn
    have hmn : n ≤ n * n := by
      have := Int.mul_le_mul_of_nonneg_right hn h1
      omega
    go_wp2_with fail
    refine (root_any _ _ (by omega) (by omega)).mono ?_
    rintro e w3 ⟨r, rfl, hr, rfl⟩
    obtain rfl : r = n := Fx.root_one hr hs
    clear hr
    go_wp2_with fail
    refine (root_any _ _ (by omega) (by omega)).mono ?_
    rintro e w4 ⟨r', rfl, hr, rfl⟩
    obtain rfl : r' = r - 1 := Fx.root_one hr hl
    clear hr
    go_wp2_with fail
    refine (dist_any _ _ _ (by omega) (by omega) (by omega) (by omega)).mono ?_
    rintro e w5 ⟨r', rfl, hr, rfl⟩
    obtain rfl : r' = _ := Fx.root_one hr hd
    clear hr
    go_wp2
    go_ret
    exact ⟨rfl, Grown.refl _⟩

set_option maxRecDepth 100000 in
theorem lifted (os : Os) (started : os.Started) (H : Type) (enc : TypeId × Value → H) :
    ReturnsInHanded {} Try.checked os 3 .any (Rows.fixSquaresSpec.pre6 enc Try.prog Try.f3 Rows.fixSquaresRow.domain false) (Rows.fixSquaresSpec.post enc Try.prog Try.f3 false true false false) := by
  refine returnsInHanded_of_change (C := Try.checked) own started (by kernel_rfl) Try.func3
    (ChangeSpec.witness6 (enc := enc) (C := Try.checked) false ⟨#[], #[.int .i64 0], []⟩ 8 (by kernel_rfl) (by kernel_rfl) (by kernel_rfl) (by kernel_rfl)) ?_
  intro W base args ds gs before hval0 hW hcnd _
  have hval : ∀ (j : Nat) t v, Try.f3.params[j]? = some t → args[j]? = some v → Value.okWide Try.prog W .any base t v := hval0
  have hW' := hW
  obtain ⟨p, q, hA0, hV, rfl, hfz, hnd⟩ := hW
  have hA : DataW.TrodAll enc Try.prog W 0 (fun _ => true) true Try.f3.params.toList args.toList ds p := hA0
  rw [Try.params3] at hA hval
  obtain ⟨v0, vs0, d0, ds0, p0, q0, hargs, rfl, rfl, h0, r0⟩ := trodAll_cons hA
  obtain ⟨rfl, rfl, rfl⟩ := trodAll_nil r0
  obtain rfl : args = #[v0] := by cases args; simp_all
  obtain ⟨rfl, rfl⟩ := trodVars_none hV
  obtain ⟨a0, rfl, rfl, rfl, w0⟩ := open_int Try.underlying3 (hval 0 3 v0 rfl rfl) h0
  clear hA0 hval0
  simp only [List.append_nil] at hW'
  refine (walk a0 w0 W).mono fun e W' ⟨he, hg⟩ => ?_
  subst he
  exact ⟨_, rfl, post_of_same (pa := []) (pv := []) hW' (fun _ _ _ => (trodAll_cons_mk (shut_bool Try.underlying4 _) trodAll_mk0)) (fun sp _ => (trodAll_cons_mk (shut_int Try.underlying3 w0) trodAll_mk0)) (fun _ _ => rfl) rfl
    (hg.frame _) hg.2.1 (ok_one (by kernel_rfl) rfl (okWide_bool_mk Try.underlying4 _))⟩

theorem over : Rows.fixSquaresRow.holds Try.pinned (OpenSpec.ofChange Rows.fixSquaresSpec) :=
  OpenClaim.holds_of_wide 3 Try.f3 rfl rfl rfl rfl rfl rfl rfl ⟨rfl, rfl, rfl, rfl, rfl⟩ rfl rfl rfl rfl rfl (by kernel_rfl) Try.func3 (by kernel_rfl)
    (of_decide_eq_true (by kernel_rfl)) (by unfold Func.isWrapper; first | (rw [if_pos (by decide +kernel)]; kernel_rfl) | (rw [if_neg (by decide +kernel)]; exact ⟨rfl, rfl⟩))
    (fun os started H enc _ => lifted os started H enc)

theorem proved : Rows.FixSquaresSaid :=
  over
#print axioms proved
end Go.Proofs.Ytcpbcehekmegdab.fixSquares
