/-
  For any two targets and any cell the law GridOpen answers true: over an open floor a cell is as far from the nearer target as rows and columns lie between; no condition.
-/
import Derived.Test.YtfmiaenpmbbknaaRows
import Derived.WalkKit
import Derived.ProofKit
import Derived.OpenShut
import Derived.Test.YtfmiaenpmbbknaaGridFar
import Derived.Below
import Derived.ChangeOld
import Derived.ShutString
namespace Go.Proofs.Ytfmiaenpmbbknaa.gridOpen
open Go.ChangeShapes Go.WideShapes Go.ChangeAt Go.RowKit
open Go.ChangeMaps (open_string shut_string)
set_option linter.unusedVariables false

theorem own : ownKnob Try.prog.godebug = none := by kernel_rfl

theorem minTwo (ts : Array TypeId) (t : TypeId) (a b n : Int) (w : World) (h : min a b = n) :
    (Builtin.min_ ts t #[.int .i64 a, .int .i64 b]).run Try.prog w = .ok (.int .i64 n) w := by
  rw [run_min_int2]
  congr 2
  omega

attribute [-go_sem] run_min_int2

set_option maxRecDepth 8000 in
set_option maxHeartbeats 1600000 in

theorem walk (a0 : Int) (a1 : Int) (a2 : Int) (w0 : (Lit.int .i64 a0).wf = true) (w1 : (Lit.int .i64 a1).wf = true) (w2 : (Lit.int .i64 a2).wf = true) (w : World) :
    Calls Try.prog 8 #[.int .i64 a0, .int .i64 a1, .int .i64 a2] w fun e w' => e = .returned (.bool true) ∧ Below w.heap.size w w' := by
  clear w0 w1 w2
  go_enter Try.func8, Try.ntmps8
  go_wp2_with fail
  refine (known_any _).mono ?_
  rintro e wk ⟨rfl, bel⟩
  go_wp2_with fail
  refine (within_ex _ _ _ (by omega) (by omega)).mono ?_
  rintro e w' ⟨za, rfl, za1, za2, hw⟩
  subst w'
  go_wp2_with fail
  refine (within_ex _ _ _ (by omega) (by omega)).mono ?_
  rintro e w' ⟨zb, rfl, zb1, zb2, hw⟩
  subst w'
  go_wp2_with fail
  refine (within_ex _ _ _ (by omega) (by omega)).mono ?_
  rintro e w' ⟨zc, rfl, zc1, zc2, hw⟩
  subst w'
  obtain ⟨a, rfl⟩ : ∃ a : Nat, za = (a : Int) := ⟨za.toNat, by omega⟩
  obtain ⟨b, rfl⟩ : ∃ b : Nat, zb = (b : Int) := ⟨zb.toNat, by omega⟩
  obtain ⟨c, rfl⟩ : ∃ c : Nat, zc = (c : Int) := ⟨zc.toNat, by omega⟩
  have ha : a < 384 := by omega
  have hb : b < 384 := by omega
  have hc : c < 384 := by omega
  go_wp2_with fail
  have b1 : Below w.heap.size w (wk.alloc (.cells #[.int .u8 1] 5)) := bel.alloc bel.size _
  refine (full_any (wk.heap.size + 1) _ _ _ (fun _ => 1) _ (byte_one wk 1) (fun _ => by omega) (by simp)).mono ?_
  rintro e wa ⟨gA, rfl, hgA, hA, bela⟩
  have b2 := b1.trans (bela.mono b1.size)
  obtain ⟨q, hq⟩ : ∃ q : Nat → Int, q = Gr.full 1 fun _ => 1 := ⟨_, rfl⟩
  rw [← hq] at hA
  have hq1 : ∀ i, q i = 1 := fun i => by rw [hq]; exact Gr.full_one _ rfl i
  have hF : Hid (∀ i, 0 ≤ q i ∧ q i ≤ 255) := fun i => by rw [hq1]; omega
  have hwk : ∀ i, Gr.walkB (q i) = true := fun i => by rw [hq1]; rfl
  have hA' := hide hA
  have hq1' := hide hq1
  have hwk' := hide hwk
  clear hA hq hq1 hwk b1 bela bel
  go_wp2_with fail
  have bl : Below wa.heap.size wa (wa.alloc (.cells #[.int .i64 (a : Int), .int .i64 (b : Int)] 3)) := (Below.refl _ _).alloc (Nat.le_refl _) _
  refine (field_any _ _ _ _ _ _ _ _ q (fun i => if i = 0 then (a : Int) else (b : Int)) (fun _ => false) _ ((((unhide hA').vec _ (unhide hA').lt (by unfold maxLen; omega)).kept bl).mono bl.size) (unhide hF) ⟨by decide, .inl rfl⟩ ((int_two wa _ _).mono (by simp)) (fun i => by show -9223372036854775808 ≤ (if i = 0 then (a : Int) else (b : Int)) ∧ (if i = 0 then (a : Int) else (b : Int)) ≤ 9223372036854775807; split <;> omega)).mono ?_
  rintro e w2 ⟨F, ⟨g2, rfl, hg2, hA2, bel2⟩, hf⟩
  have b3 : Below w.heap.size w w2 := b2.trans ((bl.trans (bel2.mono bl.size)).mono b2.size)
  have hval : F c = min (Gr.manh a c) (Gr.manh b c) := hf.one (Gr.open_field a b ha hb (fun i _ => by show Gr.openB q 0 (fun _ => false) i = true; exact Gr.open_past ((unhide hwk') i) (by omega)) (fun i _ => Gr.tgt_two i (unhide hwk'))) c hc
  have hcell : w2.cell? ⟨g2, c, none⟩ = some (.int .i64 (F c)) := hA2.cell hc
  have hmn := fun ts t w => minTwo ts t (Gr.manh a c) (Gr.manh b c) (F c) w hval.symm
  have hc2 : (c : Int) < 384 := by omega
  have z1 := Gr.manh_0 a c
  have z2 := Gr.manh_0 b c
  clear hA2 hf hA' hq1' hwk' hval bl bel2 b2
  go_wp2_with fail
  go_quiet ((go_at_call 28; first | exact Calls.quiet_of_same (far_any _ _ _ ha hc) | exact Calls.quiet_of_same (far_any _ _ _ hb hc)))
  go_wp2
  go_ret
  exact ⟨rfl, below_drewN b3 _⟩

set_option maxRecDepth 100000 in
theorem lifted (os : Os) (started : os.Started) (H : Type) (enc : TypeId × Value → H) :
    ReturnsInHanded {} Try.checked os 8 .any (Rows.gridOpenSpec.pre6 enc Try.prog Try.f8 Rows.gridOpenRow.domain false) (Rows.gridOpenSpec.post enc Try.prog Try.f8 false true false false) := by
  refine returnsInHanded_of_change (C := Try.checked) own started (by kernel_rfl) Try.func8
    (ChangeSpec.witness6 (enc := enc) (C := Try.checked) false ⟨#[], #[.int .i64 0, .int .i64 0, .int .i64 0], []⟩ 8 (by kernel_rfl) (by kernel_rfl) (by kernel_rfl) (by kernel_rfl)) ?_
  intro W base args ds gs before hval0 hW hcnd _
  have hval : ∀ (j : Nat) t v, Try.f8.params[j]? = some t → args[j]? = some v → Value.okWide Try.prog W .any base t v := hval0
  have hW' := hW
  obtain ⟨p, q, hA0, hV, rfl, hfz, hnd⟩ := hW
  have hA : DataW.TrodAll enc Try.prog W 0 (fun _ => true) true Try.f8.params.toList args.toList ds p := hA0
  rw [Try.params8] at hA hval
  obtain ⟨v0, vs0, d0, ds0, p0, q0, hargs, rfl, rfl, h0, r0⟩ := trodAll_cons hA
  obtain ⟨v1, vs1, d1, ds1, p1, q1, rfl, rfl, rfl, h1, r1⟩ := trodAll_cons r0
  obtain ⟨v2, vs2, d2, ds2, p2, q2, rfl, rfl, rfl, h2, r2⟩ := trodAll_cons r1
  obtain ⟨rfl, rfl, rfl⟩ := trodAll_nil r2
  obtain rfl : args = #[v0, v1, v2] := by cases args; simp_all
  obtain ⟨rfl, rfl⟩ := trodVars_none hV
  obtain ⟨a0, rfl, rfl, rfl, w0⟩ := open_int Try.underlying3 (hval 0 3 v0 rfl rfl) h0
  obtain ⟨a1, rfl, rfl, rfl, w1⟩ := open_int Try.underlying3 (hval 1 3 v1 rfl rfl) h1
  obtain ⟨a2, rfl, rfl, rfl, w2⟩ := open_int Try.underlying3 (hval 2 3 v2 rfl rfl) h2
  clear hA0 hval0
  refine (walk a0 a1 a2 w0 w1 w2 W).mono fun e W' ⟨he, hg⟩ => ?_
  subst he
  exact ⟨_, rfl, _, _, _, [], _, [], hW', trodAll_mk1 (shut_bool Try.underlying4 _), (trodAll_cons_mk (shut_int Try.underlying3 w0) (trodAll_cons_mk (shut_int Try.underlying3 w1) (trodAll_cons_mk (shut_int Try.underlying3 w2) trodAll_mk0))), rfl, hg.frame _, fun h => by cases h⟩

theorem over : Rows.gridOpenRow.holds Try.pinned (OpenSpec.ofChange Rows.gridOpenSpec) :=
  OpenClaim.holds_of_wide 8 Try.f8 rfl rfl rfl rfl rfl rfl rfl ⟨rfl, rfl, rfl, rfl, rfl⟩ rfl rfl rfl rfl rfl (by kernel_rfl) Try.func8 (by kernel_rfl)
    (of_decide_eq_true (by kernel_rfl)) (by unfold Func.isWrapper; first | (rw [if_pos (by decide +kernel)]; kernel_rfl) | (rw [if_neg (by decide +kernel)]; exact ⟨rfl, rfl⟩))
    (fun os started H enc _ => lifted os started H enc)

theorem proved : Rows.GridOpenSaid :=
  over
#print axioms proved
end Go.Proofs.Ytfmiaenpmbbknaa.gridOpen
