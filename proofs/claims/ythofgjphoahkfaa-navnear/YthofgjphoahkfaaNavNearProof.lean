/-
  A way leads to each of the four cells beside a place, to no other one, and back by the other way about: proved for every place and step, at this commit; no condition.
-/
import Derived.Test.YthofgjphoahkfaaRows
import Derived.WalkKit
import Derived.ProofKit
import Derived.OpenShut
import Derived.Test.YthofgjphoahkfaaNavBeside
import Derived.Below
import Derived.ChangeOld
import Derived.ShutString
namespace Go.Proofs.Ythofgjphoahkfaa.navNear
open Go.ChangeShapes Go.WideShapes Go.ChangeAt Go.RowKit
open Go.ChangeMaps (open_string shut_string)
set_option linter.unusedVariables false

theorem own : ownKnob Try.prog.godebug = none := by kernel_rfl

theorem Nv.beside_no (p q : Int) (h1 : -2 ≤ p) (h2 : p ≤ 2) (h3 : -2 ≤ q) (h4 : q ≤ 2) (h : ¬ ((p = 0 ∧ q = -1) ∨ (p = 1 ∧ q = 0) ∨ (p = 0 ∧ q = 1) ∨ (p = -1 ∧ q = 0))) : Nv.beside p q = 0 ∧ Nv.beside (-p) (-q) = 0 ∧ (p * p + q * q == 1) = false ∧ 0 ≤ p * p ∧ p * p ≤ 4 ∧ 0 ≤ q * q ∧ q * q ≤ 4 := by
  rcases (show p = -2 ∨ p = -1 ∨ p = 0 ∨ p = 1 ∨ p = 2 by omega) with rfl | rfl | rfl | rfl | rfl <;> rcases (show q = -2 ∨ q = -1 ∨ q = 0 ∨ q = 1 ∨ q = 2 by omega) with rfl | rfl | rfl | rfl | rfl <;> first | (exfalso; omega) | decide

theorem Nv.step_back (x p : Int) (h1 : 0 ≤ x) (h2 : x < 1000) (h3 : -2 ≤ p) (h4 : p ≤ 2) : wrap64 (x + p - x) = p ∧ wrap64 (x - (x + p)) = -p := by
  constructor
  · rw [wrap64_id _ ⟨by omega, by omega⟩]; omega
  · rw [wrap64_id _ ⟨by omega, by omega⟩]; omega


theorem walk (a0 : Int) (a1 : Int) (a2 : Int) (a3 : Int) (w0 : (Lit.int .i64 a0).wf = true) (w1 : (Lit.int .i64 a1).wf = true) (w2 : (Lit.int .i64 a2).wf = true) (w3 : (Lit.int .i64 a3).wf = true) (w : World) :
    Calls Try.prog 6 #[.int .i64 a0, .int .i64 a1, .int .i64 a2, .int .i64 a3] w fun e w' => e = .returned (.bool true) ∧ Below w.heap.size w w' := by
  obtain ⟨X, hX⟩ : ∃ X, X = a0 % 1000 := ⟨_, rfl⟩
  obtain ⟨Y, hY⟩ : ∃ Y, Y = a1 % 1000 := ⟨_, rfl⟩
  obtain ⟨p, hp⟩ : ∃ p, p = a2 % 5 - 2 := ⟨_, rfl⟩
  obtain ⟨q, hq⟩ : ∃ q, q = a3 % 5 - 2 := ⟨_, rfl⟩
  have x1 : 0 ≤ X := by omega
  have x2 : X < 1000 := by omega
  have y1 : 0 ≤ Y := by omega
  have y2 : Y < 1000 := by omega
  have p1 : -2 ≤ p := by omega
  have p2 : p ≤ 2 := by omega
  have q1 : -2 ≤ q := by omega
  have q2 : q ≤ 2 := by omega
  have bX := Nv.step_back X p x1 x2 p1 p2
  have bY := Nv.step_back Y q y1 y2 q1 q2
  have cd : Hid (∀ w', Calls Try.prog 15 #[.int .i64 X, .int .i64 Y, .int .i64 (X + p), .int .i64 (Y + q)] w' fun e w1 => e = .returned (.int .i64 (Nv.beside p q)) ∧ w1 = w') := fun w' => by
    have h := beside_any X Y (X + p) (Y + q) w'
    rwa [bX.1, bY.1] at h
  have cb : Hid (∀ w', Calls Try.prog 15 #[.int .i64 (X + p), .int .i64 (Y + q), .int .i64 X, .int .i64 Y] w' fun e w1 => e = .returned (.int .i64 (Nv.beside (-p) (-q))) ∧ w1 = w') := fun w' => by
    have h := beside_any (X + p) (Y + q) X Y w'
    rwa [bX.2, bY.2] at h
  have c1 : Hid (∀ w', Calls Try.prog 9 #[.int .i64 a0, .int .i64 1000] w' fun e w1 => e = .returned (.int .i64 X) ∧ w1 = w') := fun w' => by rw [hX]; exact within_any a0 1000 w' (by omega) (by omega)
  have c2 : Hid (∀ w', Calls Try.prog 9 #[.int .i64 a1, .int .i64 1000] w' fun e w1 => e = .returned (.int .i64 Y) ∧ w1 = w') := fun w' => by rw [hY]; exact within_any a1 1000 w' (by omega) (by omega)
  have c3 : Hid (∀ w', Calls Try.prog 9 #[.int .i64 a2, .int .i64 5] w' fun e w1 => e = .returned (.int .i64 (p + 2)) ∧ w1 = w') := fun w' => by rw [show p + 2 = a2 % 5 by omega]; exact within_any a2 5 w' (by omega) (by omega)
  have c4 : Hid (∀ w', Calls Try.prog 9 #[.int .i64 a3, .int .i64 5] w' fun e w1 => e = .returned (.int .i64 (q + 2)) ∧ w1 = w') := fun w' => by rw [show q + 2 = a3 % 5 by omega]; exact within_any a3 5 w' (by omega) (by omega)
  have e1 : p + 2 - 2 = p := by omega
  have e2 : q + 2 - 2 = q := by omega
  clear bX bY hX hY hp hq
  by_cases hu : (p = 0 ∧ q = -1) ∨ (p = 1 ∧ q = 0) ∨ (p = 0 ∧ q = 1) ∨ (p = -1 ∧ q = 0)
  · have hsome : ∃ d b : Int, Nv.beside p q = d ∧ Nv.beside (-p) (-q) = b ∧ Fx.way d = (p, q) ∧ 0 ≤ p * p ∧ p * p ≤ 1 ∧ 0 ≤ q * q ∧ q * q ≤ 1 ∧ (p * p + q * q == 1) = true ∧ ((d = 1 ∧ b = 3) ∨ (d = 2 ∧ b = 4) ∨ (d = 3 ∧ b = 1) ∨ (d = 4 ∧ b = 2)) := by
      rcases hu with ⟨rfl, rfl⟩ | ⟨rfl, rfl⟩ | ⟨rfl, rfl⟩ | ⟨rfl, rfl⟩
      · exact ⟨1, 3, by decide, by decide, by decide, by decide, by decide, by decide, by decide, by decide, .inl ⟨rfl, rfl⟩⟩
      · exact ⟨2, 4, by decide, by decide, by decide, by decide, by decide, by decide, by decide, by decide, .inr (.inl ⟨rfl, rfl⟩)⟩
      · exact ⟨3, 1, by decide, by decide, by decide, by decide, by decide, by decide, by decide, by decide, .inr (.inr (.inl ⟨rfl, rfl⟩))⟩
      · exact ⟨4, 2, by decide, by decide, by decide, by decide, by decide, by decide, by decide, by decide, .inr (.inr (.inr ⟨rfl, rfl⟩))⟩
    obtain ⟨d, b, hd, hb, hw, m1, m2, m3, m4, hs, hdb⟩ := hsome
    rw [hd] at cd
    rw [hb] at cb
    have cw := hide (fun w' => refWay_any d w')
    rw [hw] at cw
    clear hu hd hb hw
    rcases hdb with ⟨rfl, rfl⟩ | ⟨rfl, rfl⟩ | ⟨rfl, rfl⟩ | ⟨rfl, rfl⟩
    all_goals
      go_enter Try.func6, Try.ntmps6
      go_wp2_with fail
      refine (known_any _).mono ?_
      rintro e w1 ⟨rfl, rfl⟩
      go_wp2_with fail
      refine (unhide c1 _).mono ?_
      rintro e w1 ⟨rfl, rfl⟩
      go_wp2_with fail
      refine (unhide c2 _).mono ?_
      rintro e w1 ⟨rfl, rfl⟩
      go_wp2_with fail
      refine (unhide c3 _).mono ?_
      rintro e w1 ⟨rfl, rfl⟩
      go_wp2_with fail
      refine (unhide c4 _).mono ?_
      rintro e w1 ⟨rfl, rfl⟩
      go_wp2_with fail
      refine (unhide cd _).mono ?_
      rintro e w1 ⟨rfl, rfl⟩
      go_wp2_with fail
      refine (unhide cb _).mono ?_
      rintro e w1 ⟨rfl, rfl⟩
      go_wp2_with fail
      refine (unhide cw _).mono ?_
      rintro e w1 ⟨rfl, rfl⟩
      go_wp2
      go_ret
      exact ⟨rfl, Below.refl _ _⟩
  · obtain ⟨hd, hb, hs, m1, m2, m3, m4⟩ := Nv.beside_no p q p1 p2 q1 q2 hu
    rw [hd] at cd
    rw [hb] at cb
    clear hu hd hb
    go_enter Try.func6, Try.ntmps6
    go_wp2_with fail
    refine (known_any _).mono ?_
    rintro e w1 ⟨rfl, rfl⟩
    go_wp2_with fail
    refine (unhide c1 _).mono ?_
    rintro e w1 ⟨rfl, rfl⟩
    go_wp2_with fail
    refine (unhide c2 _).mono ?_
    rintro e w1 ⟨rfl, rfl⟩
    go_wp2_with fail
    refine (unhide c3 _).mono ?_
    rintro e w1 ⟨rfl, rfl⟩
    go_wp2_with fail
    refine (unhide c4 _).mono ?_
    rintro e w1 ⟨rfl, rfl⟩
    go_wp2_with fail
    refine (unhide cd _).mono ?_
    rintro e w1 ⟨rfl, rfl⟩
    go_wp2_with fail
    refine (unhide cb _).mono ?_
    rintro e w1 ⟨rfl, rfl⟩
    go_wp2
    go_ret
    exact ⟨rfl, Below.refl _ _⟩

set_option maxRecDepth 100000 in
theorem lifted (os : Os) (started : os.Started) (H : Type) (enc : TypeId × Value → H) :
    ReturnsInHanded {} Try.checked os 6 .any (Rows.navNearSpec.pre6 enc Try.prog Try.f6 Rows.navNearRow.domain false) (Rows.navNearSpec.post enc Try.prog Try.f6 false true false false) := by
  refine returnsInHanded_of_change (C := Try.checked) own started (by kernel_rfl) Try.func6
    (ChangeSpec.witness6 (enc := enc) (C := Try.checked) false ⟨#[], #[.int .i64 0, .int .i64 0, .int .i64 0, .int .i64 0], []⟩ 8 (by kernel_rfl) (by kernel_rfl) (by kernel_rfl) (by kernel_rfl)) ?_
  intro W base args ds gs before hval0 hW hcnd _
  have hval : ∀ (j : Nat) t v, Try.f6.params[j]? = some t → args[j]? = some v → Value.okWide Try.prog W .any base t v := hval0
  have hW' := hW
  obtain ⟨p, q, hA0, hV, rfl, hfz, hnd⟩ := hW
  have hA : DataW.TrodAll enc Try.prog W 0 (fun _ => true) true Try.f6.params.toList args.toList ds p := hA0
  rw [Try.params6] at hA hval
  obtain ⟨v0, vs0, d0, ds0, p0, q0, hargs, rfl, rfl, h0, r0⟩ := trodAll_cons hA
  obtain ⟨v1, vs1, d1, ds1, p1, q1, rfl, rfl, rfl, h1, r1⟩ := trodAll_cons r0
  obtain ⟨v2, vs2, d2, ds2, p2, q2, rfl, rfl, rfl, h2, r2⟩ := trodAll_cons r1
  obtain ⟨v3, vs3, d3, ds3, p3, q3, rfl, rfl, rfl, h3, r3⟩ := trodAll_cons r2
  obtain ⟨rfl, rfl, rfl⟩ := trodAll_nil r3
  obtain rfl : args = #[v0, v1, v2, v3] := by cases args; simp_all
  obtain ⟨rfl, rfl⟩ := trodVars_none hV
  obtain ⟨a0, rfl, rfl, rfl, w0⟩ := open_int Try.underlying3 (hval 0 3 v0 rfl rfl) h0
  obtain ⟨a1, rfl, rfl, rfl, w1⟩ := open_int Try.underlying3 (hval 1 3 v1 rfl rfl) h1
  obtain ⟨a2, rfl, rfl, rfl, w2⟩ := open_int Try.underlying3 (hval 2 3 v2 rfl rfl) h2
  obtain ⟨a3, rfl, rfl, rfl, w3⟩ := open_int Try.underlying3 (hval 3 3 v3 rfl rfl) h3
  clear hA0 hval0
  refine (walk a0 a1 a2 a3 w0 w1 w2 w3 W).mono fun e W' ⟨he, hg⟩ => ?_
  subst he
  exact ⟨_, rfl, _, _, _, [], _, [], hW', trodAll_mk1 (shut_bool Try.underlying4 _), (trodAll_cons_mk (shut_int Try.underlying3 w0) (trodAll_cons_mk (shut_int Try.underlying3 w1) (trodAll_cons_mk (shut_int Try.underlying3 w2) (trodAll_cons_mk (shut_int Try.underlying3 w3) trodAll_mk0)))), rfl, hg.frame _, fun h => by cases h⟩

theorem over : Rows.navNearRow.holds Try.pinned (OpenSpec.ofChange Rows.navNearSpec) :=
  OpenClaim.holds_of_wide 6 Try.f6 rfl rfl rfl rfl rfl rfl rfl ⟨rfl, rfl, rfl, rfl, rfl⟩ rfl rfl rfl rfl rfl (by kernel_rfl) Try.func6 (by kernel_rfl)
    (of_decide_eq_true (by kernel_rfl)) (by unfold Func.isWrapper; first | (rw [if_pos (by decide +kernel)]; kernel_rfl) | (rw [if_neg (by decide +kernel)]; exact ⟨rfl, rfl⟩))
    (fun os started H enc _ => lifted os started H enc)

theorem proved : Rows.NavNearSaid :=
  over
#print axioms proved
end Go.Proofs.Ythofgjphoahkfaa.navNear
