/-
  On any floor, among any entities, Toward, Spot and Beside answer as the document says, for any place and any targets (as far as the statement reads them: twenty at most), at this commit; no condition.
-/
import Derived.Test.YthofgjphoahkfaaRows
import Derived.WalkKit
import Derived.ProofKit
import Derived.OpenShut
import Derived.Test.YthofgjphoahkfaaNavRefSpot
import Derived.Test.YthofgjphoahkfaaNavSome
import Derived.Test.YthofgjphoahkfaaNavMake
import Derived.Test.YthofgjphoahkfaaNavBeside
import Derived.ShutString
import Derived.ChangeOld
import Derived.Below
namespace Go.Proofs.Ythofgjphoahkfaa.navAsks
open Go.ChangeShapes Go.WideShapes Go.ChangeAt Go.RowKit
open Go.ChangeMaps (open_string shut_string)
set_option linter.unusedVariables false

theorem own : ownKnob Try.prog.godebug = none := by kernel_rfl
theorem laidOut : laidOutB Try.prog = true := by kernel_rfl

/-- WHAT THE WALK IS TOLD OF A SLICE OF INTEGERS THAT CAME IN: it is nil; or it leads to a row of 'cap' cells, the numbers 'zs' (the first 'len' are its elements, the rest its spare room), each fitting its kind. -/
def IsRow (k : IntKind) (w : World) (a : Option Addr) (len cap : Nat) (zs : List Int) : Prop :=
  (a = none ∧ len = 0 ∧ cap = 0 ∧ zs = []) ∨
  ∃ x, a = some x ∧ len ≤ cap ∧ cap ≤ maxLen ∧ zs.length = cap ∧ (∀ i, i < zs.length → w.cell? (x.add i) = some (.int k (zs.getD i 0))) ∧ ∀ n ∈ zs, (Lit.int k n).wf = true

theorem IsRow.vec {k : IntKind} {w : World} {a : Option Addr} {len cap : Nat} {zs : List Int} (h : IsRow k w a len cap zs) : Vec w.heap.size w a len (fun i => .int k (zs[i]?.getD 0)) := by
  rcases h with ⟨rfl, rfl, rfl, rfl⟩ | ⟨x, rfl, hl, hm, hz, hcell, _⟩
  · exact ⟨Nat.zero_le _, .inl rfl⟩
  · refine ⟨Nat.le_trans hl hm, ?_⟩
    by_cases h0 : len = 0
    · exact .inl h0
    · right
      obtain ⟨b, off, spot⟩ := x
      have hc0 := hcell 0 (by omega)
      have hspot : spot = none := by simpa [Addr.add] using World.cell?_spot hc0
      subst hspot
      refine ⟨b, off, rfl, ?_, fun i hi => ?_⟩
      · have h := Go.block_lt_of_cell hc0
        simpa [Addr.add] using h
      · have h := hcell i (by omega)
        by_cases hi0 : i = 0
        · subst hi0
          simpa [Addr.add] using h
        · simpa [Addr.add, hi0] using h

theorem IsRow.long {w : World} {a : Option Addr} {len cap : Nat} {zs : List Int} (h : IsRow .i64 w a len cap zs) (i : Nat) : -9223372036854775808 ≤ zs[i]?.getD 0 ∧ zs[i]?.getD 0 ≤ 9223372036854775807 := by
  rcases h with ⟨_, _, _, rfl⟩ | ⟨_, _, _, _, _, _, hw⟩
  · simp
  · by_cases hi : i < zs.length
    · have h := hw zs[i] (List.getElem_mem hi)
      simp only [Lit.wf, Bool.and_eq_true, decide_eq_true_eq, show IntKind.i64.min = -9223372036854775808 from by decide, show IntKind.i64.max = 9223372036854775807 from by decide] at h
      rw [List.getElem?_eq_getElem hi]
      exact h
    · rw [List.getElem?_eq_none (by omega)]
      simp

theorem wf_bd {z : Int} (h : (Lit.int .i64 z).wf = true) : -9223372036854775808 ≤ z ∧ z ≤ 9223372036854775807 := by
  simpa only [Lit.wf, Bool.and_eq_true, decide_eq_true_eq, show IntKind.i64.min = -9223372036854775808 from by decide, show IntKind.i64.max = 9223372036854775807 from by decide] using h


theorem walk (a0 : Int) (a1 : Int) (a2 : Option Addr) (len2 cap2 : Nat) (z2 : List Int) (a3 : Int) (a4 : Int) (a5 : Option Addr) (len5 cap5 : Nat) (z5 : List Int) (a6 : Int) (a7 : Int) (w : World) (w0 : (Lit.int .i64 a0).wf = true) (w1 : (Lit.int .i64 a1).wf = true) (w2 : IsRow .i64 w a2 len2 cap2 z2) (w3 : (Lit.int .i64 a3).wf = true) (w4 : (Lit.int .i64 a4).wf = true) (w5 : IsRow .i64 w a5 len5 cap5 z5) (w6 : (Lit.int .i64 a6).wf = true) (w7 : (Lit.int .i64 a7).wf = true) :
    Calls Try.prog 3 #[.int .i64 a0, .int .i64 a1, .slice a2 len2 cap2, .int .i64 a3, .int .i64 a4, .slice a5 len5 cap5, .int .i64 a6, .int .i64 a7] w fun e w' => e = .returned (.bool true) ∧ Below w.heap.size w w' := by
  obtain ⟨x1, x2⟩ := wf_bd w3
  obtain ⟨y1, y2⟩ := wf_bd w4
  obtain ⟨u1, u2⟩ := wf_bd w6
  obtain ⟨v1, v2⟩ := wf_bd w7
  have hV2 := hide w2.vec
  have hV5 := hide w5.vec
  have hB5 := hide w5.long
  have hl5 : len5 ≤ 9223372036854775807 := w5.vec.1
  obtain ⟨fl, hfl⟩ : ∃ fl, fl = 1 + a1 % 3 := ⟨_, rfl⟩
  have hf1 : 1 ≤ fl := by omega
  have hf3 : fl ≤ 3 := by omega
  have cW := hide (fun wq => within_any a1 3 wq (by omega) (by omega))
  have cX := hide (fun wq => within_any a3 24 wq (by omega) (by omega))
  have cY := hide (fun wq => within_any a4 16 wq (by omega) (by omega))
  obtain ⟨X, hX⟩ : ∃ X, X = a3 % 24 := ⟨_, rfl⟩
  obtain ⟨Y, hY⟩ : ∃ Y, Y = a4 % 16 := ⟨_, rfl⟩
  rw [← hX] at cX
  rw [← hY] at cY
  have hXb : Hid (-9223372036854775808 ≤ X ∧ X ≤ 9223372036854775807) := by show _ ∧ _; omega
  have hYb : Hid (-9223372036854775808 ≤ Y ∧ Y ≤ 9223372036854775807) := by show _ ∧ _; omega
  have hxb := hide (And.intro x1 x2)
  have hyb := hide (And.intro y1 y2)
  have hub := hide (And.intro u1 u2)
  have hvb := hide (And.intro v1 v2)
  have hmod : a1 % 3 = fl - 1 := by omega
  rw [hmod] at cW
  clear hX hY hfl hmod w0 w1 w2 w3 w4 w5 w6 w7 x1 x2 y1 y2 u1 u2 v1 v2
  go_enter Try.func3, Try.ntmps3
  go_wp2_with fail
  refine (known_any _).mono ?_
  rintro e wk ⟨rfl, hk⟩
  subst hk
  by_cases h20 : len5 ≤ 20
  case neg =>
    have h20' : (20 : Int) < (len5 : Int) := by omega
    go_wp2
    go_ret
    exact ⟨rfl, Below.refl _ _⟩
  have h20' : ¬ (20 : Int) < (len5 : Int) := by omega
  go_wp2_with fail
  refine (unhide cW _).mono ?_
  rintro e wx ⟨rfl, hx⟩
  subst hx
  have hsum : 1 + (fl - 1) = fl := by omega
  go_wp2_with fail
  refine (navMake_any a0 fl hf1 hf3 _).mono ?_
  rintro e wm ⟨cs, G, nE, nI, cE, cI, aE, aI, rfl, hfloor, hG, hA, hgm⟩
  have hA' := hide hA
  have hgm' := hide hgm
  have hfive : Hid (∀ i, 0 ≤ cs i ∧ cs i ≤ 255) := fun i => by have := hfloor.five i; omega
  clear hA hgm hfloor hsum h20 h20'
  have hfc := fun wq => field_cells (some ⟨G, 0, none⟩) aE aI 384 nE nI 384 cE cI wq
  go_wp2_with fail
  refine (some_any a2 len2 cap2 _ _ (((unhide hV2).kept (none_below (unhide hgm'))).mono (unhide hgm').size)).mono ?_
  rintro e ws ⟨g, E, rfl, hg, hO, hfit, hgs⟩
  have hgS := hide (grown_trans (unhide hgm') hgs)
  have hA2 := hide ((unhide hA').grown hgs (by simp))
  have hE2 := hide hO.ents
  have hW2 := hide hfit.words
  clear hO hfit hgs hA' hgm'
  have cT : Hid (∀ (wx : World) (x y : Int), Hid (ws.grownBy wx none) → Hid (-9223372036854775808 ≤ x ∧ x ≤ 9223372036854775807) → Hid (-9223372036854775808 ≤ y ∧ y ≤ 9223372036854775807) → Calls Try.prog 11 #[.slice (some ⟨G, 0, none⟩) 384 384, .slice (some ⟨g, 0, none⟩) 32 32, .int .i64 x, .int .i64 y, .slice a5 len5 cap5] wx (Nv.SaysToward wx cs (fun i => z5[i]?.getD 0) len5 E 32 x y)) := fun wx x y h hx hy =>
    navToward_any _ _ _ _ _ _ _ _ _ _ E x y wx (((unhide hA2).grown (unhide h) (by simp)).vec _ ((unhide hA2).grown (unhide h) (by simp)).lt (by unfold maxLen; omega)) (unhide hfive) ⟨by omega, by omega, .inr ⟨g, rfl, (unhide hE2).on (unhide h)⟩⟩ (unhide hW2) (((unhide hV5).kept (none_below (grown_trans (unhide hgS) (unhide h)))).mono (grown_trans (unhide hgS) (unhide h)).size) (unhide hB5) (unhide hx).1 (unhide hx).2 (unhide hy).1 (unhide hy).2
  have cR : Hid (∀ (wx : World) (x y : Int), Hid (ws.grownBy wx none) → Calls Try.prog 12 #[.slice (some ⟨G, 0, none⟩) 384 384, .slice (some ⟨g, 0, none⟩) 32 32, .int .i64 x, .int .i64 y, .slice a5 len5 cap5] wx (Nv.SaysToward wx cs (fun i => z5[i]?.getD 0) len5 E 32 x y)) := fun wx x y h =>
    refToward_any _ _ _ _ _ _ _ _ _ _ E x y wx (((unhide hA2).grown (unhide h) (by simp)).vec _ ((unhide hA2).grown (unhide h) (by simp)).lt (by unfold maxLen; omega)) (unhide hfive) ((unhide hE2).on (unhide h)) (by omega) (((unhide hV5).kept (none_below (grown_trans (unhide hgS) (unhide h)))).mono (grown_trans (unhide hgS) (unhide h)).size) (unhide hB5)
  have cS : Hid (∀ (wx : World) (x y : Int), Hid (ws.grownBy wx none) → Hid (-9223372036854775808 ≤ x ∧ x ≤ 9223372036854775807) → Hid (-9223372036854775808 ≤ y ∧ y ≤ 9223372036854775807) → Calls Try.prog 13 #[.slice (some ⟨G, 0, none⟩) 384 384, .slice (some ⟨g, 0, none⟩) 32 32, .int .i64 x, .int .i64 y] wx (Nv.SaysSpot wx cs E 32 x y)) := fun wx x y h hx hy =>
    navSpot_any _ _ _ _ _ _ E x y wx (((unhide hA2).grown (unhide h) (by simp)).vec _ ((unhide hA2).grown (unhide h) (by simp)).lt (by unfold maxLen; omega)) (unhide hfive) ⟨by omega, by omega, .inr ⟨g, rfl, (unhide hE2).on (unhide h)⟩⟩ (unhide hW2) (unhide hx).1 (unhide hx).2 (unhide hy).1 (unhide hy).2
  have cQ : Hid (∀ (wx : World) (x y : Int), Hid (ws.grownBy wx none) → Calls Try.prog 14 #[.slice (some ⟨G, 0, none⟩) 384 384, .slice (some ⟨g, 0, none⟩) 32 32, .int .i64 x, .int .i64 y] wx (Nv.SaysSpot wx cs E 32 x y)) := fun wx x y h =>
    refSpot_any _ _ _ _ _ _ E x y wx (((unhide hA2).grown (unhide h) (by simp)).vec _ ((unhide hA2).grown (unhide h) (by simp)).lt (by unfold maxLen; omega)) (unhide hfive) ((unhide hE2).on (unhide h))
  have hq0 : Hid (ws.grownBy ws none) := World.grownBy.refl _ _
  clear hfive hW2 hE2 hA2 hV2 hV5 hB5
  go_wp2_with fail
  refine (unhide cT _ _ _ hq0 hxb hyb).mono ?_
  rintro e wc1 ⟨v1, hv1, rfl, hc1⟩
  have hv1' := hide hv1
  clear hv1
  have hq1 := hide (grown_trans (unhide hq0) hc1)
  clear hc1
  go_wp2_with fail
  refine (unhide cR _ _ _ hq1).mono ?_
  rintro e wc2 ⟨v2, hv2, rfl, hc2⟩
  obtain rfl := Nv.IsToward.one (unhide hv1') hv2
  clear hv2 hv1'
  have hq2 := hide (grown_trans (unhide hq1) hc2)
  clear hc2
  go_wp2_with fail
  refine (unhide cS _ _ _ hq2 hxb hyb).mono ?_
  rintro e wc3 ⟨v3, hv3, rfl, hc3⟩
  have hv3' := hide hv3
  clear hv3
  have hq3 := hide (grown_trans (unhide hq2) hc3)
  clear hc3
  go_wp2_with fail
  refine (unhide cQ _ _ _ hq3).mono ?_
  rintro e wc4 ⟨v4, hv4, rfl, hc4⟩
  obtain rfl := Nv.IsSpot.one (unhide hv3') hv4
  clear hv4 hv3'
  have hq4 := hide (grown_trans (unhide hq3) hc4)
  clear hc4
  go_wp2_with fail
  refine (beside_any a3 a4 a6 a7 _).mono ?_
  rintro e wc5 ⟨rfl, hc5⟩
  subst hc5
  go_wp2_with fail
  refine (refBeside_any a3 a4 a6 a7 _ (unhide hub).1 (unhide hub).2 (unhide hvb).1 (unhide hvb).2).mono ?_
  rintro e wc6 ⟨rfl, hc6⟩
  subst hc6
  generalize Nv.beside (wrap64 (a6 - a3)) (wrap64 (a7 - a4)) = D
  go_wp2_with fail
  refine (unhide cX _).mono ?_
  rintro e wc7 ⟨rfl, hc7⟩
  subst hc7
  go_wp2_with fail
  refine (unhide cY _).mono ?_
  rintro e wc8 ⟨rfl, hc8⟩
  subst hc8
  go_wp2_with fail
  refine (unhide cT _ _ _ hq4 hXb hYb).mono ?_
  rintro e wc9 ⟨v9, hv9, rfl, hc9⟩
  have hv9' := hide hv9
  clear hv9
  have hq9 := hide (grown_trans (unhide hq4) hc9)
  clear hc9
  go_wp2_with fail
  refine (unhide cR _ _ _ hq9).mono ?_
  rintro e wc10 ⟨v10, hv10, rfl, hc10⟩
  obtain rfl := Nv.IsToward.one (unhide hv9') hv10
  clear hv10 hv9'
  have hq10 := hide (grown_trans (unhide hq9) hc10)
  clear hc10
  go_wp2_with fail
  refine (unhide cS _ _ _ hq10 hXb hYb).mono ?_
  rintro e wc11 ⟨v11, hv11, rfl, hc11⟩
  have hv11' := hide hv11
  clear hv11
  have hq11 := hide (grown_trans (unhide hq10) hc11)
  clear hc11
  go_wp2_with fail
  refine (unhide cQ _ _ _ hq11).mono ?_
  rintro e wc12 ⟨v12, hv12, rfl, hc12⟩
  obtain rfl := Nv.IsSpot.one (unhide hv11') hv12
  clear hv12 hv11'
  have hq12 := hide (grown_trans (unhide hq11) hc12)
  clear hc12
  have hfin := hide (none_below (grown_trans (unhide hgS) (unhide hq12)))
  clear cT cR cS cQ hq0 hq1 hq2 hq3 hq4 hq9 hq10 hq11 hq12 hgS
  go_wp2
  go_ret
  exact ⟨rfl, unhide hfin⟩

set_option maxRecDepth 100000 in
theorem lifted (os : Os) (started : os.Started) (H : Type) (enc : TypeId × Value → H) :
    ReturnsInHanded {} Try.checked os 3 .any (Rows.navAsksSpec.pre6 enc Try.prog Try.f3 Rows.navAsksRow.domain false) (Rows.navAsksSpec.post enc Try.prog Try.f3 false true false false) := by
  refine returnsInHanded_of_change (C := Try.checked) own started (by kernel_rfl) Try.func3
    (ChangeSpec.witness6 (enc := enc) (C := Try.checked) false ⟨#[], #[.int .i64 0, .int .i64 0, .slice none 0 0, .int .i64 0, .int .i64 0, .slice none 0 0, .int .i64 0, .int .i64 0], []⟩ 8 (by kernel_rfl) (by kernel_rfl) (by kernel_rfl) (by kernel_rfl)) ?_
  intro W base args ds gs before hval0 hW hcnd _
  have hval : ∀ (j : Nat) t v, Try.f3.params[j]? = some t → args[j]? = some v → Value.okWide Try.prog W .any base t v := hval0
  have hW' := hW
  obtain ⟨p, q, hA0, hV, rfl, hfz, hnd⟩ := hW
  have hA : DataW.TrodAll enc Try.prog W 0 (fun _ => true) true Try.f3.params.toList args.toList ds p := hA0
  rw [Try.params3] at hA hval
  obtain ⟨v0, vs0, d0, ds0, p0, q0, hargs, rfl, rfl, h0, r0⟩ := trodAll_cons hA
  obtain ⟨v1, vs1, d1, ds1, p1, q1, rfl, rfl, rfl, h1, r1⟩ := trodAll_cons r0
  obtain ⟨v2, vs2, d2, ds2, p2, q2, rfl, rfl, rfl, h2, r2⟩ := trodAll_cons r1
  obtain ⟨v3, vs3, d3, ds3, p3, q3, rfl, rfl, rfl, h3, r3⟩ := trodAll_cons r2
  obtain ⟨v4, vs4, d4, ds4, p4, q4, rfl, rfl, rfl, h4, r4⟩ := trodAll_cons r3
  obtain ⟨v5, vs5, d5, ds5, p5, q5, rfl, rfl, rfl, h5, r5⟩ := trodAll_cons r4
  obtain ⟨v6, vs6, d6, ds6, p6, q6, rfl, rfl, rfl, h6, r6⟩ := trodAll_cons r5
  obtain ⟨v7, vs7, d7, ds7, p7, q7, rfl, rfl, rfl, h7, r7⟩ := trodAll_cons r6
  obtain ⟨rfl, rfl, rfl⟩ := trodAll_nil r7
  obtain rfl : args = #[v0, v1, v2, v3, v4, v5, v6, v7] := by cases args; simp_all
  obtain ⟨rfl, rfl⟩ := trodVars_none hV
  obtain ⟨a0, rfl, rfl, rfl, w0⟩ := open_int Try.underlying2 (hval 0 2 v0 rfl rfl) h0
  obtain ⟨a1, rfl, rfl, rfl, w1⟩ := open_int Try.underlying3 (hval 1 3 v1 rfl rfl) h1
  obtain ⟨a2, len2, cap2, rfl⟩ := okWide_slice Try.underlying22 (hval 2 22 v2 rfl rfl)
  have k2 := h2
  have lt2 : ∀ x ∈ p2, x.block < W.heap.size := by obtain ⟨m, hm⟩ := k2; exact DataW.trod_lt m _ _ _ hm
  obtain ⟨z2, w2⟩ : ∃ zs, IsRow .i64 W a2 len2 cap2 zs := by
    obtain ⟨fuel, hf⟩ := h2
    rcases open_ints Try.underlying22 Try.underlying3 (by kernel_rfl) hf with ⟨hcs, _⟩ | ⟨x, l, c, zs, hcs, _, hl, hm, hz, _, hcell, hwz⟩
    · simp [Value.cells] at hcs
      obtain ⟨rfl, rfl, rfl⟩ := hcs
      exact ⟨[], .inl ⟨rfl, rfl, rfl, rfl⟩⟩
    · simp [Value.cells] at hcs
      obtain ⟨rfl, rfl, rfl⟩ := hcs
      exact ⟨zs, .inr ⟨_, rfl, hl, hm, by simpa using hz, hcell, hwz⟩⟩
  obtain ⟨a3, rfl, rfl, rfl, w3⟩ := open_int Try.underlying3 (hval 3 3 v3 rfl rfl) h3
  obtain ⟨a4, rfl, rfl, rfl, w4⟩ := open_int Try.underlying3 (hval 4 3 v4 rfl rfl) h4
  obtain ⟨a5, len5, cap5, rfl⟩ := okWide_slice Try.underlying22 (hval 5 22 v5 rfl rfl)
  have k5 := h5
  have lt5 : ∀ x ∈ p5, x.block < W.heap.size := by obtain ⟨m, hm⟩ := k5; exact DataW.trod_lt m _ _ _ hm
  obtain ⟨z5, w5⟩ : ∃ zs, IsRow .i64 W a5 len5 cap5 zs := by
    obtain ⟨fuel, hf⟩ := h5
    rcases open_ints Try.underlying22 Try.underlying3 (by kernel_rfl) hf with ⟨hcs, _⟩ | ⟨x, l, c, zs, hcs, _, hl, hm, hz, _, hcell, hwz⟩
    · simp [Value.cells] at hcs
      obtain ⟨rfl, rfl, rfl⟩ := hcs
      exact ⟨[], .inl ⟨rfl, rfl, rfl, rfl⟩⟩
    · simp [Value.cells] at hcs
      obtain ⟨rfl, rfl, rfl⟩ := hcs
      exact ⟨zs, .inr ⟨_, rfl, hl, hm, by simpa using hz, hcell, hwz⟩⟩
  obtain ⟨a6, rfl, rfl, rfl, w6⟩ := open_int Try.underlying3 (hval 6 3 v6 rfl rfl) h6
  obtain ⟨a7, rfl, rfl, rfl, w7⟩ := open_int Try.underlying3 (hval 7 3 v7 rfl rfl) h7
  clear hA0 hval0
  refine (walk a0 a1 a2 len2 cap2 z2 a3 a4 a5 len5 cap5 z5 a6 a7 W w0 w1 w2 w3 w4 w5 w6 w7).mono fun e W' ⟨he, bel⟩ => ?_
  subst he
  exact ⟨_, rfl, _, _, _, [], _, [], hW', trodAll_mk1 (shut_bool Try.underlying4 _), (trodAll_cons_mk (shut_int Try.underlying2 w0) (trodAll_cons_mk (shut_int Try.underlying3 w1) (trodAll_cons_mk (Below.trod laidOut (by kernel_rfl) (of_decide_eq_true (by kernel_rfl)) k2 bel lt2) (trodAll_cons_mk (shut_int Try.underlying3 w3) (trodAll_cons_mk (shut_int Try.underlying3 w4) (trodAll_cons_mk (Below.trod laidOut (by kernel_rfl) (of_decide_eq_true (by kernel_rfl)) k5 bel lt5) (trodAll_cons_mk (shut_int Try.underlying3 w6) (trodAll_cons_mk (shut_int Try.underlying3 w7) trodAll_mk0)))))))), rfl, bel.frame _, fun h => by cases h⟩

theorem over : Rows.navAsksRow.holds Try.pinned (OpenSpec.ofChange Rows.navAsksSpec) :=
  OpenClaim.holds_of_wide 3 Try.f3 rfl rfl rfl rfl rfl rfl rfl ⟨rfl, rfl, rfl, rfl, rfl⟩ rfl rfl rfl rfl rfl (by kernel_rfl) Try.func3 (by kernel_rfl)
    (of_decide_eq_true (by kernel_rfl)) (by unfold Func.isWrapper; first | (rw [if_pos (by decide +kernel)]; kernel_rfl) | (rw [if_neg (by decide +kernel)]; exact ⟨rfl, rfl⟩))
    (fun os started H enc _ => lifted os started H enc)

theorem proved : Rows.NavAsksSaid := over
#print axioms proved
end Go.Proofs.Ythofgjphoahkfaa.navAsks
