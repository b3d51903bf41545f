/-
  For any two ends the law GridLines answers true: the line between them is the document's, it goes from end to end, each step to a cell that touches the one ahead; no condition.
-/
import Derived.Test.YtfmiaenpmbbknaaRows
import Derived.WalkKit
import Derived.ProofKit
import Derived.OpenShut
import Derived.Test.YtfmiaenpmbbknaaGridSee
import Derived.Below
import Derived.ChangeOld
import Derived.ShutString
namespace Go.Proofs.Ytfmiaenpmbbknaa.gridLines
open Go.ChangeShapes Go.WideShapes Go.ChangeAt Go.RowKit
open Go.ChangeMaps (open_string shut_string)
set_option linter.unusedVariables false

theorem own : ownKnob Try.prog.godebug = none := by kernel_rfl

theorem low_wrap (a b : Int) (h : -1000 ≤ a - b ∧ a - b ≤ 1000) : IntKind.i64.wrap (a - b) = a - b := by rw [IntKind.wrap_i64]; omega

set_option maxRecDepth 8000 in
set_option maxHeartbeats 1600000 in

theorem walk (a0 : Int) (a1 : Int) (a2 : Int) (a3 : Int) (w0 : (Lit.int .i64 a0).wf = true) (w1 : (Lit.int .i64 a1).wf = true) (w2 : (Lit.int .i64 a2).wf = true) (w3 : (Lit.int .i64 a3).wf = true) (w : World) :
    Calls Try.prog 4 #[.int .i64 a0, .int .i64 a1, .int .i64 a2, .int .i64 a3] w fun e w' => e = .returned (.bool true) ∧ Below w.heap.size w w' := by
  clear w0 w1 w2 w3
  go_enter Try.func4, Try.ntmps4
  go_wp2_with fail
  refine (known_any _).mono ?_
  rintro e wk ⟨rfl, bel⟩
  go_wp2_with fail
  refine (line_all _ _ _ _ _).mono ?_
  rintro e wa ⟨pa, ca, rfl, hva, _, bela⟩
  have b1 := bel.trans (bela.mono bel.size)
  have va := hide hva
  clear hva bel
  go_wp2_with fail
  refine (refLine_all _ _ _ _ _).mono ?_
  rintro e wb ⟨pb, cb, rfl, hvb, _, belb⟩
  have b2 := b1.trans (belb.mono b1.size)
  have va2 := hide ((unhide va).kept belb)
  have vb := hide hvb
  clear hvb b1 va bela
  go_wp2_with fail
  refine (same_any _ _ _ _ _ _ _ _ _ _ (unhide va2) (unhide vb) fun _ _ => rfl).mono ?_
  rintro e wc ⟨rfl, belc⟩
  have b3 := b2.trans (belc.mono b2.size)
  clear b2 belb belc va2 vb
  go_wp2_with fail
  refine (within_ex _ _ _ (by omega) (by omega)).mono ?_
  rintro e w' ⟨x0, rfl, x0a, x0b, hw⟩
  subst w'
  go_wp2_with fail
  refine (within_ex _ _ _ (by omega) (by omega)).mono ?_
  rintro e w' ⟨y0, rfl, y0a, y0b, hw⟩
  subst w'
  go_wp2_with fail
  refine (within_ex _ _ _ (by omega) (by omega)).mono ?_
  rintro e w' ⟨x1, rfl, x1a, x1b, hw⟩
  subst w'
  go_wp2_with fail
  refine (within_ex _ _ _ (by omega) (by omega)).mono ?_
  rintro e w' ⟨y1, rfl, y1a, y1b, hw⟩
  subst w'
  have i0 : Gr.inB x0 y0 = true := (Gr.inB_iff _ _).2 ⟨x0a, x0b, y0a, y0b⟩
  have i1 : Gr.inB x1 y1 = true := (Gr.inB_iff _ _).2 ⟨x1a, x1b, y1a, y1b⟩
  have hn23 := Gr.span_bd x0 y0 x1 y1 i0 i1
  have hfirst := hide (Gr.ln_first x0 y0 x1 y1)
  have hlast := hide (Gr.ln_last x0 y0 x1 y1)
  have hstep := hide (Gr.ln_step x0 y0 x1 y1 i0 i1)
  have hbd := hide (Gr.ln_bd x0 y0 x1 y1 i0 i1)
  go_wp2_with fail
  refine (line_some _ _ _ _ _ i0 i1).mono ?_
  rintro e wd ⟨pd, cd, rfl, hvd, _, beld⟩
  have b4 := b3.trans (beld.mono b3.size)
  have vd := hide hvd
  clear hvd b3
  go_wp2_with fail
  refine (refLine_some _ _ _ _ _ i0 i1).mono ?_
  rintro e we ⟨pe, ce, rfl, hve, _, bele⟩
  have b5 := b4.trans (bele.mono b4.size)
  have vd2 := hide ((unhide vd).kept bele)
  have ve := hide hve
  clear hve b4 vd
  go_wp2_with fail
  refine (same_any _ _ _ _ _ _ _ _ _ _ (unhide vd2) (unhide ve) fun _ _ => rfl).mono ?_
  rintro e wf ⟨rfl, belf⟩
  have b6 := b5.trans (belf.mono b5.size)
  have vf := (unhide vd2).kept (belf.mono bele.size)
  clear b5 belf bele vd2 ve beld
  obtain ⟨n, hn⟩ : ∃ n : Nat, n = Gr.span x0 y0 x1 y1 := ⟨_, rfl⟩
  obtain ⟨B, hB⟩ : ∃ B : Nat, B = wd.heap.size := ⟨_, rfl⟩
  rw [← hB] at vf
  rw [← hn] at hlast hn23 vf ⊢
  have hn' := hide hn
  clear hn hB
  obtain ⟨_, h0 | ⟨b, off, rfl, hbB, hc⟩⟩ := id vf
  · cases h0
  have vf' := hide vf
  have c0 : wf.cell? ⟨b, off, none⟩ = some (.int .i64 (y0 * 24 + x0)) := by have h := hc 0 (by omega); rw [Nat.add_zero] at h; rw [h]; show some (Value.int .i64 (Gr.ln x0 y0 x1 y1 0)) = _; rw [unhide hfirst]
  have c1 : wf.cell? ⟨b, off + n, none⟩ = some (.int .i64 (y1 * 24 + x1)) := by have h := hc n (by omega); rw [h]; show some (Value.int .i64 (Gr.ln x0 y0 x1 y1 n)) = _; rw [unhide hlast]
  clear hc vf
  go_wp2_with fail
  clear c0 c1
  go_loopw [10] (fun i wr => ∃ k : Nat, 1 ≤ k ∧ k ≤ n + 1 ∧ i = .int .i64 k ∧ Vec B wr (some ⟨b, off, none⟩) (n + 1) (Ints (Gr.ln x0 y0 x1 y1)) ∧ Below w.heap.size w wr) (fun i _ => n + 1 - (intOf i).toNat)
  case atStart => exact ⟨1, by omega, by omega, rfl, unhide vf', b6⟩
  case round =>
    obtain ⟨k, hk1, hk, rfl, hv, hb⟩ := hrel
    have hv' := hide hv
    clear hv b6 vf'
    by_cases hlt : k < n + 1
    · obtain ⟨m, hm⟩ : ∃ m, k = m + 1 := ⟨k - 1, by omega⟩
      obtain ⟨q, p, hpq, q1, ck⟩ := (unhide hv').at (k := k) hlt
      obtain ⟨q', p', hpq', q2, cm⟩ := (unhide hv').at (k := m) (by omega)
      cases hpq
      cases hpq'
      obtain ⟨l1, l2⟩ := (unhide hbd) k (by have := unhide hn'; omega)
      obtain ⟨l3, l4⟩ := (unhide hbd) m (by have := unhide hn'; omega)
      have hst := (unhide hstep) m (by have := unhide hn'; omega)
      rw [← hm] at hst
      obtain ⟨c, hcc⟩ : ∃ c, c = Gr.ln x0 y0 x1 y1 k := ⟨_, rfl⟩
      obtain ⟨d, hdd⟩ : ∃ d, d = Gr.ln x0 y0 x1 y1 m := ⟨_, rfl⟩
      have ck' : wr.cell? ⟨b, off + k, none⟩ = some (.int .i64 c) := by rw [hcc]; exact ck
      have cm' : wr.cell? ⟨b, off + m, none⟩ = some (.int .i64 d) := by rw [hdd]; exact cm
      rw [← hcc, ← hdd] at hst
      rw [← hcc] at l1 l2
      rw [← hdd] at l3 l4
      clear ck cm hcc hdd
      have r1 : c.tmod 24 = c % 24 := Int.tmod_eq_emod_of_nonneg l1
      have r2 : d.tmod 24 = d % 24 := Int.tmod_eq_emod_of_nonneg l3
      have r3 : IntKind.i64.wrap (c.tdiv 24) = c / 24 := by rw [Int.tdiv_eq_ediv_of_nonneg l1, IntKind.wrap_i64]; omega
      have r4 : IntKind.i64.wrap (d.tdiv 24) = d / 24 := by rw [Int.tdiv_eq_ediv_of_nonneg l3, IntKind.wrap_i64]; omega
      obtain ⟨dx, r5⟩ : ∃ dx, c % 24 - d % 24 = dx := ⟨_, rfl⟩
      obtain ⟨dy, r6⟩ : ∃ dy, c / 24 - d / 24 = dy := ⟨_, rfl⟩
      rw [r5, r6] at hst
      obtain ⟨s1, s2, s3, s4, s5⟩ := hst
      have r7 : IntKind.i64.wrap dx = dx := by rw [IntKind.wrap_i64]; omega
      have r8 : IntKind.i64.wrap dy = dy := by rw [IntKind.wrap_i64]; omega
      have r9 : IntKind.i64.wrap ((k : Int) - 1) = (m : Int) := by rw [IntKind.wrap_i64]; omega
      have hlt1 : (k : Int) < (n : Int) + 1 := by omega
      have hlt2 : (m : Int) < (n : Int) + 1 := by omega
      have hM := hide hm
      clear hm l1 l2 l3 l4
      go_wp2_with fail
      go_quiet (fail)
      clear r1 r2 r3 r4 r5 r6 r7 r8 r9 ck' cm'
      by_cases hx : dx = 0
      · have hx0 : (dx == 0) = true := by simpa using hx
        have hy0 : (dy == 0) = false := by simp; omega
        clear s5 hx
        go_wp2
        go_roundw
        case rel => exact ⟨k + 1, by omega, by omega, by go_num, (unhide hv').drew _, below_drewN hb _⟩
        case measure => simp [intOf]; omega
      · have hx0 : (dx == 0) = false := by simpa using hx
        clear s5
        go_wp2
        go_roundw
        case rel => exact ⟨k + 1, by omega, by omega, by go_num, (unhide hv').drew _, below_drewN hb _⟩
        case measure => simp [intOf]; omega
    · have hge : ¬ (k : Int) < (n : Int) + 1 := by omega
      go_wp2
      go_ret
      exact ⟨rfl, hb⟩

set_option maxRecDepth 100000 in
theorem lifted (os : Os) (started : os.Started) (H : Type) (enc : TypeId × Value → H) :
    ReturnsInHanded {} Try.checked os 4 .any (Rows.gridLinesSpec.pre6 enc Try.prog Try.f4 Rows.gridLinesRow.domain false) (Rows.gridLinesSpec.post enc Try.prog Try.f4 false true false false) := by
  refine returnsInHanded_of_change (C := Try.checked) own started (by kernel_rfl) Try.func4
    (ChangeSpec.witness6 (enc := enc) (C := Try.checked) false ⟨#[], #[.int .i64 0, .int .i64 0, .int .i64 0, .int .i64 0], []⟩ 8 (by kernel_rfl) (by kernel_rfl) (by kernel_rfl) (by kernel_rfl)) ?_
  intro W base args ds gs before hval0 hW hcnd _
  have hval : ∀ (j : Nat) t v, Try.f4.params[j]? = some t → args[j]? = some v → Value.okWide Try.prog W .any base t v := hval0
  have hW' := hW
  obtain ⟨p, q, hA0, hV, rfl, hfz, hnd⟩ := hW
  have hA : DataW.TrodAll enc Try.prog W 0 (fun _ => true) true Try.f4.params.toList args.toList ds p := hA0
  rw [Try.params4] at hA hval
  obtain ⟨v0, vs0, d0, ds0, p0, q0, hargs, rfl, rfl, h0, r0⟩ := trodAll_cons hA
  obtain ⟨v1, vs1, d1, ds1, p1, q1, rfl, rfl, rfl, h1, r1⟩ := trodAll_cons r0
  obtain ⟨v2, vs2, d2, ds2, p2, q2, rfl, rfl, rfl, h2, r2⟩ := trodAll_cons r1
  obtain ⟨v3, vs3, d3, ds3, p3, q3, rfl, rfl, rfl, h3, r3⟩ := trodAll_cons r2
  obtain ⟨rfl, rfl, rfl⟩ := trodAll_nil r3
  obtain rfl : args = #[v0, v1, v2, v3] := by cases args; simp_all
  obtain ⟨rfl, rfl⟩ := trodVars_none hV
  obtain ⟨a0, rfl, rfl, rfl, w0⟩ := open_int Try.underlying3 (hval 0 3 v0 rfl rfl) h0
  obtain ⟨a1, rfl, rfl, rfl, w1⟩ := open_int Try.underlying3 (hval 1 3 v1 rfl rfl) h1
  obtain ⟨a2, rfl, rfl, rfl, w2⟩ := open_int Try.underlying3 (hval 2 3 v2 rfl rfl) h2
  obtain ⟨a3, rfl, rfl, rfl, w3⟩ := open_int Try.underlying3 (hval 3 3 v3 rfl rfl) h3
  clear hA0 hval0
  refine (walk a0 a1 a2 a3 w0 w1 w2 w3 W).mono fun e W' ⟨he, hg⟩ => ?_
  subst he
  exact ⟨_, rfl, _, _, _, [], _, [], hW', trodAll_mk1 (shut_bool Try.underlying4 _), (trodAll_cons_mk (shut_int Try.underlying3 w0) (trodAll_cons_mk (shut_int Try.underlying3 w1) (trodAll_cons_mk (shut_int Try.underlying3 w2) (trodAll_cons_mk (shut_int Try.underlying3 w3) trodAll_mk0)))), rfl, hg.frame _, fun h => by cases h⟩

theorem over : Rows.gridLinesRow.holds Try.pinned (OpenSpec.ofChange Rows.gridLinesSpec) :=
  OpenClaim.holds_of_wide 4 Try.f4 rfl rfl rfl rfl rfl rfl rfl ⟨rfl, rfl, rfl, rfl, rfl⟩ rfl rfl rfl rfl rfl (by kernel_rfl) Try.func4 (by kernel_rfl)
    (of_decide_eq_true (by kernel_rfl)) (by unfold Func.isWrapper; first | (rw [if_pos (by decide +kernel)]; kernel_rfl) | (rw [if_neg (by decide +kernel)]; exact ⟨rfl, rfl⟩))
    (fun os started H enc _ => lifted os started H enc)

theorem proved : Rows.GridLinesSaid :=
  over
#print axioms proved
end Go.Proofs.Ytfmiaenpmbbknaa.gridLines
