/-
  For any cells and any two ends the law GridSees answers true: what is seen is what the document says; where all is clear all is seen, where all is walls just what is beside; no condition.
-/
import Derived.Test.YtfmiaenpmbbknaaRows
import Derived.WalkKit
import Derived.ProofKit
import Derived.OpenShut
import Derived.Test.YtfmiaenpmbbknaaGridSee
import Derived.ShutString
import Derived.ChangeOld
import Derived.Below
namespace Go.Proofs.Ytfmiaenpmbbknaa.gridSees
open Go.ChangeShapes Go.WideShapes Go.ChangeAt Go.RowKit
open Go.ChangeMaps (open_string shut_string)
set_option linter.unusedVariables false

theorem own : ownKnob Try.prog.godebug = none := by kernel_rfl
theorem laidOut : laidOutB Try.prog = true := by kernel_rfl

/-- WHAT THE WALK IS TOLD OF A SLICE OF INTEGERS THAT CAME IN: it is nil; or it leads to a row of 'cap' cells, the numbers 'zs' (the first 'len' are its elements, the rest its spare room), each fitting its kind. -/
def IsRow (k : IntKind) (w : World) (a : Option Addr) (len cap : Nat) (zs : List Int) : Prop :=
  (a = none ∧ len = 0 ∧ cap = 0 ∧ zs = []) ∨
  ∃ x, a = some x ∧ len ≤ cap ∧ cap ≤ maxLen ∧ zs.length = cap ∧ (∀ i, i < zs.length → w.cell? (x.add i) = some (.int k (zs.getD i 0))) ∧ ∀ n ∈ zs, (Lit.int k n).wf = true

theorem IsRow.vec {k : IntKind} {w : World} {a : Option Addr} {len cap : Nat} {zs : List Int} (h : IsRow k w a len cap zs) : Vec w.heap.size w a len (fun i => .int k (zs[i]?.getD 0)) := by
  rcases h with ⟨rfl, rfl, rfl, rfl⟩ | ⟨x, rfl, hl, hm, hz, hcell, _⟩
  · exact ⟨Nat.zero_le _, .inl rfl⟩
  · refine ⟨Nat.le_trans hl hm, ?_⟩
    by_cases h0 : len = 0
    · exact .inl h0
    · right
      obtain ⟨b, off, spot⟩ := x
      have hc0 := hcell 0 (by omega)
      have hspot : spot = none := by simpa [Addr.add] using World.cell?_spot hc0
      subst hspot
      refine ⟨b, off, rfl, ?_, fun i hi => ?_⟩
      · have h := Go.block_lt_of_cell hc0
        simpa [Addr.add] using h
      · have h := hcell i (by omega)
        by_cases hi0 : i = 0
        · subst hi0
          simpa [Addr.add] using h
        · simpa [Addr.add, hi0] using h

theorem IsRow.le {k : IntKind} {w : World} {a : Option Addr} {len cap : Nat} {zs : List Int} (h : IsRow k w a len cap zs) : len ≤ cap := by
  rcases h with ⟨_, rfl, rfl, _⟩ | ⟨_, _, h, _⟩
  · exact Nat.le_refl _
  · exact h

theorem IsRow.byte {w : World} {a : Option Addr} {len cap : Nat} {zs : List Int} (h : IsRow .u8 w a len cap zs) (i : Nat) : 0 ≤ zs[i]?.getD 0 ∧ zs[i]?.getD 0 ≤ 255 := by
  rcases h with ⟨_, _, _, rfl⟩ | ⟨_, _, _, _, _, _, hw⟩
  · simp
  · by_cases hi : i < zs.length
    · have h := hw zs[i] (List.getElem_mem hi)
      simp only [Lit.wf, Bool.and_eq_true, decide_eq_true_eq, show IntKind.u8.min = 0 from by decide, show IntKind.u8.max = 255 from by decide] at h
      rw [List.getElem?_eq_getElem hi]
      exact h
    · rw [List.getElem?_eq_none (by omega)]
      simp

/-- Over walls just what is beside is seen. -/
theorem sees_walls (x0 y0 x1 y1 : Int) (h0 : Gr.inB x0 y0 = true) (h1 : Gr.inB x1 y1 = true) : Gr.Sees 384 (fun _ => 0) x0 y0 x1 y1 ↔ (-1 ≤ x1 - x0 ∧ x1 - x0 ≤ 1 ∧ -1 ≤ y1 - y0 ∧ y1 - y0 ≤ 1) := by
  have hs : Gr.span x0 y0 x1 y1 ≤ 1 ↔ (-1 ≤ x1 - x0 ∧ x1 - x0 ≤ 1 ∧ -1 ≤ y1 - y0 ∧ y1 - y0 ≤ 1) := by unfold Gr.span; omega
  rw [← hs]
  constructor
  · rintro ⟨_, _, h⟩
    by_cases hn : Gr.span x0 y0 x1 y1 ≤ 1
    · exact hn
    · have := h 1 (by omega) (by omega)
      rw [Gr.clearB_iff] at this
      have e : Gr.kind 384 (fun _ => 0) (Gr.ln x0 y0 x1 y1 1) = 0 := by unfold Gr.kind; split <;> rfl
      omega
  · intro hn
    exact ⟨h0, h1, fun k a b => by omega⟩

/-- Where all is clear all is seen. -/
theorem sees_clear (f : Nat → Int) (hf : ∀ i, f i = 1) (x0 y0 x1 y1 : Int) (h0 : Gr.inB x0 y0 = true) (h1 : Gr.inB x1 y1 = true) : Gr.Sees 384 f x0 y0 x1 y1 := by
  refine ⟨h0, h1, fun k _ hk => ?_⟩
  obtain ⟨a, b⟩ := Gr.ln_bd x0 y0 x1 y1 h0 h1 k (by omega)
  rw [Gr.clearB_iff]
  have e : Gr.kind 384 f (Gr.ln x0 y0 x1 y1 k) = 1 := by unfold Gr.kind; rw [if_pos (by omega), hf]
  omega

theorem either {b : Bool} {p : Prop} (h : b = true ↔ p) : (b = true ∧ p) ∨ (b = false ∧ ¬ p) := by
  cases b
  · exact .inr ⟨rfl, fun hp => by cases h.2 hp⟩
  · exact .inl ⟨rfl, h.1 rfl⟩

theorem vec_one (w : World) (v : Int) : Vec (w.heap.size + 1) (w.alloc (.cells #[.int .u8 v] 5)) (some ⟨w.heap.size, 0, none⟩) 1 (Byts fun _ => v) := by
  refine ⟨by decide, .inr ⟨_, _, rfl, by omega, fun i hi => ?_⟩⟩
  obtain rfl : i = 0 := by omega
  simp [Byts]

theorem same_bool {b c : Bool} {p : Prop} (h : b = true ↔ p) (k : c = true ↔ p) : b = c := by
  rw [Bool.eq_iff_iff, h, k]

set_option maxRecDepth 8000 in
set_option maxHeartbeats 1600000 in

theorem walk (a0 : Option Addr) (len0 cap0 : Nat) (z0 : List Int) (a1 : Int) (a2 : Int) (a3 : Int) (a4 : Int) (w : World) (w0 : IsRow .u8 w a0 len0 cap0 z0) (w1 : (Lit.int .i64 a1).wf = true) (w2 : (Lit.int .i64 a2).wf = true) (w3 : (Lit.int .i64 a3).wf = true) (w4 : (Lit.int .i64 a4).wf = true) :
    Calls Try.prog 5 #[.slice a0 len0 cap0, .int .i64 a1, .int .i64 a2, .int .i64 a3, .int .i64 a4] w fun e w' => e = .returned (.bool true) ∧ Below w.heap.size w w' := by
  have hv := w0.vec
  have hb := w0.byte
  clear w0
  obtain ⟨f, hf⟩ : ∃ f : Nat → Int, f = fun i => z0[i]?.getD 0 := ⟨_, rfl⟩
  have hb' := hide (show ∀ i, 0 ≤ f i ∧ f i ≤ 255 by intro i; rw [hf]; exact hb i)
  have hv2 : Hid (Vec w.heap.size w a0 len0 (Byts f)) := by rw [hf]; exact hv
  have hm : len0 ≤ 9223372036854775807 := hv.1
  clear hb hf hv w1 w2 w3 w4
  obtain ⟨j0, hi, hz0, hz1, hz2⟩ := info_parts info_byte
  obtain ⟨N, hN⟩ : ∃ N : Nat, N = 384 := ⟨_, rfl⟩
  have hN' := hide hN
  clear hN
  go_enter Try.func5, Try.ntmps5
  go_wp2_with fail
  refine (known_any _).mono ?_
  rintro e wk ⟨rfl, bel⟩
  have hv3 := hide ((unhide hv2).kept bel)
  clear hv2
  by_cases hlen : (1000 : Int) < (len0 : Int)
  · go_wp2
    go_ret
    exact ⟨rfl, bel⟩
  · go_wp2_with fail
    refine (full_any _ _ _ _ f _ (unhide hv3) (unhide hb') bel.size).mono ?_
    rintro e wa ⟨g, rfl, hg, hA, bela⟩
    have b1 := bel.trans (bela.mono bel.size)
    have F := fun i => Gr.full_bd len0 f i
    have hF := hide (show ∀ i, 0 ≤ Gr.full len0 f i ∧ Gr.full len0 f i ≤ 255 from fun i => ⟨(F i).1, by have := (F i).2; omega⟩)
    have vA := hide (hA.vec wa.heap.size hA.lt (by unfold maxLen; omega))
    rw [← unhide hN'] at vA ⊢
    clear hA F bel bela hv3 hb'
    go_wp2_with fail
    refine (sees_any _ _ _ _ _ _ _ _ _ (unhide vA) (unhide hF)).mono ?_
    rintro e wb ⟨s1, rfl, hs1, belb⟩
    have b2 := b1.trans (belb.mono b1.size)
    have vB := hide (((unhide vA).kept belb).mono belb.size)
    clear vA b1 belb
    go_wp2_with fail
    refine (refSees_any _ _ _ _ _ _ _ _ _ (unhide vB) (unhide hF)).mono ?_
    rintro e wc ⟨s2, rfl, hs2, belc⟩
    have b3 := b2.trans (belc.mono b2.size)
    have vC := hide (((unhide vB).kept belc).mono belc.size)
    obtain rfl := same_bool hs1 hs2
    clear hs1 hs2 vB b2 belc
    go_wp2_with fail
    refine (within_ex _ _ _ (by omega) (by omega)).mono ?_
    rintro e w' ⟨x0, rfl, x0a, x0b, hw⟩
    subst w'
    go_wp2_with fail
    refine (within_ex _ _ _ (by omega) (by omega)).mono ?_
    rintro e w' ⟨y0, rfl, y0a, y0b, hw⟩
    subst w'
    go_wp2_with fail
    refine (within_ex _ _ _ (by omega) (by omega)).mono ?_
    rintro e w' ⟨x1, rfl, x1a, x1b, hw⟩
    subst w'
    go_wp2_with fail
    refine (within_ex _ _ _ (by omega) (by omega)).mono ?_
    rintro e w' ⟨y1, rfl, y1a, y1b, hw⟩
    subst w'
    have i0 : Gr.inB x0 y0 = true := (Gr.inB_iff _ _).2 ⟨x0a, x0b, y0a, y0b⟩
    have i1 : Gr.inB x1 y1 = true := (Gr.inB_iff _ _).2 ⟨x1a, x1b, y1a, y1b⟩
    obtain ⟨Z, hZ, hmk⟩ : ∃ Z : Array Value, (∀ wx : World, Arr (wx.alloc (.cells Z 5)) wx.heap.size 5 N (Byts fun _ => 0)) ∧ ∀ wx, (Instr.makeSlice 22 (.int .i64 384) (.int .i64 384)).run Try.prog wx = .ok (.slice (some ⟨wx.heap.size, 0, none⟩) N N) (wx.alloc (.cells Z 5)) := by
      refine ⟨madeCells #[.int .u8 0] N, fun wx => ⟨_, heap_alloc_new wx _, size_madeCells _ _, fun i hi => ?_⟩, fun wx => ?_⟩
      · rw [← Array.getElem?_toList, toList_madeCells_one, List.getElem?_replicate, if_pos hi]
        rfl
      · have h := run_make (P := Try.prog) wx 22 5 j0 (.int .u8 0) Try.underlying22 hi hz0 .i64 .i64 384 384 (by omega) (by omega) (by rw [hz2]; omega) (by omega)
        rw [hz1, show (384 : Int).toNat = N by rw [unhide hN']; rfl, Nat.mul_one] at h
        exact h
    clear hi hz0 hz1 hz2
    rcases (show (-1 ≤ x1 - x0 ∧ x1 - x0 ≤ 1 ∧ -1 ≤ y1 - y0 ∧ y1 - y0 ≤ 1) ∨ x1 - x0 < -1 ∨ (-1 ≤ x1 - x0 ∧ 1 < x1 - x0) ∨ (-1 ≤ x1 - x0 ∧ x1 - x0 ≤ 1 ∧ y1 - y0 < -1) ∨ (-1 ≤ x1 - x0 ∧ x1 - x0 ≤ 1 ∧ -1 ≤ y1 - y0 ∧ 1 < y1 - y0 ∧ decide (y1 - y0 ≤ 1) = false) by simp only [decide_eq_false_iff_not]; omega) with ⟨n1, n2, n3, n4⟩ | n1 | ⟨n1, n2⟩ | ⟨n1, n2, n3⟩ | ⟨n1, n2, n3, n4, n5⟩
    all_goals
      go_wp2_with fail
      refine (sees_any _ _ _ _ _ _ _ _ _ (unhide vC) (unhide hF)).mono ?_
      rintro e wd ⟨s3, rfl, hs3, beld⟩
      have b4 := b3.trans (beld.mono b3.size)
      have vD := hide (((unhide vC).kept beld).mono beld.size)
      clear vC b3 beld
      go_wp2_with fail
      refine (refSees_any _ _ _ _ _ _ _ _ _ (unhide vD) (unhide hF)).mono ?_
      rintro e we ⟨s4, rfl, hs4, bele⟩
      have b5 := b4.trans (bele.mono b4.size)
      obtain rfl := same_bool hs3 hs4
      clear hs3 hs4 vD b4 bele
      go_wp2_with fail
      have hW := hZ we
      have b6 : Below w.heap.size w (we.alloc (.cells Z 5)) := b5.alloc b5.size _
      refine (sees_any _ _ _ (fun _ => 0) _ _ _ _ _ (hW.vec _ hW.lt (by have := unhide hN'; unfold maxLen; omega)) (fun _ => by omega)).mono ?_
      rintro e wg ⟨s5, rfl, hs5, belg⟩
      have b7 := b6.trans (belg.mono b6.size)
      rw [unhide hN', sees_walls x0 y0 x1 y1 i0 i1] at hs5
      clear b5 b6 belg hW
      have hs6 : (s5 = true ∧ (-1 ≤ x1 - x0 ∧ x1 - x0 ≤ 1 ∧ -1 ≤ y1 - y0 ∧ y1 - y0 ≤ 1)) ∨ (s5 = false ∧ ¬ (-1 ≤ x1 - x0 ∧ x1 - x0 ≤ 1 ∧ -1 ≤ y1 - y0 ∧ y1 - y0 ≤ 1)) := either hs5
      clear hs5
      rcases hs6 with ⟨rfl, hp⟩ | ⟨rfl, hp⟩
      all_goals try (exfalso; omega)
      clear hp
      go_wp2_with fail
      have b8 : Below w.heap.size w (wg.alloc (.cells #[.int .u8 1] 5)) := b7.alloc b7.size _
      refine (full_any (wg.heap.size + 1) _ _ _ (fun _ => 1) _ (vec_one wg 1) (fun _ => by omega) (by simp)).mono ?_
      rintro e wh ⟨g2, rfl, hg2, hA2, belh⟩
      have b9 := b8.trans (belh.mono b8.size)
      have hb1 : ∀ i, 0 ≤ Gr.full 1 (fun _ => 1) i ∧ Gr.full 1 (fun _ => 1) i ≤ 255 := fun i => by rw [Gr.full_one _ rfl]; omega
      have hyes := sees_clear (Gr.full 1 fun _ => 1) (fun i => Gr.full_one _ rfl i) x0 y0 x1 y1 i0 i1
      go_wp2_with fail
      refine (sees_any _ _ _ _ _ _ _ _ _ (hA2.vec _ hA2.lt (by unfold maxLen; omega)) hb1).mono ?_
      rintro e wi ⟨s7, rfl, hs7, beli⟩
      have b10 := b9.trans (beli.mono b9.size)
      obtain rfl : s7 = true := hs7.2 hyes
      clear hs7 hb1 hyes hA2
      go_wp2
      go_ret
      exact ⟨rfl, b10⟩

set_option maxRecDepth 100000 in
theorem lifted (os : Os) (started : os.Started) (H : Type) (enc : TypeId × Value → H) :
    ReturnsInHanded {} Try.checked os 5 .any (Rows.gridSeesSpec.pre6 enc Try.prog Try.f5 Rows.gridSeesRow.domain false) (Rows.gridSeesSpec.post enc Try.prog Try.f5 false true false false) := by
  refine returnsInHanded_of_change (C := Try.checked) own started (by kernel_rfl) Try.func5
    (ChangeSpec.witness6 (enc := enc) (C := Try.checked) false ⟨#[], #[.slice none 0 0, .int .i64 0, .int .i64 0, .int .i64 0, .int .i64 0], []⟩ 8 (by kernel_rfl) (by kernel_rfl) (by kernel_rfl) (by kernel_rfl)) ?_
  intro W base args ds gs before hval0 hW hcnd _
  have hval : ∀ (j : Nat) t v, Try.f5.params[j]? = some t → args[j]? = some v → Value.okWide Try.prog W .any base t v := hval0
  have hW' := hW
  obtain ⟨p, q, hA0, hV, rfl, hfz, hnd⟩ := hW
  have hA : DataW.TrodAll enc Try.prog W 0 (fun _ => true) true Try.f5.params.toList args.toList ds p := hA0
  rw [Try.params5] at hA hval
  obtain ⟨v0, vs0, d0, ds0, p0, q0, hargs, rfl, rfl, h0, r0⟩ := trodAll_cons hA
  obtain ⟨v1, vs1, d1, ds1, p1, q1, rfl, rfl, rfl, h1, r1⟩ := trodAll_cons r0
  obtain ⟨v2, vs2, d2, ds2, p2, q2, rfl, rfl, rfl, h2, r2⟩ := trodAll_cons r1
  obtain ⟨v3, vs3, d3, ds3, p3, q3, rfl, rfl, rfl, h3, r3⟩ := trodAll_cons r2
  obtain ⟨v4, vs4, d4, ds4, p4, q4, rfl, rfl, rfl, h4, r4⟩ := trodAll_cons r3
  obtain ⟨rfl, rfl, rfl⟩ := trodAll_nil r4
  obtain rfl : args = #[v0, v1, v2, v3, v4] := by cases args; simp_all
  obtain ⟨rfl, rfl⟩ := trodVars_none hV
  obtain ⟨a0, len0, cap0, rfl⟩ := okWide_slice Try.underlying22 (hval 0 22 v0 rfl rfl)
  have k0 := h0
  have lt0 : ∀ x ∈ p0, x.block < W.heap.size := by obtain ⟨m, hm⟩ := k0; exact DataW.trod_lt m _ _ _ hm
  obtain ⟨z0, w0⟩ : ∃ zs, IsRow .u8 W a0 len0 cap0 zs := by
    obtain ⟨fuel, hf⟩ := h0
    rcases open_ints Try.underlying22 Try.underlying5 (by kernel_rfl) hf with ⟨hcs, _⟩ | ⟨x, l, c, zs, hcs, _, hl, hm, hz, _, hcell, hwz⟩
    · simp [Value.cells] at hcs
      obtain ⟨rfl, rfl, rfl⟩ := hcs
      exact ⟨[], .inl ⟨rfl, rfl, rfl, rfl⟩⟩
    · simp [Value.cells] at hcs
      obtain ⟨rfl, rfl, rfl⟩ := hcs
      exact ⟨zs, .inr ⟨_, rfl, hl, hm, by simpa using hz, hcell, hwz⟩⟩
  obtain ⟨a1, rfl, rfl, rfl, w1⟩ := open_int Try.underlying3 (hval 1 3 v1 rfl rfl) h1
  obtain ⟨a2, rfl, rfl, rfl, w2⟩ := open_int Try.underlying3 (hval 2 3 v2 rfl rfl) h2
  obtain ⟨a3, rfl, rfl, rfl, w3⟩ := open_int Try.underlying3 (hval 3 3 v3 rfl rfl) h3
  obtain ⟨a4, rfl, rfl, rfl, w4⟩ := open_int Try.underlying3 (hval 4 3 v4 rfl rfl) h4
  clear hA0 hval0
  refine (walk a0 len0 cap0 z0 a1 a2 a3 a4 W w0 w1 w2 w3 w4).mono fun e W' ⟨he, bel⟩ => ?_
  subst he
  exact ⟨_, rfl, _, _, _, [], _, [], hW', trodAll_mk1 (shut_bool Try.underlying4 _), (trodAll_cons_mk (Below.trod laidOut (by kernel_rfl) (of_decide_eq_true (by kernel_rfl)) k0 bel lt0) (trodAll_cons_mk (shut_int Try.underlying3 w1) (trodAll_cons_mk (shut_int Try.underlying3 w2) (trodAll_cons_mk (shut_int Try.underlying3 w3) (trodAll_cons_mk (shut_int Try.underlying3 w4) trodAll_mk0))))), rfl, bel.frame _, fun h => by cases h⟩

theorem over : Rows.gridSeesRow.holds Try.pinned (OpenSpec.ofChange Rows.gridSeesSpec) :=
  OpenClaim.holds_of_wide 5 Try.f5 rfl rfl rfl rfl rfl rfl rfl ⟨rfl, rfl, rfl, rfl, rfl⟩ rfl rfl rfl rfl rfl (by kernel_rfl) Try.func5 (by kernel_rfl)
    (of_decide_eq_true (by kernel_rfl)) (by unfold Func.isWrapper; first | (rw [if_pos (by decide +kernel)]; kernel_rfl) | (rw [if_neg (by decide +kernel)]; exact ⟨rfl, rfl⟩))
    (fun os started H enc _ => lifted os started H enc)

theorem proved : Rows.GridSeesSaid := over
#print axioms proved
end Go.Proofs.Ytfmiaenpmbbknaa.gridSees
