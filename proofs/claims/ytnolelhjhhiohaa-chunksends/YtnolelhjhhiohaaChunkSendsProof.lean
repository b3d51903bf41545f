/-
  Whatever was heard of, in whatever order, the pieces that are told next are the document's: for every number, asks and bits, at this commit; no condition.
-/
import Derived.Test.YtnolelhjhhiohaaRows
import Derived.WalkKit
import Derived.ProofKit
import Derived.OpenShut
import Derived.Test.YtnolelhjhhiohaaChunkBoth
import Derived.BigQuiet
import Derived.ShutString
import Derived.ChangeOld
import Derived.Below
namespace Go.Proofs.Ytnolelhjhhiohaa.chunkSends
open Go.ChangeShapes Go.WideShapes Go.ChangeAt Go.RowKit
open Go.ChangeMaps (open_string shut_string)
set_option linter.unusedVariables false

theorem own : ownKnob Try.prog.godebug = none := by kernel_rfl
theorem laidOut : laidOutB Try.prog = true := by kernel_rfl

/-- WHAT THE WALK IS TOLD OF A SLICE OF INTEGERS THAT CAME IN: it is nil; or it leads to a row of 'cap' cells, the numbers 'zs' (the first 'len' are its elements, the rest its spare room), each fitting its kind. -/
def IsRow (k : IntKind) (w : World) (a : Option Addr) (len cap : Nat) (zs : List Int) : Prop :=
  (a = none ∧ len = 0 ∧ cap = 0 ∧ zs = []) ∨
  ∃ x, a = some x ∧ len ≤ cap ∧ cap ≤ maxLen ∧ zs.length = cap ∧ (∀ i, i < zs.length → w.cell? (x.add i) = some (.int k (zs.getD i 0))) ∧ ∀ n ∈ zs, (Lit.int k n).wf = true

theorem IsRow.vec {k : IntKind} {w : World} {a : Option Addr} {len cap : Nat} {zs : List Int} (h : IsRow k w a len cap zs) : Vec w.heap.size w a len (fun i => .int k (zs[i]?.getD 0)) := by
  rcases h with ⟨rfl, rfl, rfl, rfl⟩ | ⟨x, rfl, hl, hm, hz, hcell, _⟩
  · exact ⟨Nat.zero_le _, .inl rfl⟩
  · refine ⟨Nat.le_trans hl hm, ?_⟩
    by_cases h0 : len = 0
    · exact .inl h0
    · right
      obtain ⟨b, off, spot⟩ := x
      have hc0 := hcell 0 (by omega)
      have hspot : spot = none := by simpa [Addr.add] using World.cell?_spot hc0
      subst hspot
      refine ⟨b, off, rfl, ?_, fun i hi => ?_⟩
      · have h := Go.block_lt_of_cell hc0
        simpa [Addr.add] using h
      · have h := hcell i (by omega)
        by_cases hi0 : i = 0
        · subst hi0
          simpa [Addr.add] using h
        · simpa [Addr.add, hi0] using h


theorem IsRow.word {w : World} {a : Option Addr} {len cap : Nat} {zs : List Int} (h : IsRow .u32 w a len cap zs) (i : Nat) : 0 ≤ zs[i]?.getD 0 ∧ zs[i]?.getD 0 < 4294967296 := by
  rcases h with ⟨_, _, _, rfl⟩ | ⟨_, _, _, _, _, _, hw⟩
  · simp
  · by_cases hi : i < zs.length
    · have h := hw zs[i] (List.getElem_mem hi)
      simp only [Lit.wf, Bool.and_eq_true, decide_eq_true_eq, show IntKind.u32.min = 0 from by decide, show IntKind.u32.max = 4294967295 from by decide] at h
      rw [List.getElem?_eq_getElem hi]
      simp only [Option.getD_some]
      omega
    · rw [List.getElem?_eq_none (by omega)]
      simp

set_option maxRecDepth 8000 in
set_option maxHeartbeats 3200000 in

theorem walk (a0 : Int) (a1 : Option Addr) (len1 cap1 : Nat) (z1 : List Int) (a2 : Option Addr) (len2 cap2 : Nat) (z2 : List Int) (w : World) (w0 : (Lit.int .i64 a0).wf = true) (w1 : IsRow .i64 w a1 len1 cap1 z1) (w2 : IsRow .u32 w a2 len2 cap2 z2) :
    Calls Try.prog 4 #[.int .i64 a0, .slice a1 len1 cap1, .slice a2 len2 cap2] w fun e w' => e = .returned (.bool true) ∧ Below w.heap.size w w' := by
  have v1 := hide (IsRow.vec w1)
  have v2 := hide (IsRow.vec w2)
  have hword := hide (IsRow.word w2)
  have hl1 : (len1 : Int) ≤ 9223372036854775807 := by have := (unhide v1).1; unfold maxLen at this; omega
  have hl2 : (len2 : Int) ≤ 9223372036854775807 := by have := (unhide v2).1; unfold maxLen at this; omega
  clear w0 w1 w2
  have ck := hide (known12_any w)
  go_enter Try.func4, Try.ntmps4
  go_wp2_with fail
  refine (unhide ck).mono ?_
  rintro e x1 ⟨rfl, hg1⟩
  have G1 := hide hg1
  clear ck hg1
  by_cases hb : a0 < 1 ∨ 16 < a0
  · have c1 := hide (fun x => ckNewSender_bad a0 x hb)
    have c2 := hide (fun x => refNewSender_bad a0 x hb)
    clear hb
    go_wp2_with fail
    refine (unhide c1 _).mono ?_
    rintro e wq ⟨rfl, hq⟩
    obtain rfl : x1 = wq := hq.symm
    go_wp2_with fail
    refine (unhide c2 _).mono ?_
    rintro e wq ⟨rfl, hq⟩
    obtain rfl : x1 = wq := hq.symm
    go_wp2_with fail
    go_loopw [11, 12] (fun v11 v12 wr => wr = x1 ∧ v11 = .int .i64 0) (fun _ _ _ => 0)
    case atStart => exact ⟨rfl, rfl⟩
    case round =>
      obtain ⟨rfl, rfl⟩ := hrel
      go_wp2
      go_ret
      exact ⟨rfl, none_below (unhide G1)⟩
  · obtain ⟨n, rfl⟩ : ∃ n : Nat, a0 = (n : Int) := ⟨a0.toNat, by omega⟩
    have hn1 : 1 ≤ n := by omega
    have hn16 : n ≤ 16 := by omega
    have c1 := hide (ckNewSender_any n x1 hn1 hn16)
    have c2 := hide (fun x => refNewSender_any n x hn1 hn16)
    clear hb hn1 hn16
    go_wp2_with fail
    refine (unhide c1).mono ?_
    rintro e x2 ⟨p, rfl, hp, hM, hg2⟩
    have hst := hide (fun z q h a b c d => Ck.Both.start w x1 x2 z p q h n (unhide G1) hp hM hg2 a b c d)
    clear c1 hp hM hg2
    go_wp2_with fail
    refine (unhide c2 _).mono ?_
    rintro e x3 ⟨q, h, rfl, hq, hh, hS, hg3⟩
    have hB := hide (unhide hst x3 q h hq hh hS hg3)
    clear c2 hst hq hh hS hg3
    go_wp2_with fail
    go_loopw [11, 12] (fun v11 v12 wr => ∃ i had a, i ≤ 40 ∧ i ≤ len1 ∧ v11 = .int .i64 ((i : Nat) : Int) ∧ Hid (Ck.Both w wr p q h n had a)) (fun v11 _ _ => 50 - (intOf v11).toNat)
    case atStart => exact ⟨0, _, _, by omega, Nat.zero_le _, rfl, hB⟩
    case round =>
      clear hB
      obtain ⟨i, had, a, hi40, hil, rfl, hB⟩ := hrel
      by_cases hlt : i < len1 ∧ i < 40
      · have hlt1 : (i : Int) < (len1 : Int) := by omega
        have hlt2 : (i : Int) < 40 := by omega
        have HL := hide hlt
        obtain ⟨b1, o1, rfl, hb1, hc1⟩ : ∃ b off, a1 = some ⟨b, off, none⟩ ∧ b < w.heap.size ∧ ∀ i, i < len1 → w.cell? ⟨b, off + i, none⟩ = some (.int .i64 (z1[i]?.getD 0)) := by
          obtain ⟨_, h0 | h⟩ := unhide v1
          · omega
          · exact h
        have d1 : wr.cell? ⟨b1, o1 + i, none⟩ = some (.int .i64 (z1[i]?.getD 0)) := ((unhide hB).bel.cell (p := ⟨b1, o1 + i, none⟩) hb1).trans (hc1 i hlt.1)
        obtain ⟨y1, hy1⟩ : ∃ y, z1[i]?.getD 0 = y := ⟨_, rfl⟩
        rw [hy1] at d1
        have cw := hide (within12_any y1 8 wr (by omega) (by omega))
        have m0 : 0 ≤ y1 % 8 := Int.emod_nonneg _ (by omega)
        have m1 : y1 % 8 < 8 := Int.emod_lt_of_pos _ (by omega)
        obtain ⟨m, hm⟩ : ∃ m, y1 % 8 = m := ⟨_, rfl⟩
        rw [hm] at cw m0 m1
        clear hlt hi40 hil hb1 hc1 hy1 hm
        have cN := hide ((unhide hB).next (m - 1))
        clear hB
        go_wp2_with fail
        refine (unhide cw).mono ?_
        rintro e wq ⟨rfl, hq'⟩
        obtain rfl : wr = wq := hq'.symm
        clear cw
        go_wp2_with fail
        refine (unhide cN).mono ?_
        rintro e y ⟨v, rfl, cR⟩
        have cR' := hide cR
        clear cR cN
        go_wp2_with fail
        refine (unhide cR').mono ?_
        rintro e z ⟨u, rfl, hB, cS⟩
        have cS' := hide cS
        have hB' := hide hB
        clear cR' cS hB
        go_wp2_with fail
        refine (unhide cS').mono ?_
        rintro e zz ⟨rfl, hg⟩
        have hB2 := hide ((unhide hB').on hg)
        have cD1 := hide (ckDone_any p n had _ zz (unhide hB2).mine)
        have cD2 := hide (refDone_any q h n had _ zz (unhide hB2).ref)
        obtain ⟨D, hD⟩ : ∃ D, Ck.all n had = D := ⟨_, rfl⟩
        rw [hD] at cD1 cD2
        clear hg hB' cS' hD
        go_wp2_with fail
        refine (unhide cD1).mono ?_
        rintro e wq ⟨rfl, hq'⟩
        obtain rfl : zz = wq := hq'.symm
        go_wp2_with fail
        refine (unhide cD2).mono ?_
        rintro e wq ⟨rfl, hq'⟩
        obtain rfl : zz = wq := hq'.symm
        clear cD1 cD2
        have hDD : (D != D) = false := by simp
        by_cases hbl : i < len2
        · have hbl1 : (i : Int) < (len2 : Int) := by omega
          obtain ⟨b2, o2, rfl, hb2, hc2⟩ : ∃ b off, a2 = some ⟨b, off, none⟩ ∧ b < w.heap.size ∧ ∀ i, i < len2 → w.cell? ⟨b, off + i, none⟩ = some (.int .u32 (z2[i]?.getD 0)) := by
            obtain ⟨_, h0 | h⟩ := unhide v2
            · omega
            · exact h
          have d2 : zz.cell? ⟨b2, o2 + i, none⟩ = some (.int .u32 (z2[i]?.getD 0)) := ((unhide hB2).bel.cell (p := ⟨b2, o2 + i, none⟩) hb2).trans (hc2 i hbl)
          have hw2 := unhide hword i
          have hd3 : Hid (∀ y, Below w.heap.size w y → y.cell? ⟨b2, o2 + i, none⟩ = some (.int .u32 (z2[i]?.getD 0))) := fun y hy => (hy.cell (p := ⟨b2, o2 + i, none⟩) hb2).trans (hc2 i hbl)
          obtain ⟨y2, hy2⟩ : ∃ y, z2[i]?.getD 0 = y := ⟨_, rfl⟩
          rw [hy2] at d2 hw2 hd3
          have cA := hide ((unhide hB2).ack y2 hw2.1 hw2.2)
          clear hbl hb2 hc2 hy2 hB2 hw2 d1
          go_wp2_with fail
          refine (unhide cA).mono ?_
          rintro e y ⟨rfl, hbel, cR⟩
          have d3 := unhide hd3 y hbel
          have cR' := hide cR
          clear cR cA hbel d2 hd3
          go_wp2_with fail
          refine (unhide cR').mono ?_
          rintro e z ⟨rfl, hB⟩
          have hB3 := hide hB
          clear hB cR' d3
          go_wp2_with fail
          go_roundw
          case rel => exact ⟨i + 1, _, _, by have := unhide HL; omega, by have := unhide HL; omega, by go_num, hB3⟩
          case measure => simp [intOf]; have := unhide HL; omega
        · have hbl1 : ¬ (i : Int) < (len2 : Int) := by omega
          clear hbl
          go_wp2_with fail
          go_roundw
          case rel => exact ⟨i + 1, had, _, by have := unhide HL; omega, by have := unhide HL; omega, by go_num, hB2⟩
          case measure => simp [intOf]; have := unhide HL; omega
      · have cD1 := hide (ckDone_any p n had _ wr (unhide hB).mine)
        have cD2 := hide (refDone_any q h n had _ wr (unhide hB).ref)
        obtain ⟨D, hD⟩ : ∃ D, Ck.all n had = D := ⟨_, rfl⟩
        rw [hD] at cD1 cD2
        have hDD : (D == D) = true := by simp
        have hbel := hide (unhide hB).bel
        have hge : (¬ (i : Int) < (len1 : Int)) ∨ ((i : Int) < (len1 : Int) ∧ ¬ (i : Int) < 40) := by omega
        clear hD hlt hi40 hil hB
        rcases hge with hge | ⟨hge, hge2⟩
        all_goals
          go_wp2_with fail
          refine (unhide cD1).mono ?_
          rintro e wq ⟨rfl, hq'⟩
          obtain rfl : wr = wq := hq'.symm
          go_wp2_with fail
          refine (unhide cD2).mono ?_
          rintro e wq ⟨rfl, hq'⟩
          obtain rfl : wr = wq := hq'.symm
          go_wp2
          go_ret
          exact ⟨rfl, unhide hbel⟩

set_option maxRecDepth 100000 in
theorem lifted (os : Os) (started : os.Started) (H : Type) (enc : TypeId × Value → H) :
    ReturnsInHanded {} Try.checked os 4 .any (Rows.chunkSendsSpec.pre6 enc Try.prog Try.f4 Rows.chunkSendsRow.domain false) (Rows.chunkSendsSpec.post enc Try.prog Try.f4 false true false false) := by
  refine returnsInHanded_of_change (C := Try.checked) own started (by kernel_rfl) Try.func4
    (ChangeSpec.witness6 (enc := enc) (C := Try.checked) false ⟨#[], #[.int .i64 0, .slice none 0 0, .slice none 0 0], []⟩ 8 (by kernel_rfl) (by kernel_rfl) (by kernel_rfl) (by kernel_rfl)) ?_
  intro W base args ds gs before hval0 hW hcnd _
  have hval : ∀ (j : Nat) t v, Try.f4.params[j]? = some t → args[j]? = some v → Value.okWide Try.prog W .any base t v := hval0
  have hW' := hW
  obtain ⟨p, q, hA0, hV, rfl, hfz, hnd⟩ := hW
  have hA : DataW.TrodAll enc Try.prog W 0 (fun _ => true) true Try.f4.params.toList args.toList ds p := hA0
  rw [Try.params4] at hA hval
  obtain ⟨v0, vs0, d0, ds0, p0, q0, hargs, rfl, rfl, h0, r0⟩ := trodAll_cons hA
  obtain ⟨v1, vs1, d1, ds1, p1, q1, rfl, rfl, rfl, h1, r1⟩ := trodAll_cons r0
  obtain ⟨v2, vs2, d2, ds2, p2, q2, rfl, rfl, rfl, h2, r2⟩ := trodAll_cons r1
  obtain ⟨rfl, rfl, rfl⟩ := trodAll_nil r2
  obtain rfl : args = #[v0, v1, v2] := by cases args; simp_all
  obtain ⟨rfl, rfl⟩ := trodVars_none hV
  obtain ⟨a0, rfl, rfl, rfl, w0⟩ := open_int Try.underlying3 (hval 0 3 v0 rfl rfl) h0
  obtain ⟨a1, len1, cap1, rfl⟩ := okWide_slice Try.underlying31 (hval 1 31 v1 rfl rfl)
  have k1 := h1
  have lt1 : ∀ x ∈ p1, x.block < W.heap.size := by obtain ⟨m, hm⟩ := k1; exact DataW.trod_lt m _ _ _ hm
  obtain ⟨z1, w1⟩ : ∃ zs, IsRow .i64 W a1 len1 cap1 zs := by
    obtain ⟨fuel, hf⟩ := h1
    rcases open_ints Try.underlying31 Try.underlying3 (by kernel_rfl) hf with ⟨hcs, _⟩ | ⟨x, l, c, zs, hcs, _, hl, hm, hz, _, hcell, hwz⟩
    · simp [Value.cells] at hcs
      obtain ⟨rfl, rfl, rfl⟩ := hcs
      exact ⟨[], .inl ⟨rfl, rfl, rfl, rfl⟩⟩
    · simp [Value.cells] at hcs
      obtain ⟨rfl, rfl, rfl⟩ := hcs
      exact ⟨zs, .inr ⟨_, rfl, hl, hm, by simpa using hz, hcell, hwz⟩⟩
  obtain ⟨a2, len2, cap2, rfl⟩ := okWide_slice Try.underlying32 (hval 2 32 v2 rfl rfl)
  have k2 := h2
  have lt2 : ∀ x ∈ p2, x.block < W.heap.size := by obtain ⟨m, hm⟩ := k2; exact DataW.trod_lt m _ _ _ hm
  obtain ⟨z2, w2⟩ : ∃ zs, IsRow .u32 W a2 len2 cap2 zs := by
    obtain ⟨fuel, hf⟩ := h2
    rcases open_ints Try.underlying32 Try.underlying43 (by kernel_rfl) hf with ⟨hcs, _⟩ | ⟨x, l, c, zs, hcs, _, hl, hm, hz, _, hcell, hwz⟩
    · simp [Value.cells] at hcs
      obtain ⟨rfl, rfl, rfl⟩ := hcs
      exact ⟨[], .inl ⟨rfl, rfl, rfl, rfl⟩⟩
    · simp [Value.cells] at hcs
      obtain ⟨rfl, rfl, rfl⟩ := hcs
      exact ⟨zs, .inr ⟨_, rfl, hl, hm, by simpa using hz, hcell, hwz⟩⟩
  clear hA0 hval0
  refine (walk a0 a1 len1 cap1 z1 a2 len2 cap2 z2 W w0 w1 w2).mono fun e W' ⟨he, bel⟩ => ?_
  subst he
  exact ⟨_, rfl, _, _, _, [], _, [], hW', trodAll_mk1 (shut_bool Try.underlying4 _), (trodAll_cons_mk (shut_int Try.underlying3 w0) (trodAll_cons_mk (Below.trod laidOut (by kernel_rfl) (of_decide_eq_true (by kernel_rfl)) k1 bel lt1) (trodAll_cons_mk (Below.trod laidOut (by kernel_rfl) (of_decide_eq_true (by kernel_rfl)) k2 bel lt2) trodAll_mk0))), rfl, bel.frame _, fun h => by cases h⟩

theorem over : Rows.chunkSendsRow.holds Try.pinned (OpenSpec.ofChange Rows.chunkSendsSpec) :=
  OpenClaim.holds_of_wide 4 Try.f4 rfl rfl rfl rfl rfl rfl rfl ⟨rfl, rfl, rfl, rfl, rfl⟩ rfl rfl rfl rfl rfl (by kernel_rfl) Try.func4 (by kernel_rfl)
    (of_decide_eq_true (by kernel_rfl)) (by unfold Func.isWrapper; first | (rw [if_pos (by decide +kernel)]; kernel_rfl) | (rw [if_neg (by decide +kernel)]; exact ⟨rfl, rfl⟩))
    (fun os started H enc _ => lifted os started H enc)

theorem proved : Rows.ChunkSendsSaid := over
#print axioms proved
end Go.Proofs.Ytnolelhjhhiohaa.chunkSends
