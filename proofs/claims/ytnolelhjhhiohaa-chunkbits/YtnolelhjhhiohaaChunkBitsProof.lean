/-
  The bits say which pieces are there; a taker of none has none, and is not whole; a whole one has all its bytes: for every total and order, at this commit; no condition.
-/
import Derived.Test.YtnolelhjhhiohaaRows
import Derived.WalkKit
import Derived.ProofKit
import Derived.OpenShut
import Derived.Test.YtnolelhjhhiohaaChunkPuts
import Derived.BigQuiet
import Derived.ShutString
import Derived.ChangeOld
import Derived.Below
namespace Go.Proofs.Ytnolelhjhhiohaa.chunkBits
open Go.ChangeShapes Go.WideShapes Go.ChangeAt Go.RowKit
open Go.ChangeMaps (open_string shut_string)
set_option linter.unusedVariables false

theorem own : ownKnob Try.prog.godebug = none := by kernel_rfl
theorem laidOut : laidOutB Try.prog = true := by kernel_rfl

/-- WHAT THE WALK IS TOLD OF A SLICE OF INTEGERS THAT CAME IN: it is nil; or it leads to a row of 'cap' cells, the numbers 'zs' (the first 'len' are its elements, the rest its spare room), each fitting its kind. -/
def IsRow (k : IntKind) (w : World) (a : Option Addr) (len cap : Nat) (zs : List Int) : Prop :=
  (a = none ∧ len = 0 ∧ cap = 0 ∧ zs = []) ∨
  ∃ x, a = some x ∧ len ≤ cap ∧ cap ≤ maxLen ∧ zs.length = cap ∧ (∀ i, i < zs.length → w.cell? (x.add i) = some (.int k (zs.getD i 0))) ∧ ∀ n ∈ zs, (Lit.int k n).wf = true

theorem IsRow.vec {k : IntKind} {w : World} {a : Option Addr} {len cap : Nat} {zs : List Int} (h : IsRow k w a len cap zs) : Vec w.heap.size w a len (fun i => .int k (zs[i]?.getD 0)) := by
  rcases h with ⟨rfl, rfl, rfl, rfl⟩ | ⟨x, rfl, hl, hm, hz, hcell, _⟩
  · exact ⟨Nat.zero_le _, .inl rfl⟩
  · refine ⟨Nat.le_trans hl hm, ?_⟩
    by_cases h0 : len = 0
    · exact .inl h0
    · right
      obtain ⟨b, off, spot⟩ := x
      have hc0 := hcell 0 (by omega)
      have hspot : spot = none := by simpa [Addr.add] using World.cell?_spot hc0
      subst hspot
      refine ⟨b, off, rfl, ?_, fun i hi => ?_⟩
      · have h := Go.block_lt_of_cell hc0
        simpa [Addr.add] using h
      · have h := hcell i (by omega)
        by_cases hi0 : i = 0
        · subst hi0
          simpa [Addr.add] using h
        · simpa [Addr.add, hi0] using h


set_option maxRecDepth 8000 in
set_option maxHeartbeats 3200000 in

theorem walk (a0 : Int) (a1 : Option Addr) (len1 cap1 : Nat) (z1 : List Int) (w : World) (w0 : (Lit.int .i64 a0).wf = true) (w1 : IsRow .i64 w a1 len1 cap1 z1) :
    Calls Try.prog 8 #[.int .i64 a0, .slice a1 len1 cap1] w fun e w' => e = .returned (.bool true) ∧ Below w.heap.size w w' := by
  have v1 := hide (IsRow.vec w1)
  have hl1 : (len1 : Int) ≤ 9223372036854775807 := by have := (unhide v1).1; unfold maxLen at this; omega
  clear w0 w1
  have ck := hide (known12_any w)
  obtain ⟨i0, hi, hz0, hz1, hz2⟩ := info_parts info_by
  go_enter Try.func8, Try.ntmps8
  go_wp2_with fail
  refine (unhide ck).mono ?_
  rintro e x1 ⟨rfl, hg1⟩
  have G1 := hide hg1
  have cw := hide (within12_any a0 16 x1 (by omega) (by omega))
  have m0 : 0 ≤ a0 % 16 := Int.emod_nonneg _ (by omega)
  have m1 : a0 % 16 < 16 := Int.emod_lt_of_pos _ (by omega)
  obtain ⟨total, hT⟩ : ∃ total : Nat, 1 + a0 % 16 = (total : Int) := ⟨(1 + a0 % 16).toNat, by omega⟩
  have HT : Hid (1 ≤ total ∧ total ≤ 16) := (show 1 ≤ total ∧ total ≤ 16 by omega)
  obtain ⟨mm, hmm⟩ : ∃ mm, a0 % 16 = mm := ⟨_, rfl⟩
  rw [hmm] at cw hT m0 m1
  clear ck hg1 hmm
  go_wp2_with fail
  refine (unhide cw).mono ?_
  rintro e wq ⟨rfl, hq'⟩
  obtain rfl : x1 = wq := hq'.symm
  have cN := hide (ckNewTaker_any w.heap.size x1 (unhide G1).size)
  clear cw
  go_wp2_with fail
  refine (unhide cN).mono ?_
  rintro e x2 ⟨p, rfl, hp, hM, hg2⟩
  have hbel2 : Hid (Below w.heap.size w x2) := none_below (grown_trans (unhide G1) hg2)
  have hlow : Hid (w.heap.size ≤ p) := Nat.le_trans (unhide G1).size hp
  have hM2 := hide hM
  have cW := hide (ckWhole_any _ _ _ _ _ _ x2 hM)
  clear cN hp hM hg2
  go_wp2_with fail
  refine (unhide cW).mono ?_
  rintro e x3 (⟨v, rfl, h0, _⟩ | ⟨rfl, _, hg3⟩)
  · exact absurd h0 (by omega)
  have hM3 := hide ((unhide hM2).on hg3)
  have hbel3 : Hid (Below w.heap.size w x3) := (unhide hbel2).trans (Turn.below (B := fun _ => False) (Turn.new hg3) (unhide hbel2).size (fun _ q => q.elim))
  have cB := hide (ckBits_any _ _ _ _ _ _ x3 (unhide hM3))
  rw [Ck.num_none] at cB
  clear cW hM2 hbel2 hg3
  go_wp2_with fail
  refine (unhide cB).mono ?_
  rintro e wq ⟨rfl, hq'⟩
  obtain rfl : x3 = wq := hq'.symm
  have hH : Hid (Ck.Hand w x3 p total (fun _ => false)) := ⟨⟨0, _, _, unhide hM3, .inl rfl, fun j _ q => by cases q⟩, unhide hlow, unhide hbel3⟩
  have hz16 : Hid (Value.int .u32 0 = .int .u32 (Ck.num (fun _ => false) 16)) := by show _ = _; rw [Ck.num_none]
  clear cB hM3 hbel3
  go_wp2_with fail
  go_loopw [6, 9, 10, 11, 12] (fun v6 v9 _ _ _ wr => ∃ i has, i ≤ 40 ∧ i ≤ len1 ∧ v9 = .int .i64 ((i : Nat) : Int) ∧ v6 = .int .u32 (Ck.num has 16) ∧ Hid (Ck.Hand w wr p total has)) (fun _ v9 _ _ _ _ => 50 - (intOf v9).toNat)
  case atStart => exact ⟨0, _, by omega, Nat.zero_le _, rfl, unhide hz16, hH⟩
  case round =>
    clear hH
    obtain ⟨i, has, hi40, hil, rfl, rfl, hH⟩ := hrel
    by_cases hlt : i < len1 ∧ i < 40
    · have hlt1 : (i : Int) < (len1 : Int) := by omega
      have hlt2 : (i : Int) < 40 := by omega
      have HL := hide hlt
      obtain ⟨b1, o1, rfl, hb1, hc1⟩ : ∃ b off, a1 = some ⟨b, off, none⟩ ∧ b < w.heap.size ∧ ∀ i, i < len1 → w.cell? ⟨b, off + i, none⟩ = some (.int .i64 (z1[i]?.getD 0)) := by
        obtain ⟨_, h0 | h⟩ := unhide v1
        · omega
        · exact h
      have d1 : wr.cell? ⟨b1, o1 + i, none⟩ = some (.int .i64 (z1[i]?.getD 0)) := ((unhide hH).bel.cell (p := ⟨b1, o1 + i, none⟩) hb1).trans (hc1 i hlt.1)
      obtain ⟨y1, hy1⟩ : ∃ y, z1[i]?.getD 0 = y := ⟨_, rfl⟩
      rw [hy1] at d1
      have cw := hide (within12_any y1 (total : Int) wr (by have := unhide HT; omega) (by have := unhide HT; omega))
      obtain ⟨k, hk⟩ : ∃ k : Nat, y1 % (total : Int) = (k : Int) := ⟨(y1 % (total : Int)).toNat, by have := Int.emod_nonneg y1 (b := (total : Int)) (by have := unhide HT; omega); omega⟩
      have hkt : Hid (k < total) := (show k < total by have := Int.emod_lt_of_pos y1 (b := (total : Int)) (by have := unhide HT; omega); omega)
      rw [hk] at cw
      clear hlt hi40 hil hb1 hc1 hy1 hk
      obtain ⟨z, hz⟩ : ∃ z, Ck.num has 16 = z := ⟨_, rfl⟩
      have Hz := hide hz
      rw [hz]
      clear hz
      go_wp2_with fail
      refine (unhide cw).mono ?_
      rintro e wq ⟨rfl, hq'⟩
      obtain rfl : wr = wq := hq'.symm
      clear cw
      obtain ⟨G, hG⟩ : ∃ G, G = wr.heap.size := ⟨_, rfl⟩
      have hG' := hide hG
      clear hG
      go_wp2_with (at_make; refine wpList_make_full _ rfl _ _ 22 rfl G 5 i0 (.int .u8 0) 1 Try.underlying22 hi hz0 hz1 .i64 .i64 _ _ 64 rfl rfl rfl rfl ?q3 ?q4 (Nat.le_of_eq (unhide hG')) ?_)
      case q3 => first | omega | (rw [hz2]; omega)
      case q4 => unfold maxLen; omega
      intro y hown hgrow
      rw [Ck.zeros_bys] at hown
      rw [unhide hG'] at hown
      have cP := hide ((unhide hH).put hgrow hown (unhide HT).1 (unhide HT).2 (unhide hkt))
      clear hown hgrow hH
      rw [← unhide hG'] at cP
      try rw [← unhide hG']
      obtain ⟨z', hz'⟩ : ∃ z', Ck.num (Ck.put has k) 16 = z' := ⟨_, rfl⟩
      have Hz' := hide hz'
      have hor := Ck.num_more has (k := 16) (i := k) (by omega) (by have := unhide hkt; have := unhide HT; omega)
      rw [unhide Hz, hz'] at hor
      have hsh := Ck.shift_one (k := k) (by have := unhide hkt; have := unhide HT; omega)
      have hsh2 := Ck.shift_one (k := total) (unhide HT).2
      have hsh3 := Ck.wrap_less (k := total) (unhide HT).2
      have k0 : (0 : Int) ≤ (k : Int) := by omega
      have k1 : (k : Int) ≤ 32 := by have := unhide hkt; have := unhide HT; omega
      have t0 : (0 : Int) ≤ (total : Int) := by omega
      have t1 : (total : Int) ≤ 16 := by have := unhide HT; omega
      clear hz' hT
      go_wp2_with fail
      refine (unhide cP).mono ?_
      rintro e y2 ⟨rfl, ⟨L, V, hM, h64⟩, hbel⟩
      have cW := hide (Ck.Hand.whole hM h64 (unhide hlow) hbel (unhide HT).1)
      have hfull := hM.full
      rw [Ck.num_full (unhide HT).2, unhide Hz'] at hfull
      obtain ⟨A, hA⟩ : ∃ A, Ck.all total (Ck.put has k) = A := ⟨_, rfl⟩
      rw [hA] at hfull cW
      have hfl : (z' == 2 ^ total - 1) = A := by
        have : (z' == 2 ^ total - 1) = !(z' != 2 ^ total - 1) := by show _ = !!_; simp
        rw [this, hfull]
        simp
      clear hM h64 hbel cP hfull hA d1
      go_wp2_with fail
      refine (unhide cW).mono ?_
      rintro e y3 ⟨a9, m9, c9, rfl, hm9, hH⟩
      have hH' := hide hH
      have cB : Hid (Calls Try.prog 25 #[.pointer (some ⟨p, 0, none⟩)] y3 fun e w' => e = .returned (.int .u32 z') ∧ w' = y3) := by
        obtain ⟨⟨tot, L, V, hM, _⟩, _, _⟩ := hH
        rw [← unhide Hz']
        exact ckBits_any _ _ _ _ _ _ y3 hM
      have Hm9 := hide hm9
      clear hH cW hm9 hor hsh
      go_wp2_with fail
      refine (unhide cB).mono ?_
      rintro e wq ⟨rfl, hq'⟩
      obtain rfl : y3 = wq := hq'.symm
      have hzz : (z' != z') = false := by simp
      clear cB
      cases A with
      | true =>
        obtain rfl : m9 = 64 * total := unhide Hm9 rfl
        have hmm : (((64 * total : Nat) : Int) != 64 * (total : Int)) = false := by simp
        go_wp2_with fail
        go_roundw
        case rel => exact ⟨i + 1, _, by have := unhide HL; omega, by have := unhide HL; omega, by go_num, by rw [unhide Hz'], hH'⟩
        case measure => simp [intOf]; have := unhide HL; omega
      | false =>
        go_wp2_with fail
        go_roundw
        case rel => exact ⟨i + 1, _, by have := unhide HL; omega, by have := unhide HL; omega, by go_num, by rw [unhide Hz'], hH'⟩
        case measure => simp [intOf]; have := unhide HL; omega
    · have hge : (¬ (i : Int) < (len1 : Int)) ∨ ((i : Int) < (len1 : Int) ∧ ¬ (i : Int) < 40) := by omega
      have hbel := hide (unhide hH).bel
      clear hlt hi40 hil hH
      rcases hge with hge | ⟨hge, hge2⟩
      all_goals
        go_wp2
        go_ret
        exact ⟨rfl, unhide hbel⟩

set_option maxRecDepth 100000 in
theorem lifted (os : Os) (started : os.Started) (H : Type) (enc : TypeId × Value → H) :
    ReturnsInHanded {} Try.checked os 8 .any (Rows.chunkBitsSpec.pre6 enc Try.prog Try.f8 Rows.chunkBitsRow.domain false) (Rows.chunkBitsSpec.post enc Try.prog Try.f8 false true false false) := by
  refine returnsInHanded_of_change (C := Try.checked) own started (by kernel_rfl) Try.func8
    (ChangeSpec.witness6 (enc := enc) (C := Try.checked) false ⟨#[], #[.int .i64 0, .slice none 0 0], []⟩ 8 (by kernel_rfl) (by kernel_rfl) (by kernel_rfl) (by kernel_rfl)) ?_
  intro W base args ds gs before hval0 hW hcnd _
  have hval : ∀ (j : Nat) t v, Try.f8.params[j]? = some t → args[j]? = some v → Value.okWide Try.prog W .any base t v := hval0
  have hW' := hW
  obtain ⟨p, q, hA0, hV, rfl, hfz, hnd⟩ := hW
  have hA : DataW.TrodAll enc Try.prog W 0 (fun _ => true) true Try.f8.params.toList args.toList ds p := hA0
  rw [Try.params8] at hA hval
  obtain ⟨v0, vs0, d0, ds0, p0, q0, hargs, rfl, rfl, h0, r0⟩ := trodAll_cons hA
  obtain ⟨v1, vs1, d1, ds1, p1, q1, rfl, rfl, rfl, h1, r1⟩ := trodAll_cons r0
  obtain ⟨rfl, rfl, rfl⟩ := trodAll_nil r1
  obtain rfl : args = #[v0, v1] := by cases args; simp_all
  obtain ⟨rfl, rfl⟩ := trodVars_none hV
  obtain ⟨a0, rfl, rfl, rfl, w0⟩ := open_int Try.underlying3 (hval 0 3 v0 rfl rfl) h0
  obtain ⟨a1, len1, cap1, rfl⟩ := okWide_slice Try.underlying31 (hval 1 31 v1 rfl rfl)
  have k1 := h1
  have lt1 : ∀ x ∈ p1, x.block < W.heap.size := by obtain ⟨m, hm⟩ := k1; exact DataW.trod_lt m _ _ _ hm
  obtain ⟨z1, w1⟩ : ∃ zs, IsRow .i64 W a1 len1 cap1 zs := by
    obtain ⟨fuel, hf⟩ := h1
    rcases open_ints Try.underlying31 Try.underlying3 (by kernel_rfl) hf with ⟨hcs, _⟩ | ⟨x, l, c, zs, hcs, _, hl, hm, hz, _, hcell, hwz⟩
    · simp [Value.cells] at hcs
      obtain ⟨rfl, rfl, rfl⟩ := hcs
      exact ⟨[], .inl ⟨rfl, rfl, rfl, rfl⟩⟩
    · simp [Value.cells] at hcs
      obtain ⟨rfl, rfl, rfl⟩ := hcs
      exact ⟨zs, .inr ⟨_, rfl, hl, hm, by simpa using hz, hcell, hwz⟩⟩
  clear hA0 hval0
  refine (walk a0 a1 len1 cap1 z1 W w0 w1).mono fun e W' ⟨he, bel⟩ => ?_
  subst he
  exact ⟨_, rfl, _, _, _, [], _, [], hW', trodAll_mk1 (shut_bool Try.underlying4 _), (trodAll_cons_mk (shut_int Try.underlying3 w0) (trodAll_cons_mk (Below.trod laidOut (by kernel_rfl) (of_decide_eq_true (by kernel_rfl)) k1 bel lt1) trodAll_mk0)), rfl, bel.frame _, fun h => by cases h⟩

theorem over : Rows.chunkBitsRow.holds Try.pinned (OpenSpec.ofChange Rows.chunkBitsSpec) :=
  OpenClaim.holds_of_wide 8 Try.f8 rfl rfl rfl rfl rfl rfl rfl ⟨rfl, rfl, rfl, rfl, rfl⟩ rfl rfl rfl rfl rfl (by kernel_rfl) Try.func8 (by kernel_rfl)
    (of_decide_eq_true (by kernel_rfl)) (by unfold Func.isWrapper; first | (rw [if_pos (by decide +kernel)]; kernel_rfl) | (rw [if_neg (by decide +kernel)]; exact ⟨rfl, rfl⟩))
    (fun os started H enc _ => lifted os started H enc)

theorem proved : Rows.ChunkBitsSaid := over
#print axioms proved
end Go.Proofs.Ytnolelhjhhiohaa.chunkBits
