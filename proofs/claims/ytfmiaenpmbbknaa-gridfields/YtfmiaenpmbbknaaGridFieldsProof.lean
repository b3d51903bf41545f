/-
  For any cells, blocks and targets the law GridFields answers true: the field of steps is the document's; no condition.
-/
import Derived.Test.YtfmiaenpmbbknaaRows
import Derived.WalkKit
import Derived.ProofKit
import Derived.OpenShut
import Derived.Test.YtfmiaenpmbbknaaGridRef
import Derived.Laws.AppendOwnNone
import Derived.Deep.Grids
import Derived.ShutString
import Derived.ChangeOld
import Derived.Below
namespace Go.Proofs.Ytfmiaenpmbbknaa.gridFields
open Go.ChangeShapes Go.WideShapes Go.ChangeAt Go.RowKit
open Go.ChangeMaps (open_string shut_string)
set_option linter.unusedVariables false

theorem own : ownKnob Try.prog.godebug = none := by kernel_rfl
theorem laidOut : laidOutB Try.prog = true := by kernel_rfl

/-- WHAT THE WALK IS TOLD OF A SLICE OF INTEGERS THAT CAME IN: it is nil; or it leads to a row of 'cap' cells, the numbers 'zs' (the first 'len' are its elements, the rest its spare room), each fitting its kind. -/
def IsRow (k : IntKind) (w : World) (a : Option Addr) (len cap : Nat) (zs : List Int) : Prop :=
  (a = none ∧ len = 0 ∧ cap = 0 ∧ zs = []) ∨
  ∃ x, a = some x ∧ len ≤ cap ∧ cap ≤ maxLen ∧ zs.length = cap ∧ (∀ i, i < zs.length → w.cell? (x.add i) = some (.int k (zs.getD i 0))) ∧ ∀ n ∈ zs, (Lit.int k n).wf = true

/-- A slice of bools that came in: nil; or a row of 'cap' cells. -/
def IsBols (w : World) (a : Option Addr) (len cap : Nat) (f : Nat → Bool) : Prop :=
  (a = none ∧ len = 0 ∧ cap = 0) ∨ ∃ x, a = some x ∧ len ≤ cap ∧ cap ≤ maxLen ∧ ∀ i, i < cap → w.cell? (x.add i) = some (.bool (f i))

theorem IsRow.vec {k : IntKind} {w : World} {a : Option Addr} {len cap : Nat} {zs : List Int} (h : IsRow k w a len cap zs) : Vec w.heap.size w a len (fun i => .int k (zs[i]?.getD 0)) := by
  rcases h with ⟨rfl, rfl, rfl, rfl⟩ | ⟨x, rfl, hl, hm, hz, hcell, _⟩
  · exact ⟨Nat.zero_le _, .inl rfl⟩
  · refine ⟨Nat.le_trans hl hm, ?_⟩
    by_cases h0 : len = 0
    · exact .inl h0
    · right
      obtain ⟨b, off, spot⟩ := x
      have hc0 := hcell 0 (by omega)
      have hspot : spot = none := by simpa [Addr.add] using World.cell?_spot hc0
      subst hspot
      refine ⟨b, off, rfl, ?_, fun i hi => ?_⟩
      · have h := Go.block_lt_of_cell hc0
        simpa [Addr.add] using h
      · have h := hcell i (by omega)
        by_cases hi0 : i = 0
        · subst hi0
          simpa [Addr.add] using h
        · simpa [Addr.add, hi0] using h

theorem IsRow.le {k : IntKind} {w : World} {a : Option Addr} {len cap : Nat} {zs : List Int} (h : IsRow k w a len cap zs) : len ≤ cap := by
  rcases h with ⟨_, rfl, rfl, _⟩ | ⟨_, _, h, _⟩
  · exact Nat.le_refl _
  · exact h

theorem IsRow.byte {w : World} {a : Option Addr} {len cap : Nat} {zs : List Int} (h : IsRow .u8 w a len cap zs) (i : Nat) : 0 ≤ zs[i]?.getD 0 ∧ zs[i]?.getD 0 ≤ 255 := by
  rcases h with ⟨_, _, _, rfl⟩ | ⟨_, _, _, _, _, _, hw⟩
  · simp
  · by_cases hi : i < zs.length
    · have h := hw zs[i] (List.getElem_mem hi)
      simp only [Lit.wf, Bool.and_eq_true, decide_eq_true_eq, show IntKind.u8.min = 0 from by decide, show IntKind.u8.max = 255 from by decide] at h
      rw [List.getElem?_eq_getElem hi]
      exact h
    · rw [List.getElem?_eq_none (by omega)]
      simp

theorem IsRow.long {w : World} {a : Option Addr} {len cap : Nat} {zs : List Int} (h : IsRow .i64 w a len cap zs) (i : Nat) : -9223372036854775808 ≤ zs[i]?.getD 0 ∧ zs[i]?.getD 0 ≤ 9223372036854775807 := by
  rcases h with ⟨_, _, _, rfl⟩ | ⟨_, _, _, _, _, _, hw⟩
  · simp
  · by_cases hi : i < zs.length
    · have h := hw zs[i] (List.getElem_mem hi)
      simp only [Lit.wf, Bool.and_eq_true, decide_eq_true_eq, show IntKind.i64.min = -9223372036854775808 from by decide, show IntKind.i64.max = 9223372036854775807 from by decide] at h
      rw [List.getElem?_eq_getElem hi]
      exact h
    · rw [List.getElem?_eq_none (by omega)]
      simp

theorem IsBols.vec {w : World} {a : Option Addr} {len cap : Nat} {g : Nat → Bool} (h : IsBols w a len cap g) : Vec w.heap.size w a len (Bols g) := by
  rcases h with ⟨rfl, rfl, rfl⟩ | ⟨x, rfl, hl, hm, hcell⟩
  · exact ⟨Nat.zero_le _, .inl rfl⟩
  · refine ⟨Nat.le_trans hl hm, ?_⟩
    by_cases h0 : len = 0
    · exact .inl h0
    · right
      obtain ⟨b, off, spot⟩ := x
      have hc0 := hcell 0 (by omega)
      have hspot : spot = none := by simpa [Addr.add] using World.cell?_spot hc0
      subst hspot
      refine ⟨b, off, rfl, ?_, fun i hi => ?_⟩
      · have h := Go.block_lt_of_cell hc0
        simpa [Addr.add] using h
      · have h := hcell i (by omega)
        by_cases hi0 : i = 0
        · subst hi0
          simpa [Addr.add, Bols] using h
        · simpa [Addr.add, hi0, Bols] using h

def bolRow (g : Nat → Bool) (len : Nat) : List Value := (List.range len).map fun i => .bool (g i)

theorem bolRow_len (g : Nat → Bool) (len : Nat) : (bolRow g len).length = len := by simp [bolRow]

theorem bolRow_at (g : Nat → Bool) (len i : Nat) (h : i < len) : (bolRow g len)[i]? = some (.bool (g i)) := by
  unfold bolRow
  rw [List.getElem?_map, List.getElem?_range h]
  rfl

theorem bol_src {w : World} {x : Addr} {len : Nat} {g : Nat → Bool} {B : Nat} (h : Vec B w (some x) len (Bols g)) (j : Nat) (u : Value) (hj : (bolRow g len)[j]? = some u) : w.cell? (x.add j) = some u := by
  have hlt : j < len := by rw [← bolRow_len g len]; exact (List.getElem?_eq_some_iff.1 hj).1
  rw [bolRow_at g len j hlt] at hj
  cases hj
  obtain ⟨b, off, hx, _, hc⟩ := h.at hlt
  cases hx
  by_cases hj0 : j = 0
  · subst hj0
    simpa [Addr.add, Bols] using hc
  · simpa [Addr.add, hj0, Bols] using hc

theorem bol_one (g : Nat → Bool) (len : Nat) : ∀ u ∈ bolRow g len, u.oneCell' = true := by
  intro u hu
  obtain ⟨i, _, rfl⟩ := List.mem_map.1 hu
  rfl

theorem own_bols {w : World} {base : Nat} {v : Value} {len : Nat} {g : Nat → Bool} (h : w.ownsRow base 4 1 v len (bolRow g len)) (hm : len ≤ maxLen) :
    ∃ a cap, v = .slice a len cap ∧ Vec w.heap.size w a len (Bols g) := by
  rcases h.2 with ⟨rfl, h0⟩ | ⟨b, cap, cur, rfl, _, hg, _, _, _, _⟩
  · exact ⟨none, 0, by rw [h0], hm, .inl h0⟩
  · refine ⟨_, cap, rfl, hm, .inr ⟨b, 0, rfl, lt_of_block hg, fun i hi => ?_⟩⟩
    rw [Nat.zero_add, h.cellAt i (by omega), bolRow_at g len i hi]
    rfl

theorem info_bool : (Try.prog.info? 4).map (fun i => (i.zero, i.size, i.bytes)) = some (some (.bool false), 1, 1) := by kernel_rfl

set_option maxRecDepth 8000 in
set_option maxHeartbeats 1600000 in

theorem walk (a0 : Option Addr) (len0 cap0 : Nat) (z0 : List Int) (a1 : Option Addr) (len1 cap1 : Nat) (z1 : Nat → Bool) (a2 : Option Addr) (len2 cap2 : Nat) (z2 : List Int) (w : World) (w0 : IsRow .u8 w a0 len0 cap0 z0) (w1 : IsBols w a1 len1 cap1 z1) (w2 : IsRow .i64 w a2 len2 cap2 z2) :
    Calls Try.prog 6 #[.slice a0 len0 cap0, .slice a1 len1 cap1, .slice a2 len2 cap2] w fun e w' => e = .returned (.bool true) ∧ Below w.heap.size w w' := by
  have hv := w0.vec
  have hb := w0.byte
  have hbv := w1.vec
  have htv := w2.vec
  have htb := w2.long
  obtain ⟨f, hf⟩ : ∃ f : Nat → Int, f = fun i => z0[i]?.getD 0 := ⟨_, rfl⟩
  obtain ⟨t, ht⟩ : ∃ t : Nat → Int, t = fun i => z2[i]?.getD 0 := ⟨_, rfl⟩
  have hb' := hide (show ∀ i, 0 ≤ f i ∧ f i ≤ 255 by intro i; rw [hf]; exact hb i)
  have htb' := hide (show ∀ i, -9223372036854775808 ≤ t i ∧ t i ≤ 9223372036854775807 by intro i; rw [ht]; exact htb i)
  have hv2 : Hid (Vec w.heap.size w a0 len0 (Byts f)) := by rw [hf]; exact hv
  have ht2 : Hid (Vec w.heap.size w a2 len2 (Ints t)) := by rw [ht]; exact htv
  have hm : len0 ≤ 9223372036854775807 := hv.1
  have hm1 : len1 ≤ 9223372036854775807 := hbv.1
  have hm2 : len2 ≤ 9223372036854775807 := htv.1
  have hbv2 := hide hbv
  have hnil : a1 = none → len1 = 0 ∧ cap1 = 0 := by
    intro h
    rcases w1 with ⟨_, h1, h2⟩ | ⟨x, h1, _⟩
    · exact ⟨h1, h2⟩
    · rw [h] at h1; cases h1
  have hnil' := hide hnil
  clear hb hf hv ht htb htv hbv w0 w1 w2 hnil
  obtain ⟨j0, hi, hz0, hz1, hz2⟩ := info_parts info_bool
  go_enter Try.func6, Try.ntmps6
  go_wp2_with fail
  refine (known_any _).mono ?_
  rintro e wk ⟨rfl, bel⟩
  by_cases h1 : (1000 : Int) < (len0 : Int)
  · go_wp2
    go_ret
    exact ⟨rfl, bel⟩
  by_cases h2 : (1000 : Int) < (len1 : Int)
  · have h1' : decide ((1000 : Int) < (len0 : Int)) = false := by simpa using h1
    go_wp2
    go_ret
    exact ⟨rfl, bel⟩
  by_cases h3 : (50 : Int) < (len2 : Int)
  · go_wp2
    go_ret
    exact ⟨rfl, bel⟩
  have vK := hide ((unhide hv2).kept bel)
  have bK := hide ((unhide hbv2).kept bel)
  have tK := hide ((unhide ht2).kept bel)
  clear hv2 hbv2 ht2
  go_wp2_with fail
  refine (full_any _ _ _ _ f _ (unhide vK) (unhide hb') bel.size).mono ?_
  rintro e wa ⟨gA, rfl, hgA, hA, bela⟩
  have b1 := bel.trans (bela.mono bel.size)
  obtain ⟨q, hq⟩ : ∃ q : Nat → Int, q = Gr.full len0 f := ⟨_, rfl⟩
  rw [← hq] at hA
  have hF : Hid (∀ i, 0 ≤ q i ∧ q i ≤ 255) := by rw [hq]; exact fun i => ⟨(Gr.full_bd len0 f i).1, by have := (Gr.full_bd len0 f i).2; omega⟩
  have cA := hide (hA.vec wa.heap.size hA.lt (by unfold maxLen; omega))
  have bA := hide (((unhide bK).kept (bela.mono bel.size)).mono b1.size)
  have tA := hide (((unhide tK).kept (bela.mono bel.size)).mono b1.size)
  clear hA hq vK bK tK bela hb'
  -- the copy of the blocks, whatever they are
  have rest : ∀ (a' : Option Addr) (cap' : Nat) (w1 : World), Vec w1.heap.size w1 a' len1 (Bols z1) → Below wa.heap.size wa w1 →
      Calls Try.prog 25 #[.slice (some ⟨gA, 0, none⟩) 384 384, .slice a' len1 cap', .slice a2 len2 cap2] w1 (IsFieldOf w1 (fun i => Gr.openB q len1 z1 i = true) (Gr.tgt q t len2)) := by
    intro a' cap' w1 hv1 hbl
    exact field_any _ _ _ _ _ _ _ _ q t z1 w1 (((unhide cA).kept hbl).mono hbl.size) (unhide hF) hv1 (((unhide tA).kept hbl).mono hbl.size) (unhide htb')
  rcases a1 with _ | x
  · obtain ⟨e1, e2⟩ := (unhide hnil') rfl
    subst e1
    subst e2
    clear hnil' h1 h2 h3
    go_wp2_with (at_builtin; refine wpList_append_own_none rfl _ _ 35 rfl wa.heap.size 4 j0 1 Try.underlying35 hi _ _ _ rfl (World.ownsRow_made _ _ _ (Nat.le_refl _) (by decide) (by simp)) rfl ?_)
    have bel1 : Below wa.heap.size wa (wa.alloc (.cells #[] 4)) := (Below.refl _ _).alloc (Nat.le_refl _) _
    refine (rest _ _ _ ⟨by decide, .inl rfl⟩ bel1).mono ?_
    rintro e w2 ⟨F1, ⟨g2, rfl, hg2, hA2, bel2⟩, hf1⟩
    have belA2 : Below wa.heap.size wa w2 := bel1.trans (bel2.mono bel1.size)
    have hA2' := hide hA2
    have hf1' := hide hf1
    clear hA2 hf1 rest bel2
    go_wp2_with fail
    refine (refField_any _ _ _ _ _ _ _ _ q t z1 _ (((unhide cA).kept belA2).mono belA2.size) (unhide hF) (((unhide bA).kept belA2).mono belA2.size) (((unhide tA).kept belA2).mono belA2.size) (unhide htb')).mono ?_
    rintro e w3 ⟨F2, ⟨g3, rfl, hg3, hA3, bel3⟩, hf2⟩
    have belA3 := belA2.trans (bel3.mono belA2.size)
    have v2 := hide (((unhide hA2').vec w2.heap.size (unhide hA2').lt (by unfold maxLen; omega)).kept bel3)
    have v3 := hide (hA3.vec w3.heap.size hA3.lt (by unfold maxLen; omega))
    have heq := hide (fun i hi => (unhide hf1').one hf2 i hi)
    clear hA3 hf2 hA2' hf1' bel3
    go_wp2_with fail
    refine (same_any _ _ _ _ _ _ _ F1 F2 _ (unhide v2) (unhide v3) (unhide heq)).mono ?_
    rintro e w4 ⟨rfl, bel4⟩
    have belA4 := belA3.trans (bel4.mono belA3.size)
    go_wp2
    go_ret
    exact ⟨rfl, b1.trans (belA4.mono b1.size)⟩
  · go_wp2_with (at_builtin; refine wpList_append_own _ rfl _ _ 35 rfl wa.heap.size 4 j0 (.bool false) 1 1 Try.underlying35 hi hz0 hz1 hz2 rfl (by decide) _ _ _ rfl (World.ownsRow_made _ _ _ (Nat.le_refl _) (by decide) (by simp)) x len1 cap1 (bolRow z1 len1) rfl ?c1 ?c2 ?c3 ?c4 ?c5 ?c6 ?_)
    case c1 => simp [bolRow_len]
    case c2 => exact bol_src ((unhide bA).kept ((Below.refl _ _).alloc (Nat.le_refl _) _))
    case c3 => exact bol_one z1 len1
    case c4 => unfold maxLen; omega
    case c5 => omega
    case c6 => simp
    intro v' w1 hown hgrow _
    have bel1 : Below wa.heap.size wa w1 := ((Below.refl wa.heap.size wa).alloc (Nat.le_refl _) _).grown hgrow (by simp) (by intro k hk; simp [Value.ownBlock] at hk; omega)
    obtain ⟨a', cap', rfl, hmine⟩ := own_bols (by simpa using hown) (by unfold maxLen; omega)
    have hmine' := hide hmine
    clear hown hgrow hmine hnil'
    go_wp2_with fail
    refine (rest _ _ _ (unhide hmine') bel1).mono ?_
    rintro e w2 ⟨F1, ⟨g2, rfl, hg2, hA2, bel2⟩, hf1⟩
    have belA2 : Below wa.heap.size wa w2 := bel1.trans (bel2.mono bel1.size)
    have hA2' := hide hA2
    have hf1' := hide hf1
    clear hA2 hf1 rest bel2
    go_wp2_with fail
    refine (refField_any _ _ _ _ _ _ _ _ q t z1 _ (((unhide cA).kept belA2).mono belA2.size) (unhide hF) (((unhide bA).kept belA2).mono belA2.size) (((unhide tA).kept belA2).mono belA2.size) (unhide htb')).mono ?_
    rintro e w3 ⟨F2, ⟨g3, rfl, hg3, hA3, bel3⟩, hf2⟩
    have belA3 := belA2.trans (bel3.mono belA2.size)
    have v2 := hide (((unhide hA2').vec w2.heap.size (unhide hA2').lt (by unfold maxLen; omega)).kept bel3)
    have v3 := hide (hA3.vec w3.heap.size hA3.lt (by unfold maxLen; omega))
    have heq := hide (fun i hi => (unhide hf1').one hf2 i hi)
    clear hA3 hf2 hA2' hf1' bel3
    go_wp2_with fail
    refine (same_any _ _ _ _ _ _ _ F1 F2 _ (unhide v2) (unhide v3) (unhide heq)).mono ?_
    rintro e w4 ⟨rfl, bel4⟩
    have belA4 := belA3.trans (bel4.mono belA3.size)
    go_wp2
    go_ret
    exact ⟨rfl, b1.trans (belA4.mono b1.size)⟩

set_option maxRecDepth 100000 in
theorem lifted (os : Os) (started : os.Started) (H : Type) (enc : TypeId × Value → H) :
    ReturnsInHanded {} Try.checked os 6 .any (Rows.gridFieldsSpec.pre6 enc Try.prog Try.f6 Rows.gridFieldsRow.domain false) (Rows.gridFieldsSpec.post enc Try.prog Try.f6 false true false false) := by
  refine returnsInHanded_of_change (C := Try.checked) own started (by kernel_rfl) Try.func6
    (ChangeSpec.witness6 (enc := enc) (C := Try.checked) false ⟨#[], #[.slice none 0 0, .slice none 0 0, .slice none 0 0], []⟩ 8 (by kernel_rfl) (by kernel_rfl) (by kernel_rfl) (by kernel_rfl)) ?_
  intro W base args ds gs before hval0 hW hcnd _
  have hval : ∀ (j : Nat) t v, Try.f6.params[j]? = some t → args[j]? = some v → Value.okWide Try.prog W .any base t v := hval0
  have hW' := hW
  obtain ⟨p, q, hA0, hV, rfl, hfz, hnd⟩ := hW
  have hA : DataW.TrodAll enc Try.prog W 0 (fun _ => true) true Try.f6.params.toList args.toList ds p := hA0
  rw [Try.params6] at hA hval
  obtain ⟨v0, vs0, d0, ds0, p0, q0, hargs, rfl, rfl, h0, r0⟩ := trodAll_cons hA
  obtain ⟨v1, vs1, d1, ds1, p1, q1, rfl, rfl, rfl, h1, r1⟩ := trodAll_cons r0
  obtain ⟨v2, vs2, d2, ds2, p2, q2, rfl, rfl, rfl, h2, r2⟩ := trodAll_cons r1
  obtain ⟨rfl, rfl, rfl⟩ := trodAll_nil r2
  obtain rfl : args = #[v0, v1, v2] := by cases args; simp_all
  obtain ⟨rfl, rfl⟩ := trodVars_none hV
  obtain ⟨a0, len0, cap0, rfl⟩ := okWide_slice Try.underlying22 (hval 0 22 v0 rfl rfl)
  have k0 := h0
  have lt0 : ∀ x ∈ p0, x.block < W.heap.size := by obtain ⟨m, hm⟩ := k0; exact DataW.trod_lt m _ _ _ hm
  obtain ⟨z0, w0⟩ : ∃ zs, IsRow .u8 W a0 len0 cap0 zs := by
    obtain ⟨fuel, hf⟩ := h0
    rcases open_ints Try.underlying22 Try.underlying5 (by kernel_rfl) hf with ⟨hcs, _⟩ | ⟨x, l, c, zs, hcs, _, hl, hm, hz, _, hcell, hwz⟩
    · simp [Value.cells] at hcs
      obtain ⟨rfl, rfl, rfl⟩ := hcs
      exact ⟨[], .inl ⟨rfl, rfl, rfl, rfl⟩⟩
    · simp [Value.cells] at hcs
      obtain ⟨rfl, rfl, rfl⟩ := hcs
      exact ⟨zs, .inr ⟨_, rfl, hl, hm, by simpa using hz, hcell, hwz⟩⟩
  obtain ⟨a1, len1, cap1, rfl⟩ := okWide_slice Try.underlying35 (hval 1 35 v1 rfl rfl)
  have k1 := h1
  have lt1 : ∀ x ∈ p1, x.block < W.heap.size := by obtain ⟨m, hm⟩ := k1; exact DataW.trod_lt m _ _ _ hm
  obtain ⟨z1, w1⟩ : ∃ f, IsBols W a1 len1 cap1 f := by
    obtain ⟨fuel, hf⟩ := h1
    rcases Go.Deep.open_bools Try.underlying35 Try.underlying4 (by kernel_rfl) hf with ⟨hcs, _⟩ | ⟨x, l, c, f, hcs, _, hl, hm, _, hcell⟩
    · simp [Value.cells] at hcs
      obtain ⟨rfl, rfl, rfl⟩ := hcs
      exact ⟨fun _ => false, .inl ⟨rfl, rfl, rfl⟩⟩
    · simp [Value.cells] at hcs
      obtain ⟨rfl, rfl, rfl⟩ := hcs
      exact ⟨f, .inr ⟨_, rfl, hl, hm, hcell⟩⟩
  obtain ⟨a2, len2, cap2, rfl⟩ := okWide_slice Try.underlying29 (hval 2 29 v2 rfl rfl)
  have k2 := h2
  have lt2 : ∀ x ∈ p2, x.block < W.heap.size := by obtain ⟨m, hm⟩ := k2; exact DataW.trod_lt m _ _ _ hm
  obtain ⟨z2, w2⟩ : ∃ zs, IsRow .i64 W a2 len2 cap2 zs := by
    obtain ⟨fuel, hf⟩ := h2
    rcases open_ints Try.underlying29 Try.underlying3 (by kernel_rfl) hf with ⟨hcs, _⟩ | ⟨x, l, c, zs, hcs, _, hl, hm, hz, _, hcell, hwz⟩
    · simp [Value.cells] at hcs
      obtain ⟨rfl, rfl, rfl⟩ := hcs
      exact ⟨[], .inl ⟨rfl, rfl, rfl, rfl⟩⟩
    · simp [Value.cells] at hcs
      obtain ⟨rfl, rfl, rfl⟩ := hcs
      exact ⟨zs, .inr ⟨_, rfl, hl, hm, by simpa using hz, hcell, hwz⟩⟩
  clear hA0 hval0
  refine (walk a0 len0 cap0 z0 a1 len1 cap1 z1 a2 len2 cap2 z2 W w0 w1 w2).mono fun e W' ⟨he, bel⟩ => ?_
  subst he
  exact ⟨_, rfl, _, _, _, [], _, [], hW', trodAll_mk1 (shut_bool Try.underlying4 _), (trodAll_cons_mk (Below.trod laidOut (by kernel_rfl) (of_decide_eq_true (by kernel_rfl)) k0 bel lt0) (trodAll_cons_mk (Below.trod laidOut (by kernel_rfl) (of_decide_eq_true (by kernel_rfl)) k1 bel lt1) (trodAll_cons_mk (Below.trod laidOut (by kernel_rfl) (of_decide_eq_true (by kernel_rfl)) k2 bel lt2) trodAll_mk0))), rfl, bel.frame _, fun h => by cases h⟩

theorem over : Rows.gridFieldsRow.holds Try.pinned (OpenSpec.ofChange Rows.gridFieldsSpec) :=
  OpenClaim.holds_of_wide 6 Try.f6 rfl rfl rfl rfl rfl rfl rfl ⟨rfl, rfl, rfl, rfl, rfl⟩ rfl rfl rfl rfl rfl (by kernel_rfl) Try.func6 (by kernel_rfl)
    (of_decide_eq_true (by kernel_rfl)) (by unfold Func.isWrapper; first | (rw [if_pos (by decide +kernel)]; kernel_rfl) | (rw [if_neg (by decide +kernel)]; exact ⟨rfl, rfl⟩))
    (fun os started H enc _ => lifted os started H enc)

theorem proved : Rows.GridFieldsSaid := over
#print axioms proved
end Go.Proofs.Ytfmiaenpmbbknaa.gridFields
