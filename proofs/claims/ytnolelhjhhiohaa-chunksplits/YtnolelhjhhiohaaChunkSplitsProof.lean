/-
  Any bytes are split as the document says; laid together they are the bytes: for every bytes (more than 3000 are let by), at this commit; no condition.
-/
import Derived.Test.YtnolelhjhhiohaaRows
import Derived.WalkKit
import Derived.ProofKit
import Derived.OpenShut
import Derived.Test.YtnolelhjhhiohaaChunkText
import Derived.Test.YtnolelhjhhiohaaChunkKnown
import Derived.Test.YtnolelhjhhiohaaTill
import Derived.BigQuiet
import Derived.Laws.AppendOwnNone
import Derived.ShutString
import Derived.ChangeOld
import Derived.Below
namespace Go.Proofs.Ytnolelhjhhiohaa.chunkSplits
open Go.ChangeShapes Go.WideShapes Go.ChangeAt Go.RowKit
open Go.ChangeMaps (open_string shut_string)
set_option linter.unusedVariables false

theorem own : ownKnob Try.prog.godebug = none := by kernel_rfl
theorem laidOut : laidOutB Try.prog = true := by kernel_rfl

/-- WHAT THE WALK IS TOLD OF A SLICE OF INTEGERS THAT CAME IN: it is nil; or it leads to a row of 'cap' cells, the numbers 'zs' (the first 'len' are its elements, the rest its spare room), each fitting its kind. -/
def IsRow (k : IntKind) (w : World) (a : Option Addr) (len cap : Nat) (zs : List Int) : Prop :=
  (a = none ∧ len = 0 ∧ cap = 0 ∧ zs = []) ∨
  ∃ x, a = some x ∧ len ≤ cap ∧ cap ≤ maxLen ∧ zs.length = cap ∧ (∀ i, i < zs.length → w.cell? (x.add i) = some (.int k (zs.getD i 0))) ∧ ∀ n ∈ zs, (Lit.int k n).wf = true

theorem IsRow.src {w : World} {a : Option Addr} {len cap : Nat} {zs : List Int} (h : IsRow .u8 w a len cap zs) : ∃ l : List Int, l.length = len ∧ len ≤ cap ∧ cap ≤ maxLen ∧ Ck.Src w (.slice a l.length cap) l := by
  rcases h with ⟨rfl, rfl, rfl, rfl⟩ | ⟨x, rfl, hl, hm, hz, hcell, _⟩
  · exact ⟨[], rfl, Nat.le_refl _, Nat.zero_le _, .inl ⟨rfl, rfl⟩⟩
  · refine ⟨zs.take len, by rw [List.length_take]; omega, hl, hm, .inr ⟨x, cap, rfl, fun j u hj => ?_⟩⟩
    unfold Ck.bys at hj
    rw [List.getElem?_map, List.getElem?_take] at hj
    split at hj
    · rename_i hjl
      have hjz : j < zs.length := by omega
      rw [List.getElem?_eq_getElem hjz] at hj
      simp at hj
      rw [hcell j hjz, ← hj, List.getD, List.getElem?_eq_getElem hjz]
      rfl
    · simp at hj

set_option maxRecDepth 8000 in
set_option maxHeartbeats 3200000 in

theorem walk (a0 : Option Addr) (len0 cap0 : Nat) (z0 : List Int) (w : World) (w0 : IsRow .u8 w a0 len0 cap0 z0) :
    Calls Try.prog 3 #[.slice a0 len0 cap0] w fun e w' => e = .returned (.bool true) ∧ Below w.heap.size w w' := by
  obtain ⟨l, hln, hc, hcm, hs⟩ := IsRow.src w0
  obtain ⟨i0, hi, hz0, hz1, hz2⟩ := info_parts info_by
  have HS := hide hs
  have HC := hide (And.intro hln (And.intro hc hcm))
  have hl1 : (len0 : Int) ≤ 9223372036854775807 := by unfold maxLen at hcm; omega
  have ck := hide (known12_any w)
  clear w0 hs hc hcm hln
  go_enter Try.func3, Try.ntmps3
  go_wp2_with fail
  refine (unhide ck).mono ?_
  rintro e x1 ⟨rfl, hg1⟩
  have G1 := hide hg1
  clear ck hg1
  by_cases hb : 3000 < len0
  · have hb' : (3000 : Int) < (len0 : Int) := by omega
    clear hb
    go_wp2
    go_ret
    exact ⟨rfl, none_below (unhide G1)⟩
  have hb' : ¬ (3000 : Int) < (len0 : Int) := by omega
  have HB : Hid (len0 ≤ 3000) := (show len0 ≤ 3000 by omega)
  have hoz : Hid ((x1.alloc (.cells #[] 5)).ownsRow w.heap.size 5 1 (.slice (some ⟨x1.heap.size, 0, none⟩) 0 0) 0 []) := World.ownsRow_lit (base := w.heap.size) (e := 5) (size := 1) x1 #[] 0 (unhide G1).size (by unfold maxLen; omega) rfl
  have hsz : Hid (w.heap.size ≤ (x1.alloc (.cells #[] 5)).heap.size) := (show _ ≤ _ by have := (unhide G1).size; simp; omega)
  have hSA : Hid (Ck.Src (x1.alloc (.cells #[] 5)) (.slice a0 len0 cap0) l) := by
    have h := (unhide HS).grown (grown_alloc (unhide G1) (.cells #[] 5))
    rw [(unhide HC).1] at h
    exact h
  -- the row behind the append
  have hnext : Hid (∀ v x2, x2.ownsRow w.heap.size 5 1 v len0 (Ck.bys l) → (x1.alloc (.cells #[] 5)).grownBy x2 (Value.slice (some ⟨x1.heap.size, 0, none⟩) 0 0).ownBlock → v ≠ .slice none 0 0 → ∃ g cp, v = .slice (some ⟨g, 0, none⟩) len0 cp ∧ len0 ≤ cp ∧ cp ≤ maxLen ∧ w.grownBy x2 none ∧ Ck.Src x2 (.slice (some ⟨g, 0, none⟩) len0 cp) l ∧ Ck.Src x2 (.slice a0 len0 cap0) l) := fun v x2 h1 h2 h3 => by
    have hg : w.grownBy x2 none := grown_own (grown_alloc (unhide G1) _) h2 (fun k e => by cases e; exact (unhide G1).size)
    have hS2 : Ck.Src x2 (.slice a0 len0 cap0) l := by
      have h := (unhide HS).grown hg
      rw [(unhide HC).1] at h
      exact h
    rcases h1.2 with ⟨q, _⟩ | ⟨g, cp, cur, rfl, _, _, q1, q2, _⟩
    · exact absurd q h3
    · refine ⟨g, cp, rfl, q1, q2, hg, ?_, hS2⟩
      have h4 : x2.ownsRow w.heap.size 5 1 (.slice (some ⟨g, 0, none⟩) l.length cp) l.length (Ck.bys l) := by rw [(unhide HC).1]; exact h1
      have h5 := Ck.own_src h4
      rw [(unhide HC).1] at h5
      exact h5
  clear hb
  go_wp2_with (at_builtin; refine wpList_append_src rfl _ _ rfl w.heap.size _ _ _ rfl (unhide hoz) _ l rfl (unhide hSA) ?q1 (unhide hsz) ?_)
  case q1 => have := unhide HB; have := unhide HC; omega
  intro v x2 hown hgrow hnil
  try rw [Nat.zero_add] at hown
  try rw [List.nil_append] at hown
  rw [(unhide HC).1] at hown
  have hnil2 : v ≠ .slice none 0 0 := by first | exact hnil | exact hnil (by simp)
  obtain ⟨g, cp, rfl, k1, k2, k3, k4, k5⟩ := unhide hnext v x2 hown hgrow hnil2
  have K := hide (And.intro k1 (And.intro k2 k3))
  have K4 := hide k4
  have K5 := hide k5
  clear hown hgrow hnil hnil2 k1 k2 k3 k4 k5 hnext hoz hsz hSA
  by_cases hm : 1024 < len0
  · have c1 := hide (ckSplit_many (some ⟨g, 0, none⟩) len0 cp x2 hm)
    have c2 := hide (refSplit_many a0 len0 cap0 x2 hm)
    clear hm
    go_wp2_with fail
    refine (unhide c1).mono ?_
    rintro e wq ⟨rfl, hq'⟩
    obtain rfl : x2 = wq := hq'.symm
    go_wp2_with fail
    refine (unhide c2).mono ?_
    rintro e wq ⟨rfl, hq'⟩
    obtain rfl : x2 = wq := hq'.symm
    go_wp2_with fail
    go_loopw [7, 8] (fun v7 v8 wr => wr = x2 ∧ v7 = .slice none 0 0 ∧ v8 = .int .i64 0) (fun _ _ _ => 0)
    case atStart => exact ⟨rfl, rfl, rfl⟩
    case round =>
      obtain ⟨rfl, rfl, rfl⟩ := hrel
      go_wp2
      go_ret
      exact ⟨rfl, none_below (unhide K).2.2⟩
  · have hl1024 : l.length ≤ 1024 := by have := unhide HC; omega
    have hls := hide (Ck.ps_len l hl1024)
    have c1 := hide (Ck.split_mine (some ⟨g, 0, none⟩) cp l x2 hl1024 (by rw [(unhide HC).1]; exact (unhide K).1) (unhide K).2.1 (by rw [(unhide HC).1]; exact unhide K4))
    have c2 : Hid (∀ x, x2.grownBy x none → Calls Try.prog 11 #[.slice a0 l.length cap0] x (Ck.Splits x (Ck.ps l))) := fun x hx => Ck.split_ref a0 cap0 l x hl1024 (by rw [(unhide HC).1]; exact (unhide HC).2.1) (unhide HC).2.2 (by rw [(unhide HC).1]; exact (unhide K5).grown hx)
    have hcatl : Hid (Ck.cat (Ck.pc l) (Ck.ps l).length = l) := Ck.ps_cat
    rw [(unhide HC).1] at c1 c2
    have hpa : Hid (∀ i, i < (Ck.ps l).length → (Ck.ps l)[i]? = some (Ck.pc l i)) := fun i hi => Ck.ps_at hi
    have hpz : Hid (∀ i, i < (Ck.ps l).length → (Ck.pc l i).length ≤ 64) := fun i hi => (Ck.ps_size hi).1
    obtain ⟨np, hnp⟩ : ∃ np, (Ck.ps l).length = np := ⟨_, rfl⟩
    have Hnp := hide hnp
    rw [hnp] at hls hcatl hpa hpz
    clear hm hnp hl1024
    go_wp2_with fail
    refine (unhide c1).mono ?_
    rintro e x3 ⟨v1, Vs1, rfl, hV1, hL1, hg3⟩
    obtain ⟨g1, cp1, rfl, hgb1, hgl1, hrow1⟩ := hL1.at hV1 (by have := unhide hls; have := unhide Hnp; omega)
    have R1 := hide hrow1
    rw [unhide Hnp]
    have c3 := hide (unhide c2 x3 hg3)
    have hG3 := hide (grown_trans (unhide K).2.2 hg3)
    have hgl1' := hide hgl1
    have K53 := hide ((unhide K5).grown hg3)
    clear c1 c2 hL1 hV1 hrow1 hg3 hgl1 hgb1
    go_wp2_with fail
    refine (unhide c3).mono ?_
    rintro e x4 ⟨v2, Vs2, rfl, hV2, hL2, hg4⟩
    obtain ⟨g2, cp2, rfl, hgb2, hgl2, hrow2⟩ := hL2.at hV2 (by have := unhide hls; have := unhide Hnp; omega)
    have R2 := hide hrow2
    rw [unhide Hnp]
    have hG4 := hide (grown_trans (unhide hG3) hg4)
    have K54 := hide ((unhide K53).grown hg4)
    have hg34 := hide hg4
    clear c3 hL2 hV2 hrow2 hg4 hgl2 hgb2
    have np1 : (np : Int) ≤ 16 := by have := unhide hls; omega
    go_wp2_with fail
    go_loopw [7, 8] (fun v7 v8 wr => ∃ i : Nat, i ≤ np ∧ v8 = .int .i64 (i : Int) ∧ Hid (Ck.Cat x4 wr (Ck.pc l) v7 i)) (fun _ v8 _ => 30 - (intOf v8).toNat)
    case atStart => exact ⟨0, Nat.zero_le _, rfl, World.ownsRow_nil _ _ _ _, World.grownBy.refl _ _⟩
    case round =>
      obtain ⟨i, hi16, rfl, hX⟩ := hrel
      obtain ⟨a7, m7, c7, hu7⟩ : ∃ a m c, u7 = .slice a m c := by
        rcases (unhide hX).own.2 with ⟨e1, e2⟩ | ⟨g, c, cur, e, _⟩
        · exact ⟨none, 0, 0, e1⟩
        · exact ⟨_, _, c, e⟩
      by_cases hlt : i < np
      · have hlt' : (i : Int) < (np : Int) := by omega
        have HL := hide hlt
        obtain ⟨p1, q1, d1', o1⟩ := unhide R1 i _ (unhide hpa i hlt)
        obtain ⟨p2, q2, d2', o2⟩ := unhide R2 i _ (unhide hpa i hlt)
        have hgw : x3.grownBy wr none := grown_trans (unhide hg34) (unhide hX).bel
        have d1 := (World.cell?_of_block (a := ⟨g1, i, none⟩) (hgw.block g1 (Go.block_lt_of_cell d1') (by simp))).trans d1'
        have d2 := (World.cell?_of_block (a := ⟨g2, i, none⟩) ((unhide hX).bel.block g2 (Go.block_lt_of_cell d2') (by simp))).trans d2'
        have hs1 := hide ((Ck.own_src o1).grown hgw)
        have hs2 := hide ((Ck.own_src o2).grown (unhide hX).bel)
        have hT1 : Hid (∀ x, wr.grownBy x none → (convert 22 9 (.slice (some ⟨p1, 0, none⟩) (Ck.pc l i).length q1)).run Try.prog x = .ok (.string (strOfNums (Ck.pc l i))) x) := fun x hx => ((unhide hs1).grown hx).text
        have hT2 : Hid (∀ x, wr.grownBy x none → (convert 22 9 (.slice (some ⟨p2, 0, none⟩) (Ck.pc l i).length q2)).run Try.prog x = .ok (.string (strOfNums (Ck.pc l i))) x) := fun x hx => ((unhide hs2).grown hx).text
        obtain ⟨st, hst⟩ : ∃ st, strOfNums (Ck.pc l i) = st := ⟨_, rfl⟩
        rw [hst] at hT1 hT2
        have hlen64 := hide (unhide hpz i hlt)
        have hcl := hide (Ck.cat_len (L := Ck.pc l) (k := i) (fun j hj => unhide hpz j (by omega)))
        have hmo := hide (fun y v' h1 h2 => (unhide hX).more (y := y) (v' := v') h1 h2)
        have hX1 := hide (unhide hX).own
        have hszx := hide (unhide hX).bel.size
        obtain ⟨nl, hnl⟩ : ∃ nl, (Ck.pc l i).length = nl := ⟨_, rfl⟩
        have Hnl := hide hnl
        rw [hnl] at d1 d2 hT1 hT2 hs1
        have hS0 : Hid (wr.grownBy wr.drew none) := grown_drew (World.grownBy.refl wr none) 1
        subst hu7
        clear hlt hi16 o1 o2 d1' d2' hgw hst hnl hs2 hX
        go_upto_region 13 with fail
        refine wp_region_till (h := 10) (S := fun x => Hid (wr.grownBy x none)) (by kernel_rfl) ?_
        refine wpTill_take (i := 0) (v := ?_) [2, 3, 4, 10] rfl (by kernel_rfl) (by kernel_rfl) (by kernel_rfl) (by kernel_rfl) (fun _ _ _ h => h) hS0 (Or.inl ⟨by rfl, ?_⟩) ?_
        rotate_left
        · intro x hSx
          clear hSx
          go_simp
          try with_reducible rfl
        simp only [Act.put, List.getElem_toArray, List.getElem_cons_zero, List.setIfInBounds_toArray, List.set_cons_succ, List.set_cons_zero]
        refine wpTill_take (i := 1) (v := ?_) [2, 3, 4, 10] rfl (by kernel_rfl) (by kernel_rfl) (by kernel_rfl) (by kernel_rfl) (fun _ _ _ h => h) hS0 (Or.inl ⟨by rfl, ?_⟩) ?_
        rotate_left
        · intro x hSx
          clear hSx
          go_simp
          try with_reducible rfl
        simp only [Act.put, List.getElem_toArray, List.getElem_cons_zero, List.getElem_cons_succ, List.setIfInBounds_toArray, List.set_cons_succ, List.set_cons_zero]
        refine wpTill_take (i := 2) (v := ?_) [3, 4, 10] rfl (by kernel_rfl) (by kernel_rfl) (by kernel_rfl) (by kernel_rfl) (fun _ _ _ h => h) hS0 (Or.inl ⟨by rfl, ?_⟩) ?_
        rotate_left
        · intro x hSx
          clear hSx
          go_simp
          try with_reducible rfl
        simp only [Act.put, List.getElem_toArray, List.getElem_cons_zero, List.getElem_cons_succ, List.setIfInBounds_toArray, List.set_cons_succ, List.set_cons_zero]
        refine wpTill_take (i := 3) (v := ?_) [4, 10] rfl (by kernel_rfl) (by kernel_rfl) (by kernel_rfl) (by kernel_rfl) (fun _ _ _ h => h) hS0 (Or.inl ⟨by rfl, ?_⟩) ?_
        rotate_left
        · intro x hSx
          have d1x := (World.cell?_of_block (a := ⟨g1, i, none⟩) ((unhide hSx).block g1 (Go.block_lt_of_cell d1) (by simp))).trans d1
          clear hSx
          go_simp
          try with_reducible rfl
        simp only [Act.put, List.getElem_toArray, List.getElem_cons_zero, List.getElem_cons_succ, List.setIfInBounds_toArray, List.set_cons_succ, List.set_cons_zero]
        refine wpTill_take (i := 4) (v := ?_) [10] rfl (by kernel_rfl) (by kernel_rfl) (by kernel_rfl) (by kernel_rfl) (fun _ _ _ h => h) hS0 (Or.inl ⟨by rfl, ?_⟩) ?_
        rotate_left
        · intro x hSx
          have t1x := (unhide hT1 x (unhide hSx))
          clear hSx
          go_simp
          try with_reducible rfl
        simp only [Act.put, List.getElem_toArray, List.getElem_cons_zero, List.getElem_cons_succ, List.setIfInBounds_toArray, List.set_cons_succ, List.set_cons_zero]
        refine wpTill_take (i := 5) (v := ?_) [7, 8, 9, 10] rfl (by kernel_rfl) (by kernel_rfl) (by kernel_rfl) (by kernel_rfl) (fun _ _ _ h => h) hS0 (Or.inl ⟨by rfl, ?_⟩) ?_
        rotate_left
        · intro x hSx
          clear hSx
          go_simp
          try with_reducible rfl
        simp only [Act.put, List.getElem_toArray, List.getElem_cons_zero, List.getElem_cons_succ, List.setIfInBounds_toArray, List.set_cons_succ, List.set_cons_zero]
        refine wpTill_take (i := 6) (v := ?_) [7, 8, 9, 10] rfl (by kernel_rfl) (by kernel_rfl) (by kernel_rfl) (by kernel_rfl) (fun _ _ _ h => h) hS0 (Or.inl ⟨by rfl, ?_⟩) ?_
        rotate_left
        · intro x hSx
          clear hSx
          go_simp
          try with_reducible rfl
        simp only [Act.put, List.getElem_toArray, List.getElem_cons_zero, List.getElem_cons_succ, List.setIfInBounds_toArray, List.set_cons_succ, List.set_cons_zero]
        refine wpTill_take (i := 7) (v := ?_) [8, 9, 10] rfl (by kernel_rfl) (by kernel_rfl) (by kernel_rfl) (by kernel_rfl) (fun _ _ _ h => h) hS0 (Or.inl ⟨by rfl, ?_⟩) ?_
        rotate_left
        · intro x hSx
          clear hSx
          go_simp
          try with_reducible rfl
        simp only [Act.put, List.getElem_toArray, List.getElem_cons_zero, List.getElem_cons_succ, List.setIfInBounds_toArray, List.set_cons_succ, List.set_cons_zero]
        refine wpTill_take (i := 8) (v := ?_) [9, 10] rfl (by kernel_rfl) (by kernel_rfl) (by kernel_rfl) (by kernel_rfl) (fun _ _ _ h => h) hS0 (Or.inl ⟨by rfl, ?_⟩) ?_
        rotate_left
        · intro x hSx
          have d2x := (World.cell?_of_block (a := ⟨g2, i, none⟩) ((unhide hSx).block g2 (Go.block_lt_of_cell d2) (by simp))).trans d2
          clear hSx
          go_simp
          try with_reducible rfl
        simp only [Act.put, List.getElem_toArray, List.getElem_cons_zero, List.getElem_cons_succ, List.setIfInBounds_toArray, List.set_cons_succ, List.set_cons_zero]
        refine wpTill_take (i := 9) (v := ?_) [10] rfl (by kernel_rfl) (by kernel_rfl) (by kernel_rfl) (by kernel_rfl) (fun _ _ _ h => h) hS0 (Or.inl ⟨by rfl, ?_⟩) ?_
        rotate_left
        · intro x hSx
          have t2x := (unhide hT2 x (unhide hSx))
          clear hSx
          go_simp
          try with_reducible rfl
        simp only [Act.put, List.getElem_toArray, List.getElem_cons_zero, List.getElem_cons_succ, List.setIfInBounds_toArray, List.set_cons_succ, List.set_cons_zero]
        refine wpTill_only (j := 10) (by kernel_rfl) rfl (fun K hK => ?_)
        go_simp
        refine hK.out _ _ (fun hx => absurd (hx.symm.trans (by kernel_rfl)) Bool.false_ne_true) ?_
        clear hK K
        refine wpTill_done (by kernel_rfl) ?_ _
        have hsW := hide ((unhide hs1).grown (unhide hS0))
        have hXW := hide ((unhide hX1).kept (unhide hS0) (by cases (Value.slice a7 m7 c7).ownBlock <;> simp))
        have hdW := (World.cell?_of_block (a := ⟨g1, i, none⟩) ((unhide hS0).block g1 (Go.block_lt_of_cell d1) (by simp))).trans d1
        have hszW : Hid (x4.heap.size ≤ wr.drew.heap.size) := Nat.le_trans (unhide hszx) (unhide hS0).size
        have hmoW : Hid (∀ y v', y.ownsRow x4.heap.size 5 1 v' ((Ck.cat (Ck.pc l) i).length + (Ck.pc l i).length) (Ck.bys (Ck.cat (Ck.pc l) i) ++ Ck.bys (Ck.pc l i)) → wr.drew.grownBy y (Value.slice a7 m7 c7).ownBlock → Ck.Cat x4 y (Ck.pc l) v' (i + 1)) := fun y v' h1 h2 => unhide hmo y v' h1 ⟨h2.os, h2.tape, h2.output, h2.size, h2.block⟩
        obtain ⟨wd, hwd⟩ : ∃ wd, wr.drew = wd := ⟨_, rfl⟩
        rw [hwd] at hsW hXW hdW hszW hmoW ⊢
        clear hwd hS0 hs1 hX1 d1 d2 hszx hmo hT1 hT2
        go_wp2_with (at_builtin; refine wpList_append_src rfl _ _ rfl x4.heap.size _ _ _ rfl (unhide hXW) _ (Ck.pc l i) rfl (unhide hsW) ?q1 (unhide hszW) ?_)
        case q1 => have := unhide hcl; have := unhide hlen64; have := unhide HL; have := unhide hls; omega
        intro v7 w7 hown hgrow _
        have hX7 := hide (unhide hmoW w7 v7 hown hgrow)
        clear hown hgrow hmoW hXW hsW hdW
        go_wp2_with fail
        go_roundw
        case rel => exact ⟨i + 1, by have := unhide HL; omega, by go_num, hX7⟩
        case measure => simp [intOf]; have := unhide HL; have := unhide hls; omega
      · obtain rfl : np = i := by omega
        have hge : ¬ (np : Int) < (np : Int) := by omega
        have hown := (unhide hX).own
        rw [unhide hcatl] at hown
        have hta := hide (Ck.own_src hown).text
        have htb := hide ((unhide K54).grown (unhide hX).bel).text
        have hfin := hide (grown_trans (unhide hG4) (unhide hX).bel)
        rw [hu7] at hta
        subst hu7
        clear hown hX hlt hi16
        obtain ⟨st, hst⟩ : ∃ st, strOfNums l = st := ⟨_, rfl⟩
        rw [hst] at hta htb
        have hta' := unhide hta
        have htb' := unhide htb
        clear hst hta htb
        go_wp2
        go_ret
        exact ⟨rfl, none_below (unhide hfin)⟩

set_option maxRecDepth 100000 in
theorem lifted (os : Os) (started : os.Started) (H : Type) (enc : TypeId × Value → H) :
    ReturnsInHanded {} Try.checked os 3 .any (Rows.chunkSplitsSpec.pre6 enc Try.prog Try.f3 Rows.chunkSplitsRow.domain false) (Rows.chunkSplitsSpec.post enc Try.prog Try.f3 false true false false) := by
  refine returnsInHanded_of_change (C := Try.checked) own started (by kernel_rfl) Try.func3
    (ChangeSpec.witness6 (enc := enc) (C := Try.checked) false ⟨#[], #[.slice none 0 0], []⟩ 8 (by kernel_rfl) (by kernel_rfl) (by kernel_rfl) (by kernel_rfl)) ?_
  intro W base args ds gs before hval0 hW hcnd _
  have hval : ∀ (j : Nat) t v, Try.f3.params[j]? = some t → args[j]? = some v → Value.okWide Try.prog W .any base t v := hval0
  have hW' := hW
  obtain ⟨p, q, hA0, hV, rfl, hfz, hnd⟩ := hW
  have hA : DataW.TrodAll enc Try.prog W 0 (fun _ => true) true Try.f3.params.toList args.toList ds p := hA0
  rw [Try.params3] at hA hval
  obtain ⟨v0, vs0, d0, ds0, p0, q0, hargs, rfl, rfl, h0, r0⟩ := trodAll_cons hA
  obtain ⟨rfl, rfl, rfl⟩ := trodAll_nil r0
  obtain rfl : args = #[v0] := by cases args; simp_all
  obtain ⟨rfl, rfl⟩ := trodVars_none hV
  obtain ⟨a0, len0, cap0, rfl⟩ := okWide_slice Try.underlying22 (hval 0 22 v0 rfl rfl)
  have k0 := h0
  have lt0 : ∀ x ∈ p0, x.block < W.heap.size := by obtain ⟨m, hm⟩ := k0; exact DataW.trod_lt m _ _ _ hm
  obtain ⟨z0, w0⟩ : ∃ zs, IsRow .u8 W a0 len0 cap0 zs := by
    obtain ⟨fuel, hf⟩ := h0
    rcases open_ints Try.underlying22 Try.underlying5 (by kernel_rfl) hf with ⟨hcs, _⟩ | ⟨x, l, c, zs, hcs, _, hl, hm, hz, _, hcell, hwz⟩
    · simp [Value.cells] at hcs
      obtain ⟨rfl, rfl, rfl⟩ := hcs
      exact ⟨[], .inl ⟨rfl, rfl, rfl, rfl⟩⟩
    · simp [Value.cells] at hcs
      obtain ⟨rfl, rfl, rfl⟩ := hcs
      exact ⟨zs, .inr ⟨_, rfl, hl, hm, by simpa using hz, hcell, hwz⟩⟩
  clear hA0 hval0
  refine (walk a0 len0 cap0 z0 W w0).mono fun e W' ⟨he, bel⟩ => ?_
  subst he
  exact ⟨_, rfl, _, _, _, [], _, [], hW', trodAll_mk1 (shut_bool Try.underlying4 _), (trodAll_cons_mk (Below.trod laidOut (by kernel_rfl) (of_decide_eq_true (by kernel_rfl)) k0 bel lt0) trodAll_mk0), rfl, bel.frame _, fun h => by cases h⟩

theorem over : Rows.chunkSplitsRow.holds Try.pinned (OpenSpec.ofChange Rows.chunkSplitsSpec) :=
  OpenClaim.holds_of_wide 3 Try.f3 rfl rfl rfl rfl rfl rfl rfl ⟨rfl, rfl, rfl, rfl, rfl⟩ rfl rfl rfl rfl rfl (by kernel_rfl) Try.func3 (by kernel_rfl)
    (of_decide_eq_true (by kernel_rfl)) (by unfold Func.isWrapper; first | (rw [if_pos (by decide +kernel)]; kernel_rfl) | (rw [if_neg (by decide +kernel)]; exact ⟨rfl, rfl⟩))
    (fun os started H enc _ => lifted os started H enc)

theorem proved : Rows.ChunkSplitsSaid := over
#print axioms proved
end Go.Proofs.Ytnolelhjhhiohaa.chunkSplits
