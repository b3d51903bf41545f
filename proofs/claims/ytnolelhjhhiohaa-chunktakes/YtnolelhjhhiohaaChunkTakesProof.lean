/-
  Whatever pieces come, such as may not be, too, they are taken as the document says (pieces of more than 300 bytes, and those behind the sixtieth, are let by): for every list, at this commit; no condition.
-/
import Derived.Test.YtnolelhjhhiohaaRows
import Derived.WalkKit
import Derived.ProofKit
import Derived.OpenShut
import Derived.Test.YtnolelhjhhiohaaChunkPair
import Derived.Test.YtnolelhjhhiohaaChunkKnown
import Derived.Test.YtnolelhjhhiohaaTripArgs
import Derived.Test.YtnolelhjhhiohaaTill
import Derived.BigQuiet
import Derived.Laws.OwnMore
import Derived.ShutString
import Derived.ChangeOld
import Derived.Below
namespace Go.Proofs.Ytnolelhjhhiohaa.chunkTakes
open Go.ChangeShapes Go.WideShapes Go.ChangeAt Go.RowKit
open Go.ChangeMaps (open_string shut_string)
set_option linter.unusedVariables false

theorem own : ownKnob Try.prog.godebug = none := by kernel_rfl
theorem laidOut : laidOutB Try.prog = true := by kernel_rfl

/-- WHAT THE WALK IS TOLD OF A SLICE OF INTEGERS THAT CAME IN: it is nil; or it leads to a row of 'cap' cells, the numbers 'zs' (the first 'len' are its elements, the rest its spare room), each fitting its kind. -/
def IsRow (k : IntKind) (w : World) (a : Option Addr) (len cap : Nat) (zs : List Int) : Prop :=
  (a = none ∧ len = 0 ∧ cap = 0 ∧ zs = []) ∨
  ∃ x, a = some x ∧ len ≤ cap ∧ cap ≤ maxLen ∧ zs.length = cap ∧ (∀ i, i < zs.length → w.cell? (x.add i) = some (.int k (zs.getD i 0))) ∧ ∀ n ∈ zs, (Lit.int k n).wf = true

theorem Byt.src {w : World} {a : Option Addr} {n c : Nat} {l : List Int} (h : Byt w a n c l) : l.length = n ∧ Ck.Src w (.slice a n c) l ∧ n ≤ maxLen ∧ ∀ ad, a = some ad → 0 < n → ad.block < w.heap.size := by
  rcases h with ⟨rfl, rfl, rfl, rfl⟩ | ⟨rfl, h2, h3, _, x, rfl, h5⟩
  · exact ⟨rfl, .inl ⟨rfl, rfl⟩, Nat.zero_le _, fun ad e => by cases e⟩
  · refine ⟨rfl, .inr ⟨x, c, rfl, fun j u q => ?_⟩, Nat.le_trans h2 h3, fun ad e h0 => ?_⟩
    · unfold Ck.bys at q
      rw [List.getElem?_map] at q
      obtain ⟨z, hz1, hz2⟩ := Option.map_eq_some_iff.1 q
      have hj : j < l.length := (List.getElem?_eq_some_iff.1 hz1).1
      rw [h5 j hj, ← hz2, List.getD, hz1]
      rfl
    · cases e
      have hc := Go.block_lt_of_cell (h5 0 h0)
      have hb : (x.add 0).block = x.block := by unfold Addr.add; split <;> rfl
      rwa [hb] at hc

theorem ref_new {w x : World} (hb : w.heap.size ≤ x.heap.size) : ∀ (cs : Array Value), cs.size = 33 → (∀ j, j < 33 → cs[j]? = some (if j = 0 then Value.int .i64 0 else if j < 17 then .bool false else .slice none 0 0)) → Ck.Tkr (x.alloc (.cells cs 52)) w.heap.size x.heap.size 0 (fun _ => false) (fun _ => []) (fun _ => .slice none 0 0) := fun cs h1 h2 => by
  refine ⟨?_, hb, by omega, fun _ _ q => absurd q (by simp), fun _ _ _ => rfl⟩
  have hA := Arr.lit (heap_alloc_new x (.cells cs 52))
  rw [h1] at hA
  refine hA.congr fun j hj => ?_
  rw [h2 j hj]
  rfl

set_option maxRecDepth 8000 in
set_option maxHeartbeats 6400000 in

theorem walk (a0 : Option Addr) (len0 cap0 : Nat) (z0 : Nat → Trip) (w : World) (w0 : Trip.Came w a0 len0 z0) :
    Calls Try.prog 5 #[.slice a0 len0 cap0] w fun e w' => e = .returned (.bool true) ∧ Below w.heap.size w w' := by
  obtain ⟨hlm, hz⟩ := w0
  have HZ := hide hz
  have hl1 : (len0 : Int) ≤ 9223372036854775807 := by unfold maxLen at hlm; omega
  have ck := hide (known12_any w)
  clear hz hlm
  go_enter Try.func5, Try.ntmps5
  go_wp2_with fail
  refine (unhide ck).mono ?_
  rintro e x1 ⟨rfl, hg1⟩
  have G1 := hide hg1
  have cN := hide (ckNewTaker_any w.heap.size x1 hg1.size)
  clear ck hg1
  go_wp2_with fail
  refine (unhide cN).mono ?_
  rintro e x2 ⟨p, rfl, hp, hM, hg2⟩
  have hM2 := hide hM
  have hw2 : Hid (w.grownBy x2 none) := grown_trans (unhide G1) hg2
  clear cN hp hM hg2
  go_wp2_with fail
  obtain ⟨q, hq⟩ : ∃ q, x2.heap.size = q := ⟨_, rfl⟩
  obtain ⟨x3, hx3⟩ : ∃ x3, x2.alloc (.cells #[.int .i64 0, .bool false, .bool false, .bool false, .bool false, .bool false, .bool false, .bool false, .bool false, .bool false, .bool false, .bool false, .bool false, .bool false, .bool false, .bool false, .bool false, .slice none 0 0, .slice none 0 0, .slice none 0 0, .slice none 0 0, .slice none 0 0, .slice none 0 0, .slice none 0 0, .slice none 0 0, .slice none 0 0, .slice none 0 0, .slice none 0 0, .slice none 0 0, .slice none 0 0, .slice none 0 0, .slice none 0 0, .slice none 0 0] 52) = x3 := ⟨_, rfl⟩
  have hP0 : Hid (Ck.Pair w x3 p q 0 (fun _ => false) (fun _ => []) (fun _ => .slice none 0 0) (fun _ => .slice none 0 0)) := by
    have hT : Ck.Tkr x3 w.heap.size q 0 (fun _ => false) (fun _ => []) (fun _ => .slice none 0 0) := by
      rw [← hx3, ← hq]
      refine ref_new (unhide hw2).size _ rfl fun j hj => ?_
      rcases (show j = 0 ∨ j = 1 ∨ j = 2 ∨ j = 3 ∨ j = 4 ∨ j = 5 ∨ j = 6 ∨ j = 7 ∨ j = 8 ∨ j = 9 ∨ j = 10 ∨ j = 11 ∨ j = 12 ∨ j = 13 ∨ j = 14 ∨ j = 15 ∨ j = 16 ∨ j = 17 ∨ j = 18 ∨ j = 19 ∨ j = 20 ∨ j = 21 ∨ j = 22 ∨ j = 23 ∨ j = 24 ∨ j = 25 ∨ j = 26 ∨ j = 27 ∨ j = 28 ∨ j = 29 ∨ j = 30 ∨ j = 31 ∨ j = 32 by omega) with rfl | rfl | rfl | rfl | rfl | rfl | rfl | rfl | rfl | rfl | rfl | rfl | rfl | rfl | rfl | rfl | rfl | rfl | rfl | rfl | rfl | rfl | rfl | rfl | rfl | rfl | rfl | rfl | rfl | rfl | rfl | rfl | rfl <;> rfl
    have hg3 : x2.grownBy x3 none := by rw [← hx3]; exact World.grownBy_alloc _ _ _
    have hlt := (unhide hM2).box.lt
    exact ⟨(unhide hM2).on hg3, hT, by omega, none_below (grown_trans (unhide hw2) hg3)⟩
  rw [hq, hx3]
  clear hq hx3 hM2 hw2 G1
  go_loopw [5, 6, 7, 8, 9, 10, 11] (fun v5 _ _ _ _ _ _ wr => ∃ i : Nat, i ≤ 60 ∧ i ≤ len0 ∧ v5 = .int .i64 (i : Int) ∧ Hid (∃ tot has L V U, Ck.Pair w wr p q tot has L V U)) (fun v5 _ _ _ _ _ _ _ => 100 - (intOf v5).toNat)
  case atStart => exact ⟨0, by omega, Nat.zero_le _, rfl, _, _, _, _, _, unhide hP0⟩
  case round =>
    clear hP0
    obtain ⟨i, hi60, hil, rfl, hX⟩ := hrel
    by_cases hlt : i < len0 ∧ i < 60
    · have hlt1 : (i : Int) < (len0 : Int) := by omega
      have hlt2 : (i : Int) < 60 := by omega
      have HL := hide hlt
      obtain ⟨b0, o0, rfl, hb0, e0, f0, g0, hbyt⟩ := unhide HZ i hlt.1
      obtain ⟨hln, hsrc, hnm, hblk⟩ := Byt.src hbyt
      obtain ⟨ui, hui⟩ : ∃ ui, (z0 i).u = ui := ⟨_, rfl⟩
      obtain ⟨vi, hvi⟩ : ∃ vi, (z0 i).v = vi := ⟨_, rfl⟩
      obtain ⟨ai, hai⟩ : ∃ ai, (z0 i).a = ai := ⟨_, rfl⟩
      obtain ⟨ni, hni⟩ : ∃ ni, (z0 i).n = ni := ⟨_, rfl⟩
      obtain ⟨ci, hci⟩ : ∃ ci, (z0 i).c = ci := ⟨_, rfl⟩
      obtain ⟨li, hli⟩ : ∃ li, (z0 i).l = li := ⟨_, rfl⟩
      rw [hui] at e0
      rw [hvi] at f0
      rw [hai, hni, hci] at g0
      rw [hai, hni, hci, hli] at hsrc
      rw [hni] at hnm hblk
      rw [hai] at hblk
      rw [hli, hni] at hln
      rw [Nat.add_zero] at e0
      have HS := hide hsrc
      have HB := hide (And.intro hln (And.intro hnm hblk))
      have hn1 : (ni : Int) ≤ 9223372036854775807 := by unfold maxLen at hnm; omega
      clear hui hvi hai hni hci hli hbyt hlt hi60 hil hsrc hln hnm hblk
      obtain ⟨tot_1, has_1, L_1, V, U, hP⟩ := unhide hX
      have HP := hide hP
      have d3 := (hP.bel.cell (p := ⟨b0, o0 + i * 3 + 2, none⟩) hb0).trans g0
      clear hP
      by_cases h300 : 300 < ni
      · have h300' : (300 : Int) < (ni : Int) := by omega
        clear h300
        go_wp2_with fail
        go_roundw
        case rel => exact ⟨i + 1, by have := unhide HL; omega, by have := unhide HL; omega, by go_num, hX⟩
        case measure => simp [intOf]; have := unhide HL; omega
      have h300' : ¬ (300 : Int) < (ni : Int) := by omega
      have H300 : Hid (ni ≤ 300) := (show ni ≤ 300 by omega)
      clear h300 hX
      have hoz : Hid ((wr.alloc (.cells #[] 5)).ownsRow wr.heap.size 5 1 (.slice (some ⟨wr.heap.size, 0, none⟩) 0 0) 0 []) := World.ownsRow_lit (base := wr.heap.size) (e := 5) (size := 1) wr #[] 0 (Nat.le_refl _) (by unfold maxLen; omega) rfl
      have hSA : Hid (Ck.Src (wr.alloc (.cells #[] 5)) (.slice ai ni ci) li) := ((unhide HS).below (unhide HP).bel).grown (World.grownBy_alloc _ _ _)
      have d3a : (wr.alloc (.cells #[] 5)).cell? ⟨b0, o0 + i * 3 + 2, none⟩ = some (.slice ai ni ci) := cell_past _ (Go.block_lt_of_cell d3) d3
      have hsz : Hid (wr.heap.size ≤ (wr.alloc (.cells #[] 5)).heap.size) := (show _ ≤ _ by simp)
      go_wp2_with (at_builtin; refine wpList_append_src rfl _ _ rfl wr.heap.size _ _ _ rfl (unhide hoz) _ li rfl (unhide hSA) ?q1 (unhide hsz) ?_)
      case q1 => have := unhide HB; have := unhide H300; omega
      intro v W1 hown hgrow hnil
      try rw [Nat.zero_add] at hown
      try rw [List.nil_append] at hown
      have hnil2 : v ≠ .slice none 0 0 := by first | exact hnil | exact hnil (by simp)
      have hgW : wr.grownBy W1 none := grown_own (World.grownBy_alloc wr (.cells #[] 5) none) hgrow (fun k e => by cases e; exact Nat.le_refl _)
      rw [(unhide HB).1] at hown
      obtain ⟨gm, cm, rfl, hgm⟩ : ∃ g c, v = .slice (some ⟨g, 0, none⟩) ni c ∧ wr.heap.size ≤ g := by
        rcases hown.2 with ⟨q, _⟩ | ⟨g, c, cur, rfl, hg, _⟩
        · exact absurd q hnil2
        · exact ⟨g, c, rfl, hg⟩
      have HO := hide hown
      have HGW := hide hgW
      have Hgm := hide hgm
      clear hown hgrow hnil hnil2 hgW hgm hoz hSA hsz d3 d3a
      have cP : Hid (∀ x, W1.grownBy x none → Calls Try.prog 23 #[.pointer (some ⟨p, 0, none⟩), .int .i64 ui, .int .i64 vi, .slice (some ⟨gm, 0, none⟩) ni cm] x fun e y => ∃ r, e = .returned (.int .i64 r) ∧ Below w.heap.size w y ∧
          Calls Try.prog 24 #[.pointer (some ⟨q, 0, none⟩), .int .i64 ui, .int .i64 vi, .slice ai ni ci] y fun e' z => e' = .returned (.int .i64 r) ∧ Ck.Next w x z p q V U) := fun x hx => by
        have hgx := grown_trans (unhide HGW) hx
        have hPx := (unhide HP).on hgx
        have hpl := (unhide HP).mine.box.lt
        have hgm := unhide Hgm
        have hs1 : Ck.Src x (.slice (some ⟨gm, 0, none⟩) ni cm) li := by
          have := unhide HO
          rw [← (unhide HB).1] at this ⊢
          exact (Ck.own_src this).grown hx
        refine hPx.put ui vi (some ⟨gm, 0, none⟩) ai ni cm ci li (unhide HB).1 hs1 ((unhide HS).below hPx.bel) (unhide HB).2.1 (fun ad e _ => ?_) (fun ad e h0 => ?_)
        · cases e
          show gm ≠ p
          omega
        · have h5 := (unhide HB).2.2 ad e h0
          have h6 := (unhide HP).mine.low
          have h7 := (unhide HP).ref.low
          exact ⟨by omega, by omega⟩
      have hS0 : Hid (Below w.heap.size w W1.drew) := (unhide HP).bel.trans (Turn.below (B := fun _ => False) (Turn.new (grown_drew (unhide HGW) 1)) (unhide HP).bel.size (fun _ q => q.elim))
      have hdr : Hid (W1.grownBy W1.drew none) := grown_drew (World.grownBy.refl W1 none) 1
      go_upto_region 12 with fail
      refine wp_region_till (h := 37) (S := fun x => Hid (Below w.heap.size w x)) (by kernel_rfl) ?_
      refine wpTill_take (i := 0) (v := ?_) [12, 29, 31, 37] rfl (by kernel_rfl) (by kernel_rfl) (by kernel_rfl) (by kernel_rfl) (fun _ _ _ h => h) hS0 (Or.inl ⟨by rfl, ?_⟩) ?_
      rotate_left
      · intro x hSx
        clear hSx
        go_simp
        try with_reducible rfl
      simp only [Act.put, List.getElem_toArray, List.getElem_cons_zero, List.setIfInBounds_toArray, List.set_cons_succ, List.set_cons_zero]
      refine wpTill_take (i := 1) (v := ?_) [3, 4, 5, 12, 29, 31, 37] rfl (by kernel_rfl) (by kernel_rfl) (by kernel_rfl) (by kernel_rfl) (fun _ _ _ h => h) hS0 (Or.inl ⟨by rfl, ?_⟩) ?_
      rotate_left
      · intro x hSx
        clear hSx
        go_simp
        try with_reducible rfl
      simp only [Act.put, List.getElem_toArray, List.getElem_cons_zero, List.getElem_cons_succ, List.setIfInBounds_toArray, List.set_cons_succ, List.set_cons_zero]
      refine wpTill_take (i := 2) (v := ?_) [3, 4, 5, 12, 29, 31, 37] rfl (by kernel_rfl) (by kernel_rfl) (by kernel_rfl) (by kernel_rfl) (fun _ _ _ h => h) hS0 (Or.inl ⟨by rfl, ?_⟩) ?_
      rotate_left
      · intro x hSx
        clear hSx
        go_simp
        try with_reducible rfl
      simp only [Act.put, List.getElem_toArray, List.getElem_cons_zero, List.getElem_cons_succ, List.setIfInBounds_toArray, List.set_cons_succ, List.set_cons_zero]
      refine wpTill_take (i := 3) (v := ?_) [4, 5, 12, 29, 31, 37] rfl (by kernel_rfl) (by kernel_rfl) (by kernel_rfl) (by kernel_rfl) (fun _ _ _ h => h) hS0 (Or.inl ⟨by rfl, ?_⟩) ?_
      rotate_left
      · intro x hSx
        clear hSx
        go_simp
        try with_reducible rfl
      simp only [Act.put, List.getElem_toArray, List.getElem_cons_zero, List.getElem_cons_succ, List.setIfInBounds_toArray, List.set_cons_succ, List.set_cons_zero]
      refine wpTill_take (i := 4) (v := ?_) [5, 12, 29, 31, 37] rfl (by kernel_rfl) (by kernel_rfl) (by kernel_rfl) (by kernel_rfl) (fun _ _ _ h => h) hS0 (Or.inl ⟨by rfl, ?_⟩) ?_
      rotate_left
      · intro x hSx
        clear hSx
        go_simp
        try with_reducible rfl
      simp only [Act.put, List.getElem_toArray, List.getElem_cons_zero, List.getElem_cons_succ, List.setIfInBounds_toArray, List.set_cons_succ, List.set_cons_zero]
      refine wpTill_take (i := 5) (v := ?_) [12, 29, 31, 37] rfl (by kernel_rfl) (by kernel_rfl) (by kernel_rfl) (by kernel_rfl) (fun _ _ _ h => h) hS0 (Or.inl ⟨by rfl, ?_⟩) ?_
      rotate_left
      · intro x hSx
        have e1 := ((unhide hSx).cell (p := ⟨b0, o0 + i * 3, none⟩) hb0).trans e0
        clear hSx
        go_simp
        try with_reducible rfl
      simp only [Act.put, List.getElem_toArray, List.getElem_cons_zero, List.getElem_cons_succ, List.setIfInBounds_toArray, List.set_cons_succ, List.set_cons_zero]
      refine wpTill_take (i := 6) (v := ?_) [8, 9, 10, 12, 29, 31, 37] rfl (by kernel_rfl) (by kernel_rfl) (by kernel_rfl) (by kernel_rfl) (fun _ _ _ h => h) hS0 (Or.inl ⟨by rfl, ?_⟩) ?_
      rotate_left
      · intro x hSx
        clear hSx
        go_simp
        try with_reducible rfl
      simp only [Act.put, List.getElem_toArray, List.getElem_cons_zero, List.getElem_cons_succ, List.setIfInBounds_toArray, List.set_cons_succ, List.set_cons_zero]
      refine wpTill_take (i := 7) (v := ?_) [8, 9, 10, 12, 29, 31, 37] rfl (by kernel_rfl) (by kernel_rfl) (by kernel_rfl) (by kernel_rfl) (fun _ _ _ h => h) hS0 (Or.inl ⟨by rfl, ?_⟩) ?_
      rotate_left
      · intro x hSx
        clear hSx
        go_simp
        try with_reducible rfl
      simp only [Act.put, List.getElem_toArray, List.getElem_cons_zero, List.getElem_cons_succ, List.setIfInBounds_toArray, List.set_cons_succ, List.set_cons_zero]
      refine wpTill_take (i := 8) (v := ?_) [9, 10, 12, 29, 31, 37] rfl (by kernel_rfl) (by kernel_rfl) (by kernel_rfl) (by kernel_rfl) (fun _ _ _ h => h) hS0 (Or.inl ⟨by rfl, ?_⟩) ?_
      rotate_left
      · intro x hSx
        clear hSx
        go_simp
        try with_reducible rfl
      simp only [Act.put, List.getElem_toArray, List.getElem_cons_zero, List.getElem_cons_succ, List.setIfInBounds_toArray, List.set_cons_succ, List.set_cons_zero]
      refine wpTill_take (i := 9) (v := ?_) [10, 12, 29, 31, 37] rfl (by kernel_rfl) (by kernel_rfl) (by kernel_rfl) (by kernel_rfl) (fun _ _ _ h => h) hS0 (Or.inl ⟨by rfl, ?_⟩) ?_
      rotate_left
      · intro x hSx
        clear hSx
        go_simp
        try with_reducible rfl
      simp only [Act.put, List.getElem_toArray, List.getElem_cons_zero, List.getElem_cons_succ, List.setIfInBounds_toArray, List.set_cons_succ, List.set_cons_zero]
      refine wpTill_take (i := 10) (v := ?_) [12, 29, 31, 37] rfl (by kernel_rfl) (by kernel_rfl) (by kernel_rfl) (by kernel_rfl) (fun _ _ _ h => h) hS0 (Or.inl ⟨by rfl, ?_⟩) ?_
      rotate_left
      · intro x hSx
        have e2 := ((unhide hSx).cell (p := ⟨b0, o0 + i * 3 + 1, none⟩) hb0).trans f0
        clear hSx
        go_simp
        try with_reducible rfl
      simp only [Act.put, List.getElem_toArray, List.getElem_cons_zero, List.getElem_cons_succ, List.setIfInBounds_toArray, List.set_cons_succ, List.set_cons_zero]
      refine wpTill_take (i := 11) (v := ?_) [12, 29, 31, 37] rfl (by kernel_rfl) (by kernel_rfl) (by kernel_rfl) (by kernel_rfl) (fun _ _ _ h => h) hS0 (Or.inl ⟨by rfl, ?_⟩) ?_
      rotate_left
      · intro x hSx
        clear hSx
        go_simp
        try with_reducible rfl
      simp only [Act.put, List.getElem_toArray, List.getElem_cons_zero, List.getElem_cons_succ, List.setIfInBounds_toArray, List.set_cons_succ, List.set_cons_zero]
      refine wpTill_take (i := 13) (v := ?_) [29, 31, 37] rfl (by kernel_rfl) (by kernel_rfl) (by kernel_rfl) (by kernel_rfl) (fun _ _ _ h => h) hS0 (Or.inl ⟨by rfl, ?_⟩) ?_
      rotate_left
      · intro x hSx
        clear hSx
        go_simp
        try with_reducible rfl
      simp only [Act.put, List.getElem_toArray, List.getElem_cons_zero, List.getElem_cons_succ, List.setIfInBounds_toArray, List.set_cons_succ, List.set_cons_zero]
      refine wpTill_take (i := 14) (v := ?_) [16, 17, 18, 29, 31, 37] rfl (by kernel_rfl) (by kernel_rfl) (by kernel_rfl) (by kernel_rfl) (fun _ _ _ h => h) hS0 (Or.inl ⟨by rfl, ?_⟩) ?_
      rotate_left
      · intro x hSx
        clear hSx
        go_simp
        try with_reducible rfl
      simp only [Act.put, List.getElem_toArray, List.getElem_cons_zero, List.getElem_cons_succ, List.setIfInBounds_toArray, List.set_cons_succ, List.set_cons_zero]
      refine wpTill_take (i := 15) (v := ?_) [16, 17, 18, 29, 31, 37] rfl (by kernel_rfl) (by kernel_rfl) (by kernel_rfl) (by kernel_rfl) (fun _ _ _ h => h) hS0 (Or.inl ⟨by rfl, ?_⟩) ?_
      rotate_left
      · intro x hSx
        clear hSx
        go_simp
        try with_reducible rfl
      simp only [Act.put, List.getElem_toArray, List.getElem_cons_zero, List.getElem_cons_succ, List.setIfInBounds_toArray, List.set_cons_succ, List.set_cons_zero]
      refine wpTill_take (i := 16) (v := ?_) [17, 18, 29, 31, 37] rfl (by kernel_rfl) (by kernel_rfl) (by kernel_rfl) (by kernel_rfl) (fun _ _ _ h => h) hS0 (Or.inl ⟨by rfl, ?_⟩) ?_
      rotate_left
      · intro x hSx
        clear hSx
        go_simp
        try with_reducible rfl
      simp only [Act.put, List.getElem_toArray, List.getElem_cons_zero, List.getElem_cons_succ, List.setIfInBounds_toArray, List.set_cons_succ, List.set_cons_zero]
      refine wpTill_take (i := 17) (v := ?_) [18, 29, 31, 37] rfl (by kernel_rfl) (by kernel_rfl) (by kernel_rfl) (by kernel_rfl) (fun _ _ _ h => h) hS0 (Or.inl ⟨by rfl, ?_⟩) ?_
      rotate_left
      · intro x hSx
        clear hSx
        go_simp
        try with_reducible rfl
      simp only [Act.put, List.getElem_toArray, List.getElem_cons_zero, List.getElem_cons_succ, List.setIfInBounds_toArray, List.set_cons_succ, List.set_cons_zero]
      refine wpTill_take (i := 18) (v := ?_) [29, 31, 37] rfl (by kernel_rfl) (by kernel_rfl) (by kernel_rfl) (by kernel_rfl) (fun _ _ _ h => h) hS0 (Or.inl ⟨by rfl, ?_⟩) ?_
      rotate_left
      · intro x hSx
        have e1 := ((unhide hSx).cell (p := ⟨b0, o0 + i * 3, none⟩) hb0).trans e0
        clear hSx
        go_simp
        try with_reducible rfl
      simp only [Act.put, List.getElem_toArray, List.getElem_cons_zero, List.getElem_cons_succ, List.setIfInBounds_toArray, List.set_cons_succ, List.set_cons_zero]
      refine wpTill_take (i := 19) (v := ?_) [21, 22, 23, 29, 31, 37] rfl (by kernel_rfl) (by kernel_rfl) (by kernel_rfl) (by kernel_rfl) (fun _ _ _ h => h) hS0 (Or.inl ⟨by rfl, ?_⟩) ?_
      rotate_left
      · intro x hSx
        clear hSx
        go_simp
        try with_reducible rfl
      simp only [Act.put, List.getElem_toArray, List.getElem_cons_zero, List.getElem_cons_succ, List.setIfInBounds_toArray, List.set_cons_succ, List.set_cons_zero]
      refine wpTill_take (i := 20) (v := ?_) [21, 22, 23, 29, 31, 37] rfl (by kernel_rfl) (by kernel_rfl) (by kernel_rfl) (by kernel_rfl) (fun _ _ _ h => h) hS0 (Or.inl ⟨by rfl, ?_⟩) ?_
      rotate_left
      · intro x hSx
        clear hSx
        go_simp
        try with_reducible rfl
      simp only [Act.put, List.getElem_toArray, List.getElem_cons_zero, List.getElem_cons_succ, List.setIfInBounds_toArray, List.set_cons_succ, List.set_cons_zero]
      refine wpTill_take (i := 21) (v := ?_) [22, 23, 29, 31, 37] rfl (by kernel_rfl) (by kernel_rfl) (by kernel_rfl) (by kernel_rfl) (fun _ _ _ h => h) hS0 (Or.inl ⟨by rfl, ?_⟩) ?_
      rotate_left
      · intro x hSx
        clear hSx
        go_simp
        try with_reducible rfl
      simp only [Act.put, List.getElem_toArray, List.getElem_cons_zero, List.getElem_cons_succ, List.setIfInBounds_toArray, List.set_cons_succ, List.set_cons_zero]
      refine wpTill_take (i := 22) (v := ?_) [23, 29, 31, 37] rfl (by kernel_rfl) (by kernel_rfl) (by kernel_rfl) (by kernel_rfl) (fun _ _ _ h => h) hS0 (Or.inl ⟨by rfl, ?_⟩) ?_
      rotate_left
      · intro x hSx
        clear hSx
        go_simp
        try with_reducible rfl
      simp only [Act.put, List.getElem_toArray, List.getElem_cons_zero, List.getElem_cons_succ, List.setIfInBounds_toArray, List.set_cons_succ, List.set_cons_zero]
      refine wpTill_take (i := 23) (v := ?_) [29, 31, 37] rfl (by kernel_rfl) (by kernel_rfl) (by kernel_rfl) (by kernel_rfl) (fun _ _ _ h => h) hS0 (Or.inl ⟨by rfl, ?_⟩) ?_
      rotate_left
      · intro x hSx
        have e2 := ((unhide hSx).cell (p := ⟨b0, o0 + i * 3 + 1, none⟩) hb0).trans f0
        clear hSx
        go_simp
        try with_reducible rfl
      simp only [Act.put, List.getElem_toArray, List.getElem_cons_zero, List.getElem_cons_succ, List.setIfInBounds_toArray, List.set_cons_succ, List.set_cons_zero]
      refine wpTill_take (i := 24) (v := ?_) [26, 27, 28, 29, 31, 37] rfl (by kernel_rfl) (by kernel_rfl) (by kernel_rfl) (by kernel_rfl) (fun _ _ _ h => h) hS0 (Or.inl ⟨by rfl, ?_⟩) ?_
      rotate_left
      · intro x hSx
        clear hSx
        go_simp
        try with_reducible rfl
      simp only [Act.put, List.getElem_toArray, List.getElem_cons_zero, List.getElem_cons_succ, List.setIfInBounds_toArray, List.set_cons_succ, List.set_cons_zero]
      refine wpTill_take (i := 25) (v := ?_) [26, 27, 28, 29, 31, 37] rfl (by kernel_rfl) (by kernel_rfl) (by kernel_rfl) (by kernel_rfl) (fun _ _ _ h => h) hS0 (Or.inl ⟨by rfl, ?_⟩) ?_
      rotate_left
      · intro x hSx
        clear hSx
        go_simp
        try with_reducible rfl
      simp only [Act.put, List.getElem_toArray, List.getElem_cons_zero, List.getElem_cons_succ, List.setIfInBounds_toArray, List.set_cons_succ, List.set_cons_zero]
      refine wpTill_take (i := 26) (v := ?_) [27, 28, 29, 31, 37] rfl (by kernel_rfl) (by kernel_rfl) (by kernel_rfl) (by kernel_rfl) (fun _ _ _ h => h) hS0 (Or.inl ⟨by rfl, ?_⟩) ?_
      rotate_left
      · intro x hSx
        clear hSx
        go_simp
        try with_reducible rfl
      simp only [Act.put, List.getElem_toArray, List.getElem_cons_zero, List.getElem_cons_succ, List.setIfInBounds_toArray, List.set_cons_succ, List.set_cons_zero]
      refine wpTill_take (i := 27) (v := ?_) [28, 29, 31, 37] rfl (by kernel_rfl) (by kernel_rfl) (by kernel_rfl) (by kernel_rfl) (fun _ _ _ h => h) hS0 (Or.inl ⟨by rfl, ?_⟩) ?_
      rotate_left
      · intro x hSx
        clear hSx
        go_simp
        try with_reducible rfl
      simp only [Act.put, List.getElem_toArray, List.getElem_cons_zero, List.getElem_cons_succ, List.setIfInBounds_toArray, List.set_cons_succ, List.set_cons_zero]
      refine wpTill_take (i := 28) (v := ?_) [29, 31, 37] rfl (by kernel_rfl) (by kernel_rfl) (by kernel_rfl) (by kernel_rfl) (fun _ _ _ h => h) hS0 (Or.inl ⟨by rfl, ?_⟩) ?_
      rotate_left
      · intro x hSx
        have e3 := ((unhide hSx).cell (p := ⟨b0, o0 + i * 3 + 2, none⟩) hb0).trans g0
        clear hSx
        go_simp
        try with_reducible rfl
      simp only [Act.put, List.getElem_toArray, List.getElem_cons_zero, List.getElem_cons_succ, List.setIfInBounds_toArray, List.set_cons_succ, List.set_cons_zero]
      refine wpTill_only (j := 12) (by kernel_rfl) rfl (fun K hK => ?_)
      go_simp
      refine (unhide cP _ (unhide hdr)).mono ?_
      rintro e y ⟨r, rfl, hby, cR⟩
      have cR2 := hide cR
      have hS1 : Hid (Below w.heap.size w y) := hby
      have hrr : (r != r) = false := by simp
      clear cR cP hby hS0
      try go_simp
      refine hK.out _ _ (fun _ => hS1) ?_
      clear hK K
      refine wpTill_only (j := 29) (by kernel_rfl) rfl (fun K hK => ?_)
      go_simp
      refine (unhide cR2).mono ?_
      rintro e zz ⟨rfl, hNx⟩
      obtain ⟨⟨tot, has, L, V1, U1, hP, hV1, hU1⟩, hTz⟩ := hNx
      have hP1 := hide hP
      have HV1 := hide hV1
      have HU1 := hide hU1
      have HTz := hide hTz
      have hS2 : Hid (Below w.heap.size w zz) := hP.bel
      have cB1 := hide (ckBits_any _ _ _ _ _ _ zz hP.mine)
      have cB2 := hide (refBits_any _ _ _ _ _ _ zz hP.ref)
      obtain ⟨zb, hzb⟩ : ∃ zb, Ck.num has 16 = zb := ⟨_, rfl⟩
      rw [hzb] at cB1 cB2
      have hzz : (zb != zb) = false := by simp
      clear cR2 hP hV1 hU1 hTz hzb hS1
      try go_simp
      refine hK.out _ _ (fun _ => hS2) ?_
      clear hK K
      refine wpTill_take (i := 30) (v := ?_) [31, 37] rfl (by kernel_rfl) (by kernel_rfl) (by kernel_rfl) (by kernel_rfl) (fun _ _ _ h => h) hS2 (Or.inl ⟨by rfl, ?_⟩) ?_
      rotate_left
      · intro x hSx
        clear hSx
        go_simp
        try with_reducible rfl
      simp only [Act.put, List.getElem_toArray, List.getElem_cons_zero, List.getElem_cons_succ, List.setIfInBounds_toArray, List.set_cons_succ, List.set_cons_zero]
      refine wpTill_take (i := 31) (v := ?_) [37] rfl (by kernel_rfl) (by kernel_rfl) (by kernel_rfl) (by kernel_rfl) (fun _ _ _ h => h) hS2 (Or.inl ⟨by rfl, ?_⟩) ?_
      rotate_left
      · intro x hSx
        clear hSx
        go_simp
        try with_reducible rfl
      simp only [Act.put, List.getElem_toArray, List.getElem_cons_zero, List.getElem_cons_succ, List.setIfInBounds_toArray, List.set_cons_succ, List.set_cons_zero]
      refine wpTill_take (i := 32) (v := ?_) [33, 36, 37] rfl (by kernel_rfl) (by kernel_rfl) (by kernel_rfl) (by kernel_rfl) (fun _ _ _ h => h) hS2 (Or.inl ⟨by rfl, ?_⟩) ?_
      rotate_left
      · intro x hSx
        clear hSx
        go_simp
        try with_reducible rfl
      simp only [Act.put, List.getElem_toArray, List.getElem_cons_zero, List.getElem_cons_succ, List.setIfInBounds_toArray, List.set_cons_succ, List.set_cons_zero]
      refine wpTill_take (i := 34) (v := ?_) [35, 36, 37] rfl (by kernel_rfl) (by kernel_rfl) (by kernel_rfl) (by kernel_rfl) (fun _ _ _ h => h) hS2 (Or.inl ⟨by rfl, ?_⟩) ?_
      rotate_left
      · intro x hSx
        clear hSx
        go_simp
        try with_reducible rfl
      simp only [Act.put, List.getElem_toArray, List.getElem_cons_zero, List.getElem_cons_succ, List.setIfInBounds_toArray, List.set_cons_succ, List.set_cons_zero]
      refine wpTill_only (j := 33) (by kernel_rfl) rfl (fun K hK => ?_)
      go_simp
      refine (unhide cB1).mono ?_
      rintro e wq ⟨rfl, hq9⟩
      obtain rfl : zz = wq := hq9.symm
      try go_simp
      refine hK.out _ _ (fun _ => hS2) ?_
      clear hK K
      refine wpTill_only (j := 35) (by kernel_rfl) rfl (fun K hK => ?_)
      go_simp
      refine (unhide cB2).mono ?_
      rintro e wq ⟨rfl, hq9⟩
      obtain rfl : zz = wq := hq9.symm
      try go_simp
      refine hK.out _ _ (fun _ => hS2) ?_
      clear hK K
      refine wpTill_take (i := 36) (v := ?_) [37] rfl (by kernel_rfl) (by kernel_rfl) (by kernel_rfl) (by kernel_rfl) (fun _ _ _ h => h) hS2 (Or.inl ⟨by rfl, ?_⟩) ?_
      rotate_left
      · intro x hSx
        clear hSx
        go_simp
        try with_reducible rfl
      simp only [Act.put, List.getElem_toArray, List.getElem_cons_zero, List.getElem_cons_succ, List.setIfInBounds_toArray, List.set_cons_succ, List.set_cons_zero]
      refine wpTill_only (j := 37) (by kernel_rfl) rfl (fun K hK => ?_)
      go_simp
      refine hK.out _ _ (fun hx => absurd (hx.symm.trans (by kernel_rfl)) Bool.false_ne_true) ?_
      clear hK K
      refine wpTill_done (by kernel_rfl) ?_ _
      have hgl : Hid (gm < W1.heap.size ∧ p ≠ gm ∧ q ≠ gm ∧ w.heap.size ≤ gm) := by
        have h1 := ((unhide HO).lt gm rfl).2
        have h2 := (unhide HP).mine.box.lt
        have h3 := (unhide HP).ref.box.lt
        have h4 := unhide Hgm
        have h5 := (unhide HP).bel.size
        exact ⟨h1, by omega, by omega, by omega⟩
      have hOz : Hid (zz.ownsRow wr.heap.size 5 1 (.slice (some ⟨gm, 0, none⟩) ni cm) ni (Ck.bys li)) := by
        refine owns_turned ((unhide HO).kept (unhide hdr) (.inr (by simp [Value.ownBlock]))) (unhide HTz) (fun k e r => ?_)
        have h1 := unhide hgl
        have e2 : gm = k := by simpa [Value.ownBlock] using e
        rcases r with r | r <;> omega
      have hfV : Hid (∀ j, j < 16 → has j = true → ∀ k, (V1 j).ownBlock = some k → ¬ k = gm) := fun j hj _ k e r => by
        rcases unhide HV1 j k e with h | h
        · cases hh : has_1 j with
          | true =>
            have := (((unhide HP).mine.piece j hj hh).1.lt k h).2
            have := unhide Hgm
            omega
          | false =>
            rw [(unhide HP).mine.none_ j hj hh] at h
            cases h
        · have h1 := (unhide hgl).1
          have h2 : W1.drew.heap.size = W1.heap.size := rfl
          omega
      have hfU : Hid (∀ j, j < 16 → has j = true → ∀ k, (U1 j).ownBlock = some k → ¬ k = gm) := fun j hj _ k e r => by
        rcases unhide HU1 j k e with h | h
        · cases hh : has_1 j with
          | true =>
            have := (((unhide HP).ref.piece j hj hh).1.lt k h).2
            have := unhide Hgm
            omega
          | false =>
            rw [(unhide HP).ref.none_ j hj hh] at h
            cases h
        · have h1 := (unhide hgl).1
          have h2 : W1.drew.heap.size = W1.heap.size := rfl
          omega
      obtain ⟨wo, hwo⟩ : ∃ wo, wr.heap.size = wo := ⟨_, rfl⟩
      rw [hwo] at hOz
      have hl0 : Hid ((Ck.bys li).length = ni * 1) := by show _ = _; unfold Ck.bys; rw [List.length_map, (unhide HB).1, Nat.mul_one]
      clear HV1 HU1 HTz hwo HO HP Hgm HGW hdr hzz hrr cB1 cB2 hS2 hq9
      go_wp2_with fail
      go_loopw [7] (fun v7 wi => ∃ k : Nat, k ≤ ni ∧ v7 = .int .i64 (k : Int) ∧ Hid ((∃ ys, ys.length = ni * 1 ∧ wi.ownsRow wo 5 1 (.slice (some ⟨gm, 0, none⟩) ni cm) ni ys) ∧ Turn (fun k => k = gm) zz wi)) (fun v7 _ => 400 - (intOf v7).toNat)
      case atStart => exact ⟨0, Nat.zero_le _, rfl, ⟨_, unhide hl0, unhide hOz⟩, Turn.refl _ _⟩
      case round =>
        clear hOz hl0
        obtain ⟨k, hk, rfl, hY⟩ := hrel
        by_cases hkn : k < ni
        · have hkn' : (k : Int) < (ni : Int) := by omega
          obtain ⟨⟨ys, hys, hO⟩, hT⟩ := unhide hY
          have c1 := hO.cellAt k (by omega)
          rw [List.getElem?_eq_getElem (by omega)] at c1
          have f1 := fun j => hO.frozenAt j
          have hnew : Hid ((∃ ys, ys.length = ni * 1 ∧ (wr.setCell ⟨gm, k, none⟩ (.int .u8 238)).ownsRow wo 5 1 (.slice (some ⟨gm, 0, none⟩) ni cm) ni ys) ∧ Turn (fun k => k = gm) zz (wr.setCell ⟨gm, k, none⟩ (.int .u8 238))) := by
            have h1 := (hO.stored k (.int .u8 238)).1
            exact ⟨⟨_, h1.1, h1⟩, hT.store gm k _ rfl⟩
          obtain ⟨yk, hyk⟩ : ∃ yk, ys[k] = yk := ⟨_, rfl⟩
          rw [hyk] at c1
          have HK := hide hkn
          clear hk hkn hY hys hO hT hyk
          go_wp2_with fail
          go_roundw
          case rel => exact ⟨k + 1, by have := unhide HK; omega, by go_num, hnew⟩
          case measure => simp [intOf]; have := unhide HK; have := unhide H300; omega
        · have hge : ¬ (k : Int) < (ni : Int) := by omega
          have hP2 := (unhide hP1).turn (unhide hY).2 (unhide hgl).2.1 (unhide hgl).2.2.1 (unhide hfV) (unhide hfU) (fun k e => by rw [e]; exact (unhide hgl).2.2.2)
          have cW := hide hP2.whole
          clear hP2 hY hk hkn
          go_wp2_with fail
          refine (unhide cW).mono ?_
          rintro e y1 ⟨aw, nw, cw, bw, rfl, cR⟩
          have cR' := hide cR
          clear cR cW
          go_wp2_with fail
          refine (unhide cR').mono ?_
          rintro e y2 ⟨aw2, nw2, cw2, rfl, hP3, lw, hs1, hs2⟩
          have HP3 := hide hP3
          have t1 := hs1.text
          have t2 := hs2.text
          obtain ⟨st, hst⟩ : ∃ st, strOfNums lw = st := ⟨_, rfl⟩
          rw [hst] at t1 t2
          have hbb : (bw != bw) = false := by simp
          clear hP3 hs1 hs2 hst cR'
          go_wp2_with fail
          go_roundw
          case rel => exact ⟨i + 1, by have := unhide HL; omega, by have := unhide HL; omega, by go_num, _, _, _, _, _, unhide HP3⟩
          case measure => simp [intOf]; have := unhide HL; omega
    · have hge : (¬ (i : Int) < (len0 : Int)) ∨ ((i : Int) < (len0 : Int) ∧ ¬ (i : Int) < 60) := by omega
      have hbel : Hid (Below w.heap.size w wr) := by
        obtain ⟨_, _, _, _, _, hP⟩ := unhide hX
        exact hP.bel
      clear hlt hi60 hil hX
      rcases hge with hge | ⟨hge, hge2⟩
      all_goals
        go_wp2
        go_ret
        exact ⟨rfl, unhide hbel⟩

set_option maxRecDepth 100000 in
theorem lifted (os : Os) (started : os.Started) (H : Type) (enc : TypeId × Value → H) :
    ReturnsInHanded {} Try.checked os 5 .any (Rows.chunkTakesSpec.pre6 enc Try.prog Try.f5 Rows.chunkTakesRow.domain false) (Rows.chunkTakesSpec.post enc Try.prog Try.f5 false true false false) := by
  refine returnsInHanded_of_change (C := Try.checked) own started (by kernel_rfl) Try.func5
    (ChangeSpec.witness6 (enc := enc) (C := Try.checked) false ⟨#[], #[.slice none 0 0], []⟩ 8 (by kernel_rfl) (by kernel_rfl) (by kernel_rfl) (by kernel_rfl)) ?_
  intro W base args ds gs before hval0 hW hcnd _
  have hval : ∀ (j : Nat) t v, Try.f5.params[j]? = some t → args[j]? = some v → Value.okWide Try.prog W .any base t v := hval0
  have hW' := hW
  obtain ⟨p, q, hA0, hV, rfl, hfz, hnd⟩ := hW
  have hA : DataW.TrodAll enc Try.prog W 0 (fun _ => true) true Try.f5.params.toList args.toList ds p := hA0
  rw [Try.params5] at hA hval
  obtain ⟨v0, vs0, d0, ds0, p0, q0, hargs, rfl, rfl, h0, r0⟩ := trodAll_cons hA
  obtain ⟨rfl, rfl, rfl⟩ := trodAll_nil r0
  obtain rfl : args = #[v0] := by cases args; simp_all
  obtain ⟨rfl, rfl⟩ := trodVars_none hV
  obtain ⟨a0, len0, cap0, rfl⟩ := okWide_slice Try.underlying45 (hval 0 45 v0 rfl rfl)
  have k0 := h0
  have lt0 : ∀ x ∈ p0, x.block < W.heap.size := by obtain ⟨m, hm⟩ := k0; exact DataW.trod_lt m _ _ _ hm
  obtain ⟨z0, w0⟩ : ∃ z, Trip.Came W a0 len0 z := by
    obtain ⟨fuel, hf⟩ := h0
    exact open_pieces (by simpa [Value.cells] using hf)
  clear hA0 hval0
  refine (walk a0 len0 cap0 z0 W w0).mono fun e W' ⟨he, bel⟩ => ?_
  subst he
  exact ⟨_, rfl, _, _, _, [], _, [], hW', trodAll_mk1 (shut_bool Try.underlying4 _), (trodAll_cons_mk (Below.trod laidOut (by kernel_rfl) (of_decide_eq_true (by kernel_rfl)) k0 bel lt0) trodAll_mk0), rfl, bel.frame _, fun h => by cases h⟩

theorem over : Rows.chunkTakesRow.holds Try.pinned (OpenSpec.ofChange Rows.chunkTakesSpec) :=
  OpenClaim.holds_of_wide 5 Try.f5 rfl rfl rfl rfl rfl rfl rfl ⟨rfl, rfl, rfl, rfl, rfl⟩ rfl rfl rfl rfl rfl (by kernel_rfl) Try.func5 (by kernel_rfl)
    (of_decide_eq_true (by kernel_rfl)) (by unfold Func.isWrapper; first | (rw [if_pos (by decide +kernel)]; kernel_rfl) | (rw [if_neg (by decide +kernel)]; exact ⟨rfl, rfl⟩))
    (fun os started H enc _ => lifted os started H enc)

theorem proved : Rows.ChunkTakesSaid := over
#print axioms proved
end Go.Proofs.Ytnolelhjhhiohaa.chunkTakes
