/-
  The greatest of a row, where it stands first, and the cells that are floor.
-/
import Derived.Test.YtliidnmkjnbiiaaGenRegion
import Derived.Deep.LoopGhost
namespace Go.Proofs.Ytliidnmkjnbiiaa
open Go.RowKit

/-- The greatest of F 0 to F n. -/
def Gn.most (F : Nat → Int) : Nat → Int
  | 0 => F 0
  | n + 1 => if F (n + 1) > Gn.most F n then F (n + 1) else Gn.most F n

theorem Gn.most_ge (F : Nat → Int) (n i : Nat) (h : i ≤ n) : F i ≤ Gn.most F n := by
  induction n with
  | zero => obtain rfl : i = 0 := by omega
            exact Int.le_refl _
  | succ n ih =>
    unfold Gn.most
    by_cases e : i = n + 1
    · subst e; split <;> omega
    · have := ih (by omega)
      split <;> omega

theorem Gn.most_is (F : Nat → Int) (n : Nat) : ∃ i, i ≤ n ∧ F i = Gn.most F n := by
  induction n with
  | zero => exact ⟨0, Nat.le_refl _, rfl⟩
  | succ n ih =>
    obtain ⟨i, hi, he⟩ := ih
    by_cases h : F (n + 1) > Gn.most F n
    · exact ⟨n + 1, Nat.le_refl _, by rw [Gn.most, if_pos h]⟩
    · exact ⟨i, by omega, by rw [Gn.most, if_neg h]; exact he⟩

set_option maxHeartbeats 800000 in
theorem max_any (B : Nat) (a : Option Addr) (cap : Nat) (F : Nat → Int) (w : World) (h : Vec B w a 384 (Ints F)) :
    Calls Try.prog 32 #[.slice a 384 cap] w fun e w' => e = .returned (.int .i64 (Gn.most F 383)) ∧ w' = w := by
  obtain ⟨b, off, rfl, _, hc0⟩ := h.at (k := 0) (by omega)
  have hc0' : w.cell? ⟨b, off, none⟩ = some (.int .i64 (F 0)) := hc0
  have hv := hide h
  clear h hc0
  go_enter Try.func32, Try.ntmps32
  go_wp2_with fail
  go_loop [3, 4] (fun m i => ∃ k j : Nat, j = k + 1 ∧ k ≤ 383 ∧ i = .int .i64 (j : Int) ∧ m = .int .i64 (Gn.most F k)) (fun _ i => 400 - (intOf i).toNat)
  case atStart => exact ⟨0, 1, rfl, by omega, rfl, rfl⟩
  case round =>
    obtain ⟨k, j, hj, hk, rfl, rfl⟩ := hrel
    obtain ⟨M, hM⟩ : ∃ M, M = Gn.most F k := ⟨_, rfl⟩
    rw [← hM]
    by_cases hlt : k < 383
    · obtain ⟨b', off', heq, _, hcj⟩ := (unhide hv).at (k := j) (by omega)
      simp only [Option.some.injEq, Addr.mk.injEq, and_true] at heq
      obtain ⟨rfl, rfl⟩ := heq
      have hcj' : w.cell? ⟨b, off + j, none⟩ = some (.int .i64 (F j)) := hcj
      have hlt' : (j : Int) < 384 := by omega
      have hst : Gn.most F j = if F j > M then F j else M := by rw [hM, hj, Gn.most]
      have hst' := hide hst
      have hj' := hide hj
      have HL := hide hlt
      clear hcj hM hst hlt hj hk hc0'
      by_cases hgt : M < F j
      · have e := hide (show Gn.most F j = F j by rw [unhide hst', if_pos hgt])
        go_wp2
        go_round
        case rel => exact ⟨j, j + 1, rfl, by have := unhide hj'; have := unhide HL; omega, by go_num, by rw [unhide e]⟩
        case measure => simp [intOf]; omega
      · have e := hide (show Gn.most F j = M by rw [unhide hst', if_neg (by omega)])
        go_wp2
        go_round
        case rel => exact ⟨j, j + 1, rfl, by have := unhide hj'; have := unhide HL; omega, by go_num, by rw [unhide e]⟩
        case measure => simp [intOf]; omega
    · have hge : ¬ (j : Int) < 384 := by omega
      obtain rfl : k = 383 := by omega
      have hM' := hide hM
      clear hlt hk hj hM
      go_wp2
      go_ret
      exact ⟨ret_int (unhide hM'), rfl⟩

set_option maxHeartbeats 800000 in
theorem index_any (B : Nat) (a : Option Addr) (cap : Nat) (F : Nat → Int) (v : Int) (far : Nat) (w : World) (h : Vec B w a 384 (Ints F)) (hf : far < 384) (he : F far = v) (hn : ∀ i, i < far → F i ≠ v) :
    Calls Try.prog 33 #[.slice a 384 cap, .int .i64 v] w fun e w' => e = .returned (.int .i64 (far : Int)) ∧ w' = w := by
  have hv := hide h
  have hn' := hide hn
  have he' := hide he
  clear h hn he
  go_enter Try.func33, Try.ntmps33
  go_wp2_with fail
  go_loop [8] (fun i => ∃ k : Nat, k ≤ far ∧ i = .int .i64 (k : Int)) (fun i => 400 - (intOf i).toNat)
  case atStart => exact ⟨0, by omega, rfl⟩
  case round =>
    obtain ⟨k, hk, rfl⟩ := hrel
    obtain ⟨b, off, rfl, _, hc⟩ := (unhide hv).at (k := k) (by omega)
    have hc' : w.cell? ⟨b, off + k, none⟩ = some (.int .i64 (F k)) := hc
    have hlt' : (k : Int) < 384 := by omega
    clear hc
    by_cases hkf : k = far
    · subst hkf
      have hq : (v == F k) = true := by rw [unhide he']; simp
      go_wp2
      go_ret
      exact ⟨rfl, rfl⟩
    · have hq : (v == F k) = false := by
        have := unhide hn' k (by omega)
        rw [beq_eq_false_iff_ne]
        exact fun e => this e.symm
      have HK := hide hkf
      clear hkf
      go_wp2
      go_round
      case rel => exact ⟨k + 1, by have := unhide HK; omega, by go_num⟩
      case measure => simp [intOf]; omega

/-- The numbers below n of which p holds, in order. -/
def Gn.those (p : Nat → Bool) (n : Nat) : List Nat := (List.range n).filter p

theorem Gn.those_yes {p : Nat → Bool} {n : Nat} (h : p n = true) : Gn.those p (n + 1) = Gn.those p n ++ [n] := by
  unfold Gn.those
  rw [List.range_succ, List.filter_append, List.filter_cons_of_pos h, List.filter_nil]

theorem Gn.those_no {p : Nat → Bool} {n : Nat} (h : p n = false) : Gn.those p (n + 1) = Gn.those p n := by
  unfold Gn.those
  rw [List.range_succ, List.filter_append, List.filter_cons_of_neg (by simp [h]), List.filter_nil, List.append_nil]

theorem Gn.those_len (p : Nat → Bool) (n : Nat) : (Gn.those p n).length ≤ n := by
  have h := List.length_filter_le p (List.range n)
  rw [List.length_range] at h
  exact h

/-- A list of numbers in a block of the call's own. -/
def Lst (w : World) (base : Nat) (v : Value) (l : List Nat) : Prop := w.ownsRow base 3 1 v l.length ((natInts l).map (Value.int .i64))

set_option maxRecDepth 8000 in
set_option maxHeartbeats 1600000 in
theorem floorCells_any (B : Nat) (a : Option Addr) (cap : Nat) (c : Nat → Int) (w : World) (h : Vec B w a 384 (Byts c)) (hB : B ≤ w.heap.size) :
    Calls Try.prog 34 #[.slice a 384 cap] w fun e w' => ∃ v, e = .returned v ∧ Lst w' w.heap.size v (Gn.those (fun i => c i == 1) 384) ∧ w.grownBy w' none := by
  have hv := hide h
  obtain ⟨i0, hi, hz0, hz1, hz2⟩ := info_parts info_int
  clear h
  go_enter Try.func34, Try.ntmps34
  go_wp2_with fail
  go_loopw [3, 8] (fun v i wr => ∃ k : Nat, k ≤ 384 ∧ i = .int .i64 (k : Int) ∧ Lst wr w.heap.size v (Gn.those (fun i => c i == 1) k) ∧ w.grownBy wr none) (fun _ i _ => 400 - (intOf i).toNat)
  case atStart => exact ⟨0, by omega, rfl, World.ownsRow_nil _ _ _ _, World.grownBy.refl _ _⟩
  case round =>
    obtain ⟨k, hk, rfl, hown, hg⟩ := hrel
    have hown1 := hide hown
    have hg1 := hide hg
    have hsz := hg.size
    have hln := Gn.those_len (fun i => c i == 1) k
    clear hown hg
    by_cases hlt : k < 384
    · obtain ⟨b, off, rfl, hb, hc⟩ := ((unhide hv).kept (w' := wr) ⟨(unhide hg1).os, (unhide hg1).tape, (unhide hg1).output, (unhide hg1).size, fun i hi => (unhide hg1).block i (by omega) (by simp)⟩).at hlt
      have hc' : wr.cell? ⟨b, off + k, none⟩ = some (.int .u8 (c k)) := hc
      have hlt' : (k : Int) < 384 := by omega
      have HL := hide hlt
      clear hc hlt hk
      by_cases hq : (c k == 1) = true
      · have hyes := hide (Gn.those_yes (p := fun i => c i == 1) hq)
        obtain ⟨l, hl⟩ : ∃ l, l = Gn.those (fun i => c i == 1) k := ⟨_, rfl⟩
        rw [← hl] at hown1 hln hyes
        have hl' := hide hl
        clear hl
        go_wp2_with (at_builtin; refine wpList_append_own _ rfl _ _ 36 rfl w.heap.size 3 i0 (.int .i64 0) 1 8 Try.underlying36 hi hz0 hz1 hz2 rfl (by decide) _ _ _ rfl ((unhide hown1).alloc _) ⟨wr.heap.size, 0, none⟩ 1 1 [.int .i64 (k : Int)] rfl rfl ?_ ?_ ?_ ?_ ?_ ?_)
        · exact one_at _ _ _ _ rfl
        · intro u hu; simp at hu; subst hu; rfl
        · unfold maxLen; omega
        · omega
        · simp; omega
        intro v' w1 hown' hgrow _
        rw [natInts_more] at hown'
        have hown2 : Hid (Lst w1 w.heap.size v' (Gn.those (fun i => c i == 1) (k + 1))) := by
          rw [unhide hyes]
          show w1.ownsRow _ _ _ _ _ _
          rw [List.length_append]
          exact hown'
        have hg2 := hide (grown_own (grown_alloc (unhide hg1) _) hgrow (fun n e => ((unhide hown1).lt n e).1))
        clear hown' hgrow hown1 hg1
        go_wp2
        go_roundw
        case rel => exact ⟨k + 1, by have := unhide HL; omega, by go_num, unhide hown2, unhide hg2⟩
        case measure => simp [intOf]; omega
      · have hq' : (c k == 1) = false := by simpa using hq
        have hno := hide (Gn.those_no (p := fun i => c i == 1) hq')
        clear hq
        go_wp2
        go_roundw
        case rel => exact ⟨k + 1, by have := unhide HL; omega, by go_num, by rw [unhide hno]; exact unhide hown1, unhide hg1⟩
        case measure => simp [intOf]; omega
    · have hge : ¬ (k : Int) < 384 := by omega
      obtain rfl : k = 384 := by omega
      clear hlt hk
      go_wp2
      go_ret
      exact ⟨_, rfl, unhide hown1, unhide hg1⟩

end Go.Proofs.Ytliidnmkjnbiiaa
