/-
  The project's chunk: isCount, all, has, twin.
-/
import Derived.Test.YtnolelhjhhiohaaChunkLack
namespace Go.Proofs.Ytnolelhjhhiohaa
open Go.RowKit

theorem isCount_yes (z : Int) (w : World) (h1 : 1 ≤ z) (h2 : z ≤ 16) :
    Calls Try.prog 30 #[.int .i64 z] w fun e w' => e = .returned (.bool true) ∧ w' = w := by
  have g1 : ¬ z < 1 := by omega
  go_enter Try.func30, Try.ntmps30
  go_wp2
  go_ret
  exact ⟨rfl, rfl⟩

theorem isCount_no (z : Int) (w : World) (h : z < 1 ∨ 16 < z) :
    Calls Try.prog 30 #[.int .i64 z] w fun e w' => e = .returned (.bool false) ∧ w' = w := by
  rcases h with h | h
  · have g1 : ¬ 1 ≤ z := by omega
    go_enter Try.func30, Try.ntmps30
    go_wp2
    go_ret
    exact ⟨rfl, rfl⟩
  · have g1 : 1 ≤ z := by omega
    have g2 : ¬ z ≤ 16 := by omega
    go_enter Try.func30, Try.ntmps30
    go_wp2
    go_ret
    exact ⟨rfl, rfl⟩

theorem ckAll_any (n : Nat) (w : World) (h : n ≤ 16) :
    Calls Try.prog 31 #[.int .i64 (n : Int)] w fun e w' => e = .returned (.int .u32 (Ck.num (fun _ => true) n)) ∧ w' = w := by
  have g1 : (0 : Int) ≤ (n : Int) := by omega
  have g2 : (n : Int) ≤ 16 := by omega
  have g3 : (n : Int) ≤ 32 := by omega
  have e1 := Ck.shift_one h
  have e2 := Ck.wrap_less h
  have e3 := hide (Ck.num_full h)
  go_enter Try.func31, Try.ntmps31
  go_wp2
  go_ret
  exact ⟨ret_int (unhide e3).symm, rfl⟩

theorem ckHas_any (b : Int) (k : Nat) (w : World) (h : k ≤ 16) :
    Calls Try.prog 32 #[.int .u32 b, .int .i64 (k : Int)] w fun e w' => e = .returned (.bool (Ck.bit b k)) ∧ w' = w := by
  have g1 : (0 : Int) ≤ (k : Int) := by omega
  have g3 : (k : Int) ≤ 32 := by omega
  have hd : Hid ((bits .and .u32 (b / 2 ^ k) 1 == 1) = Ck.bit b k) := rfl
  go_enter Try.func32, Try.ntmps32
  go_wp2
  go_ret
  exact ⟨ret_bool (unhide hd), rfl⟩

set_option maxRecDepth 4000 in
theorem ckTwin_any (v : Value) (l : List Int) (w : World) (hs : Ck.Src w v l) (hl : l.length ≤ 1024) :
    Calls Try.prog 29 #[v] w fun e w' => ∃ g cap, e = .returned (.slice (some ⟨g, 0, none⟩) l.length cap) ∧ w'.ownsRow w.heap.size 5 1 (.slice (some ⟨g, 0, none⟩) l.length cap) l.length (Ck.bys l) ∧ w.grownBy w' none := by
  obtain ⟨i0, hi, hz0, hz1, hz2⟩ := info_parts info_by
  have hv : ∃ a cap, v = .slice a l.length cap ∧ Hid (0 < l.length → ∃ ad, a = some ad ∧ ∀ j u, (Ck.bys l)[j]? = some u → w.cell? (ad.add j) = some u) := by
    rcases hs with ⟨rfl, rfl⟩ | ⟨ad, cap, rfl, h2⟩
    · exact ⟨none, 0, rfl, fun h => absurd h (by simp)⟩
    · exact ⟨_, cap, rfl, fun _ => ⟨ad, rfl, h2⟩⟩
  obtain ⟨a, cap, rfl, HA⟩ := hv
  clear hs
  have hbl : (Ck.bys l).length = l.length := by unfold Ck.bys; simp
  have Hbl := hide hbl
  obtain ⟨n, hn⟩ : ∃ n, l.length = n := ⟨_, rfl⟩
  rw [hn] at HA Hbl hl hbl ⊢
  obtain ⟨ys, hys⟩ : ∃ ys, Ck.bys l = ys := ⟨_, rfl⟩
  have hone : Hid (∀ u ∈ ys, u.oneCell' = true) := fun u hu => by
    rw [← hys] at hu
    obtain ⟨q, -, rfl⟩ := List.mem_map.1 hu
    rfl
  rw [hys] at HA Hbl ⊢
  clear hn hys hbl
  have hn1 : (n : Int) ≤ 1024 := by omega
  obtain ⟨G, hG⟩ : ∃ G, G = w.heap.size := ⟨_, rfl⟩
  have hG' := hide hG
  clear hG
  go_enter Try.func29, Try.ntmps29
  go_wp2_with (at_make; refine wpList_make_full _ rfl _ _ 22 rfl G 5 i0 (.int .u8 0) 1 Try.underlying22 hi hz0 hz1 .i64 .i64 _ _ n rfl rfl rfl rfl ?q3 ?q4 (Nat.le_of_eq (unhide hG')) ?_)
  case q3 => first | omega | (rw [hz2]; omega)
  case q4 => unfold maxLen; omega
  intro w2 hown hgrow
  rw [← unhide hG'] at hown ⊢
  rw [toList_madeCells_one] at hown
  obtain ⟨cur, hc⟩ : ∃ cur : List Value, w2.heap[G]? = some (.cells cur.toArray 5 (0, 0)) ∧ cur.length = n := by
    rcases hown.2 with ⟨q, _⟩ | ⟨g, c, cur, q, _, q3, q4, q5, q6, q7⟩
    · cases q
    · cases q
      exact ⟨cur.toList, by simpa using q3, by simpa using q6⟩
  have hG2 := hide hc
  have hgz := hide hgrow
  have hG3 : Hid (G ≤ G) := Nat.le_refl _
  clear hown hgrow hc
  have hbz : Hid (Below G w w2) := by
    rw [unhide hG']
    exact none_below (unhide hgz)
  obtain ⟨w3, hrun, hR, hB3⟩ : ∃ w3, (Builtin.copy_ #[22, 22] 3 #[.slice (some ⟨G, 0, none⟩) n n, .slice a n cap]).run Try.prog w2 = .ok (.int .i64 (n : Int)) w3 ∧ Hid (w3.heap[G]? = some (.cells ys.toArray 5 (0, 0))) ∧ Hid (Below G w w3) := by
    by_cases h0 : 0 < n
    · obtain ⟨ad, rfl, h2⟩ := unhide HA h0
      have hr := run_copy_row (P := Try.prog) w2 22 22 3 5 G 0 n n ad n cap cur.toArray 5 ys Try.underlying22 (by kernel_rfl) (unhide hG2).1 (by rw [unhide Hbl]; simp) (fun j u q => (World.cell?_of_block ((unhide hgz).block _ (Go.block_lt_of_cell (h2 j u q)) (by simp))).trans (h2 j u q)) (by have := unhide Hbl; have := (unhide hG2).2; simp; omega) (unhide hone)
      rw [unhide Hbl] at hr
      rw [show (cur.toArray.toList.take 0 ++ ys ++ cur.toArray.toList.drop (0 + n)) = ys by simp [← (unhide hG2).2]] at hr
      exact ⟨_, hr, setRow_heap w2 G _ ys.toArray 5 _ (unhide hG2).1, below_setRow (unhide hbz) (Nat.le_refl _) _⟩
    · have hn0 : n = 0 := by omega
      have hy : ys = [] := List.length_eq_zero_iff.1 (by rw [unhide Hbl]; exact hn0)
      have hcu : cur = [] := List.length_eq_zero_iff.1 (by rw [(unhide hG2).2]; exact hn0)
      have hr := run_copy_none (P := Try.prog) w2 22 22 3 5 (some ⟨G, 0, none⟩) a n n n cap Try.underlying22 (by kernel_rfl) (by rw [hn0]; rfl)
      refine ⟨w2, by rw [hr, hn0]; rfl, ?_, unhide hbz⟩
      show _ = _
      rw [hy, (unhide hG2).1, hcu]
  have HR := hide hR
  clear hR
  have hfin : Hid (∃ g cap, Ending.returned (.slice (some ⟨G, 0, none⟩) n n) = .returned (.slice (some ⟨g, 0, none⟩) n cap) ∧ w3.ownsRow w.heap.size 5 1 (.slice (some ⟨g, 0, none⟩) n cap) n ys ∧ w.grownBy w3 none) := by
    have hR2 := unhide (unhide HR)
    rw [← unhide hG']
    refine ⟨G, n, rfl, ⟨by rw [unhide Hbl]; simp, .inr ⟨G, n, ys.toArray, rfl, Nat.le_refl _, hR2, Nat.le_refl _, by unfold maxLen; omega, by simp [unhide Hbl], by simp [← unhide Hbl]⟩⟩, ?_⟩
    have hB4 := unhide hB3
    rw [unhide hG'] at hB4
    exact below_grown hB4
  clear HR hB3
  go_wp2
  go_ret
  exact unhide hfin

end Go.Proofs.Ytnolelhjhhiohaa
