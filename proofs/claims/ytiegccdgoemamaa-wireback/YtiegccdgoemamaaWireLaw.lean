/-
  The law package's own: within, few, known, inputs.
-/
import Derived.Test.YtiegccdgoemamaaWireTold
import Derived.Test.YtiegccdgoemamaaEntSmall
import Derived.Laws.BytesArg
import Derived.Laws.OwnMore
namespace Go.Proofs.Ytiegccdgoemamaa
open Go.RowKit

set_option maxHeartbeats 400000 in
theorem within15_any (a n : Int) (w : World) (hn : 0 < n) (hn2 : n ≤ 4611686018427387904) :
    Calls Try.prog 19 #[.int .i64 a, .int .i64 n] w fun e w' => e = .returned (.int .i64 (a % n)) ∧ w' = w := by
  have t1 := Int.tmod_lt_of_pos a (b := n) hn
  have t2 := Int.lt_tmod_of_pos a (b := n) hn
  have hn0 : (n == 0) = false := by simp; omega
  by_cases h : a.tmod n < 0
  · have ha : ¬ 0 ≤ a := by
      intro h0
      have := Int.tmod_nonneg n h0
      omega
    have hd := hide (Gr.within_neg a n hn h)
    go_enter Try.func19, Try.ntmps19
    go_wp2
    go_ret
    exact ⟨ret_int (unhide hd), rfl⟩
  · have hd := hide (Gr.within_pos a n hn h)
    by_cases ha : 0 ≤ a
    · have e : a.tmod n = a % n := Int.tmod_eq_emod_of_nonneg ha
      have h' : ¬ a % n < 0 := by rw [← e]; exact h
      clear h t1 t2 e
      go_enter Try.func19, Try.ntmps19
      go_wp2
      go_ret
      exact ⟨rfl, rfl⟩
    · go_enter Try.func19, Try.ntmps19
      go_wp2
      go_ret
      exact ⟨ret_int (unhide hd), rfl⟩

/-- How much a datagram's lists hold. -/
def Wr.seatsLen (g : Wr.G) : Nat → Nat
  | 0 => 0
  | i + 1 => Wr.seatsLen g i + (g.row (1 + i)).2.1

def Wr.bulk (g : Wr.G) : Nat := (g.row 0).2.1 + g.recs.2.1 + g.data.2.1

/-- No list is too long. -/
def Wr.Low (g : Wr.G) : Prop := (∀ i, i < 5 → (g.row i).2.1 ≤ 1048576) ∧ g.recs.2.1 ≤ 1048576 ∧ g.data.2.1 ≤ 1048576

theorem Wr.seatsLen_low {g : Wr.G} (h : Wr.Low g) : ∀ i, i ≤ 4 → Wr.seatsLen g i ≤ 1048576 * i
  | 0, _ => Nat.le_refl _
  | i + 1, hi => by
    have h1 := Wr.seatsLen_low h i (by omega)
    have h2 := h.1 (1 + i) (by omega)
    unfold Wr.seatsLen
    omega

set_option maxRecDepth 16000 in
set_option maxHeartbeats 3200000 in
theorem few15_any (g : Wr.G) (w : World) (h : Wr.Low g) :
    Calls Try.prog 10 #[.agg g.cells] w (Says w (.bool (decide (Wr.bulk g + Wr.seatsLen g 4 < 2000)))) := by
  obtain ⟨x, hx⟩ : ∃ x, x = w.alloc (.cells g.cells 29) := ⟨_, rfl⟩
  have hg : Hid (w.grownBy x none) := (show w.grownBy x none by rw [hx]; exact World.grownBy_alloc _ _ _)
  have hb : Wr.Bx x w.heap.size 29 30 g.box := by rw [hx]; exact Wr.msgBox w g
  obtain ⟨M, hM⟩ : ∃ M, w.heap.size = M := ⟨_, rfl⟩
  rw [hM] at hb
  have c12 : x.cell? ⟨M, 12, none⟩ = some (.slice (g.row 0).1 (g.row 0).2.1 (g.row 0).2.2) := hb.cell (i := 12) (by omega)
  have c17 : x.cell? ⟨M, 17, none⟩ = some (.slice g.recs.1 g.recs.2.1 g.recs.2.2) := hb.cell (i := 17) (by omega)
  have c29 : x.cell? ⟨M, 29, none⟩ = some (.slice g.data.1 g.data.2.1 g.data.2.2) := hb.cell (i := 29) (by omega)
  have HC : Hid (∀ i : Nat, i < 4 → x.cell? ⟨M, 22 + i, none⟩ = some (.slice (g.row (1 + i)).1 (g.row (1 + i)).2.1 (g.row (1 + i)).2.2)) := fun i hi => by
    rw [hb.cell (i := 22 + i) (by omega)]
    rcases (show i = 0 ∨ i = 1 ∨ i = 2 ∨ i = 3 by omega) with rfl | rfl | rfl | rfl <;> rfl
  have HL := hide h
  have l0 : ((g.row 0).2.1 : Int) ≤ 1048576 := by have := h.1 0 (by omega); omega
  have l1 : (g.recs.2.1 : Int) ≤ 1048576 := by have := h.2.1; omega
  have l2 : (g.data.2.1 : Int) ≤ 1048576 := by have := h.2.2; omega
  have HB : Hid (((g.row 0).2.1 : Int) + (g.recs.2.1 : Int) + (g.data.2.1 : Int) = ((Wr.bulk g : Nat) : Int)) := (show _ = _ by unfold Wr.bulk; omega)
  have hbl : Hid (Wr.bulk g ≤ 3145728) := (show _ ≤ _ by have h1 := h.1 0 (by omega); have h2 := h.2; unfold Wr.bulk; omega)
  clear h hb
  unfold Wr.G.cells at hx
  go_enter Try.func10, Try.ntmps10
  unfold Wr.G.cells
  go_upto_region 1 with fail
  rw [← hx]
  clear hx hM
  go_wp2_with fail
  go_loopw [3, 4] (fun v3 v4 wr => ∃ i : Nat, i ≤ 4 ∧ v4 = .int .i64 (i : Int) ∧ v3 = .int .i64 ((Wr.bulk g + Wr.seatsLen g i : Nat) : Int) ∧ wr = x) (fun _ v4 _ => 5 - (intOf v4).toNat)
  case atStart => exact ⟨0, by omega, rfl, by rw [unhide HB]; rfl, rfl⟩
  case round =>
    obtain ⟨i, hi, rfl, rfl, rfl⟩ := hrel
    by_cases hlt : i < 4
    · have hlt' : (i : Int) < 4 := by omega
      have hl0 : (0 : Int) ≤ (i : Int) := by omega
      have c := unhide HC i hlt
      have HI := hide hlt
      have hs := Wr.seatsLen_low (unhide HL) i (by omega)
      have hr := (unhide HL).1 (1 + i) (by omega)
      have hb := unhide hbl
      have h1 : ((Wr.bulk g + Wr.seatsLen g i : Nat) : Int) ≤ 10000000 := by omega
      have h2 : ((g.row (1 + i)).2.1 : Int) ≤ 1048576 := by omega
      have h3 : Hid (((Wr.bulk g + Wr.seatsLen g i : Nat) : Int) + ((g.row (1 + i)).2.1 : Int) = ((Wr.bulk g + Wr.seatsLen g (i + 1) : Nat) : Int)) := (show _ = _ by
        show _ = ((Wr.bulk g + (Wr.seatsLen g i + (g.row (1 + i)).2.1) : Nat) : Int)
        omega)
      clear hi hlt hs hr hb
      go_wp2
      go_roundw
      case rel => exact ⟨i + 1, by have := unhide HI; omega, by go_num, by have h := unhide h3; simp only [Value.int.injEq, true_and]; omega, by trivial⟩
      case measure => simp [intOf]; have := unhide HI; omega
    · obtain rfl : i = 4 := by omega
      have hge : ¬ ((4 : Nat) : Int) < 4 := by omega
      have hd : Hid (decide (((Wr.bulk g + Wr.seatsLen g 4 : Nat) : Int) < 2000) = decide (Wr.bulk g + Wr.seatsLen g 4 < 2000)) := (show _ = _ from decide_eq_decide.2 (by omega))
      clear hi hlt
      go_wp2
      go_ret
      exact ⟨ret_bool (unhide hd), unhide hg⟩

/-- Bytes as a text. -/
theorem Wr.text {w : World} {v : Value} {l : List Int} (h : w.ownsRow 0 5 1 v l.length (l.map (Value.int .u8))) (h0 : 0 < l.length) : (convert 27 9 v).run Try.prog w = .ok (.string (strOfNums l)) w := by
  rcases h.2 with ⟨_, h2⟩ | ⟨G, cap, cur, rfl, _, hg, h3, h4, h5, h6⟩
  · omega
  · refine run_convert_bytes_arg w 27 5 Try.underlying27 Try.underlying5 G 0 l.length cap l rfl (fun i hi => ?_) 9 Try.underlying9
    rw [Nat.zero_add, h.cellAt i (by omega), List.getElem?_map, List.getElem?_eq_getElem hi]
    simp [List.getD, List.getElem?_eq_getElem hi]

/-- The chapter's example. -/
def Wr.G.one' : Wr.G := ⟨fun k => if k = 0 then 1 else if k = 2 then 7 else 0, true, 0, fun _ => (none, 0, 0), (none, 0, 0), (none, 0, 0)⟩

set_option maxRecDepth 16000 in
set_option maxHeartbeats 3200000 in
theorem known15_any (w : World) : Calls Try.prog 9 #[] w fun e w' => e = .returned (.bool true) ∧ Turn (fun _ => False) w w' := by
  have ce := hide (wEncode_join Wr.G.one' w rfl (fun k => by unfold Wr.G.one'; dsimp only; split; omega; split <;> omega))
  have hR : (Wr.joinS Wr.encS ([Wr.G.one'.n 0 % 256], 0) Wr.G.one').1 = ([1, 0, 0, 0, 7, 1], 0) := by decide
  rw [hR] at ce
  clear hR
  unfold Wr.G.cells Wr.G.one' at ce
  dsimp only at ce
  go_enter Try.func9, Try.ntmps9
  go_wp2_with fail
  refine (unhide ce).mono ?_
  rintro e y ⟨ht, hR⟩
  rw [if_pos rfl] at hR
  obtain ⟨v, rfl, hown, -⟩ := hR
  have hcv := Wr.text (l := [1, 0, 0, 0, 7, 1]) hown (by decide)
  have HT := hide ht
  clear ht hown ce
  go_wp2_with fail
  go_ret
  exact ⟨ret_bool (by rw [ByteArray.toList_eq]; decide), unhide HT⟩

theorem Wr.info_int : (Try.prog.info? 3).map (fun i => (i.zero, i.size, i.bytes)) = some (some (.int .i64 0), 1, 8) := by kernel_rfl

/-- The cells of a row of numbers. -/
def Wr.nums (n : Nat) (z : Nat → Int) : List Value := (List.range n).map (fun i => .int .i64 (z i))

theorem Wr.nums_len (n : Nat) (z : Nat → Int) : (Wr.nums n z).length = n := by simp [Wr.nums]
theorem Wr.nums_more (n : Nat) (z : Nat → Int) : Wr.nums n z ++ [.int .i64 (z n)] = Wr.nums (n + 1) z := by
  unfold Wr.nums
  rw [List.range_succ, List.map_append]
  rfl
theorem Wr.nums_at {n i : Nat} {z : Nat → Int} (h : i < n) : (Wr.nums n z)[i]? = some (.int .i64 (z i)) := by
  unfold Wr.nums
  rw [List.getElem?_map, List.getElem?_range h]
  rfl

/-- A row of the call's own: of so many numbers. -/
def Wr.NewRow (w w' : World) (v : Value) (n : Nat) (z : Nat → Int) : Prop := w'.ownsRow w.heap.size 3 1 v n (Wr.nums n z) ∧ w.grownBy w' none

set_option maxRecDepth 8000 in
set_option maxHeartbeats 3200000 in
theorem inputs15_any (u : Option Addr × Nat × Nat) (z : Nat → Int) (w : World) (h : Wr.RowIn w u z) :
    Calls Try.prog 48 #[.slice u.1 u.2.1 u.2.2] w fun e w' => ∃ v, e = .returned v ∧ Wr.NewRow w w' v (min u.2.1 255) (fun i => z i % 11) := by
  obtain ⟨a, n, c⟩ := u
  have hn : n ≤ 1048576 := h.1
  have hn' : (n : Int) ≤ 1048576 := by omega
  have H := hide h
  obtain ⟨i0, hi, hz0, hz1, hz2⟩ := info_parts Wr.info_int
  clear h hn
  show Calls Try.prog 48 #[.slice a n c] w _
  go_enter Try.func48, Try.ntmps48
  go_wp2_with fail
  go_loopw [3, 4] (fun v3 v4 wr => ∃ i : Nat, i ≤ n ∧ i ≤ 255 ∧ v4 = .int .i64 (i : Int) ∧ Hid (wr.ownsRow w.heap.size 3 1 v3 i (Wr.nums i (fun i => z i % 11)) ∧ w.grownBy wr none)) (fun _ v4 _ => 300 - (intOf v4).toNat)
  case atStart => exact ⟨0, by omega, by omega, rfl, World.ownsRow_nil _ _ _ _, World.grownBy.refl _ _⟩
  case round =>
    obtain ⟨i, hi1, hi2, rfl, hrel⟩ := hrel
    by_cases hlt : i < n ∧ i < 255
    · obtain ⟨hl1, hl2⟩ := hlt
      obtain ⟨b, o, ha, hb, hc, -⟩ := (unhide H).2 i hl1
      have ha' : a = some ⟨b, o, none⟩ := ha
      subst ha'
      have hc' : wr.cell? ⟨b, o + i, none⟩ = some (.int .i64 (z i)) := (grown_cell (unhide hrel).2 b _ hb (by simp)).trans hc
      have hl1' : (i : Int) < (n : Int) := by omega
      have hl2' : (i : Int) < 255 := by omega
      have HI := hide (And.intro hl1 hl2)
      have hi256 : i ≤ 1000 := by omega
      have cw := hide (within15_any (z i) 11 wr (by decide) (by decide))
      obtain ⟨q, hq⟩ : ∃ q, z i % 11 = q := ⟨_, rfl⟩
      rw [hq] at cw
      have HQ := hide hq
      have ho := hide fun (o : Obj) => (unhide hrel).1.alloc o
      have hnew := hide (show (wr.alloc (.cells #[.int .i64 q] 3)).cell? ⟨wr.heap.size, 0, none⟩ = some (.int .i64 q) from cell_boxed wr _ _ _ rfl)
      have hsz := hide (show w.heap.size ≤ (wr.alloc (.cells #[.int .i64 q] 3)).heap.size from by have := (unhide hrel).2.size; simp; omega)
      clear ha hb hc hi1 hi2 hl1 hl2 hq
      go_wp2_with fail
      refine (unhide cw).mono ?_
      rintro e y ⟨rfl, rfl⟩
      clear cw
      go_wp2_with (at_builtin; refine wpList_append_own _ rfl _ _ 24 rfl w.heap.size 3 i0 (.int .i64 0) 1 8 Try.underlying24 hi hz0 hz1 hz2 rfl (by decide) _ i _ rfl (unhide ho _) ⟨_, 0, none⟩ 1 1 [.int .i64 q] rfl rfl (fun j u hj => ?q1) (by simp [Value.oneCell']) ?q2 ?q3 (unhide hsz) ?_)
      case q1 =>
        obtain rfl : j = 0 := by
          have := (List.getElem?_eq_some_iff.1 hj).1
          simp at this
          omega
        simp at hj
        subst hj
        rw [Go.WideShapes.add_plain]
        exact unhide hnew
      case q2 => unfold maxLen; omega
      case q3 => omega
      intro v' w' hown hg hnil
      rw [← unhide HQ, Wr.nums_more] at hown
      have HO := hide hown
      have HG := hide (show w.grownBy w' none from grown_own (grown_alloc (unhide hrel).2 _) hg (fun m hm => ((unhide hrel).1.lt m hm).1))
      clear hown hg hnil ho hnew hsz hrel hc'
      go_wp2
      go_roundw
      case rel => exact ⟨i + 1, by have := unhide HI; omega, by have := unhide HI; omega, by go_num, unhide HO, unhide HG⟩
      case measure => simp [intOf]; have := unhide HI; omega
    · have HM := hide (show i = min n 255 by omega)
      by_cases hl : i < n
      · have hl' : (i : Int) < (n : Int) := by omega
        have h2 : ¬ (i : Int) < 255 := by omega
        clear hlt hl hi1 hi2
        go_wp2
        go_ret
        exact ⟨_, rfl, by have := unhide hrel; rw [unhide HM] at this; exact this⟩
      · have hl' : ¬ (i : Int) < (n : Int) := by omega
        clear hlt hl hi1 hi2
        go_wp2
        go_ret
        exact ⟨_, rfl, by have := unhide hrel; rw [unhide HM] at this; exact this⟩

end Go.Proofs.Ytiegccdgoemamaa
