/-
  What good answers may be written: its numbers, its lists in memory.
-/
import Derived.Test.YtiegccdgoemamaaWireLen
namespace Go.Proofs.Ytiegccdgoemamaa
open Go.RowKit

/-- A datagram that is handed in: its numbers and its lists. -/
structure Wr.Inp (w : World) (g : Wr.G) (z zr : Nat → Nat → Int) (zd : Nat → Int) : Prop where
  low : Wr.Low g
  bits : 0 ≤ g.bits ∧ g.bits ≤ 4294967295
  rows : ∀ j, j < 5 → Wr.RowIn w (g.row j) (z j)
  recs : Wr.RecsIn w g.recs zr
  data : Wr.BytesIn w g.data zd
  room : g.data.2.1 ≤ g.data.2.2

theorem Wr.Inp.on {w w' : World} {g : Wr.G} {z zr : Nat → Nat → Int} {zd : Nat → Int} (h : Wr.Inp w g z zr zd) (hg : w.grownBy w' none) : Wr.Inp w' g z zr zd := by
  refine ⟨h.low, h.bits, fun j hj => ?_, ?_, ?_, h.room⟩
  · obtain ⟨h1, h2⟩ := h.rows j hj
    refine ⟨h1, fun i hi => ?_⟩
    obtain ⟨b, o, q1, q2, q3, q4⟩ := h2 i hi
    exact ⟨b, o, q1, Nat.lt_of_lt_of_le q2 hg.size, (grown_cell hg b _ q2 (by simp)).trans q3, q4⟩
  · obtain ⟨h1, h2, h3, h4⟩ := h.recs
    refine ⟨h1, h2, fun i hi => ?_, h4⟩
    obtain ⟨b, o, q1, q2, q3⟩ := h3 i hi
    exact ⟨b, o, q1, Nat.lt_of_lt_of_le q2 hg.size, fun j hj => (grown_cell hg b _ q2 (by simp)).trans (q3 j hj)⟩
  · obtain ⟨h1, h2⟩ := h.data
    refine ⟨h1, fun i hi => ?_⟩
    obtain ⟨b, o, q1, q2, q3, q4⟩ := h2 i hi
    exact ⟨b, o, q1, Nat.lt_of_lt_of_le q2 hg.size, (grown_cell hg b _ q2 (by simp)).trans q3, q4⟩

/-- A datagram such as may be. -/
structure Wr.Fit (G : Wr.G) : Prop where
  k0 : 1 ≤ G.n 0 ∧ G.n 0 ≤ 4
  num : ∀ k, k = 1 ∨ k = 2 ∨ k = 5 ∨ (6 ≤ k ∧ k < 12) ∨ k = 15 ∨ k = 16 ∨ (18 ≤ k ∧ k < 22) ∨ k = 26 → Wr.Num (G.n k)
  k13 : 1 ≤ G.n 13 ∧ G.n 13 ≤ 7
  k14 : -1 ≤ G.n 14 ∧ G.n 14 ≤ 3
  k28 : 1 ≤ G.n 28 ∧ G.n 28 ≤ 16
  k27 : 0 ≤ G.n 27 ∧ G.n 27 < G.n 28
  bits : 0 ≤ G.bits ∧ G.bits ≤ 4294967295
  rows : ∀ j, j < 5 → (G.row j).2.1 ≤ 255
  recs : G.recs.2.1 ≤ 400
  data : G.data.2.1 ≤ 64

theorem Wr.cut64_le (u : Option Addr × Nat × Nat) : (Wr.cut64 u).2.1 ≤ 64 := by
  unfold Wr.cut64
  split
  · exact Nat.le_refl _
  · omega

theorem Wr.gb_n (g : Wr.G) : (Wr.gb g).n 0 = 1 + g.n 0 % 4 ∧ (Wr.gb g).n 1 = g.n 1 % 1073741824 ∧ (Wr.gb g).n 2 = g.n 2 % 1073741824 ∧ (Wr.gb g).n 5 = g.n 5 % 1073741824 ∧ (Wr.gb g).n 10 = g.n 10 % 1073741824 ∧ (Wr.gb g).n 11 = g.n 11 % 1073741824 ∧ (Wr.gb g).n 15 = g.n 15 % 1073741824 ∧ (Wr.gb g).n 16 = g.n 16 % 1073741824 ∧ (Wr.gb g).n 26 = g.n 26 % 1073741824 ∧ (Wr.gb g).n 13 = 1 + g.n 13 % 7 ∧ (Wr.gb g).n 14 = g.n 14 % 5 - 1 ∧ (Wr.gb g).n 28 = 1 + g.n 28 % 16 ∧ (Wr.gb g).n 27 = g.n 27 % (1 + g.n 28 % 16) :=
  ⟨rfl, rfl, rfl, rfl, rfl, rfl, rfl, rfl, rfl, rfl, rfl, rfl, rfl⟩

theorem Wr.gb_other (g : Wr.G) (k : Nat) (h : k ≠ 0 ∧ k ≠ 1 ∧ k ≠ 2 ∧ k ≠ 5 ∧ k ≠ 10 ∧ k ≠ 11 ∧ k ≠ 15 ∧ k ≠ 16 ∧ k ≠ 26 ∧ k ≠ 13 ∧ k ≠ 14 ∧ k ≠ 28 ∧ k ≠ 27) : (Wr.gb g).n k = g.n k := by
  unfold Wr.gb Wr.G.num Wr.upd
  dsimp only
  repeat rw [if_neg (by omega)]

theorem Wr.Goods.fit {w w' : World} {lo : Nat} {g g' : Wr.G} {z zr : Nat → Nat → Int} (h : Wr.Goods w w' lo (Wr.gb g) g g' z zr) (hb : 0 ≤ g.bits ∧ g.bits ≤ 4294967295) : Wr.Fit g' := by
  obtain ⟨e0, e1, e2, e5, e10, e11, e15, e16, e26, e13, e14, e28, e27⟩ := Wr.gb_n g
  have hm : ∀ n : Int, Wr.Num (n % 1073741824) := fun n => ⟨by omega, by omega⟩
  have m27 := Int.emod_nonneg (g.n 27) (b := 1 + g.n 28 % 16) (by omega)
  have l27 := Int.emod_lt_of_pos (g.n 27) (b := 1 + g.n 28 % 16) (by omega)
  refine ⟨?_, fun k hk => ?_, ?_, ?_, ?_, ?_, by rw [h.bits]; exact hb, fun j hj => ?_, by rw [h.recs.1]; omega, by rw [h.data]; exact Wr.cut64_le _⟩
  · rw [h.n 0, if_neg (by omega), e0]; omega
  · rw [h.n k]
    by_cases c : (6 ≤ k ∧ k < 10) ∨ (18 ≤ k ∧ k < 22)
    · rw [if_pos c]; exact hm _
    · rw [if_neg c]
      rcases (show k = 1 ∨ k = 2 ∨ k = 5 ∨ k = 10 ∨ k = 11 ∨ k = 15 ∨ k = 16 ∨ k = 26 by omega) with rfl | rfl | rfl | rfl | rfl | rfl | rfl | rfl
      · rw [e1]; exact hm _
      · rw [e2]; exact hm _
      · rw [e5]; exact hm _
      · rw [e10]; exact hm _
      · rw [e11]; exact hm _
      · rw [e15]; exact hm _
      · rw [e16]; exact hm _
      · rw [e26]; exact hm _
  · rw [h.n 13, if_neg (by omega), e13]; omega
  · rw [h.n 14, if_neg (by omega), e14]; omega
  · rw [h.n 28, if_neg (by omega), e28]; omega
  · rw [h.n 27, if_neg (by omega), e27, h.n 28, if_neg (by omega), e28]; omega
  · rw [(h.rows j hj).1]; omega

theorem Wr.Goods.num {w w' : World} {lo : Nat} {g g' : Wr.G} {z zr : Nat → Nat → Int} (h : Wr.Goods w w' lo (Wr.gb g) g g' z zr) (hr : ∀ k, -9223372036854775808 ≤ g.n k ∧ g.n k ≤ 9223372036854775807) : ∀ k, -9223372036854775808 ≤ g'.n k ∧ g'.n k ≤ 9223372036854775807 := fun k => by
  obtain ⟨e0, e1, e2, e5, e10, e11, e15, e16, e26, e13, e14, e28, e27⟩ := Wr.gb_n g
  rw [h.n k]
  by_cases c : (6 ≤ k ∧ k < 10) ∨ (18 ≤ k ∧ k < 22)
  · rw [if_pos c]; omega
  · rw [if_neg c]
    by_cases o : k ≠ 0 ∧ k ≠ 1 ∧ k ≠ 2 ∧ k ≠ 5 ∧ k ≠ 10 ∧ k ≠ 11 ∧ k ≠ 15 ∧ k ≠ 16 ∧ k ≠ 26 ∧ k ≠ 13 ∧ k ≠ 14 ∧ k ≠ 28 ∧ k ≠ 27
    · rw [Wr.gb_other g k o]; exact hr k
    · have m27 := Int.emod_nonneg (g.n 27) (b := 1 + g.n 28 % 16) (by omega)
      have l27 := Int.emod_lt_of_pos (g.n 27) (b := 1 + g.n 28 % 16) (by omega)
      rcases (show k = 0 ∨ k = 1 ∨ k = 2 ∨ k = 5 ∨ k = 10 ∨ k = 11 ∨ k = 15 ∨ k = 16 ∨ k = 26 ∨ k = 13 ∨ k = 14 ∨ k = 28 ∨ k = 27 by omega) with rfl | rfl | rfl | rfl | rfl | rfl | rfl | rfl | rfl | rfl | rfl | rfl | rfl
      all_goals omega

theorem Wr.Out1.rowIn {x : World} {lo : Nat} {u : Option Addr × Nat × Nat} {n : Nat} {z : Nat → Int} (h : Wr.Out1 x lo u n z) (hn : n ≤ 255) (hz : ∀ i, i < n → 0 ≤ z i ∧ z i ≤ 10) : Wr.RowIn x u z := by
  refine ⟨by rw [h.1]; omega, fun i hi => ?_⟩
  rw [h.1] at hi
  rcases h.2.2 with ⟨e, h0⟩ | ⟨gg, cap, cur, e, h1, h2, h3⟩
  · omega
  · simp only [Value.slice.injEq] at e
    obtain ⟨e1, e2, e3⟩ := e
    have ho := h.2
    rw [e1, e2, e3] at ho
    refine ⟨gg, 0, e1, (Array.getElem?_eq_some_iff.1 h2).1, ?_, by have := hz i hi; omega, by have := hz i hi; omega⟩
    rw [Nat.zero_add, ho.cellAt i (by omega), Wr.nums_at hi]

theorem Wr.Goods.recsIn {w w' : World} {lo : Nat} {g g' : Wr.G} {z zr : Nat → Nat → Int} (h : Wr.Goods w w' lo (Wr.gb g) g g' z zr) : Wr.RecsIn w' g'.recs (fun i => Wr.okRec (zr i)) := by
  have hb : ∀ i j, -9223372036854775808 ≤ Wr.okRec (zr i) j ∧ Wr.okRec (zr i) j ≤ 9223372036854775807 := fun i j => by
    unfold Wr.okRec
    split
    · omega
    · split
      · omega
      · split <;> omega
  obtain ⟨h1, h2⟩ := h.recs
  rcases h2.2 with ⟨e, h0⟩ | ⟨gg, cap, cur, e, h3, h4, h5⟩
  · refine ⟨by rw [h1]; omega, fun _ => by rw [h1]; omega, fun i hi => by rw [h1] at hi; omega, fun i j _ => hb i j⟩
  · simp only [Value.slice.injEq] at e
    obtain ⟨e1, e2, e3⟩ := e
    refine ⟨by rw [h1]; omega, fun q => (by rw [e1] at q; cases q), fun i hi => ⟨gg, 0, e1, (Array.getElem?_eq_some_iff.1 h4).1, fun j hj => ?_⟩, fun i j _ => hb i j⟩
    have ho := h2
    rw [e1, e2, e3] at ho
    rw [h1] at hi
    rw [Nat.zero_add, ho.cellAt (i * 5 + j) (by omega), Wr.recList_at (by omega), show (i * 5 + j) / 5 = i by omega, show (i * 5 + j) % 5 = j by omega]

theorem Wr.BytesIn.cut {w : World} {u : Option Addr × Nat × Nat} {z : Nat → Int} (h : Wr.BytesIn w u z) : Wr.BytesIn w (Wr.cut64 u) z := by
  unfold Wr.cut64
  split
  · exact ⟨by show 64 ≤ 1048576; omega, fun i hi => h.2 i (by have h1 : i < 64 := hi; omega)⟩
  · exact h

theorem Wr.okRec_fits (r : Nat → Int) (s : List Int × Int) : Wr.Pre s (Wr.recS Wr.encS s (Wr.okRec r)).1 (Wr.recLen (Wr.okRec r 0)) := by
  refine Wr.recS_fits s _ ?_ ?_ ?_ ?_ ?_
  · show 1 ≤ 1 + r 0 % 3 ∧ _; exact ⟨by omega, by show 1 + r 0 % 3 ≤ 3; omega⟩
  · show 0 ≤ r 1 % 11 ∧ r 1 % 11 ≤ 10; omega
  · show 0 ≤ r 2 % 4 ∧ r 2 % 4 ≤ 3; omega
  · show 0 ≤ r 3 % 1073741824 ∧ r 3 % 1073741824 ≤ 1073741823; omega
  · show 0 ≤ r 4 % 1073741824 ∧ r 4 % 1073741824 ≤ 1073741823; omega

/-- A datagram's box, read and laid over. -/
theorem Wr.Bx.rangeG {x : World} {M : Nat} {ty : TypeId} {g : Wr.G} (h : Wr.Bx x M ty 30 g.box) : x.rangeAt M 0 g.cells.toList := fun j u hj => by
  have hj30 : j < 30 := (List.getElem?_eq_some_iff.1 hj).1
  have h1 := Wr.G.at g j hj30
  rw [Array.getElem?_toList, h1] at hj
  rw [Nat.zero_add, h.cell hj30]
  exact hj

theorem Wr.Bx.thereG {x : World} {M : Nat} {ty : TypeId} {F : Nat → Value} (h : Wr.Bx x M ty 30 F) (g : Wr.G) : x.there M 0 g.cells.size := fun j hj => by
  have hj30 : j < 30 := hj
  rw [Nat.zero_add]
  exact ⟨by rw [h.cell hj30]; rfl, h.free j⟩

theorem Wr.Bx.over {x : World} {M : Nat} {F : Nat → Value} (h : Wr.Bx x M 29 30 F) (g : Wr.G) : Wr.Bx (x.setCells M 0 g.cells.toList) M 29 30 g.box := by
  have h1 : Arr x M 29 30 F := h
  have h2 := h1.stores g.cells.toList 0
  have h3 : Wr.Bx (x.setCells M 0 g.cells.toList) M 29 30 _ := h2
  refine h3.congr fun i hi => ?_
  have e := Wr.G.at g i hi
  have hl : g.cells.toList.length = 30 := rfl
  rw [if_pos ⟨Nat.zero_le _, by rw [hl]; omega⟩, Nat.sub_zero, Array.getElem?_toList, e]
  rfl

end Go.Proofs.Ytiegccdgoemamaa
