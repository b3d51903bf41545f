/-
  A datagram that comes in as an argument: its thirty cells, and what its lists hold.
-/
import Derived.Test.YtiegccdgoemamaaTripArgs
import Derived.OpenShut
namespace Go.Proofs.Ytiegccdgoemamaa
open Go.RowKit Go.ChangeShapes Go.WideShapes

/-- Numbers that came in. -/
def Wr.Ints (w : World) (a : Option Addr) (n : Nat) (z : Nat → Int) : Prop :=
  n ≤ maxLen ∧ ∀ i, i < n → ∃ b o, a = some ⟨b, o, none⟩ ∧ b < w.heap.size ∧ w.cell? ⟨b, o + i, none⟩ = some (.int .i64 (z i)) ∧ -9223372036854775808 ≤ z i ∧ z i ≤ 9223372036854775807

theorem Wr.Ints.on {w w' : World} {a : Option Addr} {n : Nat} {z : Nat → Int} (h : Wr.Ints w a n z) (hg : w.grownBy w' none) : Wr.Ints w' a n z :=
  ⟨h.1, fun i hi => by
    obtain ⟨b, o, ha, hb, hc, hz⟩ := h.2 i hi
    exact ⟨b, o, ha, Nat.lt_of_lt_of_le hb hg.size, (grown_cell hg b _ hb (by simp)).trans hc, hz⟩⟩

/-- Records that came in. -/
def Wr.Recs (w : World) (a : Option Addr) (n : Nat) (z : Nat → Nat → Int) : Prop :=
  n ≤ maxLen ∧ ∀ i, i < n → ∃ b o, a = some ⟨b, o, none⟩ ∧ b < w.heap.size ∧ ∀ j, j < 5 → w.cell? ⟨b, o + i * 5 + j, none⟩ = some (.int .i64 (z i j)) ∧ -9223372036854775808 ≤ z i j ∧ z i j ≤ 9223372036854775807

theorem Wr.Recs.on {w w' : World} {a : Option Addr} {n : Nat} {z : Nat → Nat → Int} (h : Wr.Recs w a n z) (hg : w.grownBy w' none) : Wr.Recs w' a n z :=
  ⟨h.1, fun i hi => by
    obtain ⟨b, o, ha, hb, hc⟩ := h.2 i hi
    exact ⟨b, o, ha, Nat.lt_of_lt_of_le hb hg.size, fun j hj => ⟨(grown_cell hg b _ hb (by simp)).trans (hc j hj).1, (hc j hj).2⟩⟩⟩

theorem Wr.bounds {n : Int} (h : (Lit.int .i64 n).wf = true) : -9223372036854775808 ≤ n ∧ n ≤ 9223372036854775807 := by
  simp only [Lit.wf, Bool.and_eq_true, decide_eq_true_eq, show IntKind.i64.min = -9223372036854775808 from by decide, show IntKind.i64.max = 9223372036854775807 from by decide] at h
  exact h

theorem Wr.one {cs : List Value} {k : Nat} {v : Value} (hk : k < cs.length) (h : [cs.getD k undef] = [v]) : cs[k]? = some v := by
  rw [List.getElem?_eq_getElem hk]
  simp only [List.getD_eq_getElem?_getD, List.getElem?_eq_getElem hk, Option.getD_some, List.cons.injEq, and_true] at h
  rw [h]

theorem Wr.int_at {H : Type} {enc : TypeId × Value → H} {w : World} {base : Nat} {sp : Nat → Bool} {held : Bool} {fuel : Nat} {cs : List Value} {k : Nat} {x : DataW H × List MemPlace} (hk : k < cs.length) (h : DataW.trod enc Try.prog w base sp held fuel 3 ((cs.drop k).take 1) = some x) : ∃ z : Int, cs[k]? = some (.int .i64 z) ∧ -9223372036854775808 ≤ z ∧ z ≤ 9223372036854775807 := by
  rw [Go.Deep.take1_drop cs k undef hk] at h
  obtain ⟨z, hz, _, hw⟩ := DataW.trod_int Try.underlying3 h
  exact ⟨z, Wr.one hk hz, Wr.bounds hw⟩

theorem Wr.u32_at {H : Type} {enc : TypeId × Value → H} {w : World} {base : Nat} {sp : Nat → Bool} {held : Bool} {fuel : Nat} {cs : List Value} {k : Nat} {x : DataW H × List MemPlace} (hk : k < cs.length) (h : DataW.trod enc Try.prog w base sp held fuel 22 ((cs.drop k).take 1) = some x) : ∃ z : Int, cs[k]? = some (.int .u32 z) ∧ 0 ≤ z ∧ z ≤ 4294967295 := by
  rw [Go.Deep.take1_drop cs k undef hk] at h
  obtain ⟨z, hz, _, hw⟩ := DataW.trod_int Try.underlying22 h
  simp only [Lit.wf, Bool.and_eq_true, decide_eq_true_eq, show IntKind.u32.min = 0 from by decide, show IntKind.u32.max = 4294967295 from by decide] at hw
  exact ⟨z, Wr.one hk hz, hw⟩

theorem Wr.bool_at {H : Type} {enc : TypeId × Value → H} {w : World} {base : Nat} {sp : Nat → Bool} {held : Bool} {fuel : Nat} {cs : List Value} {k : Nat} {x : DataW H × List MemPlace} (hk : k < cs.length) (h : DataW.trod enc Try.prog w base sp held fuel 4 ((cs.drop k).take 1) = some x) : ∃ z : Bool, cs[k]? = some (.bool z) := by
  rw [Go.Deep.take1_drop cs k undef hk] at h
  obtain ⟨z, hz, _⟩ := DataW.trod_bool Try.underlying4 h
  exact ⟨z, Wr.one hk hz⟩

set_option maxRecDepth 8000 in
theorem Wr.open_row {H : Type} {enc : TypeId × Value → H} {w : World} {base : Nat} {sp : Nat → Bool} {held : Bool} {fuel : Nat} {a : Option Addr} {len cap : Nat} {x : DataW H × List MemPlace} (h : DataW.trod enc Try.prog w base sp held fuel 24 [.slice a len cap] = some x) : ∃ z, Wr.Ints w a len z := by
  rcases Go.Deep.open_slice Try.underlying24 h with ⟨hcs, _⟩ | ⟨a', len', cap', m, n, D, Pl, hcs, _, hl, hm, hmm, _, hx⟩
  · simp only [List.cons.injEq, Value.slice.injEq, and_true] at hcs
    obtain ⟨rfl, rfl, rfl⟩ := hcs
    exact ⟨fun _ => 0, Nat.zero_le _, fun i hi => absurd hi (Nat.not_lt_zero i)⟩
  · simp only [List.cons.injEq, Value.slice.injEq, and_true] at hcs
    obtain ⟨rfl, rfl, rfl⟩ := hcs
    have hc1 : Try.prog.cellsOf 3 = 1 := by kernel_rfl
    rw [hc1] at hx
    have hlm : len ≤ m := by rw [hmm]; split <;> omega
    obtain ⟨z, hz⟩ : ∃ z : Nat → Int, ∀ i, i < len → w.cell? (a'.add (i * 1)) = some (.int .i64 (z i)) ∧ (Lit.int .i64 (z i)).wf = true := by
      refine Go.Deep.choose_lt (α := Int) (p := fun i e => w.cell? (a'.add (i * 1)) = some (.int .i64 e) ∧ (Lit.int .i64 e).wf = true) fun i hi => ?_
      obtain ⟨cs', h1, h2⟩ := hx i (by omega)
      obtain ⟨_, hlen, hcell⟩ := World.cells?_some h1
      obtain ⟨e, rfl, _, hw⟩ := DataW.trod_int Try.underlying3 h2
      have h0 := hcell 0 (by omega)
      exact ⟨e, by simpa [Addr.add] using h0, hw⟩
    refine ⟨z, Nat.le_trans hl hm, fun i hi => ?_⟩
    obtain ⟨b, off, spot⟩ := a'
    have hc0 := (hz i hi).1
    have hspot : spot = none := by simpa [Addr.add] using World.cell?_spot (hz 0 (by omega)).1
    subst hspot
    rw [add_plain, Nat.mul_one] at hc0
    exact ⟨b, off, rfl, Go.block_lt_of_cell hc0, hc0, Wr.bounds (hz i hi).2⟩

set_option maxRecDepth 8000 in
theorem Wr.row_at {H : Type} {enc : TypeId × Value → H} {w : World} {base : Nat} {sp : Nat → Bool} {held : Bool} {fuel : Nat} {cs : List Value} {k : Nat} {x : DataW H × List MemPlace} (hk : k < cs.length) (h : DataW.trod enc Try.prog w base sp held fuel 24 ((cs.drop k).take 1) = some x) : ∃ (s : Option Addr × Nat × Nat) (z : Nat → Int), cs[k]? = some (.slice s.1 s.2.1 s.2.2) ∧ Wr.Ints w s.1 s.2.1 z := by
  rw [Go.Deep.take1_drop cs k undef hk] at h
  obtain ⟨r, l, q, hb⟩ : ∃ r l q, [cs.getD k undef] = [Value.slice r l q] := by
    rcases Go.Deep.open_slice Try.underlying24 h with ⟨hcs, _⟩ | ⟨a2, len2, cap2, _, _, _, _, hcs, _⟩
    · exact ⟨none, 0, 0, hcs⟩
    · exact ⟨some a2, len2, cap2, hcs⟩
  rw [hb] at h
  obtain ⟨z, hz⟩ := Wr.open_row h
  exact ⟨(r, l, q), z, Wr.one hk hb, hz⟩

theorem Wr.byts_at {H : Type} {enc : TypeId × Value → H} {w : World} {base : Nat} {sp : Nat → Bool} {held : Bool} {fuel : Nat} {cs : List Value} {k : Nat} {x : DataW H × List MemPlace} (hk : k < cs.length) (h : DataW.trod enc Try.prog w base sp held fuel 27 ((cs.drop k).take 1) = some x) : ∃ (s : Option Addr × Nat × Nat) (l : List Int), cs[k]? = some (.slice s.1 s.2.1 s.2.2) ∧ Byt w s.1 s.2.1 s.2.2 l := by
  rw [Go.Deep.take1_drop cs k undef hk] at h
  obtain ⟨r, l, q, hb⟩ : ∃ r l q, [cs.getD k undef] = [Value.slice r l q] := by
    rcases Go.Deep.open_slice Try.underlying27 h with ⟨hcs, _⟩ | ⟨a2, len2, cap2, _, _, _, _, hcs, _⟩
    · exact ⟨none, 0, 0, hcs⟩
    · exact ⟨some a2, len2, cap2, hcs⟩
  rw [hb] at h
  obtain ⟨z, hz⟩ := open_byts h
  exact ⟨(r, l, q), z, Wr.one hk hb, hz⟩

set_option maxRecDepth 8000 in
theorem Wr.open_recs {H : Type} {enc : TypeId × Value → H} {w : World} {base : Nat} {sp : Nat → Bool} {held : Bool} {fuel : Nat} {a : Option Addr} {len cap : Nat} {x : DataW H × List MemPlace} (h : DataW.trod enc Try.prog w base sp held fuel 25 [.slice a len cap] = some x) : ∃ z, Wr.Recs w a len z := by
  rcases Go.Deep.open_slice Try.underlying25 h with ⟨hcs, _⟩ | ⟨a', len', cap', m, n, D, Pl, hcs, _, hl, hm, hmm, _, hx⟩
  · simp only [List.cons.injEq, Value.slice.injEq, and_true] at hcs
    obtain ⟨rfl, rfl, rfl⟩ := hcs
    exact ⟨fun _ _ => 0, Nat.zero_le _, fun i hi => absurd hi (Nat.not_lt_zero i)⟩
  · simp only [List.cons.injEq, Value.slice.injEq, and_true] at hcs
    obtain ⟨rfl, rfl, rfl⟩ := hcs
    have hc5 : Try.prog.cellsOf 50 = 5 := by kernel_rfl
    have hci : Try.prog.cellsOf 3 = 1 := by kernel_rfl
    rw [hc5] at hx
    have hlm : len ≤ m := by rw [hmm]; split <;> omega
    obtain ⟨z, hz⟩ : ∃ z : Nat → Nat → Int, ∀ i, i < len → ∀ j, j < 5 → w.cell? ((a'.add (i * 5)).add j) = some (.int .i64 (z i j)) ∧ -9223372036854775808 ≤ z i j ∧ z i j ≤ 9223372036854775807 := by
      refine Go.Deep.choose_lt (α := Nat → Int) (p := fun i e => ∀ j, j < 5 → w.cell? ((a'.add (i * 5)).add j) = some (.int .i64 (e j)) ∧ -9223372036854775808 ≤ e j ∧ e j ≤ 9223372036854775807) fun i hi => ?_
      obtain ⟨cs', h1, h2⟩ := hx i (by omega)
      obtain ⟨_, hlen, hcell⟩ := World.cells?_some h1
      obtain ⟨xs, n', _, _, _, hxl, hf⟩ := DataW.trod_struct Try.underlying50 h2
      have hx5 : xs.length = 5 := hxl
      refine Go.Deep.choose_lt (α := Int) (p := fun j e => w.cell? ((a'.add (i * 5)).add j) = some (.int .i64 e) ∧ -9223372036854775808 ≤ e ∧ e ≤ 9223372036854775807) fun j hj => ?_
      have f : DataW.trod enc Try.prog w base sp held n' 3 ((cs'.drop j).take 1) = xs[j]? := by
        rcases (show j = 0 ∨ j = 1 ∨ j = 2 ∨ j = 3 ∨ j = 4 by omega) with rfl | rfl | rfl | rfl | rfl
        · rw [← hci]; exact hf 0 _ rfl
        · rw [← hci]; exact hf 1 _ rfl
        · rw [← hci]; exact hf 2 _ rfl
        · rw [← hci]; exact hf 3 _ rfl
        · rw [← hci]; exact hf 4 _ rfl
      rw [List.getElem?_eq_getElem (by omega)] at f
      obtain ⟨e, he, hb⟩ := Wr.int_at (show j < cs'.length by omega) f
      exact ⟨e, (hcell j hj).trans he, hb⟩
    refine ⟨z, Nat.le_trans hl hm, fun i hi => ?_⟩
    obtain ⟨b, off, spot⟩ := a'
    have hspot : spot = none := by simpa [Addr.add] using World.cell?_spot (hz 0 (by omega) 0 (by omega)).1
    subst hspot
    have hadd : ∀ i j, ((⟨b, off, none⟩ : Addr).add (i * 5)).add j = ⟨b, off + i * 5 + j, none⟩ := fun i j => by rw [add_plain, add_plain]
    have h0 := (hz i hi 0 (by omega)).1
    rw [hadd] at h0
    exact ⟨b, off, rfl, Go.block_lt_of_cell h0, fun j hj => by rw [← hadd]; exact hz i hi j hj⟩

set_option maxRecDepth 8000 in
theorem Wr.recs_at {H : Type} {enc : TypeId × Value → H} {w : World} {base : Nat} {sp : Nat → Bool} {held : Bool} {fuel : Nat} {cs : List Value} {k : Nat} {x : DataW H × List MemPlace} (hk : k < cs.length) (h : DataW.trod enc Try.prog w base sp held fuel 25 ((cs.drop k).take 1) = some x) : ∃ (s : Option Addr × Nat × Nat) (z : Nat → Nat → Int), cs[k]? = some (.slice s.1 s.2.1 s.2.2) ∧ Wr.Recs w s.1 s.2.1 z := by
  rw [Go.Deep.take1_drop cs k undef hk] at h
  obtain ⟨r, l, q, hb⟩ : ∃ r l q, [cs.getD k undef] = [Value.slice r l q] := by
    rcases Go.Deep.open_slice Try.underlying25 h with ⟨hcs, _⟩ | ⟨a2, len2, cap2, _, _, _, _, hcs, _⟩
    · exact ⟨none, 0, 0, hcs⟩
    · exact ⟨some a2, len2, cap2, hcs⟩
  rw [hb] at h
  obtain ⟨z, hz⟩ := Wr.open_recs h
  exact ⟨(r, l, q), z, Wr.one hk hb, hz⟩

/-- A datagram as numbers, rows, records, bytes: n: its numbers, by the cell; row: its five rows of inputs (Inputs, Seats). -/
structure Wr.M where
  n : Nat → Int
  watch : Bool
  bits : Int
  row : Nat → Option Addr × Nat × Nat
  rz : Nat → Nat → Int
  recs : Option Addr × Nat × Nat
  cz : Nat → Nat → Int
  data : Option Addr × Nat × Nat
  dl : List Int

/-- Its cells. -/
def Wr.cells (m : Wr.M) : Array Value := #[.int .i64 (m.n 0), .int .i64 (m.n 1), .int .i64 (m.n 2), .bool m.watch, .int .u32 m.bits, .int .i64 (m.n 5), .int .i64 (m.n 6), .int .i64 (m.n 7), .int .i64 (m.n 8), .int .i64 (m.n 9), .int .i64 (m.n 10), .int .i64 (m.n 11), .slice (m.row 0).1 (m.row 0).2.1 (m.row 0).2.2, .int .i64 (m.n 13), .int .i64 (m.n 14), .int .i64 (m.n 15), .int .i64 (m.n 16), .slice m.recs.1 m.recs.2.1 m.recs.2.2, .int .i64 (m.n 18), .int .i64 (m.n 19), .int .i64 (m.n 20), .int .i64 (m.n 21), .slice (m.row 1).1 (m.row 1).2.1 (m.row 1).2.2, .slice (m.row 2).1 (m.row 2).2.1 (m.row 2).2.2, .slice (m.row 3).1 (m.row 3).2.1 (m.row 3).2.2, .slice (m.row 4).1 (m.row 4).2.1 (m.row 4).2.2, .int .i64 (m.n 26), .int .i64 (m.n 27), .int .i64 (m.n 28), .slice m.data.1 m.data.2.1 m.data.2.2]

/-- It came in. -/
structure Wr.Came (w : World) (m : Wr.M) : Prop where
  num : ∀ k, -9223372036854775808 ≤ m.n k ∧ m.n k ≤ 9223372036854775807
  bit : 0 ≤ m.bits ∧ m.bits ≤ 4294967295
  rows : ∀ i, i < 5 → Wr.Ints w (m.row i).1 (m.row i).2.1 (m.rz i)
  recs : Wr.Recs w m.recs.1 m.recs.2.1 m.cz
  data : Byt w m.data.1 m.data.2.1 m.data.2.2 m.dl

theorem Wr.Came.on {w w' : World} {m : Wr.M} (h : Wr.Came w m) (hg : w.grownBy w' none) : Wr.Came w' m :=
  { h with rows := fun i hi => (h.rows i hi).on hg, recs := h.recs.on hg, data := h.data.on hg }

/-- Four numbers. -/
theorem Wr.four_at {H : Type} {enc : TypeId × Value → H} {w : World} {base : Nat} {sp : Nat → Bool} {held : Bool} {fuel : Nat} {cs : List Value} {k : Nat} {x : DataW H × List MemPlace} (hk : k + 4 ≤ cs.length) (h : DataW.trod enc Try.prog w base sp held fuel 23 ((cs.drop k).take 4) = some x) : ∀ i, i < 4 → ∃ z : Int, cs[k + i]? = some (.int .i64 z) ∧ -9223372036854775808 ≤ z ∧ z ≤ 9223372036854775807 := by
  intro i hi
  obtain ⟨xs, m, _, _, _, hl, hf⟩ := DataW.trod_array Try.underlying23 h
  have hci : Try.prog.cellsOf 3 = 1 := by kernel_rfl
  have f := hf i hi
  rw [hci, Nat.mul_one, List.getElem?_eq_getElem (by omega)] at f
  have hl4 : ((cs.drop k).take 4).length = 4 := by rw [List.length_take, List.length_drop]; omega
  obtain ⟨z, hz, hb⟩ := Wr.int_at (k := i) (by omega) f
  rw [List.getElem?_take, if_pos hi, List.getElem?_drop] at hz
  exact ⟨z, hz, hb⟩

/-- Four rows. -/
theorem Wr.seats_at {H : Type} {enc : TypeId × Value → H} {w : World} {base : Nat} {sp : Nat → Bool} {held : Bool} {fuel : Nat} {cs : List Value} {k : Nat} {x : DataW H × List MemPlace} (hk : k + 4 ≤ cs.length) (h : DataW.trod enc Try.prog w base sp held fuel 26 ((cs.drop k).take 4) = some x) : ∀ i, i < 4 → ∃ (s : Option Addr × Nat × Nat) (z : Nat → Int), cs[k + i]? = some (.slice s.1 s.2.1 s.2.2) ∧ Wr.Ints w s.1 s.2.1 z := by
  intro i hi
  obtain ⟨xs, m, _, _, _, hl, hf⟩ := DataW.trod_array Try.underlying26 h
  have hci : Try.prog.cellsOf 24 = 1 := by kernel_rfl
  have f := hf i hi
  rw [hci, Nat.mul_one, List.getElem?_eq_getElem (by omega)] at f
  have hl4 : ((cs.drop k).take 4).length = 4 := by rw [List.length_take, List.length_drop]; omega
  obtain ⟨s, z, hz, hb⟩ := Wr.row_at (k := i) (by omega) f
  rw [List.getElem?_take, if_pos hi, List.getElem?_drop] at hz
  exact ⟨s, z, hz, hb⟩

set_option maxRecDepth 8000 in
set_option maxHeartbeats 3200000 in
theorem open_msg {H : Type} {enc : TypeId × Value → H} {w : World} {base : Nat} {sp : Nat → Bool} {held : Bool} {r : Reach} {b0 : Nat} {v : Value} {d : DataW H} {ps : List MemPlace} (hv : Value.okWide Try.prog w r b0 29 v) (h : DataW.Trod enc Try.prog w base sp held 29 v d ps) : ∃ m, v = .agg (Wr.cells m) ∧ Wr.Came w m := by
  obtain ⟨cs, rfl, hsz⟩ := okWide_struct Try.underlying29 hv
  rw [show Try.prog.cellsOf 29 = 30 by kernel_rfl] at hsz
  obtain ⟨fuel, hf0⟩ := h
  obtain ⟨l, hl⟩ : ∃ l, cs.toList = l := ⟨_, rfl⟩
  have hlen : l.length = 30 := by rw [← hl]; simpa using hsz
  have hf1 : DataW.trod enc Try.prog w base sp held fuel 29 l = some (d, ps) := by rw [← hl]; simpa [Value.cells] using hf0
  obtain ⟨xs, n, _, _, _, hxl, hf⟩ := DataW.trod_struct Try.underlying29 hf1
  have hx : xs.length = 21 := hxl
  have hc1 : Try.prog.cellsOf 3 = 1 := by kernel_rfl
  have hc2 : Try.prog.cellsOf 4 = 1 := by kernel_rfl
  have hc3 : Try.prog.cellsOf 22 = 1 := by kernel_rfl
  have hc4 : Try.prog.cellsOf 23 = 4 := by kernel_rfl
  have hc5 : Try.prog.cellsOf 24 = 1 := by kernel_rfl
  have hc6 : Try.prog.cellsOf 25 = 1 := by kernel_rfl
  have hc7 : Try.prog.cellsOf 26 = 4 := by kernel_rfl
  have hc8 : Try.prog.cellsOf 27 = 1 := by kernel_rfl
  have f0 : DataW.trod enc Try.prog w base sp held n 3 ((l.drop 0).take 1) = xs[0]? := by rw [← hc1]; exact hf 0 _ rfl
  rw [List.getElem?_eq_getElem (by omega)] at f0
  have f1 : DataW.trod enc Try.prog w base sp held n 3 ((l.drop 1).take 1) = xs[1]? := by rw [← hc1]; exact hf 1 _ rfl
  rw [List.getElem?_eq_getElem (by omega)] at f1
  have f2 : DataW.trod enc Try.prog w base sp held n 3 ((l.drop 2).take 1) = xs[2]? := by rw [← hc1]; exact hf 2 _ rfl
  rw [List.getElem?_eq_getElem (by omega)] at f2
  have f3 : DataW.trod enc Try.prog w base sp held n 4 ((l.drop 3).take 1) = xs[3]? := by rw [← hc2]; exact hf 3 _ rfl
  rw [List.getElem?_eq_getElem (by omega)] at f3
  have f4 : DataW.trod enc Try.prog w base sp held n 22 ((l.drop 4).take 1) = xs[4]? := by rw [← hc3]; exact hf 4 _ rfl
  rw [List.getElem?_eq_getElem (by omega)] at f4
  have f5 : DataW.trod enc Try.prog w base sp held n 3 ((l.drop 5).take 1) = xs[5]? := by rw [← hc1]; exact hf 5 _ rfl
  rw [List.getElem?_eq_getElem (by omega)] at f5
  have f6 : DataW.trod enc Try.prog w base sp held n 23 ((l.drop 6).take 4) = xs[6]? := by rw [← hc4]; exact hf 6 _ rfl
  rw [List.getElem?_eq_getElem (by omega)] at f6
  have f7 : DataW.trod enc Try.prog w base sp held n 3 ((l.drop 10).take 1) = xs[7]? := by rw [← hc1]; exact hf 7 _ rfl
  rw [List.getElem?_eq_getElem (by omega)] at f7
  have f8 : DataW.trod enc Try.prog w base sp held n 3 ((l.drop 11).take 1) = xs[8]? := by rw [← hc1]; exact hf 8 _ rfl
  rw [List.getElem?_eq_getElem (by omega)] at f8
  have f9 : DataW.trod enc Try.prog w base sp held n 24 ((l.drop 12).take 1) = xs[9]? := by rw [← hc5]; exact hf 9 _ rfl
  rw [List.getElem?_eq_getElem (by omega)] at f9
  have f10 : DataW.trod enc Try.prog w base sp held n 3 ((l.drop 13).take 1) = xs[10]? := by rw [← hc1]; exact hf 10 _ rfl
  rw [List.getElem?_eq_getElem (by omega)] at f10
  have f11 : DataW.trod enc Try.prog w base sp held n 3 ((l.drop 14).take 1) = xs[11]? := by rw [← hc1]; exact hf 11 _ rfl
  rw [List.getElem?_eq_getElem (by omega)] at f11
  have f12 : DataW.trod enc Try.prog w base sp held n 3 ((l.drop 15).take 1) = xs[12]? := by rw [← hc1]; exact hf 12 _ rfl
  rw [List.getElem?_eq_getElem (by omega)] at f12
  have f13 : DataW.trod enc Try.prog w base sp held n 3 ((l.drop 16).take 1) = xs[13]? := by rw [← hc1]; exact hf 13 _ rfl
  rw [List.getElem?_eq_getElem (by omega)] at f13
  have f14 : DataW.trod enc Try.prog w base sp held n 25 ((l.drop 17).take 1) = xs[14]? := by rw [← hc6]; exact hf 14 _ rfl
  rw [List.getElem?_eq_getElem (by omega)] at f14
  have f15 : DataW.trod enc Try.prog w base sp held n 23 ((l.drop 18).take 4) = xs[15]? := by rw [← hc4]; exact hf 15 _ rfl
  rw [List.getElem?_eq_getElem (by omega)] at f15
  have f16 : DataW.trod enc Try.prog w base sp held n 26 ((l.drop 22).take 4) = xs[16]? := by rw [← hc7]; exact hf 16 _ rfl
  rw [List.getElem?_eq_getElem (by omega)] at f16
  have f17 : DataW.trod enc Try.prog w base sp held n 3 ((l.drop 26).take 1) = xs[17]? := by rw [← hc1]; exact hf 17 _ rfl
  rw [List.getElem?_eq_getElem (by omega)] at f17
  have f18 : DataW.trod enc Try.prog w base sp held n 3 ((l.drop 27).take 1) = xs[18]? := by rw [← hc1]; exact hf 18 _ rfl
  rw [List.getElem?_eq_getElem (by omega)] at f18
  have f19 : DataW.trod enc Try.prog w base sp held n 3 ((l.drop 28).take 1) = xs[19]? := by rw [← hc1]; exact hf 19 _ rfl
  rw [List.getElem?_eq_getElem (by omega)] at f19
  have f20 : DataW.trod enc Try.prog w base sp held n 27 ((l.drop 29).take 1) = xs[20]? := by rw [← hc8]; exact hf 20 _ rfl
  rw [List.getElem?_eq_getElem (by omega)] at f20
  obtain ⟨n0, e0, q0⟩ := Wr.int_at (show 0 < l.length by omega) f0
  obtain ⟨n1, e1, q1⟩ := Wr.int_at (show 1 < l.length by omega) f1
  obtain ⟨n2, e2, q2⟩ := Wr.int_at (show 2 < l.length by omega) f2
  obtain ⟨wt, e3⟩ := Wr.bool_at (show 3 < l.length by omega) f3
  obtain ⟨bt, e4, qb⟩ := Wr.u32_at (show 4 < l.length by omega) f4
  obtain ⟨n5, e5, q5⟩ := Wr.int_at (show 5 < l.length by omega) f5
  obtain ⟨n6, e6, q6⟩ := Wr.four_at (show 6 + 4 ≤ l.length by omega) f6 0 (by omega)
  obtain ⟨n7, e7, q7⟩ := Wr.four_at (show 6 + 4 ≤ l.length by omega) f6 1 (by omega)
  obtain ⟨n8, e8, q8⟩ := Wr.four_at (show 6 + 4 ≤ l.length by omega) f6 2 (by omega)
  obtain ⟨n9, e9, q9⟩ := Wr.four_at (show 6 + 4 ≤ l.length by omega) f6 3 (by omega)
  obtain ⟨n10, e10, q10⟩ := Wr.int_at (show 10 < l.length by omega) f7
  obtain ⟨n11, e11, q11⟩ := Wr.int_at (show 11 < l.length by omega) f8
  obtain ⟨s0, z0, e12, qr0⟩ := Wr.row_at (show 12 < l.length by omega) f9
  obtain ⟨n13, e13, q13⟩ := Wr.int_at (show 13 < l.length by omega) f10
  obtain ⟨n14, e14, q14⟩ := Wr.int_at (show 14 < l.length by omega) f11
  obtain ⟨n15, e15, q15⟩ := Wr.int_at (show 15 < l.length by omega) f12
  obtain ⟨n16, e16, q16⟩ := Wr.int_at (show 16 < l.length by omega) f13
  obtain ⟨sc, zc, e17, qc⟩ := Wr.recs_at (show 17 < l.length by omega) f14
  obtain ⟨n18, e18, q18⟩ := Wr.four_at (show 18 + 4 ≤ l.length by omega) f15 0 (by omega)
  obtain ⟨n19, e19, q19⟩ := Wr.four_at (show 18 + 4 ≤ l.length by omega) f15 1 (by omega)
  obtain ⟨n20, e20, q20⟩ := Wr.four_at (show 18 + 4 ≤ l.length by omega) f15 2 (by omega)
  obtain ⟨n21, e21, q21⟩ := Wr.four_at (show 18 + 4 ≤ l.length by omega) f15 3 (by omega)
  obtain ⟨s1, z1, e22, qr1⟩ := Wr.seats_at (show 22 + 4 ≤ l.length by omega) f16 0 (by omega)
  obtain ⟨s2, z2, e23, qr2⟩ := Wr.seats_at (show 22 + 4 ≤ l.length by omega) f16 1 (by omega)
  obtain ⟨s3, z3, e24, qr3⟩ := Wr.seats_at (show 22 + 4 ≤ l.length by omega) f16 2 (by omega)
  obtain ⟨s4, z4, e25, qr4⟩ := Wr.seats_at (show 22 + 4 ≤ l.length by omega) f16 3 (by omega)
  obtain ⟨n26, e26, q26⟩ := Wr.int_at (show 26 < l.length by omega) f17
  obtain ⟨n27, e27, q27⟩ := Wr.int_at (show 27 < l.length by omega) f18
  obtain ⟨n28, e28, q28⟩ := Wr.int_at (show 28 < l.length by omega) f19
  obtain ⟨sd, zd, e29, qd⟩ := Wr.byts_at (show 29 < l.length by omega) f20
  refine ⟨⟨fun k => if k = 0 then n0 else if k = 1 then n1 else if k = 2 then n2 else if k = 5 then n5 else if k = 6 then n6 else if k = 7 then n7 else if k = 8 then n8 else if k = 9 then n9 else if k = 10 then n10 else if k = 11 then n11 else if k = 13 then n13 else if k = 14 then n14 else if k = 15 then n15 else if k = 16 then n16 else if k = 18 then n18 else if k = 19 then n19 else if k = 20 then n20 else if k = 21 then n21 else if k = 26 then n26 else if k = 27 then n27 else if k = 28 then n28 else 0, wt, bt, fun i => if i = 0 then s0 else if i = 1 then s1 else if i = 2 then s2 else if i = 3 then s3 else s4, fun i => if i = 0 then z0 else if i = 1 then z1 else if i = 2 then z2 else if i = 3 then z3 else z4, sc, zc, sd, zd⟩, ?_, ⟨fun k => ?_, qb, fun i hi => ?_, qc, qd⟩⟩
  · congr 1
    apply Array.ext'
    rw [hl]
    refine List.ext_getElem? fun j => ?_
    by_cases hj : j < 30
    · rcases (show j = 0 ∨ j = 1 ∨ j = 2 ∨ j = 3 ∨ j = 4 ∨ j = 5 ∨ j = 6 ∨ j = 7 ∨ j = 8 ∨ j = 9 ∨ j = 10 ∨ j = 11 ∨ j = 12 ∨ j = 13 ∨ j = 14 ∨ j = 15 ∨ j = 16 ∨ j = 17 ∨ j = 18 ∨ j = 19 ∨ j = 20 ∨ j = 21 ∨ j = 22 ∨ j = 23 ∨ j = 24 ∨ j = 25 ∨ j = 26 ∨ j = 27 ∨ j = 28 ∨ j = 29 by omega) with rfl | rfl | rfl | rfl | rfl | rfl | rfl | rfl | rfl | rfl | rfl | rfl | rfl | rfl | rfl | rfl | rfl | rfl | rfl | rfl | rfl | rfl | rfl | rfl | rfl | rfl | rfl | rfl | rfl | rfl
      · exact e0
      · exact e1
      · exact e2
      · exact e3
      · exact e4
      · exact e5
      · exact e6
      · exact e7
      · exact e8
      · exact e9
      · exact e10
      · exact e11
      · exact e12
      · exact e13
      · exact e14
      · exact e15
      · exact e16
      · exact e17
      · exact e18
      · exact e19
      · exact e20
      · exact e21
      · exact e22
      · exact e23
      · exact e24
      · exact e25
      · exact e26
      · exact e27
      · exact e28
      · exact e29
    · rw [List.getElem?_eq_none (by omega), List.getElem?_eq_none (by show 30 ≤ j; omega)]
  · show -9223372036854775808 ≤ (if k = 0 then n0 else if k = 1 then n1 else if k = 2 then n2 else if k = 5 then n5 else if k = 6 then n6 else if k = 7 then n7 else if k = 8 then n8 else if k = 9 then n9 else if k = 10 then n10 else if k = 11 then n11 else if k = 13 then n13 else if k = 14 then n14 else if k = 15 then n15 else if k = 16 then n16 else if k = 18 then n18 else if k = 19 then n19 else if k = 20 then n20 else if k = 21 then n21 else if k = 26 then n26 else if k = 27 then n27 else if k = 28 then n28 else 0) ∧ (if k = 0 then n0 else if k = 1 then n1 else if k = 2 then n2 else if k = 5 then n5 else if k = 6 then n6 else if k = 7 then n7 else if k = 8 then n8 else if k = 9 then n9 else if k = 10 then n10 else if k = 11 then n11 else if k = 13 then n13 else if k = 14 then n14 else if k = 15 then n15 else if k = 16 then n16 else if k = 18 then n18 else if k = 19 then n19 else if k = 20 then n20 else if k = 21 then n21 else if k = 26 then n26 else if k = 27 then n27 else if k = 28 then n28 else 0) ≤ 9223372036854775807
    by_cases h0 : k = 0
    · subst h0; exact q0
    by_cases h1 : k = 1
    · subst h1; exact q1
    by_cases h2 : k = 2
    · subst h2; exact q2
    by_cases h5 : k = 5
    · subst h5; exact q5
    by_cases h6 : k = 6
    · subst h6; exact q6
    by_cases h7 : k = 7
    · subst h7; exact q7
    by_cases h8 : k = 8
    · subst h8; exact q8
    by_cases h9 : k = 9
    · subst h9; exact q9
    by_cases h10 : k = 10
    · subst h10; exact q10
    by_cases h11 : k = 11
    · subst h11; exact q11
    by_cases h13 : k = 13
    · subst h13; exact q13
    by_cases h14 : k = 14
    · subst h14; exact q14
    by_cases h15 : k = 15
    · subst h15; exact q15
    by_cases h16 : k = 16
    · subst h16; exact q16
    by_cases h18 : k = 18
    · subst h18; exact q18
    by_cases h19 : k = 19
    · subst h19; exact q19
    by_cases h20 : k = 20
    · subst h20; exact q20
    by_cases h21 : k = 21
    · subst h21; exact q21
    by_cases h26 : k = 26
    · subst h26; exact q26
    by_cases h27 : k = 27
    · subst h27; exact q27
    by_cases h28 : k = 28
    · subst h28; exact q28
    simp only [if_neg h0, if_neg h1, if_neg h2, if_neg h5, if_neg h6, if_neg h7, if_neg h8, if_neg h9, if_neg h10, if_neg h11, if_neg h13, if_neg h14, if_neg h15, if_neg h16, if_neg h18, if_neg h19, if_neg h20, if_neg h21, if_neg h26, if_neg h27, if_neg h28]
    omega
  · rcases (show i = 0 ∨ i = 1 ∨ i = 2 ∨ i = 3 ∨ i = 4 by omega) with rfl | rfl | rfl | rfl | rfl
    · exact qr0
    · exact qr1
    · exact qr2
    · exact qr3
    · exact qr4

end Go.Proofs.Ytiegccdgoemamaa
