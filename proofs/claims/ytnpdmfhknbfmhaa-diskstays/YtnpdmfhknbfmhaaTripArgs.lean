/-
  Rows that come in as an argument, each two numbers and a row of bytes: how they lie in memory.
-/
import Derived.Test.YtnpdmfhknbfmhaaEntMem
import Derived.Deep.Fields
import Derived.Deep.Grids
namespace Go.Proofs.Ytnpdmfhknbfmhaa
open Go.RowKit Go.ChangeShapes Go.WideShapes

/-- Bytes that came in: none, or a row of them. -/
def Byt (w : World) (a : Option Addr) (n c : Nat) (l : List Int) : Prop :=
  (a = none ∧ n = 0 ∧ c = 0 ∧ l = []) ∨ (l.length = n ∧ n ≤ c ∧ c ≤ maxLen ∧ (∀ x ∈ l, 0 ≤ x ∧ x ≤ 255) ∧ ∃ x, a = some x ∧ ∀ j, j < n → w.cell? (x.add j) = some (.int .u8 (l.getD j 0)))

theorem Byt.on {w w' : World} {a : Option Addr} {n c : Nat} {l : List Int} (h : Byt w a n c l) (hg : w.grownBy w' none) : Byt w' a n c l := by
  rcases h with h | ⟨h1, h2, h3, h4, x, rfl, h5⟩
  · exact .inl h
  · refine .inr ⟨h1, h2, h3, h4, x, rfl, fun j hj => ?_⟩
    have hc := h5 j hj
    exact (World.cell?_of_block (hg.block _ (Go.block_lt_of_cell hc) (by simp))).trans hc

theorem open_byts {H : Type} {enc : TypeId × Value → H} {w : World} {base : Nat} {sp : Nat → Bool} {held : Bool} {fuel : Nat} {a : Option Addr} {len cap : Nat} {x : DataW H × List MemPlace} (h : DataW.trod enc Try.prog w base sp held fuel 31 [.slice a len cap] = some x) : ∃ l, Byt w a len cap l := by
  rcases Go.Deep.open_slice Try.underlying31 h with ⟨hcs, _⟩ | ⟨a', len', cap', m, n, D, Pl, hcs, _, hl, hm, hmm, _, hx⟩
  · simp only [List.cons.injEq, Value.slice.injEq, and_true] at hcs
    obtain ⟨rfl, rfl, rfl⟩ := hcs
    exact ⟨[], .inl ⟨rfl, rfl, rfl, rfl⟩⟩
  · simp only [List.cons.injEq, Value.slice.injEq, and_true] at hcs
    obtain ⟨rfl, rfl, rfl⟩ := hcs
    have hc1 : Try.prog.cellsOf 5 = 1 := by kernel_rfl
    rw [hc1] at hx
    have hlm : len ≤ m := by rw [hmm]; split <;> omega
    obtain ⟨z, hz⟩ : ∃ z : Nat → Int, ∀ i, i < len → w.cell? (a'.add (i * 1)) = some (.int .u8 (z i)) ∧ (Lit.int .u8 (z i)).wf = true := by
      refine Go.Deep.choose_lt (α := Int) (p := fun i e => w.cell? (a'.add (i * 1)) = some (.int .u8 e) ∧ (Lit.int .u8 e).wf = true) fun i hi => ?_
      obtain ⟨cs', h1, h2⟩ := hx i (by omega)
      obtain ⟨_, hlen, hcell⟩ := World.cells?_some h1
      obtain ⟨e, rfl, _, hw⟩ := DataW.trod_int Try.underlying5 h2
      have h0 := hcell 0 (by omega)
      exact ⟨e, by simpa [Addr.add] using h0, hw⟩
    refine ⟨(List.range len).map z, .inr ⟨by simp, hl, hm, fun q hq => ?_, a', rfl, fun j hj => ?_⟩⟩
    · obtain ⟨i, hi, rfl⟩ := List.mem_map.1 hq
      have hw := (hz i (List.mem_range.1 hi)).2
      simp only [Lit.wf, Bool.and_eq_true, decide_eq_true_eq, show IntKind.u8.min = 0 from by decide, show IntKind.u8.max = 255 from by decide] at hw
      exact hw
    · have hc := (hz j hj).1
      rw [Nat.mul_one] at hc
      rw [hc]
      simp [List.getD, List.getElem?_map, List.getElem?_range hj]

/-- Two numbers and a row of bytes. -/
structure Trip where
  u : Int
  v : Int
  a : Option Addr
  n : Nat
  c : Nat
  l : List Int

/-- Rows of them that came in. -/
def Trip.Came (w : World) (a : Option Addr) (len : Nat) (z : Nat → Trip) : Prop :=
  len ≤ maxLen ∧ ∀ i, i < len → ∃ b o, a = some ⟨b, o, none⟩ ∧ b < w.heap.size ∧ w.cell? ⟨b, o + i * 3 + 0, none⟩ = some (.int .i64 (z i).u) ∧ w.cell? ⟨b, o + i * 3 + 1, none⟩ = some (.int .i64 (z i).v) ∧ w.cell? ⟨b, o + i * 3 + 2, none⟩ = some (.slice (z i).a (z i).n (z i).c) ∧ Byt w (z i).a (z i).n (z i).c (z i).l

theorem Trip.Came.on {w w' : World} {a : Option Addr} {len : Nat} {z : Nat → Trip} (h : Trip.Came w a len z) (hg : w.grownBy w' none) : Trip.Came w' a len z :=
  ⟨h.1, fun i hi => by
    obtain ⟨b, o, ha, hb, h0, h1, h2, h3⟩ := h.2 i hi
    exact ⟨b, o, ha, Nat.lt_of_lt_of_le hb hg.size, (grown_cell hg b _ hb (by simp)).trans h0, (grown_cell hg b _ hb (by simp)).trans h1, (grown_cell hg b _ hb (by simp)).trans h2, h3.on hg⟩⟩

theorem open_calls {H : Type} {enc : TypeId × Value → H} {w : World} {base : Nat} {sp : Nat → Bool} {held : Bool} {fuel : Nat} {a : Option Addr} {len cap : Nat} {x : DataW H × List MemPlace} (h : DataW.trod enc Try.prog w base sp held fuel 22 [.slice a len cap] = some x) : ∃ z, Trip.Came w a len z := by
  rcases Go.Deep.open_slice Try.underlying22 h with ⟨hcs, _⟩ | ⟨a', len', cap', m, n, D, Pl, hcs, _, hl, hm, hmm, _, hx⟩
  · simp only [List.cons.injEq, Value.slice.injEq, and_true] at hcs
    obtain ⟨rfl, rfl, rfl⟩ := hcs
    exact ⟨fun _ => ⟨0, 0, none, 0, 0, []⟩, Nat.zero_le _, fun i hi => absurd hi (Nat.not_lt_zero i)⟩
  · simp only [List.cons.injEq, Value.slice.injEq, and_true] at hcs
    obtain ⟨rfl, rfl, rfl⟩ := hcs
    have hc3 : Try.prog.cellsOf 33 = 3 := by kernel_rfl
    have hci : Try.prog.cellsOf 3 = 1 := by kernel_rfl
    have hcb : Try.prog.cellsOf 31 = 1 := by kernel_rfl
    rw [hc3] at hx
    have hlm : len ≤ m := by rw [hmm]; split <;> omega
    haveI : Inhabited Trip := ⟨⟨0, 0, none, 0, 0, []⟩⟩
    obtain ⟨z, hz⟩ : ∃ z : Nat → Trip, ∀ i, i < len → w.cell? ((a'.add (i * 3)).add 0) = some (.int .i64 (z i).u) ∧ w.cell? ((a'.add (i * 3)).add 1) = some (.int .i64 (z i).v) ∧ w.cell? ((a'.add (i * 3)).add 2) = some (.slice (z i).a (z i).n (z i).c) ∧ Byt w (z i).a (z i).n (z i).c (z i).l := by
      refine Go.Deep.choose_lt (α := Trip) (p := fun i e => w.cell? ((a'.add (i * 3)).add 0) = some (.int .i64 e.u) ∧ w.cell? ((a'.add (i * 3)).add 1) = some (.int .i64 e.v) ∧ w.cell? ((a'.add (i * 3)).add 2) = some (.slice e.a e.n e.c) ∧ Byt w e.a e.n e.c e.l) fun i hi => ?_
      obtain ⟨cs', h1, h2⟩ := hx i (by omega)
      obtain ⟨_, hlen, hcell⟩ := World.cells?_some h1
      obtain ⟨xs, n', _, _, _, hxl, hf⟩ := DataW.trod_struct Try.underlying33 h2
      have hx3 : xs.length = 3 := hxl
      have f0 : DataW.trod enc Try.prog w base sp held n' 3 ((cs'.drop 0).take (Try.prog.cellsOf 3)) = xs[0]? := hf 0 _ rfl
      have f1 : DataW.trod enc Try.prog w base sp held n' 3 ((cs'.drop 1).take (Try.prog.cellsOf 3)) = xs[1]? := hf 1 _ rfl
      have f2 : DataW.trod enc Try.prog w base sp held n' 31 ((cs'.drop 2).take (Try.prog.cellsOf 31)) = xs[2]? := hf 2 _ rfl
      rw [hci, Go.Deep.take1_drop cs' 0 undef (by omega), List.getElem?_eq_getElem (by omega)] at f0
      rw [hci, Go.Deep.take1_drop cs' 1 undef (by omega), List.getElem?_eq_getElem (by omega)] at f1
      rw [hcb, Go.Deep.take1_drop cs' 2 undef (by omega), List.getElem?_eq_getElem (by omega)] at f2
      obtain ⟨u, hu, _⟩ := DataW.trod_int Try.underlying3 f0
      obtain ⟨v, hv, _⟩ := DataW.trod_int Try.underlying3 f1
      obtain ⟨r, k, q, hb⟩ : ∃ r l k, [cs'.getD 2 undef] = [Value.slice r l k] := by
        rcases Go.Deep.open_slice Try.underlying31 f2 with ⟨hcs, _⟩ | ⟨a2, len2, cap2, _, _, _, _, hcs, _⟩
        · exact ⟨none, 0, 0, hcs⟩
        · exact ⟨some a2, len2, cap2, hcs⟩
      rw [hb] at f2
      obtain ⟨l, hl2⟩ := open_byts f2
      simp only [List.getD_eq_getElem?_getD, List.getElem?_eq_getElem (show 0 < cs'.length by omega), Option.getD_some, List.cons.injEq, and_true] at hu
      simp only [List.getD_eq_getElem?_getD, List.getElem?_eq_getElem (show 1 < cs'.length by omega), Option.getD_some, List.cons.injEq, and_true] at hv
      simp only [List.getD_eq_getElem?_getD, List.getElem?_eq_getElem (show 2 < cs'.length by omega), Option.getD_some, List.cons.injEq, and_true] at hb
      refine ⟨⟨u, v, r, k, q, l⟩, (hcell 0 (by omega)).trans ?_, (hcell 1 (by omega)).trans ?_, (hcell 2 (by omega)).trans ?_, hl2⟩
      · rw [List.getElem?_eq_getElem (by omega), hu]
      · rw [List.getElem?_eq_getElem (by omega), hv]
      · rw [List.getElem?_eq_getElem (by omega), hb]
    refine ⟨z, Nat.le_trans hl hm, fun i hi => ?_⟩
    obtain ⟨b, off, spot⟩ := a'
    obtain ⟨h0, h1, h2, h3⟩ := hz i hi
    have hspot : spot = none := by simpa [Addr.add] using World.cell?_spot (hz 0 (by omega)).1
    subst hspot
    rw [add_plain, add_plain] at h0 h1 h2
    exact ⟨b, off, rfl, Go.block_lt_of_cell h0, h0, h1, h2, h3⟩

end Go.Proofs.Ytnpdmfhknbfmhaa
