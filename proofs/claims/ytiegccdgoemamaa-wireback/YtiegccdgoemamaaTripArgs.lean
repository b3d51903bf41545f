/-
  Rows that come in as an argument, each two numbers and a row of bytes: how they lie in memory.
-/
import Derived.Test.YtiegccdgoemamaaEntMem
import Derived.Deep.Fields
import Derived.Deep.Grids
namespace Go.Proofs.Ytiegccdgoemamaa
open Go.RowKit Go.ChangeShapes Go.WideShapes

/-- Bytes that came in: none, or a row of them. -/
def Byt (w : World) (a : Option Addr) (n c : Nat) (l : List Int) : Prop :=
  (a = none ∧ n = 0 ∧ c = 0 ∧ l = []) ∨ (l.length = n ∧ n ≤ c ∧ c ≤ maxLen ∧ (∀ x ∈ l, 0 ≤ x ∧ x ≤ 255) ∧ ∃ x, a = some x ∧ ∀ j, j < n → w.cell? (x.add j) = some (.int .u8 (l.getD j 0)))

theorem Byt.on {w w' : World} {a : Option Addr} {n c : Nat} {l : List Int} (h : Byt w a n c l) (hg : w.grownBy w' none) : Byt w' a n c l := by
  rcases h with h | ⟨h1, h2, h3, h4, x, rfl, h5⟩
  · exact .inl h
  · refine .inr ⟨h1, h2, h3, h4, x, rfl, fun j hj => ?_⟩
    have hc := h5 j hj
    exact (World.cell?_of_block (hg.block _ (Go.block_lt_of_cell hc) (by simp))).trans hc

theorem open_byts {H : Type} {enc : TypeId × Value → H} {w : World} {base : Nat} {sp : Nat → Bool} {held : Bool} {fuel : Nat} {a : Option Addr} {len cap : Nat} {x : DataW H × List MemPlace} (h : DataW.trod enc Try.prog w base sp held fuel 27 [.slice a len cap] = some x) : ∃ l, Byt w a len cap l := by
  rcases Go.Deep.open_slice Try.underlying27 h with ⟨hcs, _⟩ | ⟨a', len', cap', m, n, D, Pl, hcs, _, hl, hm, hmm, _, hx⟩
  · simp only [List.cons.injEq, Value.slice.injEq, and_true] at hcs
    obtain ⟨rfl, rfl, rfl⟩ := hcs
    exact ⟨[], .inl ⟨rfl, rfl, rfl, rfl⟩⟩
  · simp only [List.cons.injEq, Value.slice.injEq, and_true] at hcs
    obtain ⟨rfl, rfl, rfl⟩ := hcs
    have hc1 : Try.prog.cellsOf 5 = 1 := by kernel_rfl
    rw [hc1] at hx
    have hlm : len ≤ m := by rw [hmm]; split <;> omega
    obtain ⟨z, hz⟩ : ∃ z : Nat → Int, ∀ i, i < len → w.cell? (a'.add (i * 1)) = some (.int .u8 (z i)) ∧ (Lit.int .u8 (z i)).wf = true := by
      refine Go.Deep.choose_lt (α := Int) (p := fun i e => w.cell? (a'.add (i * 1)) = some (.int .u8 e) ∧ (Lit.int .u8 e).wf = true) fun i hi => ?_
      obtain ⟨cs', h1, h2⟩ := hx i (by omega)
      obtain ⟨_, hlen, hcell⟩ := World.cells?_some h1
      obtain ⟨e, rfl, _, hw⟩ := DataW.trod_int Try.underlying5 h2
      have h0 := hcell 0 (by omega)
      exact ⟨e, by simpa [Addr.add] using h0, hw⟩
    refine ⟨(List.range len).map z, .inr ⟨by simp, hl, hm, fun q hq => ?_, a', rfl, fun j hj => ?_⟩⟩
    · obtain ⟨i, hi, rfl⟩ := List.mem_map.1 hq
      have hw := (hz i (List.mem_range.1 hi)).2
      simp only [Lit.wf, Bool.and_eq_true, decide_eq_true_eq, show IntKind.u8.min = 0 from by decide, show IntKind.u8.max = 255 from by decide] at hw
      exact hw
    · have hc := (hz j hj).1
      rw [Nat.mul_one] at hc
      rw [hc]
      simp [List.getD, List.getElem?_map, List.getElem?_range hj]

/-- Two numbers and a row of bytes. -/
structure Trip where
  u : Int
  v : Int
  a : Option Addr
  n : Nat
  c : Nat
  l : List Int

/-- Rows of them that came in. -/
def Trip.Came (w : World) (a : Option Addr) (len : Nat) (z : Nat → Trip) : Prop :=
  len ≤ maxLen ∧ ∀ i, i < len → ∃ b o, a = some ⟨b, o, none⟩ ∧ b < w.heap.size ∧ w.cell? ⟨b, o + i * 3 + 0, none⟩ = some (.int .i64 (z i).u) ∧ w.cell? ⟨b, o + i * 3 + 1, none⟩ = some (.int .i64 (z i).v) ∧ w.cell? ⟨b, o + i * 3 + 2, none⟩ = some (.slice (z i).a (z i).n (z i).c) ∧ Byt w (z i).a (z i).n (z i).c (z i).l

theorem Trip.Came.on {w w' : World} {a : Option Addr} {len : Nat} {z : Nat → Trip} (h : Trip.Came w a len z) (hg : w.grownBy w' none) : Trip.Came w' a len z :=
  ⟨h.1, fun i hi => by
    obtain ⟨b, o, ha, hb, h0, h1, h2, h3⟩ := h.2 i hi
    exact ⟨b, o, ha, Nat.lt_of_lt_of_le hb hg.size, (grown_cell hg b _ hb (by simp)).trans h0, (grown_cell hg b _ hb (by simp)).trans h1, (grown_cell hg b _ hb (by simp)).trans h2, h3.on hg⟩⟩

end Go.Proofs.Ytiegccdgoemamaa
