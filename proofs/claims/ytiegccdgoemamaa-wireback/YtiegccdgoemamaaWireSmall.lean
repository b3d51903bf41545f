/-
  How long the lists of a datagram that came in may be: what the bound of the second form says of them.
-/
import Derived.Test.YtiegccdgoemamaaWireArgs
import Derived.Test.YtiegccdgoemamaaRows
namespace Go.Proofs.Ytiegccdgoemamaa
open Go.RowKit Go.ChangeShapes Go.WideShapes

theorem Wr.bulk_one {H : Type} (d : DataW H) : 1 ≤ Rows.uptoBulk d := by
  cases d with
  | lit l => cases l <;> simp [Rows.uptoBulk]
  | nil => simp [Rows.uptoBulk]
  | ptr d => simp [Rows.uptoBulk]
  | slice elems spare => simp [Rows.uptoBulk]
  | agg parts => simp [Rows.uptoBulk]
  | iface t d => simp [Rows.uptoBulk]
  | map entries => simp [Rows.uptoBulk]
  | held h => simp [Rows.uptoBulk]

theorem Wr.bulk_part {H : Type} {d : DataW H} : ∀ {l : List (DataW H)}, d ∈ l → Rows.uptoBulk d ≤ Rows.uptoBulkAll l
  | [], h => by cases h
  | x :: r, h => by
    simp only [Rows.uptoBulkAll]
    rcases List.mem_cons.1 h with rfl | h
    · omega
    · have := Wr.bulk_part h
      omega

theorem Wr.bulk_len {H : Type} : ∀ (l : List (DataW H)), l.length ≤ Rows.uptoBulkAll l
  | [] => by simp [Rows.uptoBulkAll]
  | x :: r => by
    have h1 := Wr.bulk_one x
    have h2 := Wr.bulk_len r
    simp only [Rows.uptoBulkAll, List.length_cons]
    omega

theorem Wr.slice_small {H : Type} {enc : TypeId × Value → H} {w : World} {base : Nat} {sp : Nat → Bool} {held : Bool} {fuel : Nat} {T e : TypeId} (ht : Try.prog.underlying T = some (.slice e)) {a : Option Addr} {len cap : Nat} {x : DataW H × List MemPlace} (h : DataW.trod enc Try.prog w base sp held fuel T [.slice a len cap] = some x) : len ≤ Rows.uptoBulk x.1 := by
  rcases Go.Deep.open_slice ht h with ⟨hcs, _⟩ | ⟨a', len', cap', m, n, D, Pl, hcs, _, hl, hm, hmm, rfl, hx⟩
  · simp only [List.cons.injEq, Value.slice.injEq, and_true] at hcs
    omega
  · simp only [List.cons.injEq, Value.slice.injEq, and_true] at hcs
    obtain ⟨rfl, rfl, rfl⟩ := hcs
    have h1 := Wr.bulk_len ((List.range len).map D)
    rw [List.length_map, List.length_range] at h1
    simp only [Rows.uptoBulk]
    omega

theorem Wr.part_small {H : Type} {xs : List (DataW H × List MemPlace)} {i : Nat} {y : DataW H × List MemPlace} (h : xs[i]? = some y) : Rows.uptoBulk y.1 ≤ Rows.uptoBulk (.agg (xs.map (·.1))) := by
  have h1 : y.1 ∈ xs.map (·.1) := List.mem_map.2 ⟨y, List.mem_of_getElem? h, rfl⟩
  have h2 := Wr.bulk_part h1
  simp only [Rows.uptoBulk]
  omega

/-- No list of it is longer than all that came in. -/
theorem Wr.Came.small {H : Type} {enc : TypeId × Value → H} {w : World} {base : Nat} {sp : Nat → Bool} {held : Bool} {m : Wr.M} {d : DataW H} {ps : List MemPlace} (h : DataW.Trod enc Try.prog w base sp held 29 (.agg (Wr.cells m)) d ps) : (∀ i, i < 5 → (m.row i).2.1 ≤ Rows.uptoBulk d) ∧ m.recs.2.1 ≤ Rows.uptoBulk d ∧ m.data.2.1 ≤ Rows.uptoBulk d := by
  obtain ⟨fuel, hf0⟩ := h
  have hf1 : DataW.trod enc Try.prog w base sp held fuel 29 (Wr.cells m).toList = some (d, ps) := by simpa [Value.cells] using hf0
  obtain ⟨xs, n, _, hd, _, hxl, hf⟩ := DataW.trod_struct Try.underlying29 hf1
  have hx : xs.length = 21 := hxl
  have hd1 : d = .agg (xs.map (·.1)) := congrArg Prod.fst hd
  have hc5 : Try.prog.cellsOf 24 = 1 := by kernel_rfl
  have hc6 : Try.prog.cellsOf 25 = 1 := by kernel_rfl
  have hc7 : Try.prog.cellsOf 26 = 4 := by kernel_rfl
  have hc8 : Try.prog.cellsOf 27 = 1 := by kernel_rfl
  have f9 : DataW.trod enc Try.prog w base sp held n 24 (((Wr.cells m).toList.drop 12).take 1) = xs[9]? := by rw [← hc5]; exact hf 9 _ rfl
  have f14 : DataW.trod enc Try.prog w base sp held n 25 (((Wr.cells m).toList.drop 17).take 1) = xs[14]? := by rw [← hc6]; exact hf 14 _ rfl
  have f16 : DataW.trod enc Try.prog w base sp held n 26 (((Wr.cells m).toList.drop 22).take 4) = xs[16]? := by rw [← hc7]; exact hf 16 _ rfl
  have f20 : DataW.trod enc Try.prog w base sp held n 27 (((Wr.cells m).toList.drop 29).take 1) = xs[20]? := by rw [← hc8]; exact hf 20 _ rfl
  rw [List.getElem?_eq_getElem (by omega)] at f9 f14 f16 f20
  have p9 := Wr.part_small (List.getElem?_eq_getElem (show 9 < xs.length by omega))
  have p14 := Wr.part_small (List.getElem?_eq_getElem (show 14 < xs.length by omega))
  have p16 := Wr.part_small (List.getElem?_eq_getElem (show 16 < xs.length by omega))
  have p20 := Wr.part_small (List.getElem?_eq_getElem (show 20 < xs.length by omega))
  rw [← hd1] at p9 p14 p16 p20
  have s9 : (m.row 0).2.1 ≤ _ := Wr.slice_small Try.underlying24 f9
  have s14 : m.recs.2.1 ≤ _ := Wr.slice_small Try.underlying25 f14
  have s20 : m.data.2.1 ≤ _ := Wr.slice_small Try.underlying27 f20
  obtain ⟨ys, n2, _, hy, _, hl, hg⟩ := DataW.trod_array Try.underlying26 f16
  have hy1 := congrArg Prod.fst hy
  simp only at hy1
  have hseat : ∀ i, i < 4 → (m.row (i + 1)).2.1 ≤ Rows.uptoBulk d := fun i hi => by
    have g := hg i hi
    rw [hc5, List.getElem?_eq_getElem (by omega)] at g
    have q := Wr.part_small (List.getElem?_eq_getElem (show i < ys.length by omega))
    rw [← hy1] at q
    have s : (m.row (i + 1)).2.1 ≤ Rows.uptoBulk ys[i].1 := by
      rcases (show i = 0 ∨ i = 1 ∨ i = 2 ∨ i = 3 by omega) with rfl | rfl | rfl | rfl <;> exact Wr.slice_small Try.underlying24 g
    omega
  refine ⟨fun i hi => ?_, by omega, by omega⟩
  cases i with
  | zero => omega
  | succ i => exact hseat i (by omega)

end Go.Proofs.Ytiegccdgoemamaa
