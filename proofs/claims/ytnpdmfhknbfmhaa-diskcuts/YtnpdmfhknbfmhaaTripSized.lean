/-
  How great the bytes of rows that came in may be: what the form's reach says of them.
-/
import Derived.Test.YtnpdmfhknbfmhaaTripArgs
import Derived.SizedLaws
namespace Go.Proofs.Ytnpdmfhknbfmhaa
open Go.RowKit Go.ChangeShapes Go.WideShapes

theorem weights_all_mem {H : Type} {P : Program} {e : TypeId} {d : DataW H} {n : Nat} (hn : n ∈ d.weights P e) : ∀ {l : List (DataW H)}, d ∈ l → n ∈ DataW.weightsAll P e l
  | [], h => by cases h
  | x :: r, h => by
    unfold DataW.weightsAll
    rcases List.mem_cons.1 h with rfl | h
    · exact List.mem_append.2 (.inl hn)
    · exact List.mem_append.2 (.inr (weights_all_mem hn h))

theorem byts_small {H : Type} {enc : TypeId × Value → H} {w : World} {base : Nat} {sp : Nat → Bool} {held : Bool} {fuel : Nat} {a : Option Addr} {len cap : Nat} {x : DataW H × List MemPlace} (h : DataW.trod enc Try.prog w base sp held fuel 31 [.slice a len cap] = some x) (hr : ∀ n ∈ x.1.weights Try.prog 31, n ≤ reachBytes) : len ≤ 140737488351232 := by
  rcases Go.Deep.open_slice Try.underlying31 h with ⟨hcs, _⟩ | ⟨a', len', cap', m, n, D, Pl, hcs, _, hl, hm, hmm, rfl, hx⟩
  · simp only [List.cons.injEq, Value.slice.injEq, and_true] at hcs
    omega
  · simp only [List.cons.injEq, Value.slice.injEq, and_true] at hcs
    obtain ⟨rfl, rfl, rfl⟩ := hcs
    have hb1 : Try.prog.bytesOf 5 = 1 := by kernel_rfl
    have := hr _ (by
      show _ ∈ DataW.weights Try.prog 31 (.slice ((List.range len).map D) ((List.range (m - len)).map fun j => D (len + j)))
      unfold DataW.weights
      rw [Try.underlying31]
      exact List.mem_cons_self)
    rw [hb1] at this
    have h2 : reachBytes = 140737488351232 := rfl
    simp at this
    omega

theorem open_calls_small {H : Type} {enc : TypeId × Value → H} {w : World} {base : Nat} {sp : Nat → Bool} {held : Bool} {fuel : Nat} {a : Option Addr} {len cap : Nat} {x : DataW H × List MemPlace} (h : DataW.trod enc Try.prog w base sp held fuel 22 [.slice a len cap] = some x) (hr : ∀ n ∈ x.1.weights Try.prog 22, n ≤ reachBytes) {z : Nat → Trip} (hz : Trip.Came w a len z) : ∀ i, i < len → (z i).n ≤ 140737488351232 ∧ -9223372036854775808 ≤ (z i).v ∧ (z i).v ≤ 9223372036854775807 := by
  intro i hi
  rcases Go.Deep.open_slice Try.underlying22 h with ⟨hcs, _⟩ | ⟨a', len', cap', m, n, D, Pl, hcs, _, hl, hm, hmm, rfl, hx⟩
  · simp only [List.cons.injEq, Value.slice.injEq, and_true] at hcs
    omega
  · simp only [List.cons.injEq, Value.slice.injEq, and_true] at hcs
    obtain ⟨rfl, rfl, rfl⟩ := hcs
    have hc3 : Try.prog.cellsOf 33 = 3 := by kernel_rfl
    have hcb : Try.prog.cellsOf 31 = 1 := by kernel_rfl
    rw [hc3] at hx
    have hlm : len ≤ m := by rw [hmm]; split <;> omega
    obtain ⟨cs', h1, h2⟩ := hx i (by omega)
    obtain ⟨_, hlen, hcell⟩ := World.cells?_some h1
    obtain ⟨xs, n', _, he, _, hxl, hf⟩ := DataW.trod_struct Try.underlying33 h2
    have hx3 : xs.length = 3 := hxl
    have f2 : DataW.trod enc Try.prog w base sp held n' 31 ((cs'.drop 2).take (Try.prog.cellsOf 31)) = xs[2]? := hf 2 _ rfl
    rw [hcb, Go.Deep.take1_drop cs' 2 undef (by omega), List.getElem?_eq_getElem (by omega)] at f2
    obtain ⟨b, o, ha, hb, c0, c1, c2, _⟩ := hz.2 i hi
    cases ha
    have hc2 := hcell 2 (by omega)
    rw [add_plain, add_plain] at hc2
    rw [c2, List.getElem?_eq_getElem (by omega)] at hc2
    have e2 : cs'.getD 2 undef = .slice (z i).a (z i).n (z i).c := by
      rw [List.getD_eq_getElem?_getD, List.getElem?_eq_getElem (by omega), Option.getD_some]
      exact (Option.some.inj hc2).symm
    rw [e2] at f2
    have f1 : DataW.trod enc Try.prog w base sp held n' 3 ((cs'.drop 1).take (Try.prog.cellsOf 3)) = xs[1]? := hf 1 _ rfl
    have hci : Try.prog.cellsOf 3 = 1 := by kernel_rfl
    rw [hci, Go.Deep.take1_drop cs' 1 undef (by omega), List.getElem?_eq_getElem (by omega)] at f1
    obtain ⟨u, hu, _, hw⟩ := DataW.trod_int Try.underlying3 f1
    have hc1 := hcell 1 (by omega)
    rw [add_plain, add_plain] at hc1
    rw [c1, List.getElem?_eq_getElem (by omega)] at hc1
    have e1 : cs'.getD 1 undef = .int .i64 (z i).v := by
      rw [List.getD_eq_getElem?_getD, List.getElem?_eq_getElem (by omega), Option.getD_some]
      exact (Option.some.inj hc1).symm
    rw [e1] at hu
    simp only [List.cons.injEq, Value.int.injEq, true_and, and_true] at hu
    rw [← hu] at hw
    simp only [Lit.wf, Bool.and_eq_true, decide_eq_true_eq, show IntKind.i64.min = -9223372036854775808 from by decide, show IntKind.i64.max = 9223372036854775807 from by decide] at hw
    refine ⟨?_, hw⟩
    refine byts_small f2 fun q hq => hr q ?_
    show _ ∈ DataW.weights Try.prog 22 (.slice ((List.range len).map D) ((List.range (m - len)).map fun j => D (len + j)))
    unfold DataW.weights
    rw [Try.underlying22]
    refine List.mem_cons_of_mem _ (List.mem_append.2 (.inl (weights_all_mem (d := D i) ?_ (List.mem_map.2 ⟨i, List.mem_range.2 hi, rfl⟩))))
    have e3 : D i = .agg (xs.map (·.1)) := congrArg Prod.fst he
    rw [e3]
    unfold DataW.weights
    rw [Try.underlying33]
    refine DataW.weights_mem_each (j := 2) (t := 31) (d := xs[2].1) rfl ?_ q hq
    rw [List.getElem?_map, List.getElem?_eq_getElem (by omega)]
    rfl

end Go.Proofs.Ytnpdmfhknbfmhaa
