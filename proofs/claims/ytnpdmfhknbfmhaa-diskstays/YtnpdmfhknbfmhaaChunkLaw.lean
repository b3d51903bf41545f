/-
  The law package's own: within, sameInts.
-/
import Derived.Test.YtnpdmfhknbfmhaaChunkRef
import Derived.Deep.QuietTactic
import Derived.BigQuiet
namespace Go.Proofs.Ytnpdmfhknbfmhaa
open Go.RowKit

theorem Ck.within_neg (a n : Int) (hn : 0 < n) (h : a.tmod n < 0) : a.tmod n + n = a % n := by
  have := Int.emod_nonneg a (b := n) (by omega)
  have := Int.emod_lt_of_pos a hn
  have e := Int.emod_eq_tmod (a := a) (b := n)
  by_cases hc : 0 ≤ a ∨ n ∣ a
  · rw [if_pos hc] at e; omega
  · rw [if_neg hc] at e; omega

theorem Ck.within_pos (a n : Int) (hn : 0 < n) (h : ¬ a.tmod n < 0) : a.tmod n = a % n := by
  have := Int.emod_lt_of_pos a hn
  have e := Int.emod_eq_tmod (a := a) (b := n)
  by_cases hc : 0 ≤ a ∨ n ∣ a
  · rw [if_pos hc] at e; omega
  · rw [if_neg hc] at e; omega

theorem Ck.nums_at {l : List Nat} {k : Nat} (hk : k < l.length) : (Ck.nums l)[k]? = some (.int .i64 ((l.getD k 0 : Nat) : Int)) := by
  unfold Ck.nums
  rw [List.getElem?_map, List.getElem?_eq_getElem hk, List.getD, List.getElem?_eq_getElem hk]
  rfl

end Go.Proofs.Ytnpdmfhknbfmhaa
