/-
  The greatest of a row, where it stands first, and the cells that are floor.
-/
import Derived.Test.YthngbjmiblbohaaGenRegion
import Derived.Deep.LoopGhost
namespace Go.Proofs.Ythngbjmiblbohaa
open Go.RowKit

/-- The greatest of F 0 to F n. -/
def Gn.most (F : Nat → Int) : Nat → Int
  | 0 => F 0
  | n + 1 => if F (n + 1) > Gn.most F n then F (n + 1) else Gn.most F n

theorem Gn.most_ge (F : Nat → Int) (n i : Nat) (h : i ≤ n) : F i ≤ Gn.most F n := by
  induction n with
  | zero => obtain rfl : i = 0 := by omega
            exact Int.le_refl _
  | succ n ih =>
    unfold Gn.most
    by_cases e : i = n + 1
    · subst e; split <;> omega
    · have := ih (by omega)
      split <;> omega

theorem Gn.most_is (F : Nat → Int) (n : Nat) : ∃ i, i ≤ n ∧ F i = Gn.most F n := by
  induction n with
  | zero => exact ⟨0, Nat.le_refl _, rfl⟩
  | succ n ih =>
    obtain ⟨i, hi, he⟩ := ih
    by_cases h : F (n + 1) > Gn.most F n
    · exact ⟨n + 1, Nat.le_refl _, by rw [Gn.most, if_pos h]⟩
    · exact ⟨i, by omega, by rw [Gn.most, if_neg h]; exact he⟩

/-- The numbers below n of which p holds, in order. -/
def Gn.those (p : Nat → Bool) (n : Nat) : List Nat := (List.range n).filter p

theorem Gn.those_yes {p : Nat → Bool} {n : Nat} (h : p n = true) : Gn.those p (n + 1) = Gn.those p n ++ [n] := by
  unfold Gn.those
  rw [List.range_succ, List.filter_append, List.filter_cons_of_pos h, List.filter_nil]

theorem Gn.those_no {p : Nat → Bool} {n : Nat} (h : p n = false) : Gn.those p (n + 1) = Gn.those p n := by
  unfold Gn.those
  rw [List.range_succ, List.filter_append, List.filter_cons_of_neg (by simp [h]), List.filter_nil, List.append_nil]

theorem Gn.those_len (p : Nat → Bool) (n : Nat) : (Gn.those p n).length ≤ n := by
  have h := List.length_filter_le p (List.range n)
  rw [List.length_range] at h
  exact h

/-- A list of numbers in a block of the call's own. -/
def Lst (w : World) (base : Nat) (v : Value) (l : List Nat) : Prop := w.ownsRow base 3 1 v l.length ((natInts l).map (Value.int .i64))

end Go.Proofs.Ythngbjmiblbohaa
