/-
  What the small functions of ents, of the document said again, and of the law package answer.
-/
import Derived.Test.YtiegccdgoemamaaEntMem
namespace Go.Proofs.Ytiegccdgoemamaa
open Go.RowKit

theorem Gr.within_neg (a n : Int) (hn : 0 < n) (h : a.tmod n < 0) : a.tmod n + n = a % n := by
  have := Int.emod_nonneg a (b := n) (by omega)
  have := Int.emod_lt_of_pos a hn
  have e := Int.emod_eq_tmod (a := a) (b := n)
  by_cases hc : 0 ≤ a ∨ n ∣ a
  · rw [if_pos hc] at e; omega
  · rw [if_neg hc] at e; omega

theorem Gr.within_pos (a n : Int) (hn : 0 < n) (h : ¬ a.tmod n < 0) : a.tmod n = a % n := by
  have := Int.emod_lt_of_pos a hn
  have e := Int.emod_eq_tmod (a := a) (b := n)
  by_cases hc : 0 ≤ a ∨ n ∣ a
  · rw [if_pos hc] at e; omega
  · rw [if_neg hc] at e; omega

def En.isRow (n : Nat) (row : Int) : Bool := decide (0 ≤ row ∧ row < n)

/-- A row's id: -1, if there is no such row, or it is free. -/
def En.id (n : Nat) (E : Nat → Nat → Int) (row : Int) : Int := if 0 ≤ row ∧ row < n ∧ E row.toNat 0 ≠ 0 then row + 32 * E row.toNat 1 else -1

theorem En.id_at {n : Nat} {E : Nat → Nat → Int} {k : Nat} (hk : k < n) (h : E k 0 ≠ 0) : En.id n E (k : Int) = (k : Int) + 32 * E k 1 := by
  unfold En.id
  rw [Int.toNat_natCast, if_pos ⟨by omega, by omega, h⟩]

theorem En.id_free {n : Nat} {E : Nat → Nat → Int} {k : Nat} (h : E k 0 = 0) : En.id n E (k : Int) = -1 := by
  unfold En.id
  rw [Int.toNat_natCast, if_neg (by rintro ⟨_, _, h'⟩; exact h' h)]

theorem En.id_out {n : Nat} {E : Nat → Nat → Int} {row : Int} (h : ¬ (0 ≤ row ∧ row < n)) : En.id n E row = -1 := by
  unfold En.id
  rw [if_neg (by rintro ⟨h1, h2, _⟩; exact h ⟨h1, h2⟩)]

/-- Gen is 0 to 255. -/
def En.Gens (n : Nat) (E : Nat → Nat → Int) : Prop := ∀ i, i < n → 0 ≤ E i 1 ∧ E i 1 ≤ 255

end Go.Proofs.Ytiegccdgoemamaa
