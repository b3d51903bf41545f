/-
  A hero that falls leaves nothing in bag or hand.
-/
import Derived.Test.YtgkomdpceilggaaPart32
namespace Go.Proofs.Ytgkomdpceilggaa
open Go.RowKit

theorem run_ne_free (g : Int) (w : World) : (binOp .neq 47 (.agg #[.int .i64 0, .int .i64 g, .int .i64 0, .int .i64 0, .int .i64 0, .int .i64 0, .int .i64 0, .int .i64 0, .int .i64 0, .int .i64 0, .int .i64 0]) (.agg #[.int .i64 0, .int .i64 g, .int .i64 0, .int .i64 0, .int .i64 0, .int .i64 0, .int .i64 0, .int .i64 0, .int .i64 0, .int .i64 0, .int .i64 0])).run Try.prog w = .ok (.bool false) w := by
  simp [go_sem]

namespace Ft

/-- The hero of seat 0 is there, or nothing is in its bag or hand. -/
def Clean (E I : Nat → Nat → Int) : Prop := (∃ k, k < 32 ∧ E k 0 = 1 ∧ E k 2 = 0) ∨ ∀ j, ¬ ((I j 1 = 2 ∨ I j 1 = 3) ∧ I j 2 = 0)

theorem Clean.set {E I : Nat → Nat → Int} (h : Clean E I) {k j : Nat} {v : Int} (h0 : j ≠ 0) (h2 : j ≠ 2) : Clean (Gd.set E k j v) I := by
  rcases h with ⟨i, hi, a, b⟩ | h
  · exact .inl ⟨i, hi, by rw [Gd.set_other (by omega)]; exact a, by rw [Gd.set_other (by omega)]; exact b⟩
  · exact .inr h

theorem sweep_keeps {I : Nat → Nat → Int} (seat : Int) (h : ∀ j, ¬ ((I j 1 = 2 ∨ I j 1 = 3) ∧ I j 2 = 0)) (j : Nat) : ¬ ((Gd.sweep I seat j 1 = 2 ∨ Gd.sweep I seat j 1 = 3) ∧ Gd.sweep I seat j 2 = 0) := by
  unfold Gd.sweep
  split
  · intro h
    have h' : ((0 : Int) = 2 ∨ (0 : Int) = 3) := h.1
    omega
  · exact h j

theorem Clean.hurt {E I : Nat → Nat → Int} (h : Clean E I) (k : Nat) (n : Int) : Clean (hurtE E k n) (hurtI E I k n) := by
  unfold hurtE hurtI
  by_cases hlt : n < E k 5
  · rw [if_pos hlt, if_pos hlt]
    exact h.set (by omega) (by omega)
  · rw [if_neg hlt, if_neg hlt]
    rcases h with ⟨i, hi, a, b⟩ | h
    · by_cases e : i = k
      · subst e
        rw [if_pos a, b]
        exact .inr fun j => Gd.sweep_clean I 0 j
      · refine .inl ⟨i, hi, ?_, ?_⟩
        · rw [En.put_other e]; exact a
        · rw [En.put_other e]; exact b
    · right
      split
      · exact sweep_keeps _ h
      · exact h

theorem Clean.leave {E I : Nat → Nat → Int} (h : Clean E I) (s : Nat → Int) (f t : Nat) : Clean (leaveE s E f t) I := by
  unfold leaveE
  split
  · exact h.set (by omega) (by omega)
  · split
    · exact h.set (by omega) (by omega)
    · exact h

theorem Clean.hit {E I : Nat → Nat → Int} (h : Clean E I) (s : Nat → Int) (f t : Int) : Clean (hitE s E I f t) (hitI s E I f t) := by
  unfold hitE hitI
  split
  · unfold blowE blowI
    split
    · exact (h.hurt _ _).leave s _ _
    · exact h.hurt _ _
  · exact h

theorem Clean.one {E I : Nat → Nat → Int} (h : Clean E I) (k : Nat) : Clean (oneE E k) (oneI E I k) := by
  have hs : Clean (stunE E k) I := by
    unfold stunE
    split
    · exact h.set (by omega) (by omega)
    · exact h
  unfold oneE oneI
  split
  · exact (hs.set (j := 9) (by omega) (by omega)).hurt _ _
  · exact hs

theorem Clean.ail {E I : Nat → Nat → Int} (h : Clean E I) : ∀ m, Clean (ailE E I m).1 (ailE E I m).2
  | 0 => h
  | m + 1 => by
    have ih := h.ail m
    unfold ailE
    split
    · exact ih.one m
    · exact ih

theorem Clean.born {E I : Nat → Nat → Int} (h : 0 ≤ Gd.hero E 0) : Clean E I := by
  obtain ⟨k, hk, _, h2, h0⟩ := Gd.hero_pos h
  exact .inl ⟨k, hk, h0, h2⟩

theorem Clean.gone {E I : Nat → Nat → Int} (h : Clean E I) (hn : Gd.hero E 0 < 0) : ∀ j, ¬ ((I j 1 = 2 ∨ I j 1 = 3) ∧ I j 2 = 0) := by
  rcases h with ⟨k, hk, h0, h2⟩ | h
  · have := Gd.hero_some hk h0 h2
    omega
  · exact h

end Ft

end Go.Proofs.Ytgkomdpceilggaa
