/-
  A scope in which the run jumps back to one label, the measure being a number of one's own.
-/
import Derived.Test.YthngbjmiblbohaaGridMem
import Derived.ScopeJumps
import Derived.WalkMore
namespace Go.Proofs.Ythngbjmiblbohaa
open Go.RowKit

theorem least (p : Nat → Prop) (k : Nat) (h : p k) : ∃ m, p m ∧ ∀ j, p j → m ≤ j := by
  induction k using Nat.strongRecOn with
  | _ k ih =>
    by_cases hc : ∃ j, j < k ∧ p j
    · obtain ⟨j, hj, hp⟩ := hc
      exact ih j hj hp
    · exact ⟨k, h, fun j hp => by by_cases hjk : k ≤ j; exact hjk; exact absurd ⟨j, by omega, hp⟩ hc⟩

theorem least_spec (p : Nat → Prop) (k : Nat) (h : p k) : p (@Classical.epsilon Nat ⟨0⟩ fun m => p m ∧ ∀ j, p j → m ≤ j) ∧ ∀ j, p j → (@Classical.epsilon Nat ⟨0⟩ fun m => p m ∧ ∀ j, p j → m ≤ j) ≤ j :=
  Classical.epsilon_spec (p := fun m => p m ∧ ∀ j, p j → m ≤ j) (least p k h)

/-- A scope in which the run jumps back to one label; the measure is a number of one's own. -/
theorem wp_scope_ghost {P : Program} {a : Act} {w : World} {Q : Exit → Act → World → Prop} {c rest : Code} (l : Nat) (J : Nat → Act → World → Prop) (hf : findLabel c l = some rest)
    (first : c.wp P (Exit.jump l (fun a w => ∃ k, J k a w) Q) a w)
    (pass : ∀ k a w, J k a w → rest.wp P (Exit.jump l (fun a' w' => ∃ k', k' < k ∧ J k' a' w') Q) a w) : (Code.scope c).wp P Q a w := by
  refine wp_scope_jumps l (fun a w => ∃ k, J k a w) (fun a w => @Classical.epsilon Nat ⟨0⟩ fun m => J m a w ∧ ∀ j, J j a w → m ≤ j) hf first ?_
  rintro a w ⟨k, hk⟩
  obtain ⟨h1, h2⟩ := least_spec (fun k => J k a w) k hk
  refine Code.wp_mono ?_ (pass _ a w h1)
  intro e a' w' hq
  cases e with
  | goto l' =>
    obtain ⟨hl, k', hk', hJ⟩ := hq
    exact ⟨hl, ⟨k', hJ⟩, Nat.lt_of_le_of_lt ((least_spec (fun k => J k a' w') k' hJ).2 k' hJ) hk'⟩
  | normal => exact hq
  | exit _ => exact hq
  | ret => exact hq
  | panic _ => exact hq
  | outgrown => exact hq

end Go.Proofs.Ythngbjmiblbohaa
