/-
  The project's Whole.
-/
import Derived.Test.YtnpdmfhknbfmhaaChunkWhole
namespace Go.Proofs.Ytnpdmfhknbfmhaa
open Go.RowKit

/-- What Whole answers: all pieces, if they are there. -/
def Ck.Owns (w : World) (tot : Nat) (has : Nat → Bool) (L : Nat → List Int) (e : Ending) (w' : World) : Prop :=
  (∃ v, e = .returned (.tuple #[v, .bool true]) ∧ 0 < tot ∧ (∀ i, i < tot → has i = true) ∧ w'.ownsRow w.heap.size 5 1 v (Ck.cat L tot).length (Ck.bys (Ck.cat L tot)) ∧ w.grownBy w' none) ∨
  (e = .returned (.tuple #[.slice none 0 0, .bool false]) ∧ (tot = 0 ∨ ∃ i, i < tot ∧ has i = false) ∧ w.grownBy w' none)

theorem Ck.own_src {x : World} {base : Nat} {v : Value} {l : List Int} (h : x.ownsRow base 5 1 v l.length (Ck.bys l)) : Ck.Src x v l := by
  rcases h.2 with ⟨e1, e2⟩ | ⟨g, cap, cur, e, _⟩
  · exact .inl ⟨e1, List.length_eq_zero_iff.1 e2⟩
  · exact .inr ⟨⟨g, 0, none⟩, cap, e, fun j u q => h.cells (g := g) (by rw [e]; rfl) j u q⟩

end Go.Proofs.Ytnpdmfhknbfmhaa
