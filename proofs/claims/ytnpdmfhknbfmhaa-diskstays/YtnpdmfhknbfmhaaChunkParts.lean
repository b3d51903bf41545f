/-
  The project's Split.
-/
import Derived.Test.YtnpdmfhknbfmhaaChunkSmall
namespace Go.Proofs.Ytnpdmfhknbfmhaa
open Go.RowKit

/-- One more piece is made of bytes that lie there, and laid behind the others. -/
theorem Ck.Sp.more {w x y z0 z : World} {l pl : List Int} {v v' u : Value} {Vs : List Value} {ps : List (List Int)} (H : Ck.Lies x w.heap.size v Vs ps) (hl : Vs.length = ps.length) (hb : w.grownBy x none) (hxy : x.grownBy y none) (hu : y.ownsRow x.heap.size 5 1 u pl.length (Ck.bys pl)) (hn : u ≠ .slice none 0 0) (hyz : y.grownBy z0 none) (hown : z.ownsRow w.heap.size 31 1 v' (ps.length + 1) (Vs ++ [u])) (hg : z0.grownBy z v.ownBlock) (hpl : l = pl) :
    (∃ Vs', Vs'.length = (ps ++ [l]).length ∧ Ck.Lies z w.heap.size v' Vs' (ps ++ [l])) ∧ w.grownBy z none := by
  subst hpl
  have hu2 : y.ownsRow w.heap.size 5 1 u l.length (Ck.bys l) := by
    obtain ⟨h1, h2⟩ := hu
    refine ⟨h1, ?_⟩
    rcases h2 with h2 | ⟨g, cap, cur, rfl, hg, hc⟩
    · exact .inl h2
    · exact .inr ⟨g, cap, cur, rfl, Nat.le_trans hb.size hg, hc⟩
  refine ⟨⟨Vs ++ [u], by rw [List.length_append, List.length_append, hl]; rfl, H.more hxy hu2 hn hyz hown hg hl⟩, ?_⟩
  exact grown_own (grown_trans hb (grown_trans hxy hyz)) hg (fun i e => (H.own.lt i e).1)

end Go.Proofs.Ytnpdmfhknbfmhaa
