/-
  The project's taker: NewTaker, Bits, Put.
-/
import Derived.Test.YtnpdmfhknbfmhaaChunkSmall
namespace Go.Proofs.Ytnpdmfhknbfmhaa
open Go.RowKit

theorem Ck.own_off {x : World} {base p n m : Nat} {T U : TypeId} {z : Nat} {F : Nat → Value} {v : Value} {xs : List Value} (hA : Arr x p T n F) (h : x.ownsRow base U z v m xs) (hT : T ≠ U) : ∀ k, v.ownBlock = some k → k ≠ p := by
  rintro k e rfl
  obtain ⟨cur, hc, _⟩ := hA
  rcases h.2 with ⟨rfl, _⟩ | ⟨g, cap, cur', rfl, _, hc', _⟩
  · cases e
  · simp [Value.ownBlock] at e
    subst e
    rw [hc] at hc'
    simp only [Option.some.injEq, Obj.cells.injEq] at hc'
    exact hT hc'.2.1

theorem Ck.Src.turn {x y : World} {v : Value} {l : List Int} {p : Nat} (h : Ck.Src x v l) (ht : Turn (fun k => k = p) x y) (hsp : ∀ ad cap, v = .slice (some ad) l.length cap → 0 < l.length → ad.block ≠ p) : Ck.Src y v l := by
  rcases h with h | ⟨ad, c, e, h2⟩
  · exact .inl h
  · refine .inr ⟨ad, c, e, fun j u q => ?_⟩
    have hjl : j < l.length := by
      have := (List.getElem?_eq_some_iff.1 q).1
      unfold Ck.bys at this
      simpa using this
    have hne := hsp ad c e (by omega)
    have hb : (ad.add j).block = ad.block := by unfold Addr.add; split <;> rfl
    have h3 := h2 j u q
    exact (World.cell?_of_block (ht.block _ (Go.block_lt_of_cell h3) (by rw [hb]; exact hne))).trans h3

end Go.Proofs.Ytnpdmfhknbfmhaa
