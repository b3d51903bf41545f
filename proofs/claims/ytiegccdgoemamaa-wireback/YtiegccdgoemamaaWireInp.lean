/-
  A datagram that came in, as it is handed in.
-/
import Derived.Test.YtiegccdgoemamaaWireFit
import Derived.Test.YtiegccdgoemamaaWireArgs
namespace Go.Proofs.Ytiegccdgoemamaa
open Go.RowKit

def Wr.M.g (m : Wr.M) : Wr.G := ⟨m.n, m.watch, m.bits, m.row, m.recs, m.data⟩

theorem Wr.Came.inp {w : World} {m : Wr.M} (h : Wr.Came w m) (hU : (∀ i, i < 5 → (m.row i).2.1 ≤ 1048576) ∧ m.recs.2.1 ≤ 1048576 ∧ m.data.2.1 ≤ 1048576) : Wr.Inp w m.g m.rz (fun i j => if j < 5 then m.cz i j else 0) (fun i => m.dl.getD i 0) := by
  refine ⟨hU, h.bit, fun j hj => ⟨hU.1 j hj, (h.rows j hj).2⟩, ⟨hU.2.1, fun e => ?_, fun i hi => ?_, fun i j hi => ?_⟩, ⟨hU.2.2, fun i hi => ?_⟩, ?_⟩
  · rcases Nat.eq_zero_or_pos m.recs.2.1 with e0 | e0
    · exact e0
    · obtain ⟨b, o, q, -⟩ := h.recs.2 0 e0
      have e' : m.recs.1 = none := e
      rw [e'] at q
      cases q
  · obtain ⟨b, o, q1, q2, q3⟩ := h.recs.2 i hi
    exact ⟨b, o, q1, q2, fun j hj => by show _ = some (Value.int .i64 (if j < 5 then m.cz i j else 0)); rw [if_pos hj]; exact (q3 j hj).1⟩
  · have hi' : i < m.recs.2.1 := hi
    obtain ⟨b, o, q1, q2, q3⟩ := h.recs.2 i hi'
    show _ ≤ (if j < 5 then m.cz i j else 0) ∧ (if j < 5 then m.cz i j else 0) ≤ _
    by_cases hj : j < 5
    · rw [if_pos hj]; exact (q3 j hj).2
    · rw [if_neg hj]; omega
  · have hi' : i < m.data.2.1 := hi
    rcases h.data with ⟨_, e, _⟩ | ⟨e1, e2, e3, e4, x, ex, e5⟩
    · omega
    · have hc := e5 i hi'
      obtain ⟨b, off, spot⟩ := x
      have hspot : spot = none := by simpa [Addr.add] using World.cell?_spot (e5 0 (by omega))
      subst hspot
      rw [Go.WideShapes.add_plain] at hc
      refine ⟨b, off, ex, Go.block_lt_of_cell hc, hc, ?_⟩
      have hl : i < m.dl.length := by omega
      show 0 ≤ m.dl.getD i 0 ∧ m.dl.getD i 0 ≤ 255
      rw [List.getD_eq_getElem?_getD, List.getElem?_eq_getElem hl]
      exact e4 _ (List.getElem_mem hl)
  · rcases h.data with ⟨_, e1, e2, _⟩ | ⟨_, e2, _⟩
    · show m.data.2.1 ≤ m.data.2.2
      omega
    · exact e2

end Go.Proofs.Ytiegccdgoemamaa
