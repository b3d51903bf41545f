/-
  The project's Whole: slices.Grow, slices.Concat.
-/
import Derived.Test.YtnpdmfhknbfmhaaChunkTaker
import Derived.Laws.AppendOwnNone
namespace Go.Proofs.Ytnpdmfhknbfmhaa
open Go.RowKit

/-- n zeros behind no list. -/
theorem run_append_zeros {P : Program} (w : World) (t u ty e : TypeId) (i : TypeInfo) (z : Value) (k : IntKind) (ht : P.underlying t = some (.slice e)) (hu : P.underlying u = some (.int k)) (hi : P.info? e = some i) (hz : i.zero = some z) (h1 : i.size = 1) (hb : i.bytes = 1) (n : Nat) (h0 : 0 < n) (h2 : n ≤ 100000) :
    (Builtin.append_ #[t, u] ty #[.slice none 0 0, .int .i64 (n : Int)]).run P w = .ok (.slice (some ⟨w.heap.size, 0, none⟩) n (grownCap w n 0 e)) (w.drew.alloc (.cells (Builtin.zeroCells z.cells n ++ Builtin.zeroCells z.cells (grownCap w n 0 e - n)) e)) := by
  have hn : n ≠ 0 := by omega
  have hw : IntKind.i64.wrap (n : Int) = (n : Int) := by simp [IntKind.wrap, IntKind.bits, IntKind.signed]; omega
  have h63' : ¬ (9223372036854775807 < (n : Int)) := by omega
  have hneg : ¬ ((n : Int) < 0) := by omega
  have h48 : ¬ (281474976710656 < (n : Int)) := by omega
  have h48' : ¬ (281474976710656 < Builtin.nextslicecap n 0) := by rw [nextslicecap_zero h0]; omega
  simp [Builtin.append_, run_underlying ht, run_underlying hu, sizeOf, typeInfo, zeroValue, hi, hz, h1, hb, asInt, asIntOf, hw, hneg, h48, hn, h63', h48', Question.forced, run_firstCells_none, newRow, grownCap]

theorem wpList_append_run {P : Program} {w y : World} {ops : Array Oper} {rest : List Oper} {o : Oper} {a : Act} {Q : Exit → Act → World → Prop} (hgd : o.guard = none) (s x : Operand) (t u : TypeId)
    (ho : o.op = .call { callee := .builtin .append, args := #[s, x], argTypes := #[t, u] }) (v1 v2 v : Value) (hs : a.eval s = v1) (hx : a.eval x = v2) (hrun : (Builtin.append_ #[t, u] o.type #[v1, v2]).run P w = .ok v y)
    (h : wpList P ops Q rest (a.put o.dst v) y) : wpList P ops Q (o :: rest) a w := by
  refine wpList_plain hgd fun K hK => ?_
  unfold Oper.wp
  simp [execOp, ho, resolve, invoke, builtin, hs, hx, hrun, Result.andThen]
  exact hK _ _ h

/-- Rows of bytes that lie in a block, one behind the other. -/
structure Ck.Rws (x : World) (p off n : Nat) (L : Nat → List Int) (V : Nat → Value) : Prop where
  cell : ∀ i, i < n → x.cell? ⟨p, off + i, none⟩ = some (V i)
  src : ∀ i, i < n → Ck.Src x (V i) (L i)
  len : ∀ i, i < n → (L i).length ≤ 64

theorem Ck.Rws.on {x y : World} {p off n : Nat} {L : Nat → List Int} {V : Nat → Value} (H : Ck.Rws x p off n L V) (hg : x.grownBy y none) : Ck.Rws y p off n L V :=
  ⟨fun i hi => (World.cell?_of_block (hg.block _ (Go.block_lt_of_cell (H.cell i hi)) (by simp))).trans (H.cell i hi), fun i hi => (H.src i hi).on fun ad u q => (World.cell?_of_block (hg.block _ (Go.block_lt_of_cell q) (by simp))).trans q, H.len⟩

structure Ck.Cat (w x : World) (L : Nat → List Int) (v : Value) (k : Nat) : Prop where
  own : x.ownsRow w.heap.size 5 1 v (Ck.cat L k).length (Ck.bys (Ck.cat L k))
  bel : w.grownBy x none

theorem Ck.Cat.more {w x y : World} {L : Nat → List Int} {v v' : Value} {k : Nat} (H : Ck.Cat w x L v k) (hown : y.ownsRow w.heap.size 5 1 v' ((Ck.cat L k).length + (L k).length) (Ck.bys (Ck.cat L k) ++ Ck.bys (L k))) (hg : x.grownBy y v.ownBlock) : Ck.Cat w y L v' (k + 1) := by
  refine ⟨?_, grown_own H.bel hg (fun i e => (H.own.lt i e).1)⟩
  show y.ownsRow _ _ _ _ (Ck.cat L k ++ L k).length (Ck.bys (Ck.cat L k ++ L k))
  rw [List.length_append, Ck.bys_append]
  exact hown

end Go.Proofs.Ytnpdmfhknbfmhaa
