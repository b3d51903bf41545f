/-
  The document's sender: NewSender, Next, Ack, Done.
-/
import Derived.Test.YtnpdmfhknbfmhaaChunkMath
import Derived.Test.YtnpdmfhknbfmhaaTurn
import Derived.Handy
import Derived.Deep.Cut
import Derived.Deep.CutRange
import Derived.Deep.CutBlock
namespace Go.Proofs.Ytnpdmfhknbfmhaa
open Go.RowKit

def Ck.blocks (p h : Nat) : Nat → Prop := fun k => k = p ∨ k = h

theorem info_mark : (Try.prog.info? 4).map (fun i => (i.zero, i.size, i.bytes)) = some (some (.bool false), 1, 1) := by kernel_rfl

def Ck.nums (l : List Nat) : List Value := l.map fun (i : Nat) => Value.int .i64 (i : Int)

theorem Ck.news (w : World) (a : Value) (T : TypeId) : ∀ j u, [a][j]? = some u → (w.alloc (.cells #[a] T)).cell? ((⟨w.heap.size, 0, none⟩ : Addr).add j) = some u := by
  intro j u hj
  have hlt : j < 1 := (List.getElem?_eq_some_iff.1 hj).1
  obtain rfl : j = 0 := by omega
  simp at hj
  subst hj
  simp [Addr.add, go_sem]

end Go.Proofs.Ytnpdmfhknbfmhaa
