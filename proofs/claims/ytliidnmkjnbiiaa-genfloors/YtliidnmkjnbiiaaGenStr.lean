/-
  Bytes of a floor as a text.
-/
import Derived.Test.YtliidnmkjnbiiaaGenKnown
import Derived.Laws.BytesArg
namespace Go.Proofs.Ytliidnmkjnbiiaa
open Go.RowKit

def Gn.text (c : Nat → Int) : ByteArray := strOfNums ((List.range 384).map c)

theorem Arr.text {w : World} {G : Nat} {c : Nat → Int} (h : Arr w G 5 384 (Byts c)) : (convert 23 9 (.slice (some ⟨G, 0, none⟩) 384 384)).run Try.prog w = .ok (.string (Gn.text c)) w := by
  refine run_convert_bytes_arg w 23 5 Try.underlying23 Try.underlying5 G 0 384 384 ((List.range 384).map c) (by simp) (fun i hi => ?_) 9 Try.underlying9
  rw [Nat.zero_add, h.cell hi]
  show some (Value.int .u8 (c i)) = _
  simp [List.getD, List.getElem?_map, List.getElem?_range hi]

theorem Arr.three {w : World} {g : Nat} {T : TypeId} {F : Nat → Value} (h : Arr w g T 3 F) : w.cell? ⟨g, 0, none⟩ = some (F 0) ∧ w.cell? ⟨g, 1, none⟩ = some (F 1) ∧ w.cell? ⟨g, 2, none⟩ = some (F 2) := ⟨h.cell (by omega), h.cell (by omega), h.cell (by omega)⟩

theorem grown_belowAll {w w' : World} (h : w.grownBy w' none) : Below w.heap.size w w' := ⟨h.os, h.tape, h.output, h.size, fun k hk => h.block k hk (by simp)⟩

theorem upd_back (c : Nat → Int) (k : Nat) (v : Int) : Gr.upd (Gr.upd c k v) k (c k) = c := by
  funext i
  unfold Gr.upd
  split
  · rename_i h; rw [h]
  · rfl

end Go.Proofs.Ytliidnmkjnbiiaa
