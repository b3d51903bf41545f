/-
  The document's taker: Bits, Whole, Put.
-/
import Derived.Test.YtnpdmfhknbfmhaaChunkMath
import Derived.Test.YtnpdmfhknbfmhaaTurn
import Derived.Test.YtnpdmfhknbfmhaaTill
import Derived.Handy
import Derived.Deep.QuietTactic
import Derived.BigQuiet
import Derived.Deep.Cut
import Derived.Deep.CutRange
import Derived.Deep.CutBlock
namespace Go.Proofs.Ytnpdmfhknbfmhaa
open Go.RowKit

theorem owns_turned {B : Nat → Prop} {x y : World} {base : Nat} {T : TypeId} {z : Nat} {v : Value} {n : Nat} {xs : List Value} (h : x.ownsRow base T z v n xs) (ht : Turn B x y) (hb : ∀ k, v.ownBlock = some k → ¬ B k) : y.ownsRow base T z v n xs := by
  obtain ⟨h1, h2⟩ := h
  refine ⟨h1, ?_⟩
  rcases h2 with h2 | ⟨g, cap, cur, rfl, hg, hc, hr⟩
  · exact .inl h2
  · refine .inr ⟨g, cap, cur, rfl, hg, ?_, hr⟩
    exact (ht.block g (Array.getElem?_eq_some_iff.1 hc).1 (hb g rfl)).trans hc

/-- The bytes of a list as they lie. -/
def Ck.bys (l : List Int) : List Value := l.map (Value.int .u8)

/-- The number whose bits say which pieces are there. -/
def Ck.num (has : Nat → Bool) : Nat → Int
  | 0 => 0
  | k + 1 => if has k = true then bits .or .u32 (Ck.num has k) (2 ^ k) else Ck.num has k

theorem info_by : (Try.prog.info? 5).map (fun i => (i.zero, i.size, i.bytes)) = some (some (.int .u8 0), 1, 1) := by kernel_rfl

/-- All pieces up to k, one behind the other. -/
def Ck.cat (L : Nat → List Int) : Nat → List Int
  | 0 => []
  | k + 1 => Ck.cat L k ++ L k

theorem Ck.cat_len {L : Nat → List Int} : ∀ {k : Nat}, (∀ i, i < k → (L i).length ≤ 64) → (Ck.cat L k).length ≤ 64 * k
  | 0, _ => Nat.le_refl _
  | k + 1, h => by
    have ih := Ck.cat_len (L := L) (k := k) (fun i hi => h i (by omega))
    have h1 := h k (by omega)
    show (Ck.cat L k ++ L k).length ≤ _
    rw [List.length_append]
    omega

theorem Ck.bys_append (a b : List Int) : Ck.bys (a ++ b) = Ck.bys a ++ Ck.bys b := List.map_append

/-- What Whole answers: all pieces, if they are there. -/
def Ck.Wholes (w : World) (tot : Nat) (has : Nat → Bool) (L : Nat → List Int) (e : Ending) (w' : World) : Prop :=
  (∃ v, e = .returned (.tuple #[v, .bool (decide (0 < tot))]) ∧ (∀ i, i < tot → has i = true) ∧ w'.ownsRow w.heap.size 5 1 v (Ck.cat L tot).length (Ck.bys (Ck.cat L tot)) ∧ w.grownBy w' none) ∨
  (e = .returned (.tuple #[.slice none 0 0, .bool false]) ∧ (∃ i, i < tot ∧ has i = false) ∧ w.grownBy w' none)

end Go.Proofs.Ytnpdmfhknbfmhaa
