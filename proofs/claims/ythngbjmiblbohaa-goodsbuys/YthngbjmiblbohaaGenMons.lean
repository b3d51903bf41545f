/-
  Monsters: as numbers, and what the program makes.
-/
import Derived.Test.YthngbjmiblbohaaGenDel
import Derived.Test.YthngbjmiblbohaaGenStairs
namespace Go.Proofs.Ythngbjmiblbohaa
open Go.RowKit

namespace Gn

def kind (d : Dice) (f : Int) (k : Nat) : Int := 2 + d (16 + (k : Int)) 1 (if 3 < f + 1 then 3 else f + 1)

/-- Monsters from number k on, m of them at most, on the cells that are left: kind and cell. -/
def mons (d : Dice) (f : Int) : Nat → Nat → List Nat → List (Int × Nat)
  | 0, _, _ => []
  | m + 1, k, l => if l.length = 0 then [] else (kind d f k, l[(d (7 + (k : Int)) 0 (l.length : Int)).toNat]?.getD 0) :: mons d f m (k + 1) (l.eraseIdx (d (7 + (k : Int)) 0 (l.length : Int)).toNat)

def entCells (p : Int × Nat) : List Value := (Gn.ent p.1 ((p.2 : Int) % 24) ((p.2 : Int) / 24)).toList

def flat (acc : List (Int × Nat)) : List Value := acc.flatMap entCells

theorem flat_len (acc : List (Int × Nat)) : (flat acc).length = acc.length * 11 := by
  induction acc with
  | nil => rfl
  | cons p acc ih =>
    have h : flat (p :: acc) = entCells p ++ flat acc := rfl
    rw [h, List.length_append, ih, List.length_cons]
    have h2 : (entCells p).length = 11 := rfl
    omega

theorem flat_more (acc : List (Int × Nat)) (p : Int × Nat) : flat (acc ++ [p]) = flat acc ++ entCells p := by
  unfold flat
  rw [List.flatMap_append]
  simp

end Gn

theorem info_ent : (Try.prog.info? 50).map (fun i => (i.zero, i.size, i.bytes)) = some (some (.agg #[.int .i64 0, .int .i64 0, .int .i64 0, .int .i64 0, .int .i64 0, .int .i64 0, .int .i64 0, .int .i64 0, .int .i64 0, .int .i64 0, .int .i64 0]), 11, 88) := by kernel_rfl

theorem Arr.lit {w : World} {g : Nat} {T : TypeId} {arr : Array Value} (h : w.heap[g]? = some (.cells arr T (0, 0))) : Arr w g T arr.size (fun j => arr[j]?.getD undef) :=
  ⟨arr, h, rfl, fun i hi => by
    show arr[i]? = some (arr[i]?.getD undef)
    rw [Array.getElem?_eq_getElem hi]
    rfl⟩

theorem ent_news (w : World) (B : Nat) (hB : B = w.heap.size) (a0 a1 a2 a3 a4 a5 a6 a7 a8 a9 a10 : Value) (T : TypeId) : ∀ j u, [a0, a1, a2, a3, a4, a5, a6, a7, a8, a9, a10][j]? = some u → (w.alloc (.cells #[a0, a1, a2, a3, a4, a5, a6, a7, a8, a9, a10] T)).cell? ((⟨B, 0, none⟩ : Addr).add j) = some u := by
  subst hB
  intro j u hj
  have hlt : j < 11 := by
    have := (List.getElem?_eq_some_iff.1 hj).1
    exact this
  rcases (show j = 0 ∨ j = 1 ∨ j = 2 ∨ j = 3 ∨ j = 4 ∨ j = 5 ∨ j = 6 ∨ j = 7 ∨ j = 8 ∨ j = 9 ∨ j = 10 by omega) with rfl | rfl | rfl | rfl | rfl | rfl | rfl | rfl | rfl | rfl | rfl
  all_goals
    simp at hj
    subst hj
    simp [Addr.add]

theorem owns_mono {w : World} {b b' : Nat} {e : TypeId} {z n : Nat} {v : Value} {xs : List Value} (h : w.ownsRow b e z v n xs) (hb : b' ≤ b) : w.ownsRow b' e z v n xs := by
  refine ⟨h.1, ?_⟩
  rcases h.2 with h | ⟨g, cap, cur, hv, hg, rest⟩
  · exact .inl h
  · exact .inr ⟨g, cap, cur, hv, by omega, rest⟩

theorem Gn.mons_len (d : Gn.Dice) (f : Int) : ∀ (m k : Nat) (l : List Nat), (Gn.mons d f m k l).length ≤ m
  | 0, _, _ => Nat.le_refl _
  | m + 1, k, l => by
    unfold Gn.mons
    split
    · exact Nat.zero_le _
    · have := Gn.mons_len d f m (k + 1) (l.eraseIdx (d (7 + (k : Int)) 0 (l.length : Int)).toNat)
      simp only [List.length_cons]
      omega

end Go.Proofs.Ythngbjmiblbohaa
