/-
  Monsters: as numbers, and what the program makes.
  Items: as numbers, and what the program makes.
-/
import Derived.Test.YtbploaihicakeaaPart06
import Derived.Test.YtbploaihicakeaaPart01
import Derived.Deep.RegionHeld3
import Derived.Deep.AppendLies
namespace Go.Proofs.Ytbploaihicakeaa
open Go.RowKit

namespace Gn

def kind (d : Dice) (f : Int) (k : Nat) : Int := 2 + d (16 + (k : Int)) 1 (if 3 < f + 1 then 3 else f + 1)

/-- Monsters from number k on, m of them at most, on the cells that are left: kind and cell. -/
def mons (d : Dice) (f : Int) : Nat → Nat → List Nat → List (Int × Nat)
  | 0, _, _ => []
  | m + 1, k, l => if l.length = 0 then [] else (kind d f k, l[(d (7 + (k : Int)) 0 (l.length : Int)).toNat]?.getD 0) :: mons d f m (k + 1) (l.eraseIdx (d (7 + (k : Int)) 0 (l.length : Int)).toNat)

def entCells (p : Int × Nat) : List Value := (Gn.ent p.1 ((p.2 : Int) % 24) ((p.2 : Int) / 24)).toList

def flat (acc : List (Int × Nat)) : List Value := acc.flatMap entCells

theorem flat_len (acc : List (Int × Nat)) : (flat acc).length = acc.length * 11 := by
  induction acc with
  | nil => rfl
  | cons p acc ih =>
    have h : flat (p :: acc) = entCells p ++ flat acc := rfl
    rw [h, List.length_append, ih, List.length_cons]
    have h2 : (entCells p).length = 11 := rfl
    omega

theorem flat_more (acc : List (Int × Nat)) (p : Int × Nat) : flat (acc ++ [p]) = flat acc ++ entCells p := by
  unfold flat
  rw [List.flatMap_append]
  simp

end Gn

theorem info_ent : (Try.prog.info? 36).map (fun i => (i.zero, i.size, i.bytes)) = some (some (.agg #[.int .i64 0, .int .i64 0, .int .i64 0, .int .i64 0, .int .i64 0, .int .i64 0, .int .i64 0, .int .i64 0, .int .i64 0, .int .i64 0, .int .i64 0]), 11, 88) := by kernel_rfl

theorem Arr.lit {w : World} {g : Nat} {T : TypeId} {arr : Array Value} (h : w.heap[g]? = some (.cells arr T (0, 0))) : Arr w g T arr.size (fun j => arr[j]?.getD undef) :=
  ⟨arr, h, rfl, fun i hi => by
    show arr[i]? = some (arr[i]?.getD undef)
    rw [Array.getElem?_eq_getElem hi]
    rfl⟩

theorem ent_news (w : World) (B : Nat) (hB : B = w.heap.size) (a0 a1 a2 a3 a4 a5 a6 a7 a8 a9 a10 : Value) (T : TypeId) : ∀ j u, [a0, a1, a2, a3, a4, a5, a6, a7, a8, a9, a10][j]? = some u → (w.alloc (.cells #[a0, a1, a2, a3, a4, a5, a6, a7, a8, a9, a10] T)).cell? ((⟨B, 0, none⟩ : Addr).add j) = some u := by
  subst hB
  intro j u hj
  have hlt : j < 11 := by
    have := (List.getElem?_eq_some_iff.1 hj).1
    exact this
  rcases (show j = 0 ∨ j = 1 ∨ j = 2 ∨ j = 3 ∨ j = 4 ∨ j = 5 ∨ j = 6 ∨ j = 7 ∨ j = 8 ∨ j = 9 ∨ j = 10 by omega) with rfl | rfl | rfl | rfl | rfl | rfl | rfl | rfl | rfl | rfl | rfl
  all_goals
    simp at hj
    subst hj
    simp [Addr.add]

theorem owns_mono {w : World} {b b' : Nat} {e : TypeId} {z n : Nat} {v : Value} {xs : List Value} (h : w.ownsRow b e z v n xs) (hb : b' ≤ b) : w.ownsRow b' e z v n xs := by
  refine ⟨h.1, ?_⟩
  rcases h.2 with h | ⟨g, cap, cur, hv, hg, rest⟩
  · exact .inl h
  · exact .inr ⟨g, cap, cur, hv, by omega, rest⟩

theorem Gn.mons_len (d : Gn.Dice) (f : Int) : ∀ (m k : Nat) (l : List Nat), (Gn.mons d f m k l).length ≤ m
  | 0, _, _ => Nat.le_refl _
  | m + 1, k, l => by
    unfold Gn.mons
    split
    · exact Nat.zero_le _
    · have := Gn.mons_len d f m (k + 1) (l.eraseIdx (d (7 + (k : Int)) 0 (l.length : Int)).toNat)
      simp only [List.length_cons]
      omega

end Go.Proofs.Ytbploaihicakeaa

namespace Go.Proofs.Ytbploaihicakeaa
open Go.RowKit

namespace Gn

/-- Kind, where, A, B. -/
abbrev Itm := Int × Int × Int × Int

/-- Items from number k on, m of them at most, on the cells that are left. -/
def lie (d : Dice) : Nat → Nat → List Nat → List Itm
  | 0, _, _ => []
  | m + 1, k, l => if l.length = 0 then [] else (1 + d (40 + (k : Int)) 1 4, 1, ((l[(d (40 + (k : Int)) 0 (l.length : Int)).toNat]?.getD 0 : Nat) : Int) % 24, ((l[(d (40 + (k : Int)) 0 (l.length : Int)).toNat]?.getD 0 : Nat) : Int) / 24) :: lie d m (k + 1) (l.eraseIdx (d (40 + (k : Int)) 0 (l.length : Int)).toNat)

/-- The first k wares. -/
def wares (d : Dice) (k : Nat) : List Itm := (List.range k).map fun (j : Nat) => (1 + d (50 + (j : Int)) 1 3, 4, (j : Int), 0)

def items (d : Dice) (c : Nat → Int) : List Itm := lie d 4 0 (those (fun i => c i == 1) 384) ++ if Gr.find 384 c 5 < 0 then [] else wares d 3

def itemCells (p : Itm) : List Value := [.int .i64 p.1, .int .i64 p.2.1, .int .i64 p.2.2.1, .int .i64 p.2.2.2]

def flatI (acc : List Itm) : List Value := acc.flatMap itemCells

theorem flatI_len (acc : List Itm) : (flatI acc).length = acc.length * 4 := by
  induction acc with
  | nil => rfl
  | cons p acc ih =>
    have h : flatI (p :: acc) = itemCells p ++ flatI acc := rfl
    rw [h, List.length_append, ih, List.length_cons]
    have h2 : (itemCells p).length = 4 := rfl
    omega

theorem flatI_more (acc : List Itm) (p : Itm) : flatI (acc ++ [p]) = flatI acc ++ itemCells p := by
  unfold flatI
  rw [List.flatMap_append]
  simp

theorem wares_more (d : Dice) (k : Nat) : wares d (k + 1) = wares d k ++ [(1 + d (50 + (k : Int)) 1 3, 4, (k : Int), 0)] := by
  unfold wares
  rw [List.range_succ, List.map_append]
  rfl

theorem lie_len (d : Dice) : ∀ (m k : Nat) (l : List Nat), (lie d m k l).length ≤ m
  | 0, _, _ => Nat.le_refl _
  | m + 1, k, l => by
    unfold lie
    split
    · exact Nat.zero_le _
    · have := lie_len d m (k + 1) (l.eraseIdx (d (40 + (k : Int)) 0 (l.length : Int)).toNat)
      simp only [List.length_cons]
      omega

end Gn

theorem info_item : (Try.prog.info? 57).map (fun i => (i.zero, i.size, i.bytes)) = some (some (.agg #[.int .i64 0, .int .i64 0, .int .i64 0, .int .i64 0]), 4, 32) := by kernel_rfl

theorem item_news (w : World) (B : Nat) (hB : B = w.heap.size) (a0 a1 a2 a3 : Value) (T : TypeId) : ∀ j u, [a0, a1, a2, a3][j]? = some u → (w.alloc (.cells #[a0, a1, a2, a3] T)).cell? ((⟨B, 0, none⟩ : Addr).add j) = some u := by
  subst hB
  intro j u hj
  have hlt : j < 4 := (List.getElem?_eq_some_iff.1 hj).1
  rcases (show j = 0 ∨ j = 1 ∨ j = 2 ∨ j = 3 by omega) with rfl | rfl | rfl | rfl
  all_goals
    simp at hj
    subst hj
    simp [Addr.add]

end Go.Proofs.Ytbploaihicakeaa
