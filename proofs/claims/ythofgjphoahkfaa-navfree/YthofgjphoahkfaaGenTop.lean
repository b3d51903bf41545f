/-
  Monsters: as numbers, and what the program makes.
  Items: as numbers, and what the program makes.
  The program's rooms: what it lays, and the middles that it tells.
  All corridors of a floor.
  A floor, whole: as numbers, and what the program's Make hands back.
-/
import Derived.Test.YthofgjphoahkfaaGenBase
import Derived.Test.YthofgjphoahkfaaGenStairs
import Derived.Test.YthofgjphoahkfaaGridFind
import Derived.Deep.RegionHeld3
import Derived.Deep.AppendLies
import Derived.Deep.LoopGhost
namespace Go.Proofs.Ythofgjphoahkfaa
open Go.RowKit

namespace Gn

def kind (d : Dice) (f : Int) (k : Nat) : Int := 2 + d (16 + (k : Int)) 1 (if 3 < f + 1 then 3 else f + 1)

/-- Monsters from number k on, m of them at most, on the cells that are left: kind and cell. -/
def mons (d : Dice) (f : Int) : Nat → Nat → List Nat → List (Int × Nat)
  | 0, _, _ => []
  | m + 1, k, l => if l.length = 0 then [] else (kind d f k, l[(d (7 + (k : Int)) 0 (l.length : Int)).toNat]?.getD 0) :: mons d f m (k + 1) (l.eraseIdx (d (7 + (k : Int)) 0 (l.length : Int)).toNat)

def entCells (p : Int × Nat) : List Value := (Gn.ent p.1 ((p.2 : Int) % 24) ((p.2 : Int) / 24)).toList

def flat (acc : List (Int × Nat)) : List Value := acc.flatMap entCells

theorem flat_len (acc : List (Int × Nat)) : (flat acc).length = acc.length * 11 := by
  induction acc with
  | nil => rfl
  | cons p acc ih =>
    have h : flat (p :: acc) = entCells p ++ flat acc := rfl
    rw [h, List.length_append, ih, List.length_cons]
    have h2 : (entCells p).length = 11 := rfl
    omega

theorem flat_more (acc : List (Int × Nat)) (p : Int × Nat) : flat (acc ++ [p]) = flat acc ++ entCells p := by
  unfold flat
  rw [List.flatMap_append]
  simp

end Gn

theorem info_ent : (Try.prog.info? 44).map (fun i => (i.zero, i.size, i.bytes)) = some (some (.agg #[.int .i64 0, .int .i64 0, .int .i64 0, .int .i64 0, .int .i64 0, .int .i64 0, .int .i64 0, .int .i64 0, .int .i64 0, .int .i64 0, .int .i64 0]), 11, 88) := by kernel_rfl

theorem Arr.lit {w : World} {g : Nat} {T : TypeId} {arr : Array Value} (h : w.heap[g]? = some (.cells arr T (0, 0))) : Arr w g T arr.size (fun j => arr[j]?.getD undef) :=
  ⟨arr, h, rfl, fun i hi => by
    show arr[i]? = some (arr[i]?.getD undef)
    rw [Array.getElem?_eq_getElem hi]
    rfl⟩

theorem ent_news (w : World) (B : Nat) (hB : B = w.heap.size) (a0 a1 a2 a3 a4 a5 a6 a7 a8 a9 a10 : Value) (T : TypeId) : ∀ j u, [a0, a1, a2, a3, a4, a5, a6, a7, a8, a9, a10][j]? = some u → (w.alloc (.cells #[a0, a1, a2, a3, a4, a5, a6, a7, a8, a9, a10] T)).cell? ((⟨B, 0, none⟩ : Addr).add j) = some u := by
  subst hB
  intro j u hj
  have hlt : j < 11 := by
    have := (List.getElem?_eq_some_iff.1 hj).1
    exact this
  rcases (show j = 0 ∨ j = 1 ∨ j = 2 ∨ j = 3 ∨ j = 4 ∨ j = 5 ∨ j = 6 ∨ j = 7 ∨ j = 8 ∨ j = 9 ∨ j = 10 by omega) with rfl | rfl | rfl | rfl | rfl | rfl | rfl | rfl | rfl | rfl | rfl
  all_goals
    simp at hj
    subst hj
    simp [Addr.add]

theorem owns_mono {w : World} {b b' : Nat} {e : TypeId} {z n : Nat} {v : Value} {xs : List Value} (h : w.ownsRow b e z v n xs) (hb : b' ≤ b) : w.ownsRow b' e z v n xs := by
  refine ⟨h.1, ?_⟩
  rcases h.2 with h | ⟨g, cap, cur, hv, hg, rest⟩
  · exact .inl h
  · exact .inr ⟨g, cap, cur, hv, by omega, rest⟩

theorem Gn.mons_len (d : Gn.Dice) (f : Int) : ∀ (m k : Nat) (l : List Nat), (Gn.mons d f m k l).length ≤ m
  | 0, _, _ => Nat.le_refl _
  | m + 1, k, l => by
    unfold Gn.mons
    split
    · exact Nat.zero_le _
    · have := Gn.mons_len d f m (k + 1) (l.eraseIdx (d (7 + (k : Int)) 0 (l.length : Int)).toNat)
      simp only [List.length_cons]
      omega

end Go.Proofs.Ythofgjphoahkfaa

namespace Go.Proofs.Ythofgjphoahkfaa
open Go.RowKit

namespace Gn

/-- Kind, where, A, B. -/
abbrev Itm := Int × Int × Int × Int

/-- Items from number k on, m of them at most, on the cells that are left. -/
def lie (d : Dice) : Nat → Nat → List Nat → List Itm
  | 0, _, _ => []
  | m + 1, k, l => if l.length = 0 then [] else (1 + d (40 + (k : Int)) 1 4, 1, ((l[(d (40 + (k : Int)) 0 (l.length : Int)).toNat]?.getD 0 : Nat) : Int) % 24, ((l[(d (40 + (k : Int)) 0 (l.length : Int)).toNat]?.getD 0 : Nat) : Int) / 24) :: lie d m (k + 1) (l.eraseIdx (d (40 + (k : Int)) 0 (l.length : Int)).toNat)

/-- The first k wares. -/
def wares (d : Dice) (k : Nat) : List Itm := (List.range k).map fun (j : Nat) => (1 + d (50 + (j : Int)) 1 3, 4, (j : Int), 0)

def items (d : Dice) (c : Nat → Int) : List Itm := lie d 4 0 (those (fun i => c i == 1) 384) ++ if Gr.find 384 c 5 < 0 then [] else wares d 3

def itemCells (p : Itm) : List Value := [.int .i64 p.1, .int .i64 p.2.1, .int .i64 p.2.2.1, .int .i64 p.2.2.2]

def flatI (acc : List Itm) : List Value := acc.flatMap itemCells

theorem flatI_len (acc : List Itm) : (flatI acc).length = acc.length * 4 := by
  induction acc with
  | nil => rfl
  | cons p acc ih =>
    have h : flatI (p :: acc) = itemCells p ++ flatI acc := rfl
    rw [h, List.length_append, ih, List.length_cons]
    have h2 : (itemCells p).length = 4 := rfl
    omega

theorem flatI_more (acc : List Itm) (p : Itm) : flatI (acc ++ [p]) = flatI acc ++ itemCells p := by
  unfold flatI
  rw [List.flatMap_append]
  simp

theorem wares_more (d : Dice) (k : Nat) : wares d (k + 1) = wares d k ++ [(1 + d (50 + (k : Int)) 1 3, 4, (k : Int), 0)] := by
  unfold wares
  rw [List.range_succ, List.map_append]
  rfl

theorem lie_len (d : Dice) : ∀ (m k : Nat) (l : List Nat), (lie d m k l).length ≤ m
  | 0, _, _ => Nat.le_refl _
  | m + 1, k, l => by
    unfold lie
    split
    · exact Nat.zero_le _
    · have := lie_len d m (k + 1) (l.eraseIdx (d (40 + (k : Int)) 0 (l.length : Int)).toNat)
      simp only [List.length_cons]
      omega

end Gn

theorem info_item : (Try.prog.info? 54).map (fun i => (i.zero, i.size, i.bytes)) = some (some (.agg #[.int .i64 0, .int .i64 0, .int .i64 0, .int .i64 0]), 4, 32) := by kernel_rfl

theorem item_news (w : World) (B : Nat) (hB : B = w.heap.size) (a0 a1 a2 a3 : Value) (T : TypeId) : ∀ j u, [a0, a1, a2, a3][j]? = some u → (w.alloc (.cells #[a0, a1, a2, a3] T)).cell? ((⟨B, 0, none⟩ : Addr).add j) = some u := by
  subst hB
  intro j u hj
  have hlt : j < 4 := (List.getElem?_eq_some_iff.1 hj).1
  rcases (show j = 0 ∨ j = 1 ∨ j = 2 ∨ j = 3 by omega) with rfl | rfl | rfl | rfl
  all_goals
    simp at hj
    subst hj
    simp [Addr.add]

end Go.Proofs.Ythofgjphoahkfaa

namespace Go.Proofs.Ythofgjphoahkfaa
open Go.RowKit

/-- The middles, column and row by turns. -/
def Gn.mid (d : Gn.Dice) (j : Nat) : Int := if j % 2 = 0 then Gn.mx d (j / 2) else Gn.my d (j / 2)
def Gn.mids (d : Gn.Dice) : Array Value := #[.int .i64 (Gn.mid d 0), .int .i64 (Gn.mid d 1), .int .i64 (Gn.mid d 2), .int .i64 (Gn.mid d 3), .int .i64 (Gn.mid d 4), .int .i64 (Gn.mid d 5), .int .i64 (Gn.mid d 6), .int .i64 (Gn.mid d 7), .int .i64 (Gn.mid d 8), .int .i64 (Gn.mid d 9), .int .i64 (Gn.mid d 10), .int .i64 (Gn.mid d 11)]

theorem Arr.twelve {w : World} {g : Nat} {T : TypeId} {F : Nat → Value} (h : Arr w g T 12 F) :
    w.cell? ⟨g, 0, none⟩ = some (F 0) ∧ w.cell? ⟨g, 1, none⟩ = some (F 1) ∧ w.cell? ⟨g, 2, none⟩ = some (F 2) ∧ w.cell? ⟨g, 3, none⟩ = some (F 3) ∧ w.cell? ⟨g, 4, none⟩ = some (F 4) ∧ w.cell? ⟨g, 5, none⟩ = some (F 5) ∧ w.cell? ⟨g, 6, none⟩ = some (F 6) ∧ w.cell? ⟨g, 7, none⟩ = some (F 7) ∧ w.cell? ⟨g, 8, none⟩ = some (F 8) ∧ w.cell? ⟨g, 9, none⟩ = some (F 9) ∧ w.cell? ⟨g, 10, none⟩ = some (F 10) ∧ w.cell? ⟨g, 11, none⟩ = some (F 11) :=
  ⟨h.cell (by omega), h.cell (by omega), h.cell (by omega), h.cell (by omega), h.cell (by omega), h.cell (by omega), h.cell (by omega), h.cell (by omega), h.cell (by omega), h.cell (by omega), h.cell (by omega), h.cell (by omega)⟩

theorem Arr.twelveF {w : World} {g : Nat} {T : TypeId} {F : Nat → Value} (h : Arr w g T 12 F) :
    w.frozen? ⟨g, 0, none⟩ = false ∧ w.frozen? ⟨g, 1, none⟩ = false ∧ w.frozen? ⟨g, 2, none⟩ = false ∧ w.frozen? ⟨g, 3, none⟩ = false ∧ w.frozen? ⟨g, 4, none⟩ = false ∧ w.frozen? ⟨g, 5, none⟩ = false ∧ w.frozen? ⟨g, 6, none⟩ = false ∧ w.frozen? ⟨g, 7, none⟩ = false ∧ w.frozen? ⟨g, 8, none⟩ = false ∧ w.frozen? ⟨g, 9, none⟩ = false ∧ w.frozen? ⟨g, 10, none⟩ = false ∧ w.frozen? ⟨g, 11, none⟩ = false :=
  ⟨h.free _, h.free _, h.free _, h.free _, h.free _, h.free _, h.free _, h.free _, h.free _, h.free _, h.free _, h.free _⟩

theorem grown_set0 (w : World) (g i : Nat) (u : Value) : w.grownBy (w.setCell ⟨g, i, none⟩ u) (some g) := grown_set (World.grownBy.refl _ _) i u

end Go.Proofs.Ythofgjphoahkfaa

namespace Go.Proofs.Ythofgjphoahkfaa
open Go.RowKit

theorem Gn.mid_even (d : Gn.Dice) (k : Nat) : Gn.mid d (k * 2) = Gn.mx d k := by
  unfold Gn.mid
  rw [if_pos (by omega), show k * 2 / 2 = k by omega]

theorem Gn.mid_odd (d : Gn.Dice) (k : Nat) : Gn.mid d (k * 2 + 1) = Gn.my d k := by
  unfold Gn.mid
  rw [if_neg (by omega), show (k * 2 + 1) / 2 = k by omega]

end Go.Proofs.Ythofgjphoahkfaa

namespace Go.Proofs.Ythofgjphoahkfaa
open Go.RowKit

namespace Gn

def up (d : Dice) : Nat := (my d 0 * 24 + mx d 0).toNat

/-- The floor with rooms, corridors and the up stair. -/
def base (d : Dice) : Nat → Int := Gr.upd (dug d 5) (up d) 3

/-- c is the floor, F its field. -/
def IsLevel (d : Dice) (c F : Nat → Int) : Prop := ∃ far, Fld (base d) (up d) F ∧ IsFar F far ∧ c = stocked d (base d) F far

theorem IsLevel.one {d : Dice} {c c' F F' : Nat → Int} (h : IsLevel d c F) (h' : IsLevel d c' F') : c = c' ∧ F = F' := by
  obtain ⟨far, h1, h2, rfl⟩ := h
  obtain ⟨far', h1', h2', rfl⟩ := h'
  obtain rfl := h1.one h1'
  obtain rfl := h2.one h2'
  exact ⟨rfl, rfl⟩

def ents (d : Dice) (f : Int) (c F : Nat → Int) : List (Int × Nat) := mons d f (f + 2).toNat 0 ((those (fun i => c i == 1) 384).filter (afar F))

theorem up_eq {d : Dice} (hd : Fair d) : my d 0 * 24 + mx d 0 = ((up d : Nat) : Int) := by
  have := mid_bd hd 0
  unfold up
  omega

theorem base_5 (d : Dice) (i : Nat) : 0 ≤ base d i ∧ base d i ≤ 5 := upd_5 (dug_5 d 5) (by omega) i

theorem shopped_5 {c : Nat → Int} (h : ∀ i, 0 ≤ c i ∧ c i ≤ 5) (o : Option Nat) (i : Nat) : 0 ≤ shopped c o i ∧ shopped c o i ≤ 5 := by
  cases o with
  | none => exact h i
  | some k => exact upd_5 h (by omega) i

theorem stocked_5 (d : Dice) {c : Nat → Int} (h : ∀ i, 0 ≤ c i ∧ c i ≤ 5) (F : Nat → Int) (far i : Nat) : 0 ≤ stocked d c F far i ∧ stocked d c F far i ≤ 5 := by
  have h4 : ∀ i, 0 ≤ Gr.upd c far 4 i ∧ Gr.upd c far 4 i ≤ 5 := upd_5 h (by omega)
  unfold stocked
  split
  · exact shopped_5 h4 _ i
  · exact h4 i

theorem IsLevel.five {d : Dice} {c F : Nat → Int} (h : IsLevel d c F) (i : Nat) : 0 ≤ c i ∧ c i ≤ 5 := by
  obtain ⟨far, _, _, rfl⟩ := h
  exact stocked_5 d (base_5 d) F far i

end Gn

theorem owns_form {w : World} {b : Nat} {e : TypeId} {z n : Nat} {v : Value} {xs : List Value} (h : w.ownsRow b e z v n xs) : ∃ a cap, v = .slice a n cap := by
  rcases h.2 with ⟨rfl, rfl⟩ | ⟨g, cap, cur, rfl, _⟩
  · exact ⟨_, _, rfl⟩
  · exact ⟨_, _, rfl⟩

/-- What Make hands back of a floor that there is. -/
def LevDone (w : World) (d : Gn.Dice) (f : Int) (e : Ending) (w' : World) : Prop :=
  ∃ (c F : Nat → Int) (G nE nI cE cI : Nat) (aE aI : Option Addr), Gn.IsLevel d c F ∧ e = .returned (.tuple #[.agg #[.slice (some ⟨G, 0, none⟩) 384 384, .slice aE nE cE, .slice aI nI cI], .int .i64 0]) ∧ w.heap.size ≤ G ∧ Arr w' G 5 384 (Byts c) ∧
    nE = (Gn.ents d f c F).length ∧ nI = (Gn.items d c).length ∧ w'.ownsRow w.heap.size 44 11 (.slice aE nE cE) nE (Gn.flat (Gn.ents d f c F)) ∧ w'.ownsRow w.heap.size 54 4 (.slice aI nI cI) nI (Gn.flatI (Gn.items d c)) ∧ w.grownBy w' none

end Go.Proofs.Ythofgjphoahkfaa
