/-
  A floor, whole: as numbers, and what the program's Make hands back.
-/
import Derived.Test.YthngbjmiblbohaaGenItems
import Derived.Test.YthngbjmiblbohaaGenCorr
namespace Go.Proofs.Ythngbjmiblbohaa
open Go.RowKit

namespace Gn

def up (d : Dice) : Nat := (my d 0 * 24 + mx d 0).toNat

/-- The floor with rooms, corridors and the up stair. -/
def base (d : Dice) : Nat → Int := Gr.upd (dug d 5) (up d) 3

/-- c is the floor, F its field. -/
def IsLevel (d : Dice) (c F : Nat → Int) : Prop := ∃ far, Fld (base d) (up d) F ∧ IsFar F far ∧ c = stocked d (base d) F far

theorem IsLevel.one {d : Dice} {c c' F F' : Nat → Int} (h : IsLevel d c F) (h' : IsLevel d c' F') : c = c' ∧ F = F' := by
  obtain ⟨far, h1, h2, rfl⟩ := h
  obtain ⟨far', h1', h2', rfl⟩ := h'
  obtain rfl := h1.one h1'
  obtain rfl := h2.one h2'
  exact ⟨rfl, rfl⟩

def ents (d : Dice) (f : Int) (c F : Nat → Int) : List (Int × Nat) := mons d f (f + 2).toNat 0 ((those (fun i => c i == 1) 384).filter (afar F))

theorem up_eq {d : Dice} (hd : Fair d) : my d 0 * 24 + mx d 0 = ((up d : Nat) : Int) := by
  have := mid_bd hd 0
  unfold up
  omega

theorem base_5 (d : Dice) (i : Nat) : 0 ≤ base d i ∧ base d i ≤ 5 := upd_5 (dug_5 d 5) (by omega) i

theorem shopped_5 {c : Nat → Int} (h : ∀ i, 0 ≤ c i ∧ c i ≤ 5) (o : Option Nat) (i : Nat) : 0 ≤ shopped c o i ∧ shopped c o i ≤ 5 := by
  cases o with
  | none => exact h i
  | some k => exact upd_5 h (by omega) i

theorem stocked_5 (d : Dice) {c : Nat → Int} (h : ∀ i, 0 ≤ c i ∧ c i ≤ 5) (F : Nat → Int) (far i : Nat) : 0 ≤ stocked d c F far i ∧ stocked d c F far i ≤ 5 := by
  have h4 : ∀ i, 0 ≤ Gr.upd c far 4 i ∧ Gr.upd c far 4 i ≤ 5 := upd_5 h (by omega)
  unfold stocked
  split
  · exact shopped_5 h4 _ i
  · exact h4 i

theorem IsLevel.five {d : Dice} {c F : Nat → Int} (h : IsLevel d c F) (i : Nat) : 0 ≤ c i ∧ c i ≤ 5 := by
  obtain ⟨far, _, _, rfl⟩ := h
  exact stocked_5 d (base_5 d) F far i

end Gn

theorem owns_form {w : World} {b : Nat} {e : TypeId} {z n : Nat} {v : Value} {xs : List Value} (h : w.ownsRow b e z v n xs) : ∃ a cap, v = .slice a n cap := by
  rcases h.2 with ⟨rfl, rfl⟩ | ⟨g, cap, cur, rfl, _⟩
  · exact ⟨_, _, rfl⟩
  · exact ⟨_, _, rfl⟩

/-- What Make hands back of a floor that there is. -/
def LevDone (w : World) (d : Gn.Dice) (f : Int) (e : Ending) (w' : World) : Prop :=
  ∃ (c F : Nat → Int) (G nE nI cE cI : Nat) (aE aI : Option Addr), Gn.IsLevel d c F ∧ e = .returned (.tuple #[.agg #[.slice (some ⟨G, 0, none⟩) 384 384, .slice aE nE cE, .slice aI nI cI], .int .i64 0]) ∧ w.heap.size ≤ G ∧ Arr w' G 5 384 (Byts c) ∧
    nE = (Gn.ents d f c F).length ∧ nI = (Gn.items d c).length ∧ w'.ownsRow w.heap.size 50 11 (.slice aE nE cE) nE (Gn.flat (Gn.ents d f c F)) ∧ w'.ownsRow w.heap.size 38 4 (.slice aI nI cI) nI (Gn.flatI (Gn.items d c)) ∧ w.grownBy w' none

end Go.Proofs.Ythngbjmiblbohaa
