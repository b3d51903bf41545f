/-
  Floors, as numbers: rooms, corridors; what the packages reckon, as plain functions.
-/
import Derived.Test.YthngbjmiblbohaaGenStep
namespace Go.Proofs.Ythngbjmiblbohaa

namespace Gn

/-- What the chapter's D tells: of a, b and the count of sides. -/
abbrev Dice := Int → Int → Int → Int

/-- It shows a side. -/
def Fair (d : Dice) : Prop := ∀ a b n, 1 ≤ n → 0 ≤ d a b n ∧ d a b n < n

/-- Room i: its width, height, first column, first row; its middle. -/
def rw (d : Dice) (i : Nat) : Int := 3 + d i 0 5
def rh (d : Dice) (i : Nat) : Int := 2 + d i 1 4
def rx (d : Dice) (i : Nat) : Int := 1 + d i 2 (23 - rw d i)
def ry (d : Dice) (i : Nat) : Int := 1 + d i 3 (15 - rh d i)
def mx (d : Dice) (i : Nat) : Int := rx d i + rw d i / 2
def my (d : Dice) (i : Nat) : Int := ry d i + rh d i / 2

theorem room_bd {d : Dice} (hd : Fair d) (i : Nat) : (3 ≤ rw d i ∧ rw d i ≤ 7) ∧ (2 ≤ rh d i ∧ rh d i ≤ 5) ∧ (1 ≤ rx d i ∧ rx d i + rw d i ≤ 23) ∧ (1 ≤ ry d i ∧ ry d i + rh d i ≤ 15) := by
  have hw := hd i 0 5 (by omega)
  have hh := hd i 1 4 (by omega)
  have h1 : 3 ≤ rw d i ∧ rw d i ≤ 7 := by unfold rw; omega
  have h2 : 2 ≤ rh d i ∧ rh d i ≤ 5 := by unfold rh; omega
  have hx := hd i 2 (23 - rw d i) (by omega)
  have hy := hd i 3 (15 - rh d i) (by omega)
  refine ⟨h1, h2, ?_, ?_⟩
  · unfold rx; omega
  · unfold ry; omega

theorem mid_bd {d : Dice} (hd : Fair d) (i : Nat) : 1 ≤ mx d i ∧ mx d i ≤ 22 ∧ 1 ≤ my d i ∧ my d i ≤ 14 := by
  have := room_bd hd i
  unfold mx my
  omega

/-- The cells of rows y to r - 1, and of row r those of columns x to q - 1, of the room of w by h from (x, y) on, laid on c. -/
def paintTo (c : Nat → Int) (x y w h r q : Int) (i : Nat) : Int :=
  if (x ≤ (i % 24 : Nat) ∧ ((i % 24 : Nat) : Int) < x + w ∧ y ≤ (i / 24 : Nat) ∧ ((i / 24 : Nat) : Int) < y + h) ∧ (((i / 24 : Nat) : Int) < r ∨ ((i / 24 : Nat) : Int) = r ∧ ((i % 24 : Nat) : Int) < q) then 1 else c i

def paint (c : Nat → Int) (x y w h : Int) (i : Nat) : Int := paintTo c x y w h (y + h) x i

theorem paint_start (c : Nat → Int) (x y w h : Int) (i : Nat) : paintTo c x y w h y x i = c i := by
  unfold paintTo
  rw [if_neg (by omega)]

theorem paint_row (c : Nat → Int) (x y w h r : Int) (i : Nat) : paintTo c x y w h r (x + w) i = paintTo c x y w h (r + 1) x i := by
  unfold paintTo
  by_cases hc : (x ≤ (i % 24 : Nat) ∧ ((i % 24 : Nat) : Int) < x + w ∧ y ≤ (i / 24 : Nat) ∧ ((i / 24 : Nat) : Int) < y + h) ∧ (((i / 24 : Nat) : Int) < r ∨ ((i / 24 : Nat) : Int) = r ∧ ((i % 24 : Nat) : Int) < x + w)
  · rw [if_pos hc, if_pos (by omega)]
  · rw [if_neg hc, if_neg (by omega)]

theorem paint_one (c : Nat → Int) (x y w h r q : Int) (k : Nat) (h1 : x ≤ q) (h2 : q < x + w) (h3 : y ≤ r) (h4 : r < y + h) (h5 : 0 ≤ x) (h6 : x + w ≤ 24) (hk : r * 24 + q = (k : Int)) (i : Nat) : Gr.upd (paintTo c x y w h r q) k 1 i = paintTo c x y w h r (q + 1) i := by
  unfold Gr.upd paintTo
  by_cases e : i = k
  · subst e
    rw [if_pos rfl, if_pos (by omega)]
  · rw [if_neg e]
    by_cases hc : (x ≤ (i % 24 : Nat) ∧ ((i % 24 : Nat) : Int) < x + w ∧ y ≤ (i / 24 : Nat) ∧ ((i / 24 : Nat) : Int) < y + h) ∧ (((i / 24 : Nat) : Int) < r ∨ ((i / 24 : Nat) : Int) = r ∧ ((i % 24 : Nat) : Int) < q)
    · rw [if_pos hc, if_pos (by omega)]
    · rw [if_neg hc, if_neg (by omega)]

/-- The floor with itdirst n rooms. -/
def roomed (d : Dice) : Nat → Nat → Int
  | 0 => fun _ => 0
  | n + 1 => paint (roomed d n) (rx d n) (ry d n) (rw d n) (rh d n)

/-- A cell that a corridor goes over; has it a door by now? -/
def digAt (st : (Nat → Int) × Bool) (k : Nat) : (Nat → Int) × Bool := if st.1 k = 0 then (Gr.upd st.1 k (if st.2 then 1 else 2), true) else st

/-- A corridor of n steps, from (x, y) to (tx, ty). -/
def digRun (tx ty : Int) (first : Bool) : Nat → (Nat → Int) × Bool → Int → Int → (Nat → Int) × Bool
  | 0, st, x, y => digAt st (y * 24 + x).toNat
  | n + 1, st, x, y => digRun tx ty first n (digAt st (y * 24 + x).toNat) (stepX x y tx ty first) (stepY x y tx ty first)

def steps (x y tx ty : Int) : Nat := (tx - x).natAbs + (ty - y).natAbs

theorem step_less (x y tx ty : Int) (first : Bool) (h : ¬ (x = tx ∧ y = ty)) : steps (stepX x y tx ty first) (stepY x y tx ty first) tx ty + 1 = steps x y tx ty := by
  unfold steps stepX stepY way to1
  by_cases hy : y = ty
  · have hx : x ≠ tx := fun e => h ⟨e, hy⟩
    simp only [hy, beq_self_eq_true, Bool.true_or, ite_true]
    split
    · omega
    · split <;> omega
  · have e : (y == ty) = false := by simpa using hy
    rw [e, Bool.false_or]
    split
    · rename_i hh
      have hx : x ≠ tx := by simp at hh; exact hh.2
      split
      · omega
      · split <;> omega
    · split
      · omega
      · split <;> omega

theorem step_bd (x y tx ty : Int) (first : Bool) (h : (1 ≤ x ∧ x ≤ 22) ∧ 1 ≤ y ∧ y ≤ 14) (ht : (1 ≤ tx ∧ tx ≤ 22) ∧ 1 ≤ ty ∧ ty ≤ 14) : (1 ≤ stepX x y tx ty first ∧ stepX x y tx ty first ≤ 22) ∧ 1 ≤ stepY x y tx ty first ∧ stepY x y tx ty first ≤ 14 := by
  unfold stepX stepY to1
  split
  · split
    · omega
    · split <;> omega
  · split
    · omega
    · split <;> omega

/-- The floor with all rooms and itdirst n corridors. -/
def dug (d : Dice) : Nat → Nat → Int
  | 0 => roomed d 6
  | n + 1 => (digRun (mx d (n + 1)) (my d (n + 1)) (d ((n + 1 : Nat) : Int) 4 2 == 0) (steps (mx d n) (my d n) (mx d (n + 1)) (my d (n + 1))) (dug d n, false) (mx d n) (my d n)).1

theorem paint_01 {c : Nat → Int} {x y w h r q : Int} (hc : ∀ i, 0 ≤ c i ∧ c i ≤ 5) (i : Nat) : 0 ≤ paintTo c x y w h r q i ∧ paintTo c x y w h r q i ≤ 5 := by
  unfold paintTo
  split
  · omega
  · exact hc i

theorem upd_5 {c : Nat → Int} {k : Nat} {v : Int} (hc : ∀ i, 0 ≤ c i ∧ c i ≤ 5) (hv : 0 ≤ v ∧ v ≤ 5) (i : Nat) : 0 ≤ Gr.upd c k v i ∧ Gr.upd c k v i ≤ 5 := by
  unfold Gr.upd
  split
  · exact hv
  · exact hc i

theorem digAt_5 {st : (Nat → Int) × Bool} {k : Nat} (hc : ∀ i, 0 ≤ st.1 i ∧ st.1 i ≤ 5) (i : Nat) : 0 ≤ (digAt st k).1 i ∧ (digAt st k).1 i ≤ 5 := by
  unfold digAt
  split
  · exact upd_5 hc (by split <;> omega) i
  · exact hc i

theorem digRun_5 (tx ty : Int) (first : Bool) : ∀ (n : Nat) (st : (Nat → Int) × Bool) (x y : Int), (∀ i, 0 ≤ st.1 i ∧ st.1 i ≤ 5) → ∀ i, 0 ≤ (digRun tx ty first n st x y).1 i ∧ (digRun tx ty first n st x y).1 i ≤ 5
  | 0, _, _, _, h => digAt_5 h
  | n + 1, _, _, _, h => digRun_5 tx ty first n _ _ _ (digAt_5 h)

theorem roomed_5 (d : Dice) : ∀ (n i : Nat), 0 ≤ roomed d n i ∧ roomed d n i ≤ 5
  | 0, _ => by simp [roomed]
  | n + 1, i => paint_01 (roomed_5 d n) i

theorem dug_5 (d : Dice) : ∀ (n i : Nat), 0 ≤ dug d n i ∧ dug d n i ≤ 5
  | 0, i => roomed_5 d 6 i
  | n + 1, i => by
    have h := digRun_5 (mx d (n + 1)) (my d (n + 1)) (d ((n + 1 : Nat) : Int) 4 2 == 0) (steps (mx d n) (my d n) (mx d (n + 1)) (my d (n + 1))) (dug d n, false) (mx d n) (my d n) (dug_5 d n) i
    rw [dug]
    exact h

end Gn

end Go.Proofs.Ythngbjmiblbohaa
