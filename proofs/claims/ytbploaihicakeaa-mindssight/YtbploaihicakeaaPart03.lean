/-
  One step nearer, of the program and of the document said again.
  Floors, as numbers: rooms, corridors; what the packages reckon, as plain functions.
  A region that draws its order and holds calls which make memory of their own: one walk in the order of the text serves every order, the world being any that has grown out of the one that was.
  The program's rooms: what it lays, and the middles that it tells.
  A scope in which the run jumps back to one label, the measure being a number of one's own.
  A corridor: the program digs it by a goto from step to step.
  All corridors of a floor.
-/
import Derived.Test.YtbploaihicakeaaPart02
import Derived.Deep.RegionHeld3
import Derived.Deep.LoopGhost
import Derived.Test.YtbploaihicakeaaPart01
import Derived.ScopeJumps
import Derived.WalkMore
namespace Go.Proofs.Ytbploaihicakeaa
open Go.RowKit

def Gn.way (x y tx ty : Int) (first : Bool) : Bool := (y == ty) || (first && x != tx)
def Gn.stepX (x y tx ty : Int) (first : Bool) : Int := if Gn.way x y tx ty first then Gn.to1 x tx else x
def Gn.stepY (x y tx ty : Int) (first : Bool) : Int := if Gn.way x y tx ty first then y else Gn.to1 y ty

theorem Gn.cmp_add (a b : Int) : a + Gn.cmp b a = Gn.to1 a b := by
  unfold Gn.cmp Gn.to1
  split
  · split <;> omega
  · split <;> omega

theorem Gn.cmp_bd (a b : Int) : -1 ≤ Gn.cmp a b ∧ Gn.cmp a b ≤ 1 := by
  unfold Gn.cmp
  split
  · omega
  · split <;> omega

theorem grown_drew1 {a b : World} {r : Option Nat} (h : a.grownBy b r) : a.grownBy b.drew r := ⟨h.os, h.tape, h.output, h.size, h.block⟩

theorem grown_three (w : World) (o1 o2 o3 : Obj) : w.grownBy (((w.alloc o1).alloc o2).alloc o3).drew none := grown_drew1 (grown_alloc (grown_alloc (World.grownBy_alloc _ _ _) _) _)

end Go.Proofs.Ytbploaihicakeaa

namespace Go.Proofs.Ytbploaihicakeaa

namespace Gn

/-- What the chapter's D tells: of a, b and the count of sides. -/
abbrev Dice := Int → Int → Int → Int

/-- It shows a side. -/
def Fair (d : Dice) : Prop := ∀ a b n, 1 ≤ n → 0 ≤ d a b n ∧ d a b n < n

/-- Room i: its width, height, first column, first row; its middle. -/
def rw (d : Dice) (i : Nat) : Int := 3 + d i 0 5
def rh (d : Dice) (i : Nat) : Int := 2 + d i 1 4
def rx (d : Dice) (i : Nat) : Int := 1 + d i 2 (23 - rw d i)
def ry (d : Dice) (i : Nat) : Int := 1 + d i 3 (15 - rh d i)
def mx (d : Dice) (i : Nat) : Int := rx d i + rw d i / 2
def my (d : Dice) (i : Nat) : Int := ry d i + rh d i / 2

theorem room_bd {d : Dice} (hd : Fair d) (i : Nat) : (3 ≤ rw d i ∧ rw d i ≤ 7) ∧ (2 ≤ rh d i ∧ rh d i ≤ 5) ∧ (1 ≤ rx d i ∧ rx d i + rw d i ≤ 23) ∧ (1 ≤ ry d i ∧ ry d i + rh d i ≤ 15) := by
  have hw := hd i 0 5 (by omega)
  have hh := hd i 1 4 (by omega)
  have h1 : 3 ≤ rw d i ∧ rw d i ≤ 7 := by unfold rw; omega
  have h2 : 2 ≤ rh d i ∧ rh d i ≤ 5 := by unfold rh; omega
  have hx := hd i 2 (23 - rw d i) (by omega)
  have hy := hd i 3 (15 - rh d i) (by omega)
  refine ⟨h1, h2, ?_, ?_⟩
  · unfold rx; omega
  · unfold ry; omega

theorem mid_bd {d : Dice} (hd : Fair d) (i : Nat) : 1 ≤ mx d i ∧ mx d i ≤ 22 ∧ 1 ≤ my d i ∧ my d i ≤ 14 := by
  have := room_bd hd i
  unfold mx my
  omega

/-- The cells of rows y to r - 1, and of row r those of columns x to q - 1, of the room of w by h from (x, y) on, laid on c. -/
def paintTo (c : Nat → Int) (x y w h r q : Int) (i : Nat) : Int :=
  if (x ≤ (i % 24 : Nat) ∧ ((i % 24 : Nat) : Int) < x + w ∧ y ≤ (i / 24 : Nat) ∧ ((i / 24 : Nat) : Int) < y + h) ∧ (((i / 24 : Nat) : Int) < r ∨ ((i / 24 : Nat) : Int) = r ∧ ((i % 24 : Nat) : Int) < q) then 1 else c i

def paint (c : Nat → Int) (x y w h : Int) (i : Nat) : Int := paintTo c x y w h (y + h) x i

theorem paint_start (c : Nat → Int) (x y w h : Int) (i : Nat) : paintTo c x y w h y x i = c i := by
  unfold paintTo
  rw [if_neg (by omega)]

theorem paint_row (c : Nat → Int) (x y w h r : Int) (i : Nat) : paintTo c x y w h r (x + w) i = paintTo c x y w h (r + 1) x i := by
  unfold paintTo
  by_cases hc : (x ≤ (i % 24 : Nat) ∧ ((i % 24 : Nat) : Int) < x + w ∧ y ≤ (i / 24 : Nat) ∧ ((i / 24 : Nat) : Int) < y + h) ∧ (((i / 24 : Nat) : Int) < r ∨ ((i / 24 : Nat) : Int) = r ∧ ((i % 24 : Nat) : Int) < x + w)
  · rw [if_pos hc, if_pos (by omega)]
  · rw [if_neg hc, if_neg (by omega)]

theorem paint_one (c : Nat → Int) (x y w h r q : Int) (k : Nat) (h1 : x ≤ q) (h2 : q < x + w) (h3 : y ≤ r) (h4 : r < y + h) (h5 : 0 ≤ x) (h6 : x + w ≤ 24) (hk : r * 24 + q = (k : Int)) (i : Nat) : Gr.upd (paintTo c x y w h r q) k 1 i = paintTo c x y w h r (q + 1) i := by
  unfold Gr.upd paintTo
  by_cases e : i = k
  · subst e
    rw [if_pos rfl, if_pos (by omega)]
  · rw [if_neg e]
    by_cases hc : (x ≤ (i % 24 : Nat) ∧ ((i % 24 : Nat) : Int) < x + w ∧ y ≤ (i / 24 : Nat) ∧ ((i / 24 : Nat) : Int) < y + h) ∧ (((i / 24 : Nat) : Int) < r ∨ ((i / 24 : Nat) : Int) = r ∧ ((i % 24 : Nat) : Int) < q)
    · rw [if_pos hc, if_pos (by omega)]
    · rw [if_neg hc, if_neg (by omega)]

/-- The floor with itdirst n rooms. -/
def roomed (d : Dice) : Nat → Nat → Int
  | 0 => fun _ => 0
  | n + 1 => paint (roomed d n) (rx d n) (ry d n) (rw d n) (rh d n)

/-- A cell that a corridor goes over; has it a door by now? -/
def digAt (st : (Nat → Int) × Bool) (k : Nat) : (Nat → Int) × Bool := if st.1 k = 0 then (Gr.upd st.1 k (if st.2 then 1 else 2), true) else st

/-- A corridor of n steps, from (x, y) to (tx, ty). -/
def digRun (tx ty : Int) (first : Bool) : Nat → (Nat → Int) × Bool → Int → Int → (Nat → Int) × Bool
  | 0, st, x, y => digAt st (y * 24 + x).toNat
  | n + 1, st, x, y => digRun tx ty first n (digAt st (y * 24 + x).toNat) (stepX x y tx ty first) (stepY x y tx ty first)

def steps (x y tx ty : Int) : Nat := (tx - x).natAbs + (ty - y).natAbs

theorem step_less (x y tx ty : Int) (first : Bool) (h : ¬ (x = tx ∧ y = ty)) : steps (stepX x y tx ty first) (stepY x y tx ty first) tx ty + 1 = steps x y tx ty := by
  unfold steps stepX stepY way to1
  by_cases hy : y = ty
  · have hx : x ≠ tx := fun e => h ⟨e, hy⟩
    simp only [hy, beq_self_eq_true, Bool.true_or, ite_true]
    split
    · omega
    · split <;> omega
  · have e : (y == ty) = false := by simpa using hy
    rw [e, Bool.false_or]
    split
    · rename_i hh
      have hx : x ≠ tx := by simp at hh; exact hh.2
      split
      · omega
      · split <;> omega
    · split
      · omega
      · split <;> omega

theorem step_bd (x y tx ty : Int) (first : Bool) (h : (1 ≤ x ∧ x ≤ 22) ∧ 1 ≤ y ∧ y ≤ 14) (ht : (1 ≤ tx ∧ tx ≤ 22) ∧ 1 ≤ ty ∧ ty ≤ 14) : (1 ≤ stepX x y tx ty first ∧ stepX x y tx ty first ≤ 22) ∧ 1 ≤ stepY x y tx ty first ∧ stepY x y tx ty first ≤ 14 := by
  unfold stepX stepY to1
  split
  · split
    · omega
    · split <;> omega
  · split
    · omega
    · split <;> omega

/-- The floor with all rooms and itdirst n corridors. -/
def dug (d : Dice) : Nat → Nat → Int
  | 0 => roomed d 6
  | n + 1 => (digRun (mx d (n + 1)) (my d (n + 1)) (d ((n + 1 : Nat) : Int) 4 2 == 0) (steps (mx d n) (my d n) (mx d (n + 1)) (my d (n + 1))) (dug d n, false) (mx d n) (my d n)).1

theorem paint_01 {c : Nat → Int} {x y w h r q : Int} (hc : ∀ i, 0 ≤ c i ∧ c i ≤ 5) (i : Nat) : 0 ≤ paintTo c x y w h r q i ∧ paintTo c x y w h r q i ≤ 5 := by
  unfold paintTo
  split
  · omega
  · exact hc i

theorem upd_5 {c : Nat → Int} {k : Nat} {v : Int} (hc : ∀ i, 0 ≤ c i ∧ c i ≤ 5) (hv : 0 ≤ v ∧ v ≤ 5) (i : Nat) : 0 ≤ Gr.upd c k v i ∧ Gr.upd c k v i ≤ 5 := by
  unfold Gr.upd
  split
  · exact hv
  · exact hc i

theorem digAt_5 {st : (Nat → Int) × Bool} {k : Nat} (hc : ∀ i, 0 ≤ st.1 i ∧ st.1 i ≤ 5) (i : Nat) : 0 ≤ (digAt st k).1 i ∧ (digAt st k).1 i ≤ 5 := by
  unfold digAt
  split
  · exact upd_5 hc (by split <;> omega) i
  · exact hc i

theorem digRun_5 (tx ty : Int) (first : Bool) : ∀ (n : Nat) (st : (Nat → Int) × Bool) (x y : Int), (∀ i, 0 ≤ st.1 i ∧ st.1 i ≤ 5) → ∀ i, 0 ≤ (digRun tx ty first n st x y).1 i ∧ (digRun tx ty first n st x y).1 i ≤ 5
  | 0, _, _, _, h => digAt_5 h
  | n + 1, _, _, _, h => digRun_5 tx ty first n _ _ _ (digAt_5 h)

theorem roomed_5 (d : Dice) : ∀ (n i : Nat), 0 ≤ roomed d n i ∧ roomed d n i ≤ 5
  | 0, _ => by simp [roomed]
  | n + 1, i => paint_01 (roomed_5 d n) i

theorem dug_5 (d : Dice) : ∀ (n i : Nat), 0 ≤ dug d n i ∧ dug d n i ≤ 5
  | 0, i => roomed_5 d 6 i
  | n + 1, i => by
    have h := digRun_5 (mx d (n + 1)) (my d (n + 1)) (d ((n + 1 : Nat) : Int) 4 2 == 0) (steps (mx d n) (my d n) (mx d (n + 1)) (my d (n + 1))) (dug d n, false) (mx d n) (my d n) (dug_5 d n) i
    rw [dug]
    exact h

end Gn

end Go.Proofs.Ytbploaihicakeaa

namespace Go.Proofs.Ytbploaihicakeaa
open Go.RowKit

theorem grown_none {a b c : World} {r : Option Nat} (h : a.grownBy b r) (k : b.grownBy c none) : a.grownBy c r := grown_own h k (fun _ e => by cases e)

theorem wp_region_grown {P : Program} {id : Nat} {Q : Exit → Act → World → Prop} {a : Act} {w : World} {l : List Oper} (hm : P.follows .mixedOrders = true) (hB : Region.lexB .any l.toArray = true)
    (h : ∀ (St : Type), Nonempty St → ∀ (W : St → World), (∀ σ, w.grownBy (W σ) none) → (∀ x, w.grownBy x none → ∃ σ, x = W σ) →
      wpQuiet P l.toArray (fun w' => ∃ σ, w' = W σ) (fun a' => ∀ w', (∃ σ, w' = W σ) → Q .normal a' w') l a) : (Code.region id l.toArray true).wp P Q a w := by
  have h1 := h { x // w.grownBy x none } ⟨⟨_, World.grownBy.refl w none⟩⟩ (fun σ => σ.val) (fun σ => σ.property) (fun x hx => ⟨⟨x, hx⟩, rfl⟩)
  exact wp_region_quiet (C := fun w' => ∃ σ : { x // w.grownBy x none }, w' = σ.val) hm hB ⟨⟨_, grown_drew1 (World.grownBy.refl _ _)⟩, rfl⟩ (by simpa using h1)

/-- A callee that makes memory of its own stays in the class. -/
theorem calls_class {P : Program} {f : FuncId} {args : Array Value} {St : Type} {W : St → World} {w : World} {σ : St} {v : Value} (hI : ∀ σ, w.grownBy (W σ) none) (hx : ∀ x, w.grownBy x none → ∃ σ, x = W σ)
    (h : Calls P f args (W σ) (Says (W σ) v)) : Calls P f args (W σ) fun e w'' => e = .returned v ∧ ∃ σ', w'' = W σ' :=
  h.mono fun _ w' ⟨he, hg⟩ => ⟨he, hx w' (grown_trans (hI σ) hg)⟩

theorem grown_cell {w w' : World} {r : Option Nat} (h : w.grownBy w' r) (b i : Nat) (hb : b < w.heap.size) (hr : r ≠ some b) : w'.cell? ⟨b, i, none⟩ = w.cell? ⟨b, i, none⟩ :=
  World.cell?_of_block (a := ⟨b, i, none⟩) (h.block b hb (fun e => hr e.symm))

end Go.Proofs.Ytbploaihicakeaa

namespace Go.Proofs.Ytbploaihicakeaa
open Go.RowKit

/-- The middles, column and row by turns. -/
def Gn.mid (d : Gn.Dice) (j : Nat) : Int := if j % 2 = 0 then Gn.mx d (j / 2) else Gn.my d (j / 2)
def Gn.mids (d : Gn.Dice) : Array Value := #[.int .i64 (Gn.mid d 0), .int .i64 (Gn.mid d 1), .int .i64 (Gn.mid d 2), .int .i64 (Gn.mid d 3), .int .i64 (Gn.mid d 4), .int .i64 (Gn.mid d 5), .int .i64 (Gn.mid d 6), .int .i64 (Gn.mid d 7), .int .i64 (Gn.mid d 8), .int .i64 (Gn.mid d 9), .int .i64 (Gn.mid d 10), .int .i64 (Gn.mid d 11)]

theorem Arr.twelve {w : World} {g : Nat} {T : TypeId} {F : Nat → Value} (h : Arr w g T 12 F) :
    w.cell? ⟨g, 0, none⟩ = some (F 0) ∧ w.cell? ⟨g, 1, none⟩ = some (F 1) ∧ w.cell? ⟨g, 2, none⟩ = some (F 2) ∧ w.cell? ⟨g, 3, none⟩ = some (F 3) ∧ w.cell? ⟨g, 4, none⟩ = some (F 4) ∧ w.cell? ⟨g, 5, none⟩ = some (F 5) ∧ w.cell? ⟨g, 6, none⟩ = some (F 6) ∧ w.cell? ⟨g, 7, none⟩ = some (F 7) ∧ w.cell? ⟨g, 8, none⟩ = some (F 8) ∧ w.cell? ⟨g, 9, none⟩ = some (F 9) ∧ w.cell? ⟨g, 10, none⟩ = some (F 10) ∧ w.cell? ⟨g, 11, none⟩ = some (F 11) :=
  ⟨h.cell (by omega), h.cell (by omega), h.cell (by omega), h.cell (by omega), h.cell (by omega), h.cell (by omega), h.cell (by omega), h.cell (by omega), h.cell (by omega), h.cell (by omega), h.cell (by omega), h.cell (by omega)⟩

theorem Arr.twelveF {w : World} {g : Nat} {T : TypeId} {F : Nat → Value} (h : Arr w g T 12 F) :
    w.frozen? ⟨g, 0, none⟩ = false ∧ w.frozen? ⟨g, 1, none⟩ = false ∧ w.frozen? ⟨g, 2, none⟩ = false ∧ w.frozen? ⟨g, 3, none⟩ = false ∧ w.frozen? ⟨g, 4, none⟩ = false ∧ w.frozen? ⟨g, 5, none⟩ = false ∧ w.frozen? ⟨g, 6, none⟩ = false ∧ w.frozen? ⟨g, 7, none⟩ = false ∧ w.frozen? ⟨g, 8, none⟩ = false ∧ w.frozen? ⟨g, 9, none⟩ = false ∧ w.frozen? ⟨g, 10, none⟩ = false ∧ w.frozen? ⟨g, 11, none⟩ = false :=
  ⟨h.free _, h.free _, h.free _, h.free _, h.free _, h.free _, h.free _, h.free _, h.free _, h.free _, h.free _, h.free _⟩

theorem grown_set0 (w : World) (g i : Nat) (u : Value) : w.grownBy (w.setCell ⟨g, i, none⟩ u) (some g) := grown_set (World.grownBy.refl _ _) i u

end Go.Proofs.Ytbploaihicakeaa

namespace Go.Proofs.Ytbploaihicakeaa
open Go.RowKit

theorem least (p : Nat → Prop) (k : Nat) (h : p k) : ∃ m, p m ∧ ∀ j, p j → m ≤ j := by
  induction k using Nat.strongRecOn with
  | _ k ih =>
    by_cases hc : ∃ j, j < k ∧ p j
    · obtain ⟨j, hj, hp⟩ := hc
      exact ih j hj hp
    · exact ⟨k, h, fun j hp => by by_cases hjk : k ≤ j; exact hjk; exact absurd ⟨j, by omega, hp⟩ hc⟩

theorem least_spec (p : Nat → Prop) (k : Nat) (h : p k) : p (@Classical.epsilon Nat ⟨0⟩ fun m => p m ∧ ∀ j, p j → m ≤ j) ∧ ∀ j, p j → (@Classical.epsilon Nat ⟨0⟩ fun m => p m ∧ ∀ j, p j → m ≤ j) ≤ j :=
  Classical.epsilon_spec (p := fun m => p m ∧ ∀ j, p j → m ≤ j) (least p k h)

/-- A scope in which the run jumps back to one label; the measure is a number of one's own. -/
theorem wp_scope_ghost {P : Program} {a : Act} {w : World} {Q : Exit → Act → World → Prop} {c rest : Code} (l : Nat) (J : Nat → Act → World → Prop) (hf : findLabel c l = some rest)
    (first : c.wp P (Exit.jump l (fun a w => ∃ k, J k a w) Q) a w)
    (pass : ∀ k a w, J k a w → rest.wp P (Exit.jump l (fun a' w' => ∃ k', k' < k ∧ J k' a' w') Q) a w) : (Code.scope c).wp P Q a w := by
  refine wp_scope_jumps l (fun a w => ∃ k, J k a w) (fun a w => @Classical.epsilon Nat ⟨0⟩ fun m => J m a w ∧ ∀ j, J j a w → m ≤ j) hf first ?_
  rintro a w ⟨k, hk⟩
  obtain ⟨h1, h2⟩ := least_spec (fun k => J k a w) k hk
  refine Code.wp_mono ?_ (pass _ a w h1)
  intro e a' w' hq
  cases e with
  | goto l' =>
    obtain ⟨hl, k', hk', hJ⟩ := hq
    exact ⟨hl, ⟨k', hJ⟩, Nat.lt_of_le_of_lt ((least_spec (fun k => J k a' w') k' hJ).2 k' hJ) hk'⟩
  | normal => exact hq
  | exit _ => exact hq
  | ret => exact hq
  | panic _ => exact hq
  | outgrown => exact hq

end Go.Proofs.Ytbploaihicakeaa

namespace Go.Proofs.Ytbploaihicakeaa
open Go.RowKit

theorem grown_put (w : World) (g i : Nat) (u : Value) : w.grownBy (w.setCell ⟨g, i, none⟩ u) (some g) := grown_set (World.grownBy.refl _ _) i u

theorem Arr.pair (w : World) (x y : Int) (T : TypeId) : Arr (w.alloc (.cells #[.int .i64 x, .int .i64 y] T)) w.heap.size T 2 (fun j => .int .i64 (if j = 0 then x else y)) := by
  refine ⟨_, heap_alloc_new _ _, rfl, fun i hi => ?_⟩
  rcases (show i = 0 ∨ i = 1 by omega) with rfl | rfl <;> rfl

theorem Gn.steps_0 {x y tx ty : Int} (hx : x = tx) (hy : y = ty) : Gn.steps x y tx ty = 0 := by
  unfold Gn.steps; omega

theorem Gn.run_on {tx ty x y : Int} {first : Bool} {st : (Nat → Int) × Bool} {c : Nat} (h : ¬ (x = tx ∧ y = ty)) (hc : y * 24 + x = (c : Int)) :
    Gn.digRun tx ty first (Gn.steps x y tx ty) st x y = Gn.digRun tx ty first (Gn.steps (Gn.stepX x y tx ty first) (Gn.stepY x y tx ty first) tx ty) (Gn.digAt st c) (Gn.stepX x y tx ty first) (Gn.stepY x y tx ty first) := by
  rw [← Gn.step_less x y tx ty first h, Gn.digRun, hc, Int.toNat_natCast]

theorem Gn.run_end {tx ty x y : Int} {first : Bool} {st : (Nat → Int) × Bool} {c : Nat} (hx : x = tx) (hy : y = ty) (hc : y * 24 + x = (c : Int)) :
    Gn.digRun tx ty first (Gn.steps x y tx ty) st x y = Gn.digAt st c := by
  rw [Gn.steps_0 hx hy, Gn.digRun, hc, Int.toNat_natCast]

theorem Gn.at_wall {st : (Nat → Int) × Bool} {c : Nat} (h : st.1 c = 0) : Gn.digAt st c = (Gr.upd st.1 c (if st.2 then 1 else 2), true) := if_pos h

theorem Gn.at_free {st : (Nat → Int) × Bool} {c : Nat} (h : ¬ st.1 c = 0) : Gn.digAt st c = st := if_neg h

theorem Arr.byte {w : World} {g n : Nat} {T : TypeId} {F : Nat → Int} (h : Arr w g T n (Byts F)) (i : Nat) (v : Int) : Arr (w.setCell ⟨g, i, none⟩ (.int .u8 v)) g T n (Byts (Gr.upd F i v)) := by
  refine (h.store i _).congr fun j _ => ?_
  show (if j = i then Value.int .u8 v else .int .u8 (F j)) = .int .u8 (if j = i then v else F j)
  split <;> rfl

end Go.Proofs.Ytbploaihicakeaa

namespace Go.Proofs.Ytbploaihicakeaa
open Go.RowKit

theorem Gn.mid_even (d : Gn.Dice) (k : Nat) : Gn.mid d (k * 2) = Gn.mx d k := by
  unfold Gn.mid
  rw [if_pos (by omega), show k * 2 / 2 = k by omega]

theorem Gn.mid_odd (d : Gn.Dice) (k : Nat) : Gn.mid d (k * 2 + 1) = Gn.my d k := by
  unfold Gn.mid
  rw [if_neg (by omega), show (k * 2 + 1) / 2 = k by omega]

end Go.Proofs.Ytbploaihicakeaa
