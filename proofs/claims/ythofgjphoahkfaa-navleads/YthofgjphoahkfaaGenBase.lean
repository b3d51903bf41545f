/-
  One step nearer, of the program and of the document said again.
  Floors, as numbers: rooms, corridors; what the packages reckon, as plain functions.
  A region that draws its order and holds calls which make memory of their own: one walk in the order of the text serves every order, the world being any that has grown out of the one that was.
  The greatest of a row, where it stands first, and the cells that are floor.
  Lists of cells in a block of the call's own; what slices' DeleteFunc and Delete make of them.
  What slices.DeleteFunc, at the monsters' test, and slices.Delete of one element leave.
  A scope in which the run jumps back to one label, the measure being a number of one's own.
  A corridor: the program digs it by a goto from step to step.
-/
import Derived.Test.YthofgjphoahkfaaGenSmall
import Derived.Deep.RegionHeld3
import Derived.Deep.LoopGhost
import Derived.Deep.RegionLaw
import Derived.Lib.SliceRun
import Derived.Test.YthofgjphoahkfaaGridMem
import Derived.ScopeJumps
import Derived.WalkMore
namespace Go.Proofs.Ythofgjphoahkfaa
open Go.RowKit

def Gn.way (x y tx ty : Int) (first : Bool) : Bool := (y == ty) || (first && x != tx)
def Gn.stepX (x y tx ty : Int) (first : Bool) : Int := if Gn.way x y tx ty first then Gn.to1 x tx else x
def Gn.stepY (x y tx ty : Int) (first : Bool) : Int := if Gn.way x y tx ty first then y else Gn.to1 y ty

theorem Gn.cmp_add (a b : Int) : a + Gn.cmp b a = Gn.to1 a b := by
  unfold Gn.cmp Gn.to1
  split
  · split <;> omega
  · split <;> omega

theorem Gn.cmp_bd (a b : Int) : -1 ≤ Gn.cmp a b ∧ Gn.cmp a b ≤ 1 := by
  unfold Gn.cmp
  split
  · omega
  · split <;> omega

theorem grown_drew1 {a b : World} {r : Option Nat} (h : a.grownBy b r) : a.grownBy b.drew r := ⟨h.os, h.tape, h.output, h.size, h.block⟩

theorem grown_three (w : World) (o1 o2 o3 : Obj) : w.grownBy (((w.alloc o1).alloc o2).alloc o3).drew none := grown_drew1 (grown_alloc (grown_alloc (World.grownBy_alloc _ _ _) _) _)

end Go.Proofs.Ythofgjphoahkfaa

namespace Go.Proofs.Ythofgjphoahkfaa

namespace Gn

/-- What the chapter's D tells: of a, b and the count of sides. -/
abbrev Dice := Int → Int → Int → Int

/-- It shows a side. -/
def Fair (d : Dice) : Prop := ∀ a b n, 1 ≤ n → 0 ≤ d a b n ∧ d a b n < n

/-- Room i: its width, height, first column, first row; its middle. -/
def rw (d : Dice) (i : Nat) : Int := 3 + d i 0 5
def rh (d : Dice) (i : Nat) : Int := 2 + d i 1 4
def rx (d : Dice) (i : Nat) : Int := 1 + d i 2 (23 - rw d i)
def ry (d : Dice) (i : Nat) : Int := 1 + d i 3 (15 - rh d i)
def mx (d : Dice) (i : Nat) : Int := rx d i + rw d i / 2
def my (d : Dice) (i : Nat) : Int := ry d i + rh d i / 2

theorem room_bd {d : Dice} (hd : Fair d) (i : Nat) : (3 ≤ rw d i ∧ rw d i ≤ 7) ∧ (2 ≤ rh d i ∧ rh d i ≤ 5) ∧ (1 ≤ rx d i ∧ rx d i + rw d i ≤ 23) ∧ (1 ≤ ry d i ∧ ry d i + rh d i ≤ 15) := by
  have hw := hd i 0 5 (by omega)
  have hh := hd i 1 4 (by omega)
  have h1 : 3 ≤ rw d i ∧ rw d i ≤ 7 := by unfold rw; omega
  have h2 : 2 ≤ rh d i ∧ rh d i ≤ 5 := by unfold rh; omega
  have hx := hd i 2 (23 - rw d i) (by omega)
  have hy := hd i 3 (15 - rh d i) (by omega)
  refine ⟨h1, h2, ?_, ?_⟩
  · unfold rx; omega
  · unfold ry; omega

theorem mid_bd {d : Dice} (hd : Fair d) (i : Nat) : 1 ≤ mx d i ∧ mx d i ≤ 22 ∧ 1 ≤ my d i ∧ my d i ≤ 14 := by
  have := room_bd hd i
  unfold mx my
  omega

/-- The cells of rows y to r - 1, and of row r those of columns x to q - 1, of the room of w by h from (x, y) on, laid on c. -/
def paintTo (c : Nat → Int) (x y w h r q : Int) (i : Nat) : Int :=
  if (x ≤ (i % 24 : Nat) ∧ ((i % 24 : Nat) : Int) < x + w ∧ y ≤ (i / 24 : Nat) ∧ ((i / 24 : Nat) : Int) < y + h) ∧ (((i / 24 : Nat) : Int) < r ∨ ((i / 24 : Nat) : Int) = r ∧ ((i % 24 : Nat) : Int) < q) then 1 else c i

def paint (c : Nat → Int) (x y w h : Int) (i : Nat) : Int := paintTo c x y w h (y + h) x i

theorem paint_start (c : Nat → Int) (x y w h : Int) (i : Nat) : paintTo c x y w h y x i = c i := by
  unfold paintTo
  rw [if_neg (by omega)]

theorem paint_row (c : Nat → Int) (x y w h r : Int) (i : Nat) : paintTo c x y w h r (x + w) i = paintTo c x y w h (r + 1) x i := by
  unfold paintTo
  by_cases hc : (x ≤ (i % 24 : Nat) ∧ ((i % 24 : Nat) : Int) < x + w ∧ y ≤ (i / 24 : Nat) ∧ ((i / 24 : Nat) : Int) < y + h) ∧ (((i / 24 : Nat) : Int) < r ∨ ((i / 24 : Nat) : Int) = r ∧ ((i % 24 : Nat) : Int) < x + w)
  · rw [if_pos hc, if_pos (by omega)]
  · rw [if_neg hc, if_neg (by omega)]

theorem paint_one (c : Nat → Int) (x y w h r q : Int) (k : Nat) (h1 : x ≤ q) (h2 : q < x + w) (h3 : y ≤ r) (h4 : r < y + h) (h5 : 0 ≤ x) (h6 : x + w ≤ 24) (hk : r * 24 + q = (k : Int)) (i : Nat) : Gr.upd (paintTo c x y w h r q) k 1 i = paintTo c x y w h r (q + 1) i := by
  unfold Gr.upd paintTo
  by_cases e : i = k
  · subst e
    rw [if_pos rfl, if_pos (by omega)]
  · rw [if_neg e]
    by_cases hc : (x ≤ (i % 24 : Nat) ∧ ((i % 24 : Nat) : Int) < x + w ∧ y ≤ (i / 24 : Nat) ∧ ((i / 24 : Nat) : Int) < y + h) ∧ (((i / 24 : Nat) : Int) < r ∨ ((i / 24 : Nat) : Int) = r ∧ ((i % 24 : Nat) : Int) < q)
    · rw [if_pos hc, if_pos (by omega)]
    · rw [if_neg hc, if_neg (by omega)]

/-- The floor with itdirst n rooms. -/
def roomed (d : Dice) : Nat → Nat → Int
  | 0 => fun _ => 0
  | n + 1 => paint (roomed d n) (rx d n) (ry d n) (rw d n) (rh d n)

/-- A cell that a corridor goes over; has it a door by now? -/
def digAt (st : (Nat → Int) × Bool) (k : Nat) : (Nat → Int) × Bool := if st.1 k = 0 then (Gr.upd st.1 k (if st.2 then 1 else 2), true) else st

/-- A corridor of n steps, from (x, y) to (tx, ty). -/
def digRun (tx ty : Int) (first : Bool) : Nat → (Nat → Int) × Bool → Int → Int → (Nat → Int) × Bool
  | 0, st, x, y => digAt st (y * 24 + x).toNat
  | n + 1, st, x, y => digRun tx ty first n (digAt st (y * 24 + x).toNat) (stepX x y tx ty first) (stepY x y tx ty first)

def steps (x y tx ty : Int) : Nat := (tx - x).natAbs + (ty - y).natAbs

theorem step_less (x y tx ty : Int) (first : Bool) (h : ¬ (x = tx ∧ y = ty)) : steps (stepX x y tx ty first) (stepY x y tx ty first) tx ty + 1 = steps x y tx ty := by
  unfold steps stepX stepY way to1
  by_cases hy : y = ty
  · have hx : x ≠ tx := fun e => h ⟨e, hy⟩
    simp only [hy, beq_self_eq_true, Bool.true_or, ite_true]
    split
    · omega
    · split <;> omega
  · have e : (y == ty) = false := by simpa using hy
    rw [e, Bool.false_or]
    split
    · rename_i hh
      have hx : x ≠ tx := by simp at hh; exact hh.2
      split
      · omega
      · split <;> omega
    · split
      · omega
      · split <;> omega

theorem step_bd (x y tx ty : Int) (first : Bool) (h : (1 ≤ x ∧ x ≤ 22) ∧ 1 ≤ y ∧ y ≤ 14) (ht : (1 ≤ tx ∧ tx ≤ 22) ∧ 1 ≤ ty ∧ ty ≤ 14) : (1 ≤ stepX x y tx ty first ∧ stepX x y tx ty first ≤ 22) ∧ 1 ≤ stepY x y tx ty first ∧ stepY x y tx ty first ≤ 14 := by
  unfold stepX stepY to1
  split
  · split
    · omega
    · split <;> omega
  · split
    · omega
    · split <;> omega

/-- The floor with all rooms and itdirst n corridors. -/
def dug (d : Dice) : Nat → Nat → Int
  | 0 => roomed d 6
  | n + 1 => (digRun (mx d (n + 1)) (my d (n + 1)) (d ((n + 1 : Nat) : Int) 4 2 == 0) (steps (mx d n) (my d n) (mx d (n + 1)) (my d (n + 1))) (dug d n, false) (mx d n) (my d n)).1

theorem paint_01 {c : Nat → Int} {x y w h r q : Int} (hc : ∀ i, 0 ≤ c i ∧ c i ≤ 5) (i : Nat) : 0 ≤ paintTo c x y w h r q i ∧ paintTo c x y w h r q i ≤ 5 := by
  unfold paintTo
  split
  · omega
  · exact hc i

theorem upd_5 {c : Nat → Int} {k : Nat} {v : Int} (hc : ∀ i, 0 ≤ c i ∧ c i ≤ 5) (hv : 0 ≤ v ∧ v ≤ 5) (i : Nat) : 0 ≤ Gr.upd c k v i ∧ Gr.upd c k v i ≤ 5 := by
  unfold Gr.upd
  split
  · exact hv
  · exact hc i

theorem digAt_5 {st : (Nat → Int) × Bool} {k : Nat} (hc : ∀ i, 0 ≤ st.1 i ∧ st.1 i ≤ 5) (i : Nat) : 0 ≤ (digAt st k).1 i ∧ (digAt st k).1 i ≤ 5 := by
  unfold digAt
  split
  · exact upd_5 hc (by split <;> omega) i
  · exact hc i

theorem digRun_5 (tx ty : Int) (first : Bool) : ∀ (n : Nat) (st : (Nat → Int) × Bool) (x y : Int), (∀ i, 0 ≤ st.1 i ∧ st.1 i ≤ 5) → ∀ i, 0 ≤ (digRun tx ty first n st x y).1 i ∧ (digRun tx ty first n st x y).1 i ≤ 5
  | 0, _, _, _, h => digAt_5 h
  | n + 1, _, _, _, h => digRun_5 tx ty first n _ _ _ (digAt_5 h)

theorem roomed_5 (d : Dice) : ∀ (n i : Nat), 0 ≤ roomed d n i ∧ roomed d n i ≤ 5
  | 0, _ => by simp [roomed]
  | n + 1, i => paint_01 (roomed_5 d n) i

theorem dug_5 (d : Dice) : ∀ (n i : Nat), 0 ≤ dug d n i ∧ dug d n i ≤ 5
  | 0, i => roomed_5 d 6 i
  | n + 1, i => by
    have h := digRun_5 (mx d (n + 1)) (my d (n + 1)) (d ((n + 1 : Nat) : Int) 4 2 == 0) (steps (mx d n) (my d n) (mx d (n + 1)) (my d (n + 1))) (dug d n, false) (mx d n) (my d n) (dug_5 d n) i
    rw [dug]
    exact h

end Gn

end Go.Proofs.Ythofgjphoahkfaa

namespace Go.Proofs.Ythofgjphoahkfaa
open Go.RowKit

theorem grown_none {a b c : World} {r : Option Nat} (h : a.grownBy b r) (k : b.grownBy c none) : a.grownBy c r := grown_own h k (fun _ e => by cases e)

theorem wp_region_grown {P : Program} {id : Nat} {Q : Exit → Act → World → Prop} {a : Act} {w : World} {l : List Oper} (hm : P.follows .mixedOrders = true) (hB : Region.lexB .any l.toArray = true)
    (h : ∀ (St : Type), Nonempty St → ∀ (W : St → World), (∀ σ, w.grownBy (W σ) none) → (∀ x, w.grownBy x none → ∃ σ, x = W σ) →
      wpQuiet P l.toArray (fun w' => ∃ σ, w' = W σ) (fun a' => ∀ w', (∃ σ, w' = W σ) → Q .normal a' w') l a) : (Code.region id l.toArray true).wp P Q a w := by
  have h1 := h { x // w.grownBy x none } ⟨⟨_, World.grownBy.refl w none⟩⟩ (fun σ => σ.val) (fun σ => σ.property) (fun x hx => ⟨⟨x, hx⟩, rfl⟩)
  exact wp_region_quiet (C := fun w' => ∃ σ : { x // w.grownBy x none }, w' = σ.val) hm hB ⟨⟨_, grown_drew1 (World.grownBy.refl _ _)⟩, rfl⟩ (by simpa using h1)

/-- A callee that makes memory of its own stays in the class. -/
theorem calls_class {P : Program} {f : FuncId} {args : Array Value} {St : Type} {W : St → World} {w : World} {σ : St} {v : Value} (hI : ∀ σ, w.grownBy (W σ) none) (hx : ∀ x, w.grownBy x none → ∃ σ, x = W σ)
    (h : Calls P f args (W σ) (Says (W σ) v)) : Calls P f args (W σ) fun e w'' => e = .returned v ∧ ∃ σ', w'' = W σ' :=
  h.mono fun _ w' ⟨he, hg⟩ => ⟨he, hx w' (grown_trans (hI σ) hg)⟩

theorem grown_cell {w w' : World} {r : Option Nat} (h : w.grownBy w' r) (b i : Nat) (hb : b < w.heap.size) (hr : r ≠ some b) : w'.cell? ⟨b, i, none⟩ = w.cell? ⟨b, i, none⟩ :=
  World.cell?_of_block (a := ⟨b, i, none⟩) (h.block b hb (fun e => hr e.symm))

end Go.Proofs.Ythofgjphoahkfaa

namespace Go.Proofs.Ythofgjphoahkfaa
open Go.RowKit

/-- The greatest of F 0 to F n. -/
def Gn.most (F : Nat → Int) : Nat → Int
  | 0 => F 0
  | n + 1 => if F (n + 1) > Gn.most F n then F (n + 1) else Gn.most F n

theorem Gn.most_ge (F : Nat → Int) (n i : Nat) (h : i ≤ n) : F i ≤ Gn.most F n := by
  induction n with
  | zero => obtain rfl : i = 0 := by omega
            exact Int.le_refl _
  | succ n ih =>
    unfold Gn.most
    by_cases e : i = n + 1
    · subst e; split <;> omega
    · have := ih (by omega)
      split <;> omega

theorem Gn.most_is (F : Nat → Int) (n : Nat) : ∃ i, i ≤ n ∧ F i = Gn.most F n := by
  induction n with
  | zero => exact ⟨0, Nat.le_refl _, rfl⟩
  | succ n ih =>
    obtain ⟨i, hi, he⟩ := ih
    by_cases h : F (n + 1) > Gn.most F n
    · exact ⟨n + 1, Nat.le_refl _, by rw [Gn.most, if_pos h]⟩
    · exact ⟨i, by omega, by rw [Gn.most, if_neg h]; exact he⟩

/-- The numbers below n of which p holds, in order. -/
def Gn.those (p : Nat → Bool) (n : Nat) : List Nat := (List.range n).filter p

theorem Gn.those_yes {p : Nat → Bool} {n : Nat} (h : p n = true) : Gn.those p (n + 1) = Gn.those p n ++ [n] := by
  unfold Gn.those
  rw [List.range_succ, List.filter_append, List.filter_cons_of_pos h, List.filter_nil]

theorem Gn.those_no {p : Nat → Bool} {n : Nat} (h : p n = false) : Gn.those p (n + 1) = Gn.those p n := by
  unfold Gn.those
  rw [List.range_succ, List.filter_append, List.filter_cons_of_neg (by simp [h]), List.filter_nil, List.append_nil]

theorem Gn.those_len (p : Nat → Bool) (n : Nat) : (Gn.those p n).length ≤ n := by
  have h := List.length_filter_le p (List.range n)
  rw [List.length_range] at h
  exact h

/-- A list of numbers in a block of the call's own. -/
def Lst (w : World) (base : Nat) (v : Value) (l : List Nat) : Prop := w.ownsRow base 3 1 v l.length ((natInts l).map (Value.int .i64))

end Go.Proofs.Ythofgjphoahkfaa

namespace Go.Proofs.Ythofgjphoahkfaa
open Go.RowKit

theorem Lst.form {w : World} {base : Nat} {v : Value} {l : List Nat} (h : Lst w base v l) :
    (v = .slice none 0 0 ∧ l = []) ∨ ∃ g cap F, v = .slice (some ⟨g, 0, none⟩) l.length cap ∧ base ≤ g ∧ Arr w g 3 cap F ∧ l.length ≤ cap ∧ cap ≤ maxLen ∧ ∀ i, i < l.length → F i = .int .i64 ((l[i]?.getD 0 : Nat) : Int) := by
  rcases h.2 with ⟨rfl, h0⟩ | ⟨g, cap, cur, rfl, hb, hg, hn, hm, hs, ht⟩
  · exact .inl ⟨rfl, List.eq_nil_of_length_eq_zero h0⟩
  · refine .inr ⟨g, cap, fun i => cur[i]?.getD undef, rfl, hb, ⟨cur, hg, by omega, fun i hi => ?_⟩, hn, hm, fun i hi => ?_⟩
    · show cur[i]? = some (cur[i]?.getD undef)
      rw [Array.getElem?_eq_getElem (by omega)]
      rfl
    · show cur[i]?.getD undef = _
      have e : (cur.toList.take (l.length * 1))[i]? = ((natInts l).map (Value.int .i64))[i]? := by rw [ht]
      rw [List.getElem?_take, if_pos (by omega), Array.getElem?_toList, List.getElem?_map] at e
      rw [e, ← natInts_at, List.getElem?_eq_getElem (by rw [natInts_len]; exact hi)]
      rfl

theorem Lst.back {w : World} {base g cap : Nat} {l : List Nat} {F : Nat → Value} (hb : base ≤ g) (hA : Arr w g 3 cap F) (hn : l.length ≤ cap) (hm : cap ≤ maxLen) (hF : ∀ i, i < l.length → F i = .int .i64 ((l[i]?.getD 0 : Nat) : Int)) :
    Lst w base (.slice (some ⟨g, 0, none⟩) l.length cap) l := by
  obtain ⟨cur, hg, hs, hc⟩ := hA
  refine ⟨by simp [natInts], .inr ⟨g, cap, cur, rfl, hb, hg, hn, hm, by omega, ?_⟩⟩
  apply List.ext_getElem?
  intro i
  rw [List.getElem?_take, List.getElem?_map, Array.getElem?_toList]
  by_cases hi : i < l.length
  · rw [if_pos (by omega), hc i (by omega), hF i hi, ← natInts_at, List.getElem?_eq_getElem (by rw [natInts_len]; exact hi)]
    rfl
  · rw [if_neg (by omega), List.getElem?_eq_none (by rw [natInts_len]; omega)]
    rfl

theorem Arr.stores {g n : Nat} {T : TypeId} : ∀ (vs : List Value) (o : Nat) (w : World) (F : Nat → Value), Arr w g T n F → Arr (w.setCells g o vs) g T n (fun j => if o ≤ j ∧ j < o + vs.length then vs[j - o]?.getD undef else F j)
  | [], o, w, F, h => h.congr fun j _ => by
      show F j = if o ≤ j ∧ j < o + 0 then _ else F j
      rw [if_neg (by omega)]
  | v :: vs, o, w, F, h => by
      have h1 := Arr.stores vs (o + 1) (w.setCell ⟨g, o, none⟩ v) _ (h.store o v)
      refine Arr.congr h1 fun j _ => ?_
      show (if o + 1 ≤ j ∧ j < o + 1 + vs.length then vs[j - (o + 1)]?.getD undef else if j = o then v else F j) = if o ≤ j ∧ j < o + (vs.length + 1) then (v :: vs)[j - o]?.getD undef else F j
      by_cases e : j = o
      · rw [if_neg (by omega), if_pos e, if_pos (by omega), e, Nat.sub_self]
        rfl
      · by_cases e2 : o + 1 ≤ j ∧ j < o + 1 + vs.length
        · rw [if_pos e2, if_pos (by omega), show j - o = (j - (o + 1)) + 1 by omega]
          rfl
        · rw [if_neg e2, if_neg e, if_neg (by omega)]

theorem grown_sets {a : World} {g : Nat} : ∀ (vs : List Value) (o : Nat) (b : World), a.grownBy b (some g) → a.grownBy (b.setCells g o vs) (some g)
  | [], _, _, h => h
  | v :: vs, o, b, h => grown_sets vs (o + 1) (b.setCell ⟨g, o, none⟩ v) (grown_set h o v)

/-- Is a cell four steps away, or more? -/
def Gn.afar (F : Nat → Int) (c : Nat) : Bool := !(decide (F c < 4))

end Go.Proofs.Ythofgjphoahkfaa

namespace Go.Proofs.Ythofgjphoahkfaa
open Go.RowKit

/-- Of the first j those that stay. -/
def Gn.kept (F : Nat → Int) (l : List Nat) (j : Nat) : List Nat := (l.take j).filter (Gn.afar F)

theorem Gn.kept_len (F : Nat → Int) (l : List Nat) (j : Nat) : (Gn.kept F l j).length ≤ j := by
  have h := List.length_filter_le (Gn.afar F) (l.take j)
  rw [List.length_take] at h
  unfold Gn.kept
  omega

theorem Gn.take_more (l : List Nat) (j : Nat) (h : j < l.length) : l.take (j + 1) = l.take j ++ [l[j]?.getD 0] := by
  rw [List.take_add_one, List.getElem?_eq_getElem h]
  rfl

theorem Gn.kept_yes {F : Nat → Int} {l : List Nat} {j : Nat} (h : j < l.length) (ha : Gn.afar F (l[j]?.getD 0) = true) : Gn.kept F l (j + 1) = Gn.kept F l j ++ [l[j]?.getD 0] := by
  unfold Gn.kept
  rw [Gn.take_more l j h, List.filter_append, List.filter_cons_of_pos ha, List.filter_nil]

theorem Gn.kept_no {F : Nat → Int} {l : List Nat} {j : Nat} (h : j < l.length) (ha : Gn.afar F (l[j]?.getD 0) = false) : Gn.kept F l (j + 1) = Gn.kept F l j := by
  unfold Gn.kept
  rw [Gn.take_more l j h, List.filter_append, List.filter_cons_of_neg (by simp [ha]), List.filter_nil, List.append_nil]

theorem Gn.kept_all {F : Nat → Int} {l : List Nat} {m : Nat} (hm : m ≤ l.length) (ha : ∀ i, i < m → Gn.afar F (l[i]?.getD 0) = true) : Gn.kept F l m = l.take m := by
  unfold Gn.kept
  rw [List.filter_eq_self]
  intro a hmem
  obtain ⟨i, hi, rfl⟩ := List.getElem_of_mem hmem
  rw [List.length_take] at hi
  have := ha i (by omega)
  rw [List.getElem?_eq_getElem (by omega)] at this
  rw [List.getElem_take]
  exact this

/-- Where there is one that goes, the first; else none. -/
theorem Gn.first_go (F : Nat → Int) (l : List Nat) : (∀ i, i < l.length → Gn.afar F (l[i]?.getD 0) = true) ∨ ∃ m, m < l.length ∧ Gn.afar F (l[m]?.getD 0) = false ∧ ∀ i, i < m → Gn.afar F (l[i]?.getD 0) = true := by
  by_cases h : ∃ m, m < l.length ∧ Gn.afar F (l[m]?.getD 0) = false
  · obtain ⟨m0, h0⟩ := h
    right
    induction m0 using Nat.strongRecOn with
    | _ m ih =>
      by_cases hc : ∃ i, i < m ∧ Gn.afar F (l[i]?.getD 0) = false
      · obtain ⟨i, hi, hf⟩ := hc
        exact ih i hi ⟨by omega, hf⟩
      · refine ⟨m, h0.1, h0.2, fun i hi => ?_⟩
        cases hh : Gn.afar F (l[i]?.getD 0) with
        | true => rfl
        | false => exact absurd ⟨i, hi, hh⟩ hc
  · left
    intro i hi
    cases hh : Gn.afar F (l[i]?.getD 0) with
    | true => rfl
    | false => exact absurd ⟨i, hi, hh⟩ h

theorem zero_int : ∀ w, (zeroValue 3).run Try.prog w = .ok (.int .i64 0) w := by
  intro w
  kernel_rfl

/-- What the walk holds on to: the first x are those that stay, from j on all is as it was. -/
structure DelHold (w : World) (base g cap gF Bx : Nat) (F : Nat → Int) (l : List Nat) (j : Nat) (wr : World) (H : Nat → Value) : Prop where
  row : Arr wr g 3 cap H
  box : wr.cell? ⟨Bx, 0, none⟩ = some (.slice (some ⟨gF, 0, none⟩) 384 384)
  fld : Arr wr gF 3 384 (Ints F)
  low : ∀ x, x < (Gn.kept F l j).length → H x = .int .i64 (((Gn.kept F l j)[x]?.getD 0 : Nat) : Int)
  high : ∀ x, j ≤ x → x < l.length → H x = .int .i64 ((l[x]?.getD 0 : Nat) : Int)
  below : Below base w wr

theorem below_put {base g : Nat} {w wr : World} (h : Below base w wr) (hb : base ≤ g) (i : Nat) (u : Value) : Below base w (wr.setCell ⟨g, i, none⟩ u) := h.setCell hb u

theorem DelHold.keep {w : World} {base g cap gF Bx : Nat} {F : Nat → Int} {l : List Nat} {j : Nat} {wr : World} {H : Nat → Value} (h : DelHold w base g cap gF Bx F l j wr H) (hb : base ≤ g) (h1 : gF < base) (h2 : Bx < base) (hj : j < l.length) (ha : Gn.afar F (l[j]?.getD 0) = true) :
    DelHold w base g cap gF Bx F l (j + 1) (wr.setCell ⟨g, (Gn.kept F l j).length, none⟩ (.int .i64 ((l[j]?.getD 0 : Nat) : Int))) (fun x => if x = (Gn.kept F l j).length then .int .i64 ((l[j]?.getD 0 : Nat) : Int) else H x) := by
  have hl := Gn.kept_len F l j
  refine ⟨h.row.store _ _, ?_, h.fld.grown (grown_set (World.grownBy.refl _ _) _ _) (by simp; omega), fun x hx => ?_, fun x hx hxl => ?_, h.below.setCell hb _⟩
  · rw [World.cell?_setCell_other _ _ _ _ (by intro e; have h3 : g = Bx := congrArg Addr.block e; omega)]
    exact h.box
  · rw [Gn.kept_yes hj ha] at hx ⊢
    rw [List.length_append] at hx
    have hx' : x < (Gn.kept F l j).length + 1 := hx
    show (if x = (Gn.kept F l j).length then Value.int .i64 ((l[j]?.getD 0 : Nat) : Int) else H x) = _
    by_cases e : x = (Gn.kept F l j).length
    · rw [if_pos e, e]
      simp
    · rw [if_neg e, List.getElem?_append_left (by omega)]
      exact h.low x (by omega)
  · show (if x = (Gn.kept F l j).length then Value.int .i64 ((l[j]?.getD 0 : Nat) : Int) else H x) = _
    rw [if_neg (by omega)]
    exact h.high x (by omega) hxl

theorem DelHold.pass {w : World} {base g cap gF Bx : Nat} {F : Nat → Int} {l : List Nat} {j : Nat} {wr : World} {H : Nat → Value} (h : DelHold w base g cap gF Bx F l j wr H) (hj : j < l.length) (ha : Gn.afar F (l[j]?.getD 0) = false) :
    DelHold w base g cap gF Bx F l (j + 1) wr H := by
  refine ⟨h.row, h.box, h.fld, fun x hx => ?_, fun x hx hxl => h.high x (by omega) hxl, h.below⟩
  rw [Gn.kept_no hj ha] at hx ⊢
  exact h.low x hx

theorem Gn.erase_at (l : List Nat) (i x : Nat) : (l.eraseIdx i)[x]?.getD 0 = if x < i then l[x]?.getD 0 else l[x + 1]?.getD 0 := by
  rw [List.getElem?_eraseIdx]
  split <;> rfl

end Go.Proofs.Ythofgjphoahkfaa

namespace Go.Proofs.Ythofgjphoahkfaa
open Go.RowKit

theorem least (p : Nat → Prop) (k : Nat) (h : p k) : ∃ m, p m ∧ ∀ j, p j → m ≤ j := by
  induction k using Nat.strongRecOn with
  | _ k ih =>
    by_cases hc : ∃ j, j < k ∧ p j
    · obtain ⟨j, hj, hp⟩ := hc
      exact ih j hj hp
    · exact ⟨k, h, fun j hp => by by_cases hjk : k ≤ j; exact hjk; exact absurd ⟨j, by omega, hp⟩ hc⟩

theorem least_spec (p : Nat → Prop) (k : Nat) (h : p k) : p (@Classical.epsilon Nat ⟨0⟩ fun m => p m ∧ ∀ j, p j → m ≤ j) ∧ ∀ j, p j → (@Classical.epsilon Nat ⟨0⟩ fun m => p m ∧ ∀ j, p j → m ≤ j) ≤ j :=
  Classical.epsilon_spec (p := fun m => p m ∧ ∀ j, p j → m ≤ j) (least p k h)

/-- A scope in which the run jumps back to one label; the measure is a number of one's own. -/
theorem wp_scope_ghost {P : Program} {a : Act} {w : World} {Q : Exit → Act → World → Prop} {c rest : Code} (l : Nat) (J : Nat → Act → World → Prop) (hf : findLabel c l = some rest)
    (first : c.wp P (Exit.jump l (fun a w => ∃ k, J k a w) Q) a w)
    (pass : ∀ k a w, J k a w → rest.wp P (Exit.jump l (fun a' w' => ∃ k', k' < k ∧ J k' a' w') Q) a w) : (Code.scope c).wp P Q a w := by
  refine wp_scope_jumps l (fun a w => ∃ k, J k a w) (fun a w => @Classical.epsilon Nat ⟨0⟩ fun m => J m a w ∧ ∀ j, J j a w → m ≤ j) hf first ?_
  rintro a w ⟨k, hk⟩
  obtain ⟨h1, h2⟩ := least_spec (fun k => J k a w) k hk
  refine Code.wp_mono ?_ (pass _ a w h1)
  intro e a' w' hq
  cases e with
  | goto l' =>
    obtain ⟨hl, k', hk', hJ⟩ := hq
    exact ⟨hl, ⟨k', hJ⟩, Nat.lt_of_le_of_lt ((least_spec (fun k => J k a' w') k' hJ).2 k' hJ) hk'⟩
  | normal => exact hq
  | exit _ => exact hq
  | ret => exact hq
  | panic _ => exact hq
  | outgrown => exact hq

end Go.Proofs.Ythofgjphoahkfaa

namespace Go.Proofs.Ythofgjphoahkfaa
open Go.RowKit

theorem grown_put (w : World) (g i : Nat) (u : Value) : w.grownBy (w.setCell ⟨g, i, none⟩ u) (some g) := grown_set (World.grownBy.refl _ _) i u

theorem Arr.pair (w : World) (x y : Int) (T : TypeId) : Arr (w.alloc (.cells #[.int .i64 x, .int .i64 y] T)) w.heap.size T 2 (fun j => .int .i64 (if j = 0 then x else y)) := by
  refine ⟨_, heap_alloc_new _ _, rfl, fun i hi => ?_⟩
  rcases (show i = 0 ∨ i = 1 by omega) with rfl | rfl <;> rfl

theorem Gn.steps_0 {x y tx ty : Int} (hx : x = tx) (hy : y = ty) : Gn.steps x y tx ty = 0 := by
  unfold Gn.steps; omega

theorem Gn.run_on {tx ty x y : Int} {first : Bool} {st : (Nat → Int) × Bool} {c : Nat} (h : ¬ (x = tx ∧ y = ty)) (hc : y * 24 + x = (c : Int)) :
    Gn.digRun tx ty first (Gn.steps x y tx ty) st x y = Gn.digRun tx ty first (Gn.steps (Gn.stepX x y tx ty first) (Gn.stepY x y tx ty first) tx ty) (Gn.digAt st c) (Gn.stepX x y tx ty first) (Gn.stepY x y tx ty first) := by
  rw [← Gn.step_less x y tx ty first h, Gn.digRun, hc, Int.toNat_natCast]

theorem Gn.run_end {tx ty x y : Int} {first : Bool} {st : (Nat → Int) × Bool} {c : Nat} (hx : x = tx) (hy : y = ty) (hc : y * 24 + x = (c : Int)) :
    Gn.digRun tx ty first (Gn.steps x y tx ty) st x y = Gn.digAt st c := by
  rw [Gn.steps_0 hx hy, Gn.digRun, hc, Int.toNat_natCast]

theorem Gn.at_wall {st : (Nat → Int) × Bool} {c : Nat} (h : st.1 c = 0) : Gn.digAt st c = (Gr.upd st.1 c (if st.2 then 1 else 2), true) := if_pos h

theorem Gn.at_free {st : (Nat → Int) × Bool} {c : Nat} (h : ¬ st.1 c = 0) : Gn.digAt st c = st := if_neg h

theorem Arr.byte {w : World} {g n : Nat} {T : TypeId} {F : Nat → Int} (h : Arr w g T n (Byts F)) (i : Nat) (v : Int) : Arr (w.setCell ⟨g, i, none⟩ (.int .u8 v)) g T n (Byts (Gr.upd F i v)) := by
  refine (h.store i _).congr fun j _ => ?_
  show (if j = i then Value.int .u8 v else .int .u8 (F j)) = .int .u8 (if j = i then v else F j)
  split <;> rfl

end Go.Proofs.Ythofgjphoahkfaa
