/-
  What slices.DeleteFunc, at the monsters' test, and slices.Delete of one element leave.
-/
import Derived.Test.YthngbjmiblbohaaGenList
import Derived.Deep.LoopGhost
namespace Go.Proofs.Ythngbjmiblbohaa
open Go.RowKit

/-- Of the first j those that stay. -/
def Gn.kept (F : Nat → Int) (l : List Nat) (j : Nat) : List Nat := (l.take j).filter (Gn.afar F)

theorem Gn.kept_len (F : Nat → Int) (l : List Nat) (j : Nat) : (Gn.kept F l j).length ≤ j := by
  have h := List.length_filter_le (Gn.afar F) (l.take j)
  rw [List.length_take] at h
  unfold Gn.kept
  omega

theorem Gn.take_more (l : List Nat) (j : Nat) (h : j < l.length) : l.take (j + 1) = l.take j ++ [l[j]?.getD 0] := by
  rw [List.take_add_one, List.getElem?_eq_getElem h]
  rfl

theorem Gn.kept_yes {F : Nat → Int} {l : List Nat} {j : Nat} (h : j < l.length) (ha : Gn.afar F (l[j]?.getD 0) = true) : Gn.kept F l (j + 1) = Gn.kept F l j ++ [l[j]?.getD 0] := by
  unfold Gn.kept
  rw [Gn.take_more l j h, List.filter_append, List.filter_cons_of_pos ha, List.filter_nil]

theorem Gn.kept_no {F : Nat → Int} {l : List Nat} {j : Nat} (h : j < l.length) (ha : Gn.afar F (l[j]?.getD 0) = false) : Gn.kept F l (j + 1) = Gn.kept F l j := by
  unfold Gn.kept
  rw [Gn.take_more l j h, List.filter_append, List.filter_cons_of_neg (by simp [ha]), List.filter_nil, List.append_nil]

theorem Gn.kept_all {F : Nat → Int} {l : List Nat} {m : Nat} (hm : m ≤ l.length) (ha : ∀ i, i < m → Gn.afar F (l[i]?.getD 0) = true) : Gn.kept F l m = l.take m := by
  unfold Gn.kept
  rw [List.filter_eq_self]
  intro a hmem
  obtain ⟨i, hi, rfl⟩ := List.getElem_of_mem hmem
  rw [List.length_take] at hi
  have := ha i (by omega)
  rw [List.getElem?_eq_getElem (by omega)] at this
  rw [List.getElem_take]
  exact this

/-- Where there is one that goes, the first; else none. -/
theorem Gn.first_go (F : Nat → Int) (l : List Nat) : (∀ i, i < l.length → Gn.afar F (l[i]?.getD 0) = true) ∨ ∃ m, m < l.length ∧ Gn.afar F (l[m]?.getD 0) = false ∧ ∀ i, i < m → Gn.afar F (l[i]?.getD 0) = true := by
  by_cases h : ∃ m, m < l.length ∧ Gn.afar F (l[m]?.getD 0) = false
  · obtain ⟨m0, h0⟩ := h
    right
    induction m0 using Nat.strongRecOn with
    | _ m ih =>
      by_cases hc : ∃ i, i < m ∧ Gn.afar F (l[i]?.getD 0) = false
      · obtain ⟨i, hi, hf⟩ := hc
        exact ih i hi ⟨by omega, hf⟩
      · refine ⟨m, h0.1, h0.2, fun i hi => ?_⟩
        cases hh : Gn.afar F (l[i]?.getD 0) with
        | true => rfl
        | false => exact absurd ⟨i, hi, hh⟩ hc
  · left
    intro i hi
    cases hh : Gn.afar F (l[i]?.getD 0) with
    | true => rfl
    | false => exact absurd ⟨i, hi, hh⟩ h

theorem zero_int : ∀ w, (zeroValue 3).run Try.prog w = .ok (.int .i64 0) w := by
  intro w
  kernel_rfl

/-- What the walk holds on to: the first x are those that stay, from j on all is as it was. -/
structure DelHold (w : World) (base g cap gF Bx : Nat) (F : Nat → Int) (l : List Nat) (j : Nat) (wr : World) (H : Nat → Value) : Prop where
  row : Arr wr g 3 cap H
  box : wr.cell? ⟨Bx, 0, none⟩ = some (.slice (some ⟨gF, 0, none⟩) 384 384)
  fld : Arr wr gF 3 384 (Ints F)
  low : ∀ x, x < (Gn.kept F l j).length → H x = .int .i64 (((Gn.kept F l j)[x]?.getD 0 : Nat) : Int)
  high : ∀ x, j ≤ x → x < l.length → H x = .int .i64 ((l[x]?.getD 0 : Nat) : Int)
  below : Below base w wr

theorem below_put {base g : Nat} {w wr : World} (h : Below base w wr) (hb : base ≤ g) (i : Nat) (u : Value) : Below base w (wr.setCell ⟨g, i, none⟩ u) := h.setCell hb u

theorem DelHold.keep {w : World} {base g cap gF Bx : Nat} {F : Nat → Int} {l : List Nat} {j : Nat} {wr : World} {H : Nat → Value} (h : DelHold w base g cap gF Bx F l j wr H) (hb : base ≤ g) (h1 : gF < base) (h2 : Bx < base) (hj : j < l.length) (ha : Gn.afar F (l[j]?.getD 0) = true) :
    DelHold w base g cap gF Bx F l (j + 1) (wr.setCell ⟨g, (Gn.kept F l j).length, none⟩ (.int .i64 ((l[j]?.getD 0 : Nat) : Int))) (fun x => if x = (Gn.kept F l j).length then .int .i64 ((l[j]?.getD 0 : Nat) : Int) else H x) := by
  have hl := Gn.kept_len F l j
  refine ⟨h.row.store _ _, ?_, h.fld.grown (grown_set (World.grownBy.refl _ _) _ _) (by simp; omega), fun x hx => ?_, fun x hx hxl => ?_, h.below.setCell hb _⟩
  · rw [World.cell?_setCell_other _ _ _ _ (by intro e; have h3 : g = Bx := congrArg Addr.block e; omega)]
    exact h.box
  · rw [Gn.kept_yes hj ha] at hx ⊢
    rw [List.length_append] at hx
    have hx' : x < (Gn.kept F l j).length + 1 := hx
    show (if x = (Gn.kept F l j).length then Value.int .i64 ((l[j]?.getD 0 : Nat) : Int) else H x) = _
    by_cases e : x = (Gn.kept F l j).length
    · rw [if_pos e, e]
      simp
    · rw [if_neg e, List.getElem?_append_left (by omega)]
      exact h.low x (by omega)
  · show (if x = (Gn.kept F l j).length then Value.int .i64 ((l[j]?.getD 0 : Nat) : Int) else H x) = _
    rw [if_neg (by omega)]
    exact h.high x (by omega) hxl

theorem DelHold.pass {w : World} {base g cap gF Bx : Nat} {F : Nat → Int} {l : List Nat} {j : Nat} {wr : World} {H : Nat → Value} (h : DelHold w base g cap gF Bx F l j wr H) (hj : j < l.length) (ha : Gn.afar F (l[j]?.getD 0) = false) :
    DelHold w base g cap gF Bx F l (j + 1) wr H := by
  refine ⟨h.row, h.box, h.fld, fun x hx => ?_, fun x hx hxl => h.high x (by omega) hxl, h.below⟩
  rw [Gn.kept_no hj ha] at hx ⊢
  exact h.low x hx

theorem Gn.erase_at (l : List Nat) (i x : Nat) : (l.eraseIdx i)[x]?.getD 0 = if x < i then l[x]?.getD 0 else l[x + 1]?.getD 0 := by
  rw [List.getElem?_eraseIdx]
  split <;> rfl

end Go.Proofs.Ythngbjmiblbohaa
