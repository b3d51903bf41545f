/-
  A seat that is taken, retired, taken anew, time after time.
-/
import Derived.Test.YtiegccdgoemamabTableKnown
namespace Go.Proofs.Ytiegccdgoemamab
open Go.RowKit Go.WideShapes

/-- i rows of one seat, one behind the other, the last of which ends at 'at_'. -/
structure Tb.Life (E : Nat → Nat → Int) (i : Nat) (S at_ : Int) : Prop where
  rows : ∀ j, j < i → E j 0 = S ∧ 1 ≤ E j 1 ∧ E j 1 < E j 2 ∧ E j 2 ≤ at_
  last : ∀ j, j + 1 = i → E j 2 = at_
  none : i = 0 → at_ = 0

/-- One row more. -/
def Tb.grow (E : Nat → Nat → Int) (i : Nat) (S f u l : Int) : Nat → Nat → Int := Tb.set (Tb.set (Tb.put E i (Tb.span S f)) i 2 u) i 3 l

theorem Tb.grow_old {E : Nat → Nat → Int} {i : Nat} {S f u l : Int} {k : Nat} (hk : k < i) (j : Nat) : Tb.grow E i S f u l k j = E k j := by
  unfold Tb.grow Tb.set Tb.put
  rw [if_neg (by omega), if_neg (by omega), if_neg (by omega)]

theorem Tb.grow_new {E : Nat → Nat → Int} {i : Nat} {S f u l : Int} : Tb.grow E i S f u l i 0 = S ∧ Tb.grow E i S f u l i 1 = f ∧ Tb.grow E i S f u l i 2 = u ∧ Tb.grow E i S f u l i 3 = l := by
  unfold Tb.grow Tb.set Tb.put Tb.span
  refine ⟨?_, ?_, ?_, ?_⟩
  · rw [if_neg (by omega), if_neg (by omega), if_pos rfl, if_pos rfl]
  · rw [if_neg (by omega), if_neg (by omega), if_pos rfl, if_neg (by omega), if_pos rfl]
  · rw [if_neg (by omega), if_pos ⟨rfl, rfl⟩]
  · rw [if_pos ⟨rfl, rfl⟩]

section
variable {E : Nat → Nat → Int} {i : Nat} {S at_ : Int}

theorem Tb.Life.start (S : Int) : Tb.Life Tb.zero 0 S 0 := ⟨fun j h => by omega, fun j h => by omega, fun _ => rfl⟩

theorem Tb.Life.pos (h : Tb.Life E i S at_) : 0 ≤ at_ := by
  rcases Nat.eq_zero_or_pos i with e | e
  · rw [h.none e]; decide
  · have := h.rows 0 e
    omega

theorem Tb.Life.grow (h : Tb.Life E i S at_) {f u l : Int} (h1 : at_ < f) (h2 : f < u) : Tb.Life (Tb.grow E i S f u l) (i + 1) S u := by
  have hp := h.pos
  refine ⟨fun j hj => ?_, fun j hj => ?_, fun e => by omega⟩
  · by_cases e : j = i
    · subst e
      obtain ⟨g0, g1, g2, g3⟩ := Tb.grow_new (E := E) (i := j) (S := S) (f := f) (u := u) (l := l)
      rw [g0, g1, g2]
      omega
    · have := h.rows j (by omega)
      rw [Tb.grow_old (by omega), Tb.grow_old (by omega), Tb.grow_old (by omega)]
      omega
  · obtain rfl : j = i := by omega
    exact Tb.grow_new.2.2.1

theorem Tb.Life.at (h : Tb.Life E i S at_) {f : Int} (hf : at_ ≤ f) : Tb.at E S f i = (i : Int) - 1 := by
  cases i with
  | zero => rfl
  | succ k =>
    have := h.rows k (by omega)
    rw [Tb.at_hit ⟨this.1, by omega⟩]
    omega

theorem Tb.Life.free (h : Tb.Life E i S at_) (hs : at_ ≤ 1000) {f : Int} (hf : at_ ≤ f) : Tb.free E i S f = true := by
  unfold Tb.free
  rw [h.at (by omega)]
  cases i with
  | zero => rfl
  | succ k =>
    have h1 := h.rows k (by omega)
    have h2 := h.last k rfl
    rw [show ((k + 1 : Nat) : Int) - 1 = (k : Int) by omega, Int.toNat_natCast, h2]
    have h3 : (at_ == 0) = false := by simp; omega
    rw [h3, decide_eq_true hf]
    simp

theorem Tb.Life.free_other (h : Tb.Life E i S at_) {s : Int} (hs : s ≠ S) (f : Int) : Tb.free E i s f = true := by
  unfold Tb.free
  rcases Tb.at_cases E s 9223372036854775807 i with ⟨e, -⟩ | ⟨k, hk, -, hq, -⟩
  · rw [e]; rfl
  · exact absurd ((h.rows k hk).1.symm.trans hq.1) (fun e => hs e.symm)

theorem Tb.Life.open1 (h : Tb.Life E i S at_) (hs : at_ ≤ 1000) : Tb.opens E i at_ = 1 := by
  unfold Tb.opens
  rw [if_pos]
  by_cases e : (1 : Int) = S
  · rw [e]; exact h.free hs (by omega)
  · exact h.free_other e at_

theorem Tb.Life.seat (h : Tb.Life E i S at_) (hs : at_ ≤ 1000) (h0 : 0 ≤ S) (h3 : S ≤ 3) {f : Int} (hf : at_ < f) : Tb.err E i 2 S f 0 = 0 := by
  have := h.pos
  unfold Tb.err
  rw [if_neg (by omega), if_neg (by omega), if_neg (by omega), if_neg (by omega), if_pos (h.free hs (by omega))]

theorem Tb.Life.retAt (_h : Tb.Life E i S at_) {f : Int} (_hf : at_ < f) (hf2 : f ≤ 1000) : Tb.at (Tb.put E i (Tb.span S f)) S 9223372036854775807 (i + 1) = (i : Int) := by
  refine Tb.at_hit ⟨?_, ?_⟩
  · unfold Tb.put Tb.span; rw [if_pos rfl, if_pos rfl]
  · unfold Tb.put Tb.span; rw [if_pos rfl, if_neg (by omega), if_pos rfl]; omega

theorem Tb.Life.ret (h : Tb.Life E i S at_) (h0 : 1 ≤ S) (h3 : S ≤ 3) {f u l : Int} (hf : at_ < f) (hf2 : f ≤ 1000) (hu : f < u) (hl : f ≤ l) (hl2 : l ≤ u) : Tb.err (Tb.put E i (Tb.span S f)) (i + 1) 3 S u l = 0 := by
  have := h.pos
  have e1 : Tb.put E i (Tb.span S f) i 1 = f := by unfold Tb.put Tb.span; rw [if_pos rfl, if_neg (by omega), if_pos rfl]
  have e2 : Tb.put E i (Tb.span S f) i 2 = 0 := by unfold Tb.put Tb.span; rw [if_pos rfl, if_neg (by omega), if_neg (by omega)]
  unfold Tb.err
  rw [if_neg (by omega), if_neg (by omega), if_neg (by omega), if_pos rfl]
  unfold Tb.retErr
  rw [h.retAt hf hf2, Int.toNat_natCast, e1, e2, if_neg (by omega), if_neg (by omega), if_neg (by omega)]

theorem Tb.Life.next (h : Tb.Life E i S at_) {f u l : Int} (hf : at_ < f) (hf2 : f ≤ 1000) : Tb.next (Tb.put E i (Tb.span S f)) (i + 1) 3 S u l = (i + 1, Tb.grow E i S f u l) := by
  unfold Tb.next
  rw [if_neg (by omega), h.retAt hf hf2, Int.toNat_natCast]
  rfl

/-- How the seat stands behind the row's head. -/
def Tb.lives (i : Nat) (f u l k : Int) : Int := if k < f then (if i = 0 then 0 else 5) else if k = f then (if i = 0 then 1 else 2) else if u < k then 5 else if l < k then 4 else 3

theorem Tb.Life.stand (h : Tb.Life E i S at_) {f u l k : Int} (hf : at_ < f) (hf2 : f ≤ 1000) (hu : f < u) (hk : at_ < k) : Tb.stand (Tb.grow E i S f u l) (i + 1) S k = Tb.lives i f u l k := by
  have hp := h.pos
  obtain ⟨g0, g1, g2, g3⟩ := Tb.grow_new (E := E) (i := i) (S := S) (f := f) (u := u) (l := l)
  have hold : ∀ F : Int, at_ ≤ F → Tb.at (Tb.grow E i S f u l) S F i = (i : Int) - 1 := fun F hF => by
    cases i with
    | zero => rfl
    | succ q =>
      have := h.rows q (by omega)
      rw [Tb.at_hit ⟨by rw [Tb.grow_old (by omega)]; exact this.1, by rw [Tb.grow_old (by omega)]; omega⟩]
      omega
  unfold Tb.lives
  by_cases h1 : k < f
  · rw [if_pos h1]
    have e : Tb.at (Tb.grow E i S f u l) S k (i + 1) = (i : Int) - 1 := by
      rw [Tb.at_miss (by rw [g1]; omega)]
      exact hold k (by omega)
    cases i with
    | zero => exact Tb.stand_none e
    | succ q =>
      have h1 := h.rows q (by omega)
      have h2 := h.last q rfl
      rw [Tb.stand_at (k := q) (e.trans (by omega)), Tb.grow_old (by omega), Tb.grow_old (by omega), if_neg (by omega), if_neg (by omega), if_pos (by omega), if_neg (by omega)]
  · rw [if_neg h1, Tb.stand_at (k := i) (Tb.at_hit ⟨g0, by rw [g1]; omega⟩), g1, g2, g3, hold _ (by omega)]
    by_cases h2 : k = f
    · rw [if_pos h2.symm, if_pos h2]
      by_cases h0 : i = 0
      · rw [if_pos h0, if_pos (by omega)]
      · rw [if_neg h0, if_neg (by omega)]
    · rw [if_neg (fun e => h2 e.symm), if_neg h2, if_neg (by omega)]
end

end Go.Proofs.Ytiegccdgoemamab
