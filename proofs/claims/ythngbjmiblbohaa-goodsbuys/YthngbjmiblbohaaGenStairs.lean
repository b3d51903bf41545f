/-
  Stairs and shop: as numbers, and what the program does.
-/
import Derived.Test.YthngbjmiblbohaaGenFar
import Derived.Test.YthngbjmiblbohaaGenDig
import Derived.Test.YthngbjmiblbohaaGridField
namespace Go.Proofs.Ythngbjmiblbohaa
open Go.RowKit

theorem fieldHigh {op tg : Nat → Prop} {F : Nat → Int} (h : Gr.IsField op tg F) : ∀ (n : Nat) i, i < 384 → F i = n → n ≤ 400 := by
  intro n i hi hn
  have key : ∀ m : Nat, m ≤ n → ∃ j, j < 384 ∧ F j = m := by
    intro m hm
    induction hnm : n - m generalizing m with
    | zero => exact ⟨i, hi, by omega⟩
    | succ q ih =>
      obtain ⟨j, hj, he⟩ := ih (m + 1) (by omega) (by omega)
      obtain ⟨_, j', _, hj', _, _, _, he'⟩ := h.back j hj (by omega)
      exact ⟨j', hj', by omega⟩
  by_cases hc : n ≤ 400
  · exact hc
  · exfalso
    have inj : ∀ m : Nat, m ≤ n + 1 → m ≤ (List.range 384).countP (fun i => decide (0 ≤ F i ∧ F i < m)) := by
      intro m
      induction m with
      | zero => intro _; exact Nat.zero_le _
      | succ m ih =>
        intro hm
        have h1 := ih (by omega)
        obtain ⟨j, hj, he⟩ := key m (by omega)
        have h2 : (List.range 384).countP (fun i => decide (0 ≤ F i ∧ F i < m)) < (List.range 384).countP (fun i => decide (0 ≤ F i ∧ F i < ((m + 1 : Nat) : Int))) := by
          have hs : ∀ (l : List Nat), j ∈ l → l.countP (fun i => decide (0 ≤ F i ∧ F i < m)) < l.countP (fun i => decide (0 ≤ F i ∧ F i < ((m + 1 : Nat) : Int))) := by
            intro l
            induction l with
            | nil => intro hm; cases hm
            | cons x l ih =>
              intro hm
              have hle : l.countP (fun i => decide (0 ≤ F i ∧ F i < m)) ≤ l.countP (fun i => decide (0 ≤ F i ∧ F i < ((m + 1 : Nat) : Int))) :=
                List.countP_mono_left fun y _ hy => by simp only [decide_eq_true_eq] at *; omega
              rw [List.countP_cons, List.countP_cons]
              rcases List.mem_cons.1 hm with rfl | hm
              · rw [if_neg (by simp; omega), if_pos (by simp; omega)]
                omega
              · have := ih hm
                by_cases hx : 0 ≤ F x ∧ F x < m
                · rw [if_pos (by simpa using hx), if_pos (by simp; omega)]
                  omega
                · rw [if_neg (by simpa using hx)]
                  omega
          exact hs _ (List.mem_range.2 hj)
        omega
    have := inj 401 (by omega)
    have hle : (List.range 384).countP (fun i => decide (0 ≤ F i ∧ F i < ((401 : Nat) : Int))) ≤ (List.range 384).length := List.countP_le_length
    rw [List.length_range] at hle
    omega

namespace Gn

/-- The field of a floor from the cell up; outside it is 0. -/
structure Fld (c : Nat → Int) (up : Nat) (F : Nat → Int) : Prop where
  is : Gr.IsField (fun i => Gr.walkB (c i) = true) (fun i => i = up) F
  out : ∀ i, 384 ≤ i → F i = 0

theorem Fld.one {c : Nat → Int} {up : Nat} {F H : Nat → Int} (h : Fld c up F) (k : Fld c up H) : F = H := by
  funext i
  by_cases hi : i < 384
  · exact h.is.one k.is i hi
  · rw [h.out i (by omega), k.out i (by omega)]

theorem isField_congr {op op' tg tg' : Nat → Prop} {F H : Nat → Int} (h : Gr.IsField op tg F) (ho : ∀ i, i < 384 → (op i ↔ op' i)) (ht : ∀ i, i < 384 → (tg i ↔ tg' i)) (hF : ∀ i, i < 384 → F i = H i) : Gr.IsField op' tg' H := by
  refine ⟨fun i hi => ?_, fun i hi => ?_, fun i hi hp => ?_, fun j hj h0 d hd hn hop => ?_⟩
  · rw [← hF i hi]; exact h.lo i hi
  · rw [← hF i hi, h.zero i hi]; exact ht i hi
  · rw [← hF i hi] at hp
    obtain ⟨o, j, d, hj, hd, hn, he, hv⟩ := h.back i hi hp
    exact ⟨(ho i hi).1 o, j, d, hj, hd, hn, he, by rw [← hF i hi, ← hF j hj]; exact hv⟩
  · rw [← hF j hj] at h0
    have hb := Gr.nb_lt hn
    have := h.fwd j hj h0 d hd hn ((ho _ hb).2 hop)
    rw [← hF j hj, ← hF _ hb]
    exact this

theorem Fld.make {op tg : Nat → Prop} {c F : Nat → Int} {up : Nat} (h : Gr.IsField op tg F) (ho : ∀ i, i < 384 → (op i ↔ Gr.walkB (c i) = true)) (ht : ∀ i, i < 384 → (tg i ↔ i = up)) : Fld c up (fun i => if i < 384 then F i else 0) := by
  refine ⟨isField_congr h ho ht fun i hi => by rw [if_pos hi], fun i hi => by rw [if_neg (by omega)]⟩

/-- The cell that is furthest: the first of those. -/
structure IsFar (F : Nat → Int) (far : Nat) : Prop where
  lt : far < 384
  top : ∀ i, i < 384 → F i ≤ F far
  fst : ∀ i, i < far → F i < F far

theorem IsFar.one {F : Nat → Int} {a b : Nat} (h : IsFar F a) (k : IsFar F b) : a = b := by
  have h1 := h.top b k.lt
  have h2 := k.top a h.lt
  rcases Nat.lt_trichotomy a b with g | g | g
  · have := k.fst a g; omega
  · exact g
  · have := h.fst b g; omega

theorem far_is (F : Nat → Int) : ∃ far, IsFar F far ∧ F far = most F 383 := by
  obtain ⟨i, hi, he⟩ := most_is F 383
  obtain ⟨m, hm, hl⟩ := least (fun i => i ≤ 383 ∧ F i = most F 383) i ⟨hi, he⟩
  refine ⟨m, ⟨by omega, fun j hj => by rw [hm.2]; exact most_ge F 383 j (by omega), fun j hj => ?_⟩, hm.2⟩
  have h1 := most_ge F 383 j (by omega)
  rw [hm.2]
  by_cases e : F j = most F 383
  · have := hl j ⟨by omega, e⟩; omega
  · omega

/-- The first cell of floor that is v away. -/
def shop (c F : Nat → Int) (v : Int) : Option Nat := (List.range 384).find? (fun i => F i == v && c i == 1)

def shopped (c : Nat → Int) : Option Nat → Nat → Int
  | none => c
  | some k => Gr.upd c k 5

/-- The floor with its stairs and, if it is to have one, its shop. -/
def stocked (d : Dice) (c F : Nat → Int) (far : Nat) : Nat → Int :=
  if d 6 0 2 = 0 then shopped (Gr.upd c far 4) (shop (Gr.upd c far 4) F (F far / 2)) else Gr.upd c far 4

theorem shop_some {c F : Nat → Int} {v : Int} {k : Nat} (hk : k < 384) (hp : (F k == v && c k == 1) = true) (hn : ∀ i, i < k → (F i == v && c i == 1) = false) : shop c F v = some k := by
  unfold shop
  rw [List.find?_range_eq_some]
  exact ⟨hp, List.mem_range.2 hk, fun j hj => by rw [hn j hj]; rfl⟩

theorem shop_none {c F : Nat → Int} {v : Int} (hn : ∀ i, i < 384 → (F i == v && c i == 1) = false) : shop c F v = none := by
  unfold shop
  rw [List.find?_range_eq_none]
  exact fun j hj => by rw [hn j hj]; rfl

end Gn

theorem below_grown {w w' : World} (h : Below w.heap.size w w') : w.grownBy w' none := ⟨h.os, h.tape, h.output, h.size, fun k hk _ => h.block k hk⟩

theorem Vec.none0 (B : Nat) (w : World) (a : Option Addr) (F : Nat → Value) : Vec B w a 0 F := ⟨Nat.zero_le _, .inl rfl⟩

theorem Vec.one (w : World) (B : Nat) (hB : B = w.heap.size) (v : Value) (T : TypeId) (F : Nat → Value) (hv : F 0 = v) : Vec (w.alloc (.cells #[v] T)).heap.size (w.alloc (.cells #[v] T)) (some ⟨B, 0, none⟩) 1 F := by
  subst hB
  refine ⟨by decide, .inr ⟨_, _, rfl, by simp, fun i hi => ?_⟩⟩
  obtain rfl : i = 0 := by omega
  simp [hv]

/-- What stairs hands back: the field, in a block of its own; the floor as it is then. -/
def StairsDone (w : World) (G : Nat) (d : Gn.Dice) (c : Nat → Int) (up : Nat) (e : Ending) (w' : World) : Prop :=
  ∃ (F : Nat → Int) (far g : Nat), Gn.Fld c up F ∧ Gn.IsFar F far ∧ e = .returned (.slice (some ⟨g, 0, none⟩) 384 384) ∧ w.heap.size ≤ g ∧ Arr w' g 3 384 (Ints F) ∧ Arr w' G 5 384 (Byts (Gn.stocked d c F far)) ∧ w.grownBy w' (some G)

end Go.Proofs.Ythngbjmiblbohaa
