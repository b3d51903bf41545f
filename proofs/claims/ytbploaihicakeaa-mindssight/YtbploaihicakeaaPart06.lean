/-
  Stairs and shop: as numbers, and what the program does.
  Lists of cells in a block of the call's own; what slices' DeleteFunc and Delete make of them.
  What slices.DeleteFunc, at the monsters' test, and slices.Delete of one element leave.
-/
import Derived.Test.YtbploaihicakeaaPart04
import Derived.Test.YtbploaihicakeaaPart03
import Derived.Deep.RegionLaw
import Derived.Lib.SliceRun
import Derived.Deep.LoopGhost
namespace Go.Proofs.Ytbploaihicakeaa
open Go.RowKit

theorem fieldHigh {op tg : Nat → Prop} {F : Nat → Int} (h : Gr.IsField op tg F) : ∀ (n : Nat) i, i < 384 → F i = n → n ≤ 400 := by
  intro n i hi hn
  have key : ∀ m : Nat, m ≤ n → ∃ j, j < 384 ∧ F j = m := by
    intro m hm
    induction hnm : n - m generalizing m with
    | zero => exact ⟨i, hi, by omega⟩
    | succ q ih =>
      obtain ⟨j, hj, he⟩ := ih (m + 1) (by omega) (by omega)
      obtain ⟨_, j', _, hj', _, _, _, he'⟩ := h.back j hj (by omega)
      exact ⟨j', hj', by omega⟩
  by_cases hc : n ≤ 400
  · exact hc
  · exfalso
    have inj : ∀ m : Nat, m ≤ n + 1 → m ≤ (List.range 384).countP (fun i => decide (0 ≤ F i ∧ F i < m)) := by
      intro m
      induction m with
      | zero => intro _; exact Nat.zero_le _
      | succ m ih =>
        intro hm
        have h1 := ih (by omega)
        obtain ⟨j, hj, he⟩ := key m (by omega)
        have h2 : (List.range 384).countP (fun i => decide (0 ≤ F i ∧ F i < m)) < (List.range 384).countP (fun i => decide (0 ≤ F i ∧ F i < ((m + 1 : Nat) : Int))) := by
          have hs : ∀ (l : List Nat), j ∈ l → l.countP (fun i => decide (0 ≤ F i ∧ F i < m)) < l.countP (fun i => decide (0 ≤ F i ∧ F i < ((m + 1 : Nat) : Int))) := by
            intro l
            induction l with
            | nil => intro hm; cases hm
            | cons x l ih =>
              intro hm
              have hle : l.countP (fun i => decide (0 ≤ F i ∧ F i < m)) ≤ l.countP (fun i => decide (0 ≤ F i ∧ F i < ((m + 1 : Nat) : Int))) :=
                List.countP_mono_left fun y _ hy => by simp only [decide_eq_true_eq] at *; omega
              rw [List.countP_cons, List.countP_cons]
              rcases List.mem_cons.1 hm with rfl | hm
              · rw [if_neg (by simp; omega), if_pos (by simp; omega)]
                omega
              · have := ih hm
                by_cases hx : 0 ≤ F x ∧ F x < m
                · rw [if_pos (by simpa using hx), if_pos (by simp; omega)]
                  omega
                · rw [if_neg (by simpa using hx)]
                  omega
          exact hs _ (List.mem_range.2 hj)
        omega
    have := inj 401 (by omega)
    have hle : (List.range 384).countP (fun i => decide (0 ≤ F i ∧ F i < ((401 : Nat) : Int))) ≤ (List.range 384).length := List.countP_le_length
    rw [List.length_range] at hle
    omega

namespace Gn

/-- The field of a floor from the cell up; outside it is 0. -/
structure Fld (c : Nat → Int) (up : Nat) (F : Nat → Int) : Prop where
  is : Gr.IsField (fun i => Gr.walkB (c i) = true) (fun i => i = up) F
  out : ∀ i, 384 ≤ i → F i = 0

theorem Fld.one {c : Nat → Int} {up : Nat} {F H : Nat → Int} (h : Fld c up F) (k : Fld c up H) : F = H := by
  funext i
  by_cases hi : i < 384
  · exact h.is.one k.is i hi
  · rw [h.out i (by omega), k.out i (by omega)]

theorem isField_congr {op op' tg tg' : Nat → Prop} {F H : Nat → Int} (h : Gr.IsField op tg F) (ho : ∀ i, i < 384 → (op i ↔ op' i)) (ht : ∀ i, i < 384 → (tg i ↔ tg' i)) (hF : ∀ i, i < 384 → F i = H i) : Gr.IsField op' tg' H := by
  refine ⟨fun i hi => ?_, fun i hi => ?_, fun i hi hp => ?_, fun j hj h0 d hd hn hop => ?_⟩
  · rw [← hF i hi]; exact h.lo i hi
  · rw [← hF i hi, h.zero i hi]; exact ht i hi
  · rw [← hF i hi] at hp
    obtain ⟨o, j, d, hj, hd, hn, he, hv⟩ := h.back i hi hp
    exact ⟨(ho i hi).1 o, j, d, hj, hd, hn, he, by rw [← hF i hi, ← hF j hj]; exact hv⟩
  · rw [← hF j hj] at h0
    have hb := Gr.nb_lt hn
    have := h.fwd j hj h0 d hd hn ((ho _ hb).2 hop)
    rw [← hF j hj, ← hF _ hb]
    exact this

theorem Fld.make {op tg : Nat → Prop} {c F : Nat → Int} {up : Nat} (h : Gr.IsField op tg F) (ho : ∀ i, i < 384 → (op i ↔ Gr.walkB (c i) = true)) (ht : ∀ i, i < 384 → (tg i ↔ i = up)) : Fld c up (fun i => if i < 384 then F i else 0) := by
  refine ⟨isField_congr h ho ht fun i hi => by rw [if_pos hi], fun i hi => by rw [if_neg (by omega)]⟩

/-- The cell that is furthest: the first of those. -/
structure IsFar (F : Nat → Int) (far : Nat) : Prop where
  lt : far < 384
  top : ∀ i, i < 384 → F i ≤ F far
  fst : ∀ i, i < far → F i < F far

theorem IsFar.one {F : Nat → Int} {a b : Nat} (h : IsFar F a) (k : IsFar F b) : a = b := by
  have h1 := h.top b k.lt
  have h2 := k.top a h.lt
  rcases Nat.lt_trichotomy a b with g | g | g
  · have := k.fst a g; omega
  · exact g
  · have := h.fst b g; omega

theorem far_is (F : Nat → Int) : ∃ far, IsFar F far ∧ F far = most F 383 := by
  obtain ⟨i, hi, he⟩ := most_is F 383
  obtain ⟨m, hm, hl⟩ := least (fun i => i ≤ 383 ∧ F i = most F 383) i ⟨hi, he⟩
  refine ⟨m, ⟨by omega, fun j hj => by rw [hm.2]; exact most_ge F 383 j (by omega), fun j hj => ?_⟩, hm.2⟩
  have h1 := most_ge F 383 j (by omega)
  rw [hm.2]
  by_cases e : F j = most F 383
  · have := hl j ⟨by omega, e⟩; omega
  · omega

/-- The first cell of floor that is v away. -/
def shop (c F : Nat → Int) (v : Int) : Option Nat := (List.range 384).find? (fun i => F i == v && c i == 1)

def shopped (c : Nat → Int) : Option Nat → Nat → Int
  | none => c
  | some k => Gr.upd c k 5

/-- The floor with its stairs and, if it is to have one, its shop. -/
def stocked (d : Dice) (c F : Nat → Int) (far : Nat) : Nat → Int :=
  if d 6 0 2 = 0 then shopped (Gr.upd c far 4) (shop (Gr.upd c far 4) F (F far / 2)) else Gr.upd c far 4

theorem shop_some {c F : Nat → Int} {v : Int} {k : Nat} (hk : k < 384) (hp : (F k == v && c k == 1) = true) (hn : ∀ i, i < k → (F i == v && c i == 1) = false) : shop c F v = some k := by
  unfold shop
  rw [List.find?_range_eq_some]
  exact ⟨hp, List.mem_range.2 hk, fun j hj => by rw [hn j hj]; rfl⟩

theorem shop_none {c F : Nat → Int} {v : Int} (hn : ∀ i, i < 384 → (F i == v && c i == 1) = false) : shop c F v = none := by
  unfold shop
  rw [List.find?_range_eq_none]
  exact fun j hj => by rw [hn j hj]; rfl

end Gn

theorem below_grown {w w' : World} (h : Below w.heap.size w w') : w.grownBy w' none := ⟨h.os, h.tape, h.output, h.size, fun k hk _ => h.block k hk⟩

theorem Vec.none0 (B : Nat) (w : World) (a : Option Addr) (F : Nat → Value) : Vec B w a 0 F := ⟨Nat.zero_le _, .inl rfl⟩

theorem Vec.one (w : World) (B : Nat) (hB : B = w.heap.size) (v : Value) (T : TypeId) (F : Nat → Value) (hv : F 0 = v) : Vec (w.alloc (.cells #[v] T)).heap.size (w.alloc (.cells #[v] T)) (some ⟨B, 0, none⟩) 1 F := by
  subst hB
  refine ⟨by decide, .inr ⟨_, _, rfl, by simp, fun i hi => ?_⟩⟩
  obtain rfl : i = 0 := by omega
  simp [hv]

/-- What stairs hands back: the field, in a block of its own; the floor as it is then. -/
def StairsDone (w : World) (G : Nat) (d : Gn.Dice) (c : Nat → Int) (up : Nat) (e : Ending) (w' : World) : Prop :=
  ∃ (F : Nat → Int) (far g : Nat), Gn.Fld c up F ∧ Gn.IsFar F far ∧ e = .returned (.slice (some ⟨g, 0, none⟩) 384 384) ∧ w.heap.size ≤ g ∧ Arr w' g 3 384 (Ints F) ∧ Arr w' G 5 384 (Byts (Gn.stocked d c F far)) ∧ w.grownBy w' (some G)

end Go.Proofs.Ytbploaihicakeaa

namespace Go.Proofs.Ytbploaihicakeaa
open Go.RowKit

theorem Lst.form {w : World} {base : Nat} {v : Value} {l : List Nat} (h : Lst w base v l) :
    (v = .slice none 0 0 ∧ l = []) ∨ ∃ g cap F, v = .slice (some ⟨g, 0, none⟩) l.length cap ∧ base ≤ g ∧ Arr w g 3 cap F ∧ l.length ≤ cap ∧ cap ≤ maxLen ∧ ∀ i, i < l.length → F i = .int .i64 ((l[i]?.getD 0 : Nat) : Int) := by
  rcases h.2 with ⟨rfl, h0⟩ | ⟨g, cap, cur, rfl, hb, hg, hn, hm, hs, ht⟩
  · exact .inl ⟨rfl, List.eq_nil_of_length_eq_zero h0⟩
  · refine .inr ⟨g, cap, fun i => cur[i]?.getD undef, rfl, hb, ⟨cur, hg, by omega, fun i hi => ?_⟩, hn, hm, fun i hi => ?_⟩
    · show cur[i]? = some (cur[i]?.getD undef)
      rw [Array.getElem?_eq_getElem (by omega)]
      rfl
    · show cur[i]?.getD undef = _
      have e : (cur.toList.take (l.length * 1))[i]? = ((natInts l).map (Value.int .i64))[i]? := by rw [ht]
      rw [List.getElem?_take, if_pos (by omega), Array.getElem?_toList, List.getElem?_map] at e
      rw [e, ← natInts_at, List.getElem?_eq_getElem (by rw [natInts_len]; exact hi)]
      rfl

theorem Lst.back {w : World} {base g cap : Nat} {l : List Nat} {F : Nat → Value} (hb : base ≤ g) (hA : Arr w g 3 cap F) (hn : l.length ≤ cap) (hm : cap ≤ maxLen) (hF : ∀ i, i < l.length → F i = .int .i64 ((l[i]?.getD 0 : Nat) : Int)) :
    Lst w base (.slice (some ⟨g, 0, none⟩) l.length cap) l := by
  obtain ⟨cur, hg, hs, hc⟩ := hA
  refine ⟨by simp [natInts], .inr ⟨g, cap, cur, rfl, hb, hg, hn, hm, by omega, ?_⟩⟩
  apply List.ext_getElem?
  intro i
  rw [List.getElem?_take, List.getElem?_map, Array.getElem?_toList]
  by_cases hi : i < l.length
  · rw [if_pos (by omega), hc i (by omega), hF i hi, ← natInts_at, List.getElem?_eq_getElem (by rw [natInts_len]; exact hi)]
    rfl
  · rw [if_neg (by omega), List.getElem?_eq_none (by rw [natInts_len]; omega)]
    rfl

theorem Arr.stores {g n : Nat} {T : TypeId} : ∀ (vs : List Value) (o : Nat) (w : World) (F : Nat → Value), Arr w g T n F → Arr (w.setCells g o vs) g T n (fun j => if o ≤ j ∧ j < o + vs.length then vs[j - o]?.getD undef else F j)
  | [], o, w, F, h => h.congr fun j _ => by
      show F j = if o ≤ j ∧ j < o + 0 then _ else F j
      rw [if_neg (by omega)]
  | v :: vs, o, w, F, h => by
      have h1 := Arr.stores vs (o + 1) (w.setCell ⟨g, o, none⟩ v) _ (h.store o v)
      refine Arr.congr h1 fun j _ => ?_
      show (if o + 1 ≤ j ∧ j < o + 1 + vs.length then vs[j - (o + 1)]?.getD undef else if j = o then v else F j) = if o ≤ j ∧ j < o + (vs.length + 1) then (v :: vs)[j - o]?.getD undef else F j
      by_cases e : j = o
      · rw [if_neg (by omega), if_pos e, if_pos (by omega), e, Nat.sub_self]
        rfl
      · by_cases e2 : o + 1 ≤ j ∧ j < o + 1 + vs.length
        · rw [if_pos e2, if_pos (by omega), show j - o = (j - (o + 1)) + 1 by omega]
          rfl
        · rw [if_neg e2, if_neg e, if_neg (by omega)]

theorem grown_sets {a : World} {g : Nat} : ∀ (vs : List Value) (o : Nat) (b : World), a.grownBy b (some g) → a.grownBy (b.setCells g o vs) (some g)
  | [], _, _, h => h
  | v :: vs, o, b, h => grown_sets vs (o + 1) (b.setCell ⟨g, o, none⟩ v) (grown_set h o v)

/-- Is a cell four steps away, or more? -/
def Gn.afar (F : Nat → Int) (c : Nat) : Bool := !(decide (F c < 4))

end Go.Proofs.Ytbploaihicakeaa

namespace Go.Proofs.Ytbploaihicakeaa
open Go.RowKit

/-- Of the first j those that stay. -/
def Gn.kept (F : Nat → Int) (l : List Nat) (j : Nat) : List Nat := (l.take j).filter (Gn.afar F)

theorem Gn.kept_len (F : Nat → Int) (l : List Nat) (j : Nat) : (Gn.kept F l j).length ≤ j := by
  have h := List.length_filter_le (Gn.afar F) (l.take j)
  rw [List.length_take] at h
  unfold Gn.kept
  omega

theorem Gn.take_more (l : List Nat) (j : Nat) (h : j < l.length) : l.take (j + 1) = l.take j ++ [l[j]?.getD 0] := by
  rw [List.take_add_one, List.getElem?_eq_getElem h]
  rfl

theorem Gn.kept_yes {F : Nat → Int} {l : List Nat} {j : Nat} (h : j < l.length) (ha : Gn.afar F (l[j]?.getD 0) = true) : Gn.kept F l (j + 1) = Gn.kept F l j ++ [l[j]?.getD 0] := by
  unfold Gn.kept
  rw [Gn.take_more l j h, List.filter_append, List.filter_cons_of_pos ha, List.filter_nil]

theorem Gn.kept_no {F : Nat → Int} {l : List Nat} {j : Nat} (h : j < l.length) (ha : Gn.afar F (l[j]?.getD 0) = false) : Gn.kept F l (j + 1) = Gn.kept F l j := by
  unfold Gn.kept
  rw [Gn.take_more l j h, List.filter_append, List.filter_cons_of_neg (by simp [ha]), List.filter_nil, List.append_nil]

theorem Gn.kept_all {F : Nat → Int} {l : List Nat} {m : Nat} (hm : m ≤ l.length) (ha : ∀ i, i < m → Gn.afar F (l[i]?.getD 0) = true) : Gn.kept F l m = l.take m := by
  unfold Gn.kept
  rw [List.filter_eq_self]
  intro a hmem
  obtain ⟨i, hi, rfl⟩ := List.getElem_of_mem hmem
  rw [List.length_take] at hi
  have := ha i (by omega)
  rw [List.getElem?_eq_getElem (by omega)] at this
  rw [List.getElem_take]
  exact this

/-- Where there is one that goes, the first; else none. -/
theorem Gn.first_go (F : Nat → Int) (l : List Nat) : (∀ i, i < l.length → Gn.afar F (l[i]?.getD 0) = true) ∨ ∃ m, m < l.length ∧ Gn.afar F (l[m]?.getD 0) = false ∧ ∀ i, i < m → Gn.afar F (l[i]?.getD 0) = true := by
  by_cases h : ∃ m, m < l.length ∧ Gn.afar F (l[m]?.getD 0) = false
  · obtain ⟨m0, h0⟩ := h
    right
    induction m0 using Nat.strongRecOn with
    | _ m ih =>
      by_cases hc : ∃ i, i < m ∧ Gn.afar F (l[i]?.getD 0) = false
      · obtain ⟨i, hi, hf⟩ := hc
        exact ih i hi ⟨by omega, hf⟩
      · refine ⟨m, h0.1, h0.2, fun i hi => ?_⟩
        cases hh : Gn.afar F (l[i]?.getD 0) with
        | true => rfl
        | false => exact absurd ⟨i, hi, hh⟩ hc
  · left
    intro i hi
    cases hh : Gn.afar F (l[i]?.getD 0) with
    | true => rfl
    | false => exact absurd ⟨i, hi, hh⟩ h

theorem zero_int : ∀ w, (zeroValue 3).run Try.prog w = .ok (.int .i64 0) w := by
  intro w
  kernel_rfl

/-- What the walk holds on to: the first x are those that stay, from j on all is as it was. -/
structure DelHold (w : World) (base g cap gF Bx : Nat) (F : Nat → Int) (l : List Nat) (j : Nat) (wr : World) (H : Nat → Value) : Prop where
  row : Arr wr g 3 cap H
  box : wr.cell? ⟨Bx, 0, none⟩ = some (.slice (some ⟨gF, 0, none⟩) 384 384)
  fld : Arr wr gF 3 384 (Ints F)
  low : ∀ x, x < (Gn.kept F l j).length → H x = .int .i64 (((Gn.kept F l j)[x]?.getD 0 : Nat) : Int)
  high : ∀ x, j ≤ x → x < l.length → H x = .int .i64 ((l[x]?.getD 0 : Nat) : Int)
  below : Below base w wr

theorem below_put {base g : Nat} {w wr : World} (h : Below base w wr) (hb : base ≤ g) (i : Nat) (u : Value) : Below base w (wr.setCell ⟨g, i, none⟩ u) := h.setCell hb u

theorem DelHold.keep {w : World} {base g cap gF Bx : Nat} {F : Nat → Int} {l : List Nat} {j : Nat} {wr : World} {H : Nat → Value} (h : DelHold w base g cap gF Bx F l j wr H) (hb : base ≤ g) (h1 : gF < base) (h2 : Bx < base) (hj : j < l.length) (ha : Gn.afar F (l[j]?.getD 0) = true) :
    DelHold w base g cap gF Bx F l (j + 1) (wr.setCell ⟨g, (Gn.kept F l j).length, none⟩ (.int .i64 ((l[j]?.getD 0 : Nat) : Int))) (fun x => if x = (Gn.kept F l j).length then .int .i64 ((l[j]?.getD 0 : Nat) : Int) else H x) := by
  have hl := Gn.kept_len F l j
  refine ⟨h.row.store _ _, ?_, h.fld.grown (grown_set (World.grownBy.refl _ _) _ _) (by simp; omega), fun x hx => ?_, fun x hx hxl => ?_, h.below.setCell hb _⟩
  · rw [World.cell?_setCell_other _ _ _ _ (by intro e; have h3 : g = Bx := congrArg Addr.block e; omega)]
    exact h.box
  · rw [Gn.kept_yes hj ha] at hx ⊢
    rw [List.length_append] at hx
    have hx' : x < (Gn.kept F l j).length + 1 := hx
    show (if x = (Gn.kept F l j).length then Value.int .i64 ((l[j]?.getD 0 : Nat) : Int) else H x) = _
    by_cases e : x = (Gn.kept F l j).length
    · rw [if_pos e, e]
      simp
    · rw [if_neg e, List.getElem?_append_left (by omega)]
      exact h.low x (by omega)
  · show (if x = (Gn.kept F l j).length then Value.int .i64 ((l[j]?.getD 0 : Nat) : Int) else H x) = _
    rw [if_neg (by omega)]
    exact h.high x (by omega) hxl

theorem DelHold.pass {w : World} {base g cap gF Bx : Nat} {F : Nat → Int} {l : List Nat} {j : Nat} {wr : World} {H : Nat → Value} (h : DelHold w base g cap gF Bx F l j wr H) (hj : j < l.length) (ha : Gn.afar F (l[j]?.getD 0) = false) :
    DelHold w base g cap gF Bx F l (j + 1) wr H := by
  refine ⟨h.row, h.box, h.fld, fun x hx => ?_, fun x hx hxl => h.high x (by omega) hxl, h.below⟩
  rw [Gn.kept_no hj ha] at hx ⊢
  exact h.low x hx

theorem Gn.erase_at (l : List Nat) (i x : Nat) : (l.eraseIdx i)[x]?.getD 0 = if x < i then l[x]?.getD 0 else l[x + 1]?.getD 0 := by
  rw [List.getElem?_eraseIdx]
  split <;> rfl

end Go.Proofs.Ytbploaihicakeaa
