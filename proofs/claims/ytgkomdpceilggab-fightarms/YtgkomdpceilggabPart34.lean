/-
  One blow, seen from outside: a hero and a beast.
-/
import Derived.Test.YtgkomdpceilggabPart32
namespace Go.Proofs.Ytgkomdpceilggab
open Go.RowKit

namespace Ft

theorem blow_sees (s : Nat → Int) {E I : Nat → Nat → Int} {f t : Nat} (h0 : E t 0 ≠ 0) :
    (E t 5 ≤ force s E I f t ∧ blowE s E I f t t 0 = 0) ∨
    (force s E I f t < E t 5 ∧ blowE s E I f t t 0 = E t 0 ∧ blowE s E I f t t 5 = E t 5 - force s E I f t ∧
      ((E f 0 = 4 ∧ blowE s E I f t t 9 = min (E t 9 + 3) 9 ∧ blowE s E I f t t 10 = E t 10) ∨
       (E f 0 = 3 ∧ blowE s E I f t t 9 = E t 9 ∧ blowE s E I f t t 10 = min (E t 10 + 2) 9) ∨
       (E f 0 ≠ 4 ∧ blowE s E I f t t 9 = E t 9 ∧ blowE s E I f t t 10 = E t 10))) := by
  obtain ⟨F, hF⟩ : ∃ F, force s E I f t = F := ⟨_, rfl⟩
  unfold blowE
  rw [hF]
  by_cases hlt : F < E t 5
  · right
    have hh : hurtE E t F = Gd.set E t 5 (E t 5 - F) := if_pos hlt
    have ho : ∀ l, l ≠ 5 → Gd.set E t 5 (E t 5 - F) t l = E t l := fun l hl => Gd.set_other (by omega)
    have hf0 : Gd.set E t 5 (E t 5 - F) f 0 = E f 0 := Gd.set_other (by omega)
    rw [hh, if_pos (by rw [ho 0 (by omega)]; exact h0)]
    unfold leaveE
    rw [hf0]
    by_cases h4 : E f 0 = 4
    · rw [if_pos h4]
      refine ⟨hlt, ?_, ?_, .inl ⟨h4, ?_, ?_⟩⟩
      · rw [Gd.set_other (by omega), ho 0 (by omega)]
      · rw [Gd.set_other (by omega), Gd.set_same]
      · rw [Gd.set_same, ho 9 (by omega)]
      · rw [Gd.set_other (by omega), ho 10 (by omega)]
    · rw [if_neg h4]
      split
      · rename_i h3
        refine ⟨hlt, ?_, ?_, .inr (.inl ⟨h3.1, ?_, ?_⟩)⟩
        · rw [Gd.set_other (by omega), ho 0 (by omega)]
        · rw [Gd.set_other (by omega), Gd.set_same]
        · rw [Gd.set_other (by omega), ho 9 (by omega)]
        · rw [Gd.set_same, ho 10 (by omega)]
      · exact ⟨hlt, ho 0 (by omega), Gd.set_same _ _ _ _, .inr (.inr ⟨h4, ho 9 (by omega), ho 10 (by omega)⟩)⟩
  · left
    have hh : hurtE E t F = En.put E t (En.hole (E t 1)) := if_neg hlt
    have hz : En.put E t (En.hole (E t 1)) t 0 = 0 := by rw [En.put_same]; rfl
    rw [hh, if_neg (by simpa using hz)]
    exact ⟨by omega, hz⟩

/-- A hero of twenty points in row k, a beast as it was born in row r. -/
structure Duel (E I : Nat → Nat → Int) (k r : Nat) (kd : Int) (sw ml : Bool) : Prop where
  ne : k ≠ r
  k32 : k < 32
  r32 : r < 32
  lo : 2 ≤ kd
  hi : kd ≤ 4
  h0 : E k 0 = 1
  h2 : E k 2 = 0
  h5 : E k 5 = 20
  h7 : E k 7 = 5
  h8 : E k 8 = 1
  h9 : E k 9 = 0
  h10 : E k 10 = 0
  b0 : E r 0 = kd
  b5 : E r 5 = En.stats kd 5
  b7 : E r 7 = En.stats kd 7
  b8 : E r 8 = En.stats kd 8
  b9 : E r 9 = 0
  b10 : E r 10 = 0
  sword : Gd.wornK I 0 2 40 = sw
  mail : Gd.wornK I 0 3 40 = ml

theorem Duel.beast {E I : Nat → Nat → Int} {k r : Nat} {kd : Int} {sw ml : Bool} (h : Duel E I k r kd sw ml) (s : Nat → Int) {base : Int} (hb : base = max 1 (En.stats kd 7 - if ml = true then 3 else 1)) :
    hitE s E I (r : Int) (k : Int) k 0 = 1 ∧ base ≤ 20 - hitE s E I (r : Int) (k : Int) k 5 ∧ 20 - hitE s E I (r : Int) (k : Int) k 5 ≤ base + 2 ∧
    (0 < hitE s E I (r : Int) (k : Int) k 9 ↔ kd = 4) ∧ (0 < hitE s E I (r : Int) (k : Int) k 10 → kd = 3) := by
  have hth : there E (r : Int) = true ∧ there E (k : Int) = true := ⟨(there_at h.r32).trans (by have := h.b0; have := h.lo; simp; omega), (there_at h.k32).trans (by have := h.h0; simp; omega)⟩
  have e : hitE s E I (r : Int) (k : Int) = blowE s E I r k := by
    unfold hitE
    rw [if_pos hth, Int.toNat_natCast, Int.toNat_natCast]
  rw [e]
  have ha : arm E I r = En.stats kd 7 := by
    unfold arm
    rw [if_neg (by have := h.b0; have := h.lo; omega), h.b7]
    omega
  have hg : guard E I k = if ml = true then 3 else 1 := by
    unfold guard
    rw [if_pos h.h0, h.h8, h.h2, h.mail]
    cases ml <;> rfl
  have hd := Dc.die_bd 3 (s 0) [s 1, (r : Int), (k : Int), 77] (by omega)
  have hs7 : En.stats kd 7 ≤ 5 := (En.stats_fit (by have := h.lo; omega) h.hi).2.2.2.2.2.2.2.2.2.1
  have hF : base ≤ force s E I r k ∧ force s E I r k ≤ base + 2 ∧ base ≤ 5 := by
    unfold force
    rw [ha, hg, ← hb]
    refine ⟨by omega, by omega, ?_⟩
    split at hb <;> omega
  have e5 := h.h5
  have e9 := h.h9
  have e10 := h.h10
  have e0 := h.h0
  have eb := h.b0
  have hlo := h.lo
  rcases blow_sees s (I := I) (f := r) (show E k 0 ≠ 0 by omega) with ⟨h1, _⟩ | ⟨h1, h2, h3, h4⟩
  · omega
  · refine ⟨by omega, by omega, by omega, ?_, ?_⟩
    · rcases h4 with ⟨a, b, c⟩ | ⟨a, b, c⟩ | ⟨a, b, c⟩ <;> omega
    · rcases h4 with ⟨a, b, c⟩ | ⟨a, b, c⟩ | ⟨a, b, c⟩ <;> omega

theorem Duel.man {E I : Nat → Nat → Int} {k r : Nat} {kd : Int} {sw ml : Bool} (h : Duel E I k r kd sw ml) (s : Nat → Int) {base : Int} (hb : base = max 1 ((if sw = true then 8 else 5) - En.stats kd 8)) :
    (hitE s E I (k : Int) (r : Int) r 0 = 0 ∧ En.stats kd 5 ≤ base + 2) ∨
    (hitE s E I (k : Int) (r : Int) r 0 ≠ 0 ∧ base ≤ En.stats kd 5 - hitE s E I (k : Int) (r : Int) r 5 ∧ En.stats kd 5 - hitE s E I (k : Int) (r : Int) r 5 ≤ base + 2 ∧
      hitE s E I (k : Int) (r : Int) r 9 = 0 ∧ hitE s E I (k : Int) (r : Int) r 10 = 0) := by
  have hth : there E (k : Int) = true ∧ there E (r : Int) = true := ⟨(there_at h.k32).trans (by have := h.h0; simp; omega), (there_at h.r32).trans (by have := h.b0; have := h.lo; simp; omega)⟩
  have e : hitE s E I (k : Int) (r : Int) = blowE s E I k r := by
    unfold hitE
    rw [if_pos hth, Int.toNat_natCast, Int.toNat_natCast]
  rw [e]
  have hg : guard E I r = En.stats kd 8 := by
    unfold guard
    rw [if_neg (by have := h.b0; have := h.lo; omega), h.b8]
    omega
  have ha : arm E I k = if sw = true then 8 else 5 := by
    unfold arm
    rw [if_pos h.h0, h.h7, h.h2, h.sword]
    cases sw <;> rfl
  have hd := Dc.die_bd 3 (s 0) [s 1, (k : Int), (r : Int), 77] (by omega)
  have hF : base ≤ force s E I k r ∧ force s E I k r ≤ base + 2 := by
    unfold force
    rw [ha, hg, ← hb]
    omega
  have e5 := h.b5
  have e9 := h.b9
  have e10 := h.b10
  have e0 := h.h0
  have eb := h.b0
  have hlo := h.lo
  rcases blow_sees s (I := I) (f := k) (show E r 0 ≠ 0 by omega) with ⟨h1, h2⟩ | ⟨h1, h2, h3, h4⟩
  · exact .inl ⟨h2, by omega⟩
  · refine .inr ⟨by omega, by omega, by omega, ?_, ?_⟩
    · rcases h4 with ⟨a, b, c⟩ | ⟨a, b, c⟩ | ⟨a, b, c⟩ <;> omega
    · rcases h4 with ⟨a, b, c⟩ | ⟨a, b, c⟩ | ⟨a, b, c⟩ <;> omega

/-- What the hero wears. -/
def kit1 (a : Bool) : Nat → Nat → Int := if a = true then En.put (fun _ _ => 0) 0 (Gd.row 2 3 0 0) else fun _ _ => 0

def kit (a b : Bool) : Nat → Nat → Int := if b = true then En.put (kit1 a) 1 (Gd.row 3 3 0 1) else kit1 a

theorem kit_zero (a b : Bool) {j : Nat} (h : 2 ≤ j) : kit a b j = fun _ => 0 := by
  have h1 : kit1 a j = fun _ => 0 := by
    unfold kit1
    split
    · rw [En.put_other (by omega)]
    · rfl
  unfold kit
  split
  · rw [En.put_other (by omega), h1]
  · exact h1

theorem kit_ok (c : Nat → Int) (a b : Bool) : Gd.Ok c 40 (kit a b) := by
  have hs : Gd.Placed c (Gd.row 2 3 0 0) := Gd.Fit.placed ⟨by omega, by omega, .inr (.inr (.inl ⟨rfl, by omega, by omega, by omega⟩))⟩ (by omega)
  have hm : Gd.Placed c (Gd.row 3 3 0 1) := Gd.Fit.placed ⟨by omega, by omega, .inr (.inr (.inl ⟨rfl, by omega, by omega, by omega⟩))⟩ (by omega)
  have h1 : Gd.Ok c 40 (kit1 a) := by
    unfold kit1
    split
    · exact (Gd.ok_none c).put (.inr ⟨hs, fun k _ _ hsh => hs.where_ne hsh.1.symm⟩)
    · exact Gd.ok_none c
  unfold kit
  split
  · refine h1.put (.inr ⟨hm, fun k _ _ hsh => ?_⟩)
    unfold kit1 at hsh
    split at hsh
    · by_cases e : k = 0
      · subst e
        rw [En.put_same] at hsh
        have : (0 : Int) = 1 := hsh.2.2
        omega
      · rw [En.put_other e] at hsh
        exact hm.where_ne hsh.1.symm
    · exact hm.where_ne hsh.1.symm
  · exact h1

theorem kit_sword (a b : Bool) : Gd.wornK (kit a b) 0 2 40 = a := by
  cases a <;> cases b <;> rfl

theorem kit_mail (a b : Bool) : Gd.wornK (kit a b) 0 3 40 = b := by
  cases a <;> cases b <;> rfl

/-- How the two stand before the blow. -/
theorem duel_of {kc r : Nat} {kd gn X Y : Int} {st : Nat → Int} {a b : Bool} (hst : En.stats kd = st) (lo : 2 ≤ kd) (hi : kd ≤ 4) (hr : r < 32) (hr1 : r ≠ 1) :
    Duel (Gd.set (En.put (En.put (fun _ _ => 0) 1 (Gd.folk 0 kc 1)) r (En.gen (En.upd (En.upd st 3 X) 4 Y) gn)) 1 5 20) (kit a b) 1 r kd a b := by
  have e1 : ∀ l, l ≠ 5 → Gd.set (En.put (En.put (fun _ _ => 0) 1 (Gd.folk 0 kc 1)) r (En.gen (En.upd (En.upd st 3 X) 4 Y) gn)) 1 5 20 1 l = Gd.folk 0 kc 1 l := fun l hl => by
    rw [Gd.set_other (by omega), En.put_other (by omega), En.put_same]
  have e2 : ∀ l, l ≠ 1 → l ≠ 3 → l ≠ 4 → Gd.set (En.put (En.put (fun _ _ => 0) 1 (Gd.folk 0 kc 1)) r (En.gen (En.upd (En.upd st 3 X) 4 Y) gn)) 1 5 20 r l = st l := fun l h1 h3 h4 => by
    rw [Gd.set_other (by omega), En.put_same]
    show (if l = 1 then gn else _) = _
    rw [if_neg h1, En.upd_other h4, En.upd_other h3]
  have hsf := En.stats_fit (show 1 ≤ kd by omega) hi
  rw [hst] at hsf
  exact {
    ne := by omega
    k32 := by omega
    r32 := hr
    lo := lo
    hi := hi
    h0 := e1 0 (by omega)
    h2 := e1 2 (by omega)
    h5 := Gd.set_same _ _ _ _
    h7 := e1 7 (by omega)
    h8 := e1 8 (by omega)
    h9 := e1 9 (by omega)
    h10 := e1 10 (by omega)
    b0 := by rw [e2 0 (by omega) (by omega) (by omega)]; exact hsf.1
    b5 := by rw [e2 5 (by omega) (by omega) (by omega), hst]
    b7 := by rw [e2 7 (by omega) (by omega) (by omega), hst]
    b8 := by rw [e2 8 (by omega) (by omega) (by omega), hst]
    b9 := by rw [e2 9 (by omega) (by omega) (by omega)]; exact hsf.2.2.2.2.2.2.2.2.2.2.2.2.1
    b10 := by rw [e2 10 (by omega) (by omega) (by omega)]; exact hsf.2.2.2.2.2.2.2.2.2.2.2.2.2
    sword := kit_sword a b
    mail := kit_mail a b }

theorem duel_fit {c : Nat → Int} {kc r : Nat} {kd gn X Y : Int} {st : Nat → Int} {a b : Bool} (hF : Nv.Floor c) (hst : En.stats kd = st) (lo : 2 ≤ kd) (hi : kd ≤ 4) (hr1 : r ≠ 1) (g0 : 0 ≤ gn) (g9 : gn ≤ 255) :
    Fit c (Gd.set (En.put (En.put (fun _ _ => 0) 1 (Gd.folk 0 kc 1)) r (En.gen (En.upd (En.upd st 3 X) 4 Y) gn)) 1 5 20) (kit a b) := by
  have hsf := En.stats_fit (show 1 ≤ kd by omega) hi
  rw [hst] at hsf
  have h1 := (first_fit (kc := kc) hF (kit_ok c a b)).put (k := r) (e := En.gen (En.upd (En.upd st 3 X) 4 Y) gn) (by
    have e : ∀ l, l ≠ 1 → l ≠ 3 → l ≠ 4 → En.gen (En.upd (En.upd st 3 X) 4 Y) gn l = st l := fun l h1 h3 h4 => by
      show (if l = 1 then gn else _) = _
      rw [if_neg h1, En.upd_other h4, En.upd_other h3]
    refine ⟨g0, g9, .inr ?_⟩
    rw [e 0 (by omega) (by omega) (by omega), e 5 (by omega) (by omega) (by omega), e 6 (by omega) (by omega) (by omega), e 7 (by omega) (by omega) (by omega), e 8 (by omega) (by omega) (by omega), e 9 (by omega) (by omega) (by omega), e 10 (by omega) (by omega) (by omega)]
    omega)
  refine h1.set ⟨?_, ?_, .inr ?_⟩
  · rw [Gd.set_other (by omega), En.put_other (by omega), En.put_same]
    exact Int.le_refl _
  · rw [Gd.set_other (by omega), En.put_other (by omega), En.put_same]
    show (0 : Int) ≤ 255
    omega
  · rw [Gd.set_same, Gd.set_other (show ¬ (1 = 1 ∧ 0 = 5) by omega), Gd.set_other (show ¬ (1 = 1 ∧ 6 = 5) by omega), Gd.set_other (show ¬ (1 = 1 ∧ 7 = 5) by omega), Gd.set_other (show ¬ (1 = 1 ∧ 8 = 5) by omega), Gd.set_other (show ¬ (1 = 1 ∧ 9 = 5) by omega), Gd.set_other (show ¬ (1 = 1 ∧ 10 = 5) by omega), En.put_other (by omega), En.put_same]
    show (1 : Int) ≤ 1 ∧ (1 : Int) ≤ 4 ∧ (1 : Int) ≤ 20 ∧ (20 : Int) ≤ 20 ∧ (20 : Int) ≤ 20 ∧ (0 : Int) ≤ 5 ∧ (5 : Int) ≤ 5 ∧ (0 : Int) ≤ 1 ∧ (1 : Int) ≤ 1 ∧ (0 : Int) ≤ 0 ∧ (0 : Int) ≤ 9 ∧ (0 : Int) ≤ 0 ∧ (0 : Int) ≤ 9
    omega

end Ft

end Go.Proofs.Ytgkomdpceilggab
