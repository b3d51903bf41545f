/-
  GoodsLaid GoodsBorn
-/
import Derived.Test.YtbanjoflgoiegaaGreatPart29
import Derived.Test.YtbanjoflgoiegaaGreatPart27
import Derived.Test.YtbanjoflgoiegaaGreatPart21
import Derived.Deep.CutRange
import Derived.Deep.CutBlock
import Derived.Deep.RegionHeld3
namespace Go.Proofs.YtbanjoflgoiegaaGreat
open Go.RowKit

structure Gd.Laid (w x : World) (R B gC gE gI : Nat) (s g c : Nat → Int) (E I : Nat → Nat → Int) : Prop where
  hold : Gd.Hold x B gC gE gI 384 32 40 s g c E I
  at_ : w.heap.size = R
  lB : R < B
  lC : R < gC
  lE : R < gE
  lI : R < gI
  res : Lie x R 30 11 (fun j => #[.int .i64 0, .int .i64 0, .int .i64 0, .int .i64 0, .slice none 0 0, .slice none 0 0, .slice none 0 0, .int .i64 0, .int .i64 0, .int .i64 0, Value.int .i64 0][j]?.getD undef)
  grown : w.grownBy x none

theorem Gd.Laid.on {w x y : World} {R B gC gE gI : Nat} {s g c : Nat → Int} {E I : Nat → Nat → Int} (h : Gd.Laid w x R B gC gE gI s g c E I) (hg : x.grownBy y none) : Gd.Laid w y R B gC gE gI s g c E I :=
  { h with hold := h.hold.on hg, res := h.res.on hg, grown := grown_trans h.grown hg }

theorem Gd.Laid.put {w x : World} {R B gC gE gI : Nat} {s g c : Nat → Int} {E I : Nat → Nat → Int} (h : Gd.Laid w x R B gC gE gI s g c E I) (m : Nat) (a b d e : Int) : Gd.Laid w ((((x.setCell ⟨gI, m * 4, none⟩ (.int .i64 a)).setCell ⟨gI, m * 4 + 1, none⟩ (.int .i64 b)).setCell ⟨gI, m * 4 + 2, none⟩ (.int .i64 d)).setCell ⟨gI, m * 4 + 3, none⟩ (.int .i64 e)) R B gC gE gI s g c E (En.put I m (Gd.row a b d e)) := by
  have h1 := h.lI
  have h2 := h.at_
  have r := grown_put4 (World.grownBy.refl x (some gI)) m (.int .i64 a) (.int .i64 b) (.int .i64 d) (.int .i64 e)
  exact { h with hold := h.hold.put m a b d e, res := h.res.grown r (by simp; omega), grown := grown_own h.grown r (fun n e => by cases e; omega) }

theorem Gd.Laid.worlds {w x : World} {R B gC gE gI : Nat} {s g c : Nat → Int} {E I : Nat → Nat → Int} (h : Gd.Laid w x R B gC gE gI s g c E I) (vs : List Value) : Gd.Worlds w s g c E I (.returned (.agg (Gd.world s gC gE gI 384 32 40 g))) (x.setCells R 0 vs) := by
  have hB := h.at_
  have lC := h.lC
  have lE := h.lE
  have lI := h.lI
  have r := grown_sets (g := R) vs 0 x (World.grownBy.refl _ _)
  exact ⟨gC, gE, gI, 384, 32, 40, rfl, by omega, by omega, by omega, by omega, h.hold.cE, h.hold.cI, h.hold.eI, ⟨h.hold.lists.cells.grown r (by simp; omega), h.hold.lists.ents.grown r (by simp; omega), h.hold.lists.items.grown r (by simp; omega)⟩, own_sets (by omega) vs 0 x h.grown⟩

structure Gd.Open (x : World) (ob oo L : Nat) (O : Nat → Nat) (B gE gI : Nat) : Prop where
  cell : ∀ i, i < L → x.cell? ⟨ob, oo + i, none⟩ = some (.int .i64 (O i : Int))
  lt : ob < x.heap.size
  nB : ob ≠ B
  nE : ob ≠ gE
  nI : ob ≠ gI

theorem Gd.Open.grown {x y : World} {ob oo L : Nat} {O : Nat → Nat} {B gE gI : Nat} {r : Option Nat} (h : Gd.Open x ob oo L O B gE gI) (hg : x.grownBy y r) (hr : r ≠ some ob) : Gd.Open y ob oo L O B gE gI :=
  { h with cell := fun i hi => (grown_cell hg ob _ h.lt hr).trans (h.cell i hi), lt := Nat.lt_of_lt_of_le h.lt hg.size }

theorem Gd.Open.on {x y : World} {ob oo L : Nat} {O : Nat → Nat} {B gE gI : Nat} (h : Gd.Open x ob oo L O B gE gI) (hg : x.grownBy y none) : Gd.Open y ob oo L O B gE gI := h.grown hg (by simp)

theorem Gd.Open.put {x : World} {ob oo L : Nat} {O : Nat → Nat} {B gE gI : Nat} (h : Gd.Open x ob oo L O B gE gI) (m : Nat) (a b d e : Value) : Gd.Open ((((x.setCell ⟨gI, m * 4, none⟩ a).setCell ⟨gI, m * 4 + 1, none⟩ b).setCell ⟨gI, m * 4 + 2, none⟩ d).setCell ⟨gI, m * 4 + 3, none⟩ e) ob oo L O B gE gI :=
  h.grown (grown_put4 (World.grownBy.refl x (some gI)) m a b d e) (by simpa using h.nI.symm)

def Gd.Fit (c : Nat → Int) (kd wh a b : Int) : Prop := 1 ≤ kd ∧ kd ≤ 4 ∧
  ((wh = 1 ∧ Gr.inB a b = true ∧ Gr.walkB (Gr.at 384 c a b) = true) ∨ (wh = 2 ∧ 0 ≤ a ∧ a < 4 ∧ 0 ≤ b ∧ b < 4) ∨ (wh = 3 ∧ 0 ≤ a ∧ a < 4 ∧ (kd = 2 ∧ b = 0 ∨ kd = 3 ∧ b = 1)) ∨ (wh = 4 ∧ 0 ≤ a ∧ a < 3 ∧ b = 0))

theorem Gd.ok_none (c : Nat → Int) : Gd.Ok c 40 (fun _ _ => 0) := ⟨fun _ _ => .inl ⟨rfl, rfl, rfl, rfl⟩, fun _ _ _ _ _ h => absurd rfl h⟩

end Go.Proofs.YtbanjoflgoiegaaGreat

namespace Go.Proofs.YtbanjoflgoiegaaGreat
open Go.RowKit

def Gd.folk (st : Int) (kc : Nat) (h : Int) : Nat → Int
  | 0 => 1
  | 2 => st
  | 3 => (kc : Int) % 24
  | 4 => (kc : Int) / 24
  | 5 => 1 + h
  | 6 => 20
  | 7 => 5
  | 8 => 1
  | _ => 0

theorem Gd.Laid.ents {w x y : World} {R B gC gE gI : Nat} {s g c : Nat → Int} {E I F : Nat → Nat → Int} (h : Gd.Laid w x R B gC gE gI s g c E I) (hg : x.grownBy y (some gE)) (hE : Lie y gE 54 352 (En.flat F)) : Gd.Laid w y R B gC gE gI s g c F I := by
  have h1 := h.lE
  have h2 := h.at_
  exact { h with hold := h.hold.ents hg hE, res := h.res.grown hg (by simp; omega), grown := grown_own h.grown hg (fun n e => by cases e; omega) }

theorem Gd.Laid.gold {w x : World} {R B gC gE gI : Nat} {s g c : Nat → Int} {E I : Nat → Nat → Int} (h : Gd.Laid w x R B gC gE gI s g c E I) (k : Nat) (hk : k < 4) (v : Int) : Gd.Laid w (x.setCell ⟨B, 7 + k, none⟩ (.int .i64 v)) R B gC gE gI s (Gd.give g k v) c E I := by
  have h1 := h.lB
  have h2 := h.at_
  have r := grown_set0 x B (7 + k) (.int .i64 v)
  exact { h with hold := h.hold.gold k hk v, res := h.res.grown r (by simp; omega), grown := grown_own h.grown r (fun n e => by cases e; omega) }

end Go.Proofs.YtbanjoflgoiegaaGreat
