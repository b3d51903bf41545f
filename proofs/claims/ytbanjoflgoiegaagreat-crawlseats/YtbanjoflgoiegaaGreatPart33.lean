/-
  GoodsBorn GoodsSeat GoodsOpen GoodsMade GoodsKnown GoodsSit GoodsLaw GoodsOver
-/
import Derived.Test.YtbanjoflgoiegaaGreatPart31
import Derived.Deep.RegionHeld3
import Derived.Laws.AppendOwnNone
import Derived.Test.YtbanjoflgoiegaaGreatPart32
import Derived.Test.YtbanjoflgoiegaaGreatPart27
import Derived.Test.YtbanjoflgoiegaaGreatPart24
namespace Go.Proofs.YtbanjoflgoiegaaGreat
open Go.RowKit

def Gd.folk (st : Int) (kc : Nat) (h : Int) : Nat → Int
  | 0 => 1
  | 2 => st
  | 3 => (kc : Int) % 24
  | 4 => (kc : Int) / 24
  | 5 => 1 + h
  | 6 => 20
  | 7 => 5
  | 8 => 1
  | _ => 0

theorem Gd.Laid.ents {w x y : World} {R B gC gE gI : Nat} {s g c : Nat → Int} {E I F : Nat → Nat → Int} (h : Gd.Laid w x R B gC gE gI s g c E I) (hg : x.grownBy y (some gE)) (hE : Lie y gE 54 352 (En.flat F)) : Gd.Laid w y R B gC gE gI s g c F I := by
  have h1 := h.lE
  have h2 := h.at_
  exact { h with hold := h.hold.ents hg hE, res := h.res.grown hg (by simp; omega), grown := grown_own h.grown hg (fun n e => by cases e; omega) }

theorem Gd.Laid.gold {w x : World} {R B gC gE gI : Nat} {s g c : Nat → Int} {E I : Nat → Nat → Int} (h : Gd.Laid w x R B gC gE gI s g c E I) (k : Nat) (hk : k < 4) (v : Int) : Gd.Laid w (x.setCell ⟨B, 7 + k, none⟩ (.int .i64 v)) R B gC gE gI s (Gd.give g k v) c E I := by
  have h1 := h.lB
  have h2 := h.at_
  have r := grown_set0 x B (7 + k) (.int .i64 v)
  exact { h with hold := h.hold.gold k hk v, res := h.res.grown r (by simp; omega), grown := grown_own h.grown r (fun n e => by cases e; omega) }

end Go.Proofs.YtbanjoflgoiegaaGreat

namespace Go.Proofs.YtbanjoflgoiegaaGreat
open Go.RowKit

theorem Gr.findFrom_pos (c : Nat → Int) (v : Int) : ∀ (n m : Nat), 0 ≤ Gr.findFrom c v n m → ∃ k : Nat, m ≤ k ∧ k < m + n ∧ Gr.findFrom c v n m = (k : Int) ∧ c k = v
  | 0, m, h => by simp [Gr.findFrom] at h
  | n + 1, m, h => by
    unfold Gr.findFrom at h ⊢
    by_cases e : c m = v
    · rw [if_pos e]
      exact ⟨m, Nat.le_refl _, by omega, rfl, e⟩
    · rw [if_neg e] at h ⊢
      obtain ⟨k, h1, h2, h3, h4⟩ := Gr.findFrom_pos c v n (m + 1) h
      exact ⟨k, by omega, by omega, h3, h4⟩

theorem Gr.find_pos {c : Nat → Int} {v : Int} (h : 0 ≤ Gr.find 384 c v) : ∃ k : Nat, k < 384 ∧ Gr.find 384 c v = (k : Int) ∧ c k = v := by
  obtain ⟨k, _, h2, h3, h4⟩ := Gr.findFrom_pos c v _ _ h
  exact ⟨k, by omega, h3, h4⟩

end Go.Proofs.YtbanjoflgoiegaaGreat

namespace Go.Proofs.YtbanjoflgoiegaaGreat
open Go.RowKit

end Go.Proofs.YtbanjoflgoiegaaGreat

namespace Go.Proofs.YtbanjoflgoiegaaGreat
open Go.RowKit

end Go.Proofs.YtbanjoflgoiegaaGreat

namespace Go.Proofs.YtbanjoflgoiegaaGreat
open Go.RowKit

end Go.Proofs.YtbanjoflgoiegaaGreat

namespace Go.Proofs.YtbanjoflgoiegaaGreat
open Go.RowKit

structure Gd.Sit (c g : Nat → Int) (E I : Nat → Nat → Int) (seat : Int) (r kc : Nat) : Prop where
  fine : Gd.Fine c g E I
  s0 : 0 ≤ seat
  s4 : seat < 4
  hero : Gd.hero E seat = (r : Int)
  r32 : r < 32
  kc4 : kc < 384
  walk : Gr.walkB (c kc) = true
  x : E r 3 = (kc : Int) % 24
  y : E r 4 = (kc : Int) / 24

theorem Gd.Sit.items {c g : Nat → Int} {E I J : Nat → Nat → Int} {seat : Int} {r kc : Nat} (h : Gd.Sit c g E I seat r kc) (hJ : Gd.Ok c 40 J) : Gd.Sit c g E J seat r kc :=
  { h with fine := { h.fine with ok := hJ } }

end Go.Proofs.YtbanjoflgoiegaaGreat

namespace Go.Proofs.YtbanjoflgoiegaaGreat
open Go.RowKit

structure Gd.Law (w x : World) (T gC gE gI cC cE cI : Nat) (s g c : Nat → Int) (E I : Nat → Nat → Int) : Prop where
  hold : Gd.Hold x T gC gE gI cC cE cI s g c E I
  lT : w.heap.size ≤ T
  lE : w.heap.size ≤ gE
  lI : w.heap.size ≤ gI
  cap : 32 ≤ cE
  grown : w.grownBy x none

theorem Gd.Law.on {w x y : World} {T gC gE gI cC cE cI : Nat} {s g c : Nat → Int} {E I : Nat → Nat → Int} (h : Gd.Law w x T gC gE gI cC cE cI s g c E I) (hg : x.grownBy y none) : Gd.Law w y T gC gE gI cC cE cI s g c E I :=
  { h with hold := h.hold.on hg, grown := grown_trans h.grown hg }

theorem Gd.Law.put {w x : World} {T gC gE gI cC cE cI : Nat} {s g c : Nat → Int} {E I : Nat → Nat → Int} (h : Gd.Law w x T gC gE gI cC cE cI s g c E I) (m : Nat) (a b d e : Int) : Gd.Law w ((((x.setCell ⟨gI, m * 4, none⟩ (.int .i64 a)).setCell ⟨gI, m * 4 + 1, none⟩ (.int .i64 b)).setCell ⟨gI, m * 4 + 2, none⟩ (.int .i64 d)).setCell ⟨gI, m * 4 + 3, none⟩ (.int .i64 e)) T gC gE gI cC cE cI s g c E (En.put I m (Gd.row a b d e)) :=
  { h with hold := h.hold.put m a b d e, grown := grown_own h.grown (grown_put4 (World.grownBy.refl x (some gI)) m _ _ _ _) (fun n e => by cases e; exact h.lI) }

theorem Gd.Law.same {w x : World} {T gC gE gI cC cE cI : Nat} {s g c : Nat → Int} {E I J : Nat → Nat → Int} (h : Gd.Law w x T gC gE gI cC cE cI s g c E I) (he : I = J) : Gd.Law w x T gC gE gI cC cE cI s g c E J := he ▸ h

theorem Gd.law_new {w x x' : World} {gC gE gI cC cE cI : Nat} {s g c : Nat → Int} {E I : Nat → Nat → Int} (hgx : w.grownBy x none) (hcap : 32 ≤ cE) (l1 : x.heap.size ≤ gC) (l2 : x.heap.size ≤ gE) (l3 : x.heap.size ≤ gI) (n1 : gC ≠ gE) (n2 : gC ≠ gI) (n3 : gE ≠ gI) (hL : Gd.Lists x' gC gE gI c E I) (hg : x.grownBy x' none) :
    Gd.Law w (x'.alloc (.cells (Gd.world s gC gE gI cC cE cI g) 30)) x'.heap.size gC gE gI cC cE cI s g c E I := by
  have h1 := hL.cells.lt
  have h2 := hL.ents.lt
  have h3 := hL.items.lt
  have h4 := hgx.size
  have h5 := hg.size
  have _ := l1
  exact ⟨⟨(Arr.world (heap_alloc_new x' _)).lie, hL.on (World.grownBy_alloc _ _ _), by omega, by omega, by omega, n1, n2, n3⟩, by omega, by omega, by omega, hcap, grown_trans hgx (grown_alloc hg _)⟩

theorem Gd.Law.eleven {w x : World} {T gC gE gI cC cE cI : Nat} {s g c : Nat → Int} {E I : Nat → Nat → Int} (h : Gd.Law w x T gC gE gI cC cE cI s g c E I) : x.cell? ⟨T, 0, none⟩ = some (.int .i64 (s 0)) ∧ x.cell? ⟨T, 1, none⟩ = some (.int .i64 (s 1)) ∧ x.cell? ⟨T, 2, none⟩ = some (.int .i64 (s 2)) ∧ x.cell? ⟨T, 3, none⟩ = some (.int .i64 (s 3)) ∧ x.cell? ⟨T, 4, none⟩ = some (.slice (some ⟨gC, 0, none⟩) 384 cC) ∧ x.cell? ⟨T, 5, none⟩ = some (.slice (some ⟨gE, 0, none⟩) 32 cE) ∧ x.cell? ⟨T, 6, none⟩ = some (.slice (some ⟨gI, 0, none⟩) 40 cI) ∧ x.cell? ⟨T, 7, none⟩ = some (.int .i64 (g 0)) ∧ x.cell? ⟨T, 8, none⟩ = some (.int .i64 (g 1)) ∧ x.cell? ⟨T, 9, none⟩ = some (.int .i64 (g 2)) ∧ x.cell? ⟨T, 10, none⟩ = some (.int .i64 (g 3)) :=
  h.hold.box.eleven

theorem Gd.Law.at {w x : World} {T gC gE gI cC cE cI : Nat} {s g c : Nat → Int} {E I : Nat → Nat → Int} (h : Gd.Law w x T gC gE gI cC cE cI s g c E I) (q : Nat) (hq : q < 160) (v : Int) (hv : I (q / 4) (q % 4) = v) : x.cell? ⟨gI, q, none⟩ = some (.int .i64 v) := by
  rw [h.hold.lists.items.cell hq, ← hv]
  rfl

end Go.Proofs.YtbanjoflgoiegaaGreat

namespace Go.Proofs.YtbanjoflgoiegaaGreat
open Go.RowKit

theorem Gd.Law.over {w x x' : World} {T gC gE gI cC cE cI jC jE jI dC dE dI : Nat} {s g c s' g' c' : Nat → Int} {E I F J : Nat → Nat → Int} (h : Gd.Law w x T gC gE gI cC cE cI s g c E I) (hcap : 32 ≤ dE) (l1 : x.heap.size ≤ jC) (l2 : x.heap.size ≤ jE) (l3 : x.heap.size ≤ jI) (n1 : jC ≠ jE) (n2 : jC ≠ jI) (n3 : jE ≠ jI) (hL : Gd.Lists x' jC jE jI c' F J) (hg : x.grownBy x' none) :
    Gd.Law w (x'.setCells T 0 (Gd.world s' jC jE jI dC dE dI g').toList) T jC jE jI dC dE dI s' g' c' F J := by
  have h1 := h.hold.box.lt
  have h2 := h.grown.size
  have r := grown_sets (g := T) (Gd.world s' jC jE jI dC dE dI g').toList 0 x' (World.grownBy.refl _ _)
  exact ⟨⟨(h.hold.box.on hg).whole s' g' jC jE jI dC dE dI, ⟨hL.cells.grown r (by simp; omega), hL.ents.grown r (by simp; omega), hL.items.grown r (by simp; omega)⟩, by omega, by omega, by omega, n1, n2, n3⟩, h.lT, by omega, by omega, hcap, own_sets h.lT _ 0 x' (grown_trans h.grown hg)⟩

end Go.Proofs.YtbanjoflgoiegaaGreat
