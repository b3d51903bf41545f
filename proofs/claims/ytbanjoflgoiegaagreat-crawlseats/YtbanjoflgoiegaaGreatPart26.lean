/-
  GoodsWorld GoodsLay GoodsLaid GoodsToldNew GoodsToldPut GoodsToldTail GoodsTold GoodsBorn GoodsSeat GoodsOpen GoodsLots GoodsMade GoodsFits GoodsCheck GoodsKnown GoodsSame GoodsSit GoodsLaw GoodsOver GoodsFlask EntSpawn
-/
import Derived.Test.YtbanjoflgoiegaaGreatPart22
import Derived.Test.YtbanjoflgoiegaaGreatPart25
import Derived.Test.YtbanjoflgoiegaaGreatPart23
import Derived.Test.YtbanjoflgoiegaaGreatPart24
import Derived.Deep.CutRange
import Derived.Deep.CutBlock
import Derived.Deep.RegionHeld3
import Derived.Laws.AppendOwnNone
import Derived.Deep.RegionWith
import Derived.Test.YtbanjoflgoiegaaGreatPart18
import Derived.Test.YtbanjoflgoiegaaGreatPart21
import Derived.Laws.BytesArg
import Derived.ChangeKeysEq
import Derived.Test.YtbanjoflgoiegaaGreatPart14
import Derived.Test.YtbanjoflgoiegaaGreatPart17
namespace Go.Proofs.YtbanjoflgoiegaaGreat
open Go.RowKit

theorem madeCells_item (n c : Nat) (hc : c < n * 4) : (madeCells (Value.agg #[.int .i64 0, .int .i64 0, .int .i64 0, .int .i64 0]).cells (n * 4))[c]? = some (.int .i64 0) := by
  have hm : c % 4 < 4 := by omega
  obtain ⟨m, hmm⟩ : ∃ m, m = c % 4 := ⟨_, rfl⟩
  unfold madeCells
  simp [hc, Value.cells]
  rw [← hmm] at hm ⊢
  rcases (show m = 0 ∨ m = 1 ∨ m = 2 ∨ m = 3 by omega) with rfl | rfl | rfl | rfl <;> rfl

theorem make40 : ∃ Z : Array Value, (∀ w : World, (Instr.makeSlice 27 (.int .i64 40) (.int .i64 40)).run Tryz.prog w = .ok (.slice (some ⟨w.heap.size, 0, none⟩) 40 40) (w.alloc (.cells Z 62))) ∧
    ∀ w : World, Lie (w.alloc (.cells Z 62)) w.heap.size 62 160 (Gd.flat (fun _ _ => 0)) := by
  obtain ⟨i0, hi, hz0, hz1, hz2⟩ := info_parts info_item
  refine ⟨madeCells (Value.agg #[.int .i64 0, .int .i64 0, .int .i64 0, .int .i64 0]).cells (40 * 4), fun w => ?_, fun w => ?_⟩
  · have hr := run_make (P := Tryz.prog) w 27 62 i0 _ Tryz.underlying27 hi hz0 .i64 .i64 (40 : Nat) (40 : Nat) (by omega) (by omega) (by rw [hz2]; decide) (by decide)
    rw [hz1] at hr
    exact hr
  · refine ⟨_, _, Arr.lit (heap_alloc_new w _), by rw [size_madeCells]; omega, fun c hc => ?_⟩
    show (madeCells _ _)[c]?.getD undef = _
    rw [madeCells_item 40 c hc]
    rfl

theorem Lie.type_ne {x : World} {B G : Nat} {T U : TypeId} {m n : Nat} {F K : Nat → Value} (h1 : Lie x B T m F) (h2 : Lie x G U n K) (h : T ≠ U) : B ≠ G := by
  rintro rfl
  obtain ⟨_, _, ⟨c1, e1, _⟩, _⟩ := h1
  obtain ⟨_, _, ⟨c2, e2, _⟩, _⟩ := h2
  rw [e1] at e2
  simp only [Option.some.injEq, Obj.cells.injEq] at e2
  exact h e2.2.1

end Go.Proofs.YtbanjoflgoiegaaGreat

namespace Go.Proofs.YtbanjoflgoiegaaGreat
open Go.RowKit

def Gd.goneQ (J : Nat → Nat → Int) : Nat → Bool := fun i => Gd.zeroB (J i 0) (J i 1) (J i 2) (J i 3)

def Gd.lay (I M : Nat → Nat → Int) : Nat → Nat → Nat → Int
  | 0 => I
  | m + 1 => if 0 ≤ En.first (Gd.goneQ (Gd.lay I M m)) 40 then En.put (Gd.lay I M m) (En.first (Gd.goneQ (Gd.lay I M m)) 40).toNat (Gd.row (M m 0) (M m 1) (M m 2) (M m 3)) else Gd.lay I M m

theorem Gd.lay_none {I M : Nat → Nat → Int} {m : Nat} (h : ∀ j, j < 40 → Gd.goneQ (Gd.lay I M m) j = false) : Gd.lay I M (m + 1) = Gd.lay I M m := by
  show (if _ then _ else _) = _
  rw [En.first_none h, if_neg (by omega)]

theorem Gd.lay_some {I M : Nat → Nat → Int} {m r : Nat} (hno : ∀ j, j < r → Gd.goneQ (Gd.lay I M m) j = false) (hr : Gd.goneQ (Gd.lay I M m) r = true) (h40 : r < 40) : Gd.lay I M (m + 1) = En.put (Gd.lay I M m) r (Gd.row (M m 0) (M m 1) (M m 2) (M m 3)) := by
  show (if _ then _ else _) = _
  rw [En.first_hit hno hr h40, if_pos (by omega), Int.toNat_natCast]

theorem Gd.lay_stuck {I M : Nat → Nat → Int} {m : Nat} (h : ∀ j, j < 40 → Gd.goneQ (Gd.lay I M m) j = false) : ∀ d, Gd.lay I M (m + d) = Gd.lay I M m
  | 0 => rfl
  | d + 1 => by
      have ih := Gd.lay_stuck h d
      have h' : ∀ j, j < 40 → Gd.goneQ (Gd.lay I M (m + d)) j = false := by rw [ih]; exact h
      rw [← Nat.add_assoc, Gd.lay_none h', ih]

def Gd.Some (w : World) (a : Option Addr) (n : Nat) (M : Nat → Nat → Int) : Prop := n ≤ 100 ∧ (n = 0 ∨ ∃ b o, a = some ⟨b, o, none⟩ ∧ Its w b o n M)

theorem Gd.Some.on {w w' : World} {a : Option Addr} {n : Nat} {M : Nat → Nat → Int} (h : Gd.Some w a n M) (hg : w.grownBy w' none) : Gd.Some w' a n M := by
  obtain ⟨h1, h0 | ⟨b, o, h2, h3⟩⟩ := h
  · exact ⟨h1, .inl h0⟩
  · exact ⟨h1, .inr ⟨b, o, h2, h3.on hg⟩⟩

theorem Gd.Some.row {w : World} {a : Option Addr} {n : Nat} {M : Nat → Nat → Int} (h : Gd.Some w a n M) {k : Nat} (hk : k < n) : ∃ b o, a = some ⟨b, o, none⟩ ∧ b < w.heap.size ∧ w.cell? ⟨b, o + k * 4, none⟩ = some (.int .i64 (M k 0)) ∧ w.cell? ⟨b, o + k * 4 + 1, none⟩ = some (.int .i64 (M k 1)) ∧ w.cell? ⟨b, o + k * 4 + 2, none⟩ = some (.int .i64 (M k 2)) ∧ w.cell? ⟨b, o + k * 4 + 3, none⟩ = some (.int .i64 (M k 3)) := by
  obtain ⟨_, h0 | ⟨b, o, h2, h3⟩⟩ := h
  · omega
  · exact ⟨b, o, h2, h3.2.1, h3.2.2 k 0 hk (by omega), h3.2.2 k 1 hk (by omega), h3.2.2 k 2 hk (by omega), h3.2.2 k 3 hk (by omega)⟩

def Gd.Gives40 (w : World) (J : Nat → Nat → Int) (e : Ending) (w' : World) : Prop :=
  ∃ g cap, e = .returned (.slice (some ⟨g, 0, none⟩) 40 cap) ∧ w.heap.size ≤ g ∧ Lie w' g 62 160 (Gd.flat J) ∧ w.grownBy w' none

end Go.Proofs.YtbanjoflgoiegaaGreat

namespace Go.Proofs.YtbanjoflgoiegaaGreat
open Go.RowKit

structure Gd.Laid (w x : World) (R B gC gE gI : Nat) (s g c : Nat → Int) (E I : Nat → Nat → Int) : Prop where
  hold : Gd.Hold x B gC gE gI 384 32 40 s g c E I
  at_ : w.heap.size = R
  lB : R < B
  lC : R < gC
  lE : R < gE
  lI : R < gI
  res : Lie x R 30 11 (fun j => #[.int .i64 0, .int .i64 0, .int .i64 0, .int .i64 0, .slice none 0 0, .slice none 0 0, .slice none 0 0, .int .i64 0, .int .i64 0, .int .i64 0, Value.int .i64 0][j]?.getD undef)
  grown : w.grownBy x none

theorem Gd.Laid.on {w x y : World} {R B gC gE gI : Nat} {s g c : Nat → Int} {E I : Nat → Nat → Int} (h : Gd.Laid w x R B gC gE gI s g c E I) (hg : x.grownBy y none) : Gd.Laid w y R B gC gE gI s g c E I :=
  { h with hold := h.hold.on hg, res := h.res.on hg, grown := grown_trans h.grown hg }

theorem Gd.Laid.put {w x : World} {R B gC gE gI : Nat} {s g c : Nat → Int} {E I : Nat → Nat → Int} (h : Gd.Laid w x R B gC gE gI s g c E I) (m : Nat) (a b d e : Int) : Gd.Laid w ((((x.setCell ⟨gI, m * 4, none⟩ (.int .i64 a)).setCell ⟨gI, m * 4 + 1, none⟩ (.int .i64 b)).setCell ⟨gI, m * 4 + 2, none⟩ (.int .i64 d)).setCell ⟨gI, m * 4 + 3, none⟩ (.int .i64 e)) R B gC gE gI s g c E (En.put I m (Gd.row a b d e)) := by
  have h1 := h.lI
  have h2 := h.at_
  have r := grown_put4 (World.grownBy.refl x (some gI)) m (.int .i64 a) (.int .i64 b) (.int .i64 d) (.int .i64 e)
  exact { h with hold := h.hold.put m a b d e, res := h.res.grown r (by simp; omega), grown := grown_own h.grown r (fun n e => by cases e; omega) }

theorem Gd.Laid.worlds {w x : World} {R B gC gE gI : Nat} {s g c : Nat → Int} {E I : Nat → Nat → Int} (h : Gd.Laid w x R B gC gE gI s g c E I) (vs : List Value) : Gd.Worlds w s g c E I (.returned (.agg (Gd.world s gC gE gI 384 32 40 g))) (x.setCells R 0 vs) := by
  have hB := h.at_
  have lC := h.lC
  have lE := h.lE
  have lI := h.lI
  have r := grown_sets (g := R) vs 0 x (World.grownBy.refl _ _)
  exact ⟨gC, gE, gI, 384, 32, 40, rfl, by omega, by omega, by omega, by omega, h.hold.cE, h.hold.cI, h.hold.eI, ⟨h.hold.lists.cells.grown r (by simp; omega), h.hold.lists.ents.grown r (by simp; omega), h.hold.lists.items.grown r (by simp; omega)⟩, own_sets (by omega) vs 0 x h.grown⟩

structure Gd.Open (x : World) (ob oo L : Nat) (O : Nat → Nat) (B gE gI : Nat) : Prop where
  cell : ∀ i, i < L → x.cell? ⟨ob, oo + i, none⟩ = some (.int .i64 (O i : Int))
  lt : ob < x.heap.size
  nB : ob ≠ B
  nE : ob ≠ gE
  nI : ob ≠ gI

theorem Gd.Open.grown {x y : World} {ob oo L : Nat} {O : Nat → Nat} {B gE gI : Nat} {r : Option Nat} (h : Gd.Open x ob oo L O B gE gI) (hg : x.grownBy y r) (hr : r ≠ some ob) : Gd.Open y ob oo L O B gE gI :=
  { h with cell := fun i hi => (grown_cell hg ob _ h.lt hr).trans (h.cell i hi), lt := Nat.lt_of_lt_of_le h.lt hg.size }

theorem Gd.Open.on {x y : World} {ob oo L : Nat} {O : Nat → Nat} {B gE gI : Nat} (h : Gd.Open x ob oo L O B gE gI) (hg : x.grownBy y none) : Gd.Open y ob oo L O B gE gI := h.grown hg (by simp)

theorem Gd.Open.put {x : World} {ob oo L : Nat} {O : Nat → Nat} {B gE gI : Nat} (h : Gd.Open x ob oo L O B gE gI) (m : Nat) (a b d e : Value) : Gd.Open ((((x.setCell ⟨gI, m * 4, none⟩ a).setCell ⟨gI, m * 4 + 1, none⟩ b).setCell ⟨gI, m * 4 + 2, none⟩ d).setCell ⟨gI, m * 4 + 3, none⟩ e) ob oo L O B gE gI :=
  h.grown (grown_put4 (World.grownBy.refl x (some gI)) m a b d e) (by simpa using h.nI.symm)

def Gd.Fit (c : Nat → Int) (kd wh a b : Int) : Prop := 1 ≤ kd ∧ kd ≤ 4 ∧
  ((wh = 1 ∧ Gr.inB a b = true ∧ Gr.walkB (Gr.at 384 c a b) = true) ∨ (wh = 2 ∧ 0 ≤ a ∧ a < 4 ∧ 0 ≤ b ∧ b < 4) ∨ (wh = 3 ∧ 0 ≤ a ∧ a < 4 ∧ (kd = 2 ∧ b = 0 ∨ kd = 3 ∧ b = 1)) ∨ (wh = 4 ∧ 0 ≤ a ∧ a < 3 ∧ b = 0))

theorem Gd.ok_none (c : Nat → Int) : Gd.Ok c 40 (fun _ _ => 0) := ⟨fun _ _ => .inl ⟨rfl, rfl, rfl, rfl⟩, fun _ _ _ _ _ h => absurd rfl h⟩

end Go.Proofs.YtbanjoflgoiegaaGreat

namespace Go.Proofs.YtbanjoflgoiegaaGreat
open Go.RowKit

end Go.Proofs.YtbanjoflgoiegaaGreat

namespace Go.Proofs.YtbanjoflgoiegaaGreat
open Go.RowKit

end Go.Proofs.YtbanjoflgoiegaaGreat

namespace Go.Proofs.YtbanjoflgoiegaaGreat
open Go.RowKit

end Go.Proofs.YtbanjoflgoiegaaGreat

namespace Go.Proofs.YtbanjoflgoiegaaGreat
open Go.RowKit

end Go.Proofs.YtbanjoflgoiegaaGreat

namespace Go.Proofs.YtbanjoflgoiegaaGreat
open Go.RowKit

def Gd.folk (st : Int) (kc : Nat) (h : Int) : Nat → Int
  | 0 => 1
  | 2 => st
  | 3 => (kc : Int) % 24
  | 4 => (kc : Int) / 24
  | 5 => 1 + h
  | 6 => 20
  | 7 => 5
  | 8 => 1
  | _ => 0

theorem Gd.Laid.ents {w x y : World} {R B gC gE gI : Nat} {s g c : Nat → Int} {E I F : Nat → Nat → Int} (h : Gd.Laid w x R B gC gE gI s g c E I) (hg : x.grownBy y (some gE)) (hE : Lie y gE 54 352 (En.flat F)) : Gd.Laid w y R B gC gE gI s g c F I := by
  have h1 := h.lE
  have h2 := h.at_
  exact { h with hold := h.hold.ents hg hE, res := h.res.grown hg (by simp; omega), grown := grown_own h.grown hg (fun n e => by cases e; omega) }

theorem Gd.Laid.gold {w x : World} {R B gC gE gI : Nat} {s g c : Nat → Int} {E I : Nat → Nat → Int} (h : Gd.Laid w x R B gC gE gI s g c E I) (k : Nat) (hk : k < 4) (v : Int) : Gd.Laid w (x.setCell ⟨B, 7 + k, none⟩ (.int .i64 v)) R B gC gE gI s (Gd.give g k v) c E I := by
  have h1 := h.lB
  have h2 := h.at_
  have r := grown_set0 x B (7 + k) (.int .i64 v)
  exact { h with hold := h.hold.gold k hk v, res := h.res.grown r (by simp; omega), grown := grown_own h.grown r (fun n e => by cases e; omega) }

end Go.Proofs.YtbanjoflgoiegaaGreat

namespace Go.Proofs.YtbanjoflgoiegaaGreat
open Go.RowKit

theorem Gr.findFrom_pos (c : Nat → Int) (v : Int) : ∀ (n m : Nat), 0 ≤ Gr.findFrom c v n m → ∃ k : Nat, m ≤ k ∧ k < m + n ∧ Gr.findFrom c v n m = (k : Int) ∧ c k = v
  | 0, m, h => by simp [Gr.findFrom] at h
  | n + 1, m, h => by
    unfold Gr.findFrom at h ⊢
    by_cases e : c m = v
    · rw [if_pos e]
      exact ⟨m, Nat.le_refl _, by omega, rfl, e⟩
    · rw [if_neg e] at h ⊢
      obtain ⟨k, h1, h2, h3, h4⟩ := Gr.findFrom_pos c v n (m + 1) h
      exact ⟨k, by omega, by omega, h3, h4⟩

theorem Gr.find_pos {c : Nat → Int} {v : Int} (h : 0 ≤ Gr.find 384 c v) : ∃ k : Nat, k < 384 ∧ Gr.find 384 c v = (k : Int) ∧ c k = v := by
  obtain ⟨k, _, h2, h3, h4⟩ := Gr.findFrom_pos c v _ _ h
  exact ⟨k, by omega, h3, h4⟩

end Go.Proofs.YtbanjoflgoiegaaGreat

namespace Go.Proofs.YtbanjoflgoiegaaGreat
open Go.RowKit

end Go.Proofs.YtbanjoflgoiegaaGreat

namespace Go.Proofs.YtbanjoflgoiegaaGreat
open Go.RowKit

end Go.Proofs.YtbanjoflgoiegaaGreat

namespace Go.Proofs.YtbanjoflgoiegaaGreat
open Go.RowKit

end Go.Proofs.YtbanjoflgoiegaaGreat

namespace Go.Proofs.YtbanjoflgoiegaaGreat
open Go.RowKit

def Gd.fitsB (c : Nat → Int) (k p a b : Int) : Bool :=
  decide (1 ≤ k ∧ k ≤ 4) && (if p = 1 then Gr.walkB (Gr.at 384 c a b) else if p = 2 then Gd.isSeat a && (decide (0 ≤ b) && (decide (b < 4) && decide (k ≠ 4)))
    else if p = 3 then Gd.isSeat a && (Gd.serves k 7 && decide (b = k - 2)) else if p = 4 then decide (0 ≤ a) && (decide (a < 3) && (decide (b = 0) && decide (k ≠ 4))) else false)

end Go.Proofs.YtbanjoflgoiegaaGreat

namespace Go.Proofs.YtbanjoflgoiegaaGreat
open Go.RowKit

def Gd.good (c : Nat → Int) (I : Nat → Nat → Int) (j : Nat) : Prop := Gd.zeroB (I j 0) (I j 1) (I j 2) (I j 3) = true ∨ (Gd.fitsB c (I j 0) (I j 1) (I j 2) (I j 3) = true ∧ Gd.find I 40 (I j 1) (I j 2) (I j 3) = (j : Int))

end Go.Proofs.YtbanjoflgoiegaaGreat

namespace Go.Proofs.YtbanjoflgoiegaaGreat
open Go.RowKit

end Go.Proofs.YtbanjoflgoiegaaGreat

namespace Go.Proofs.YtbanjoflgoiegaaGreat
open Go.RowKit

end Go.Proofs.YtbanjoflgoiegaaGreat

namespace Go.Proofs.YtbanjoflgoiegaaGreat
open Go.RowKit

structure Gd.Sit (c g : Nat → Int) (E I : Nat → Nat → Int) (seat : Int) (r kc : Nat) : Prop where
  fine : Gd.Fine c g E I
  s0 : 0 ≤ seat
  s4 : seat < 4
  hero : Gd.hero E seat = (r : Int)
  r32 : r < 32
  kc4 : kc < 384
  walk : Gr.walkB (c kc) = true
  x : E r 3 = (kc : Int) % 24
  y : E r 4 = (kc : Int) / 24

theorem Gd.Sit.items {c g : Nat → Int} {E I J : Nat → Nat → Int} {seat : Int} {r kc : Nat} (h : Gd.Sit c g E I seat r kc) (hJ : Gd.Ok c 40 J) : Gd.Sit c g E J seat r kc :=
  { h with fine := { h.fine with ok := hJ } }

end Go.Proofs.YtbanjoflgoiegaaGreat

namespace Go.Proofs.YtbanjoflgoiegaaGreat
open Go.RowKit

structure Gd.Law (w x : World) (T gC gE gI cC cE cI : Nat) (s g c : Nat → Int) (E I : Nat → Nat → Int) : Prop where
  hold : Gd.Hold x T gC gE gI cC cE cI s g c E I
  lT : w.heap.size ≤ T
  lE : w.heap.size ≤ gE
  lI : w.heap.size ≤ gI
  cap : 32 ≤ cE
  grown : w.grownBy x none

theorem Gd.Law.on {w x y : World} {T gC gE gI cC cE cI : Nat} {s g c : Nat → Int} {E I : Nat → Nat → Int} (h : Gd.Law w x T gC gE gI cC cE cI s g c E I) (hg : x.grownBy y none) : Gd.Law w y T gC gE gI cC cE cI s g c E I :=
  { h with hold := h.hold.on hg, grown := grown_trans h.grown hg }

theorem Gd.Law.put {w x : World} {T gC gE gI cC cE cI : Nat} {s g c : Nat → Int} {E I : Nat → Nat → Int} (h : Gd.Law w x T gC gE gI cC cE cI s g c E I) (m : Nat) (a b d e : Int) : Gd.Law w ((((x.setCell ⟨gI, m * 4, none⟩ (.int .i64 a)).setCell ⟨gI, m * 4 + 1, none⟩ (.int .i64 b)).setCell ⟨gI, m * 4 + 2, none⟩ (.int .i64 d)).setCell ⟨gI, m * 4 + 3, none⟩ (.int .i64 e)) T gC gE gI cC cE cI s g c E (En.put I m (Gd.row a b d e)) :=
  { h with hold := h.hold.put m a b d e, grown := grown_own h.grown (grown_put4 (World.grownBy.refl x (some gI)) m _ _ _ _) (fun n e => by cases e; exact h.lI) }

theorem Gd.Law.same {w x : World} {T gC gE gI cC cE cI : Nat} {s g c : Nat → Int} {E I J : Nat → Nat → Int} (h : Gd.Law w x T gC gE gI cC cE cI s g c E I) (he : I = J) : Gd.Law w x T gC gE gI cC cE cI s g c E J := he ▸ h

theorem Gd.law_new {w x x' : World} {gC gE gI cC cE cI : Nat} {s g c : Nat → Int} {E I : Nat → Nat → Int} (hgx : w.grownBy x none) (hcap : 32 ≤ cE) (l1 : x.heap.size ≤ gC) (l2 : x.heap.size ≤ gE) (l3 : x.heap.size ≤ gI) (n1 : gC ≠ gE) (n2 : gC ≠ gI) (n3 : gE ≠ gI) (hL : Gd.Lists x' gC gE gI c E I) (hg : x.grownBy x' none) :
    Gd.Law w (x'.alloc (.cells (Gd.world s gC gE gI cC cE cI g) 30)) x'.heap.size gC gE gI cC cE cI s g c E I := by
  have h1 := hL.cells.lt
  have h2 := hL.ents.lt
  have h3 := hL.items.lt
  have h4 := hgx.size
  have h5 := hg.size
  have _ := l1
  exact ⟨⟨(Arr.world (heap_alloc_new x' _)).lie, hL.on (World.grownBy_alloc _ _ _), by omega, by omega, by omega, n1, n2, n3⟩, by omega, by omega, by omega, hcap, grown_trans hgx (grown_alloc hg _)⟩

theorem Gd.Law.eleven {w x : World} {T gC gE gI cC cE cI : Nat} {s g c : Nat → Int} {E I : Nat → Nat → Int} (h : Gd.Law w x T gC gE gI cC cE cI s g c E I) : x.cell? ⟨T, 0, none⟩ = some (.int .i64 (s 0)) ∧ x.cell? ⟨T, 1, none⟩ = some (.int .i64 (s 1)) ∧ x.cell? ⟨T, 2, none⟩ = some (.int .i64 (s 2)) ∧ x.cell? ⟨T, 3, none⟩ = some (.int .i64 (s 3)) ∧ x.cell? ⟨T, 4, none⟩ = some (.slice (some ⟨gC, 0, none⟩) 384 cC) ∧ x.cell? ⟨T, 5, none⟩ = some (.slice (some ⟨gE, 0, none⟩) 32 cE) ∧ x.cell? ⟨T, 6, none⟩ = some (.slice (some ⟨gI, 0, none⟩) 40 cI) ∧ x.cell? ⟨T, 7, none⟩ = some (.int .i64 (g 0)) ∧ x.cell? ⟨T, 8, none⟩ = some (.int .i64 (g 1)) ∧ x.cell? ⟨T, 9, none⟩ = some (.int .i64 (g 2)) ∧ x.cell? ⟨T, 10, none⟩ = some (.int .i64 (g 3)) :=
  h.hold.box.eleven

theorem Gd.Law.at {w x : World} {T gC gE gI cC cE cI : Nat} {s g c : Nat → Int} {E I : Nat → Nat → Int} (h : Gd.Law w x T gC gE gI cC cE cI s g c E I) (q : Nat) (hq : q < 160) (v : Int) (hv : I (q / 4) (q % 4) = v) : x.cell? ⟨gI, q, none⟩ = some (.int .i64 v) := by
  rw [h.hold.lists.items.cell hq, ← hv]
  rfl

end Go.Proofs.YtbanjoflgoiegaaGreat

namespace Go.Proofs.YtbanjoflgoiegaaGreat
open Go.RowKit

theorem Gd.Law.over {w x x' : World} {T gC gE gI cC cE cI jC jE jI dC dE dI : Nat} {s g c s' g' c' : Nat → Int} {E I F J : Nat → Nat → Int} (h : Gd.Law w x T gC gE gI cC cE cI s g c E I) (hcap : 32 ≤ dE) (l1 : x.heap.size ≤ jC) (l2 : x.heap.size ≤ jE) (l3 : x.heap.size ≤ jI) (n1 : jC ≠ jE) (n2 : jC ≠ jI) (n3 : jE ≠ jI) (hL : Gd.Lists x' jC jE jI c' F J) (hg : x.grownBy x' none) :
    Gd.Law w (x'.setCells T 0 (Gd.world s' jC jE jI dC dE dI g').toList) T jC jE jI dC dE dI s' g' c' F J := by
  have h1 := h.hold.box.lt
  have h2 := h.grown.size
  have r := grown_sets (g := T) (Gd.world s' jC jE jI dC dE dI g').toList 0 x' (World.grownBy.refl _ _)
  exact ⟨⟨(h.hold.box.on hg).whole s' g' jC jE jI dC dE dI, ⟨hL.cells.grown r (by simp; omega), hL.ents.grown r (by simp; omega), hL.items.grown r (by simp; omega)⟩, by omega, by omega, by omega, n1, n2, n3⟩, h.lT, by omega, by omega, hcap, own_sets h.lT _ 0 x' (grown_trans h.grown hg)⟩

end Go.Proofs.YtbanjoflgoiegaaGreat

namespace Go.Proofs.YtbanjoflgoiegaaGreat
open Go.RowKit

theorem Gd.set_same (E : Nat → Nat → Int) (k j : Nat) (v : Int) : Gd.set E k j v k j = v := if_pos ⟨rfl, rfl⟩

theorem Gd.set_other {E : Nat → Nat → Int} {k j i l : Nat} {v : Int} (h : ¬ (i = k ∧ l = j)) : Gd.set E k j v i l = E i l := if_neg h

theorem Gd.hero_set {E : Nat → Nat → Int} {k j : Nat} {v seat : Int} (h0 : j ≠ 0) (h2 : j ≠ 2) : Gd.hero (Gd.set E k j v) seat = Gd.hero E seat := by
  unfold Gd.hero
  have : En.heroQ (Gd.set E k j v) seat = En.heroQ E seat := by
    funext i
    unfold En.heroQ
    rw [Gd.set_other (by omega), Gd.set_other (by omega)]
  rw [this]

theorem Gd.Sit.stat {c g : Nat → Int} {E I : Nat → Nat → Int} {seat : Int} {r kc : Nat} (h : Gd.Sit c g E I seat r kc) (k j : Nat) (v : Int) (hj : j = 5 ∨ j = 9) (v0 : 0 ≤ v) (v9 : v ≤ 1000) : Gd.Sit c g (Gd.set E k j v) I seat r kc :=
  { h with
    fine := { h.fine with
      hp := fun i hi => by
        by_cases e : i = k ∧ 5 = j
        · obtain ⟨rfl, rfl⟩ := e
          rw [Gd.set_same]
          exact ⟨v0, v9⟩
        · rw [Gd.set_other e]
          exact h.fine.hp i hi }
    hero := by rw [Gd.hero_set (by omega) (by omega)]; exact h.hero
    x := by rw [Gd.set_other (by omega)]; exact h.x
    y := by rw [Gd.set_other (by omega)]; exact h.y }

theorem Gd.Sit.heal {c g : Nat → Int} {E I : Nat → Nat → Int} {seat : Int} {r kc : Nat} (h : Gd.Sit c g E I seat r kc) (m0 : 0 ≤ E r 6) (m9 : E r 6 ≤ 1000) : Gd.Sit c g (Gd.heal E r) I seat r kc := by
  have hp := (h.fine.hp r h.r32).1
  exact (h.stat r 5 _ (.inl rfl) (by omega) (by omega)).stat r 9 0 (.inr rfl) (by omega) (by omega)

theorem Gd.Law.stat {w x : World} {T gC gE gI cC cE cI : Nat} {s g c : Nat → Int} {E I : Nat → Nat → Int} (h : Gd.Law w x T gC gE gI cC cE cI s g c E I) (k j : Nat) (hj : j < 11) (v : Int) : Gd.Law w (x.setCell ⟨gE, k * 11 + j, none⟩ (.int .i64 v)) T gC gE gI cC cE cI s g c (Gd.set E k j v) I :=
  { h with hold := h.hold.ents (grown_set0 x gE (k * 11 + j) (.int .i64 v)) (h.hold.lists.ents.stat k j hj v), grown := grown_store h.grown ⟨gE, k * 11 + j, none⟩ h.lE _ }

end Go.Proofs.YtbanjoflgoiegaaGreat

namespace Go.Proofs.YtbanjoflgoiegaaGreat
open Go.RowKit

theorem Ents.flat {w : World} {b n : Nat} {E : Nat → Nat → Int} (h : Ents w b n E) {c : Nat} (hc : c < n * 11) : w.cell? ⟨b, c, none⟩ = some (En.flat E c) := by
  have := h.2.2 (c / 11) (c % 11) (by omega) (by omega)
  rwa [show c / 11 * 11 + c % 11 = c by omega] at this

theorem Ents.set {w : World} {b n : Nat} {E : Nat → Nat → Int} (h : Ents w b n E) {p i : Nat} (hp : p ≠ b) (u : Value) : Ents (w.setCell ⟨p, i, none⟩ u) b n E :=
  ⟨h.1, by simpa using h.2.1, fun i' j hi hj => (World.cell?_of_block (a := ⟨b, i' * 11 + j, none⟩) (heap_setCell_other w ⟨p, i, none⟩ b u hp.symm)).trans (h.2.2 i' j hi hj)⟩

def En.list (n : Nat) (E : Nat → Nat → Int) : List Value := (List.range (n * 11)).map (En.flat E)

theorem En.list_len (n : Nat) (E : Nat → Nat → Int) : (En.list n E).length = n * 11 := by simp [En.list]

theorem En.list_at {n : Nat} {E : Nat → Nat → Int} {c : Nat} (hc : c < n * 11) : (En.list n E)[c]? = some (En.flat E c) := by
  unfold En.list
  rw [List.getElem?_map, List.getElem?_range hc]
  rfl

theorem En.list_one {n : Nat} {E : Nat → Nat → Int} : ∀ v ∈ En.list n E, v.oneCell' = true := by
  intro v hv
  unfold En.list at hv
  obtain ⟨c, _, rfl⟩ := List.mem_map.1 hv
  rfl

theorem Ents.src {w : World} {b n : Nat} {E : Nat → Nat → Int} (h : Ents w b n E) : ∀ j v, (En.list n E)[j]? = some v → w.cell? ((⟨b, 0, none⟩ : Addr).add j) = some v := by
  intro j v hj
  have hlt : j < n * 11 := by
    have := (List.getElem?_eq_some_iff.1 hj).1
    rwa [En.list_len] at this
  rw [En.list_at hlt] at hj
  rw [show (⟨b, 0, none⟩ : Addr).add j = ⟨b, j, none⟩ by rw [Go.WideShapes.add_plain, Nat.zero_add], h.flat hlt]
  exact hj

theorem Own.of_row {w : World} {g n : Nat} {E : Nat → Nat → Int} (hn : n ≤ 32) (h : w.heap[g]? = some (.cells (En.list n E).toArray 54 (0, 0))) : Own w g n E := by
  refine ⟨hn, _, _, Arr.lit h, by simp [En.list_len], fun c hc => ?_⟩
  show (En.list n E).toArray[c]?.getD undef = _
  rw [List.getElem?_toArray, En.list_at hc]
  rfl

set_option maxHeartbeats 800000 in
theorem twin_any (b n c : Nat) (E : Nat → Nat → Int) (w : World) (hE : Ents w b n E) :
    Calls Tryz.prog 146 #[.slice (some ⟨b, 0, none⟩) n c] w (Lists w n E) := by
  have hn := hE.1
  have hE' := hide hE
  obtain ⟨i0, hi, hz0, hz1, hz2⟩ := info_parts info_ent
  have hsz : (Tryz.prog.info? 54).map (·.size) = some 11 := by rw [hi]; simp [hz1]
  clear hE
  go_enter Tryz.func146, Tryz.ntmps146
  go_wp2_with (at_make; refine wpList_make_full _ rfl _ _ 26 rfl w.heap.size 54 i0 (.agg #[.int .i64 0, .int .i64 0, .int .i64 0, .int .i64 0, .int .i64 0, .int .i64 0, .int .i64 0, .int .i64 0, .int .i64 0, .int .i64 0, .int .i64 0]) 11 Tryz.underlying26 hi hz0 hz1 .i64 .i64 _ _ n rfl rfl rfl rfl ?q3 ?q4 ?q5 ?_)
  any_goals (first | (rw [hz2]; omega) | (unfold maxLen; omega) | exact Nat.le_refl _)
  intro w1 hown hgrow
  obtain ⟨cur, hg, hcs⟩ : ∃ cur, w1.heap[w.heap.size]? = some (.cells cur 54 (0, 0)) ∧ cur.size = n * 11 := by
    rcases hown.2 with ⟨h', _⟩ | ⟨g', cap', cur, h', _, hg, _, _, hcs, _⟩
    · simp at h'
    · simp only [Value.slice.injEq, Option.some.injEq, Addr.mk.injEq, and_true, true_and] at h'
      obtain ⟨rfl, rfl⟩ := h'
      exact ⟨cur, hg, hcs⟩
  have hg' := hide hg
  have hgrow' := hide hgrow
  have hcs' := hide hcs
  clear hown hg hgrow hcs hi hz0 hz1 hz2
  obtain ⟨w2, hrun, hrow, hgr2⟩ := run_copy_whole 26 26 3 54 Tryz.underlying26 11 hsz w.heap.size n n ⟨b, 0, none⟩ c cur _ (unhide hg') (En.list n E) (En.list_len n E) ((unhide hE').on (unhide hgrow')).src ((En.list_len n E).trans (unhide hcs').symm) En.list_one
  have hfin := hide (show Own w2 w.heap.size n E from Own.of_row hn hrow)
  have hgf := hide (grown_own (unhide hgrow') hgr2 (fun m e => by cases e; exact Nat.le_refl _))
  clear hrow hgr2 hg' hgrow' hcs'
  go_wp2
  go_ret
  exact ⟨w.heap.size, n, rfl, Nat.le_refl _, Nat.le_refl _, by unfold maxLen; omega, unhide hfin, unhide hgf⟩

set_option maxHeartbeats 1600000 in
theorem with_any (b n c k : Nat) (E : Nat → Nat → Int) (e : Nat → Int) (w : World) (hE : Ents w b n E) (hk : k < n) :
    Calls Tryz.prog 143 #[.slice (some ⟨b, 0, none⟩) n c, .int .i64 (k : Int), .agg (En.cells e)] w (Lists w n (En.put E k e)) := by
  have hn := hE.1
  have hk' : (k : Int) < (n : Int) := by omega
  have ct := hide (twin_any b n c E (w.alloc (.cells (En.cells e) 54)) (hE.on (World.grownBy_alloc _ _ _)))
  have hbox := hide (Arr.lit (heap_alloc_new w (.cells (En.cells e) 54)))
  have hst : Hid (∀ (x : World) (g : Nat), Own x g n E → Own (x.setCells g (k * 11) (En.cells e).toList) g n (En.put E k e)) := fun x g h => h.store k e
  have hgs : Hid (∀ (x : World) (g : Nat), w.grownBy x none → w.heap.size ≤ g → w.grownBy (x.setCells g (k * 11) (En.cells e).toList) none) := fun x g h hg => own_sets hg _ _ x h
  have hrowc : Hid (∀ (x : World) (g : Nat), Ents x g n E → _) := fun x g h => h.row hk
  clear hE
  unfold En.cells at ct hbox hst hgs ⊢
  go_enter Tryz.func143, Tryz.ntmps143
  go_wp2_with fail
  refine (unhide ct).mono ?_
  rintro _ w1 ⟨g, cap, rfl, hlo, hnc, hcm, hown, hgr⟩
  obtain ⟨u0, u1, u2, u3, u4, u5, u6, u7, u8, u9, u10⟩ := unhide hrowc w1 g hown.ents
  have f := fun i => hown.free i
  have z := fun j (hj : j < 11) => ((unhide hbox).grown hgr (by simp)).cell (i := j) hj
  have z0 := z 0 (by omega)
  have z1 := z 1 (by omega)
  have z2 := z 2 (by omega)
  have z3 := z 3 (by omega)
  have z4 := z 4 (by omega)
  have z5 := z 5 (by omega)
  have z6 := z 6 (by omega)
  have z7 := z 7 (by omega)
  have z8 := z 8 (by omega)
  have z9 := z 9 (by omega)
  have z10 := z 10 (by omega)
  simp only [List.getElem?_toArray, List.getElem?_cons_zero, List.getElem?_cons_succ, Option.getD_some] at z0 z1 z2 z3 z4 z5 z6 z7 z8 z9 z10
  have hown' := hide hown
  have hgr' := hide (grown_trans (World.grownBy_alloc w _ none) hgr)
  have hlo' : Hid (w.heap.size ≤ g) := by
    have : w.heap.size ≤ (w.alloc (.cells #[.int .i64 (e 0), .int .i64 (e 1), .int .i64 (e 2), .int .i64 (e 3), .int .i64 (e 4), .int .i64 (e 5), .int .i64 (e 6), .int .i64 (e 7), .int .i64 (e 8), .int .i64 (e 9), .int .i64 (e 10)] 54)).heap.size := (World.grownBy_alloc w _ none).size
    exact Nat.le_trans this hlo
  have hcap := hide (And.intro hnc hcm)
  clear hown hgr hlo hnc hcm z ct
  go_wp2
  go_ret
  exact ⟨g, cap, rfl, unhide hlo', (unhide hcap).1, (unhide hcap).2, unhide hst _ _ (unhide hown'), unhide hgs _ _ (unhide hgr') (unhide hlo')⟩

end Go.Proofs.YtbanjoflgoiegaaGreat
