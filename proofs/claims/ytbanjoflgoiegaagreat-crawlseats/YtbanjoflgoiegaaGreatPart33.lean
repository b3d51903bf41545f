/-
  GoodsArgs GoodsLive FightSpawn MindsWide MindsCrowd MindsStep MindsFine CrawlMath MindsLone CrawlParts
-/
import Derived.Test.YtbanjoflgoiegaaGreatPart32
import Derived.Deep.Fields
import Derived.OpenShut
import Derived.Test.YtbanjoflgoiegaaGreatPart30
import Derived.Laws.AppendOwnNone
import Derived.Deep.Cut
import Derived.Deep.CutRange
import Derived.Deep.CutBlock
import Derived.Deep.RegionWith
import Derived.Deep.RegionHeld3
import Derived.BigQuiet
import Derived.Test.YtbanjoflgoiegaaGreatPart29
import Derived.Test.YtbanjoflgoiegaaGreatPart19
import Derived.Test.YtbanjoflgoiegaaGreatPart21
import Derived.Test.YtbanjoflgoiegaaGreatPart26
import Derived.Test.YtbanjoflgoiegaaGreatPart12
namespace Go.Proofs.YtbanjoflgoiegaaGreat
open Go.RowKit Go.ChangeShapes Go.WideShapes

structure ItArg (w : World) (a : Option Addr) (len cap : Nat) (M : Nat → Nat → Int) : Prop where
  most : len ≤ maxLen
  cap : len ≤ cap
  rows : len = 0 ∨ ∃ b o, a = some ⟨b, o, none⟩ ∧ b < w.heap.size ∧ ∀ i j, i < len → j < 4 → w.cell? ⟨b, o + i * 4 + j, none⟩ = some (.int .i64 (M i j))

theorem ItArg.on {w w' : World} {a : Option Addr} {len cap : Nat} {M : Nat → Nat → Int} (h : ItArg w a len cap M) (hg : w.grownBy w' none) : ItArg w' a len cap M :=
  ⟨h.most, h.cap, h.rows.imp id fun ⟨b, o, ha, hb, hc⟩ => ⟨b, o, ha, Nat.lt_of_lt_of_le hb hg.size, fun i j hi hj => (grown_cell hg b _ hb (by simp)).trans (hc i j hi hj)⟩⟩

theorem ItArg.some {w : World} {a : Option Addr} {len cap : Nat} {M : Nat → Nat → Int} (h : ItArg w a len cap M) (n : Nat) (hn : n ≤ len) (h100 : n ≤ 100) : Gd.Some w a n M := by
  refine ⟨h100, ?_⟩
  rcases h.rows with h0 | ⟨b, o, ha, hb, hc⟩
  · exact .inl (by omega)
  · exact .inr ⟨b, o, ha, h100, hb, fun i j hi hj => hc i j (by omega) hj⟩

structure NumArg (w : World) (a : Option Addr) (len : Nat) (f : Nat → Int) : Prop where
  most : len ≤ maxLen
  rows : len = 0 ∨ ∃ b o, a = some ⟨b, o, none⟩ ∧ b < w.heap.size ∧ ∀ i, i < len → w.cell? ⟨b, o + i, none⟩ = some (.int .i64 (f i))

theorem NumArg.on {w w' : World} {a : Option Addr} {len : Nat} {f : Nat → Int} (h : NumArg w a len f) (hg : w.grownBy w' none) : NumArg w' a len f :=
  ⟨h.most, h.rows.imp id fun ⟨b, o, ha, hb, hc⟩ => ⟨b, o, ha, Nat.lt_of_lt_of_le hb hg.size, fun i hi => (grown_cell hg b _ hb (by simp)).trans (hc i hi)⟩⟩

theorem NumArg.at {w : World} {a : Option Addr} {len : Nat} {f : Nat → Int} (h : NumArg w a len f) {k : Nat} (hk : k < len) : ∃ b o, a = some ⟨b, o, none⟩ ∧ b < w.heap.size ∧ w.cell? ⟨b, o + k, none⟩ = some (.int .i64 (f k)) := by
  rcases h.rows with h0 | ⟨b, o, ha, hb, hc⟩
  · omega
  · exact ⟨b, o, ha, hb, hc k hk⟩

end Go.Proofs.YtbanjoflgoiegaaGreat

namespace Go.Proofs.YtbanjoflgoiegaaGreat
open Go.RowKit

structure Gd.Live (c g : Nat → Int) (E I : Nat → Nat → Int) : Prop where
  fine : Gd.Fine c g E I
  stand : ∀ k, k < 32 → E k 0 = 1 → Gr.inB (E k 3) (E k 4) = true ∧ Gr.walkB (Gr.at 384 c (E k 3) (E k 4)) = true ∧ 0 ≤ E k 6 ∧ E k 6 ≤ 1000

theorem Gd.gold_in {c g : Nat → Int} {E I : Nat → Nat → Int} (h : Gd.Fine c g E I) {t : Nat} (ht : t < 4) (X Y : Int) (shop : Bool) (input : Int) : 0 ≤ Gd.goldOf I (t : Int) X Y shop (g t) input ∧ Gd.goldOf I (t : Int) X Y shop (g t) input ≤ 999 := by
  obtain ⟨g0, g9⟩ := h.gold t ht
  unfold Gd.goldOf
  split
  · split
    · omega
    · exact ⟨g0, g9⟩
  · split
    · split
      · rename_i hb
        simp only [Gd.buys, Bool.and_eq_true, decide_eq_true_eq] at hb
        omega
      · exact ⟨g0, g9⟩
    · exact ⟨g0, g9⟩

theorem Gd.Live.next {c g : Nat → Int} {E I : Nat → Nat → Int} (h : Gd.Live c g E I) (seat input : Int) : Gd.Live c (Gd.nextG c g E I seat input) (Gd.nextE E I seat input) (Gd.nextI c g E I seat input) := by
  by_cases hc : 0 ≤ seat ∧ seat < 4 ∧ 0 ≤ Gd.hero E seat
  · obtain ⟨s0, s4, h0⟩ := hc
    obtain ⟨t, rfl⟩ : ∃ t : Nat, seat = (t : Int) := ⟨seat.toNat, by omega⟩
    obtain ⟨k, hk, hh, he, hk0⟩ := Gd.hero_pos h0
    have ht : t < 4 := by omega
    have hc : 0 ≤ (t : Int) ∧ (t : Int) < 4 ∧ 0 ≤ Gd.hero E (t : Int) := ⟨s0, s4, h0⟩
    obtain ⟨hin, hw, m0, m9⟩ := h.stand k hk hk0
    unfold Gd.nextG Gd.nextE Gd.nextI
    rw [if_pos hc, if_pos hc, if_pos hc, hh, Int.toNat_natCast, Int.toNat_natCast]
    have hg := Gd.gold_in h.fine ht (E k 3) (E k 4) (decide (Gr.at 384 c (E k 3) (E k 4) = 5)) input
    have hE : ∀ (i l : Nat), l ≠ 5 → l ≠ 9 → Gd.entsOf E I k (t : Int) input i l = E i l := fun i l h5 h9 => by
      unfold Gd.entsOf
      split
      · unfold Gd.heal
        rw [Gd.set_other (by omega), Gd.set_other (by omega)]
      · rfl
    refine ⟨⟨h.fine.cells, fun i hi => ?_, fun i hi => ?_, h.fine.ok.act s0 s4 hin hw _ _ _⟩, fun i hi h1 => ?_⟩
    · unfold Gd.give
      split
      · exact hg
      · exact h.fine.gold i hi
    · unfold Gd.entsOf
      split
      · unfold Gd.heal
        rw [Gd.set_other (by omega)]
        by_cases e : i = k
        · subst e
          rw [Gd.set_same]
          have := h.fine.hp i hi
          omega
        · rw [Gd.set_other (by omega)]
          exact h.fine.hp i hi
      · exact h.fine.hp i hi
    · rw [hE i 0 (by omega) (by omega)] at h1
      rw [hE i 3 (by omega) (by omega), hE i 4 (by omega) (by omega), hE i 6 (by omega) (by omega)]
      exact h.stand i hi h1
  · unfold Gd.nextG Gd.nextE Gd.nextI
    rw [if_neg hc, if_neg hc, if_neg hc]
    exact h

theorem Gd.Law.aside {w x : World} {T V gC gE gI cC cE cI : Nat} {s g c : Nat → Int} {E I : Nat → Nat → Int} (h : Gd.Law w x T gC gE gI cC cE cI s g c E I) (hV : w.heap.size ≤ V) (n0 : V ≠ T) (n1 : V ≠ gC) (n2 : V ≠ gE) (n3 : V ≠ gI) (vs : List Value) : Gd.Law w (x.setCells V 0 vs) T gC gE gI cC cE cI s g c E I := by
  have r := grown_sets (g := V) vs 0 x (World.grownBy.refl _ _)
  exact { h with hold := { h.hold with box := h.hold.box.grown r (by simpa using n0), lists := ⟨h.hold.lists.cells.grown r (by simpa using n1), h.hold.lists.ents.grown r (by simpa using n2), h.hold.lists.items.grown r (by simpa using n3)⟩ }, grown := own_sets hV _ 0 x h.grown }

theorem Gd.Law.take {w x : World} {T T2 gC gE gI cC cE cI jC jE jI dC dE dI : Nat} {s g c s' g' c' : Nat → Int} {E I F J : Nat → Nat → Int} (h : Gd.Law w x T gC gE gI cC cE cI s g c E I) (h2 : Gd.Law w x T2 jC jE jI dC dE dI s' g' c' F J) : Gd.Law w (x.setCells T 0 (Gd.world s' jC jE jI dC dE dI g').toList) T jC jE jI dC dE dI s' g' c' F J := by
  have n1 := h.hold.box.type_ne h2.hold.lists.cells (by decide)
  have n2 := h.hold.box.type_ne h2.hold.lists.ents (by decide)
  have n3 := h.hold.box.type_ne h2.hold.lists.items (by decide)
  have r := grown_sets (g := T) (Gd.world s' jC jE jI dC dE dI g').toList 0 x (World.grownBy.refl _ _)
  exact ⟨⟨h.hold.box.whole s' g' jC jE jI dC dE dI, ⟨h2.hold.lists.cells.grown r (by simpa using n1), h2.hold.lists.ents.grown r (by simpa using n2), h2.hold.lists.items.grown r (by simpa using n3)⟩, n1, n2, n3, h2.hold.cE, h2.hold.cI, h2.hold.eI⟩, h.lT, h2.lE, h2.lI, h2.cap, own_sets h.lT _ 0 x h.grown⟩

theorem Gd.Few.kept {I J : Nat → Nat → Int} (h : Gd.Few I J) (k : Nat) : J k 0 = I k 0 ∨ Gd.Zero (J k) := by
  obtain ⟨i, j, _, h2⟩ := h
  exact h2 k

end Go.Proofs.YtbanjoflgoiegaaGreat

namespace Go.Proofs.YtbanjoflgoiegaaGreat
open Go.RowKit

def En.upd (e : Nat → Int) (j : Nat) (v : Int) : Nat → Int := fun l => if l = j then v else e l

theorem En.upd_same (e : Nat → Int) (j : Nat) (v : Int) : En.upd e j v j = v := if_pos rfl
theorem En.upd_other {e : Nat → Int} {j l : Nat} {v : Int} (h : l ≠ j) : En.upd e j v l = e l := if_neg h

theorem Lie.upd {x : World} {Q : Nat} {T : TypeId} {e : Nat → Int} (h : Lie x Q T 11 (Ints e)) (j : Nat) (v : Int) : Lie (x.setCell ⟨Q, j, none⟩ (.int .i64 v)) Q T 11 (Ints (En.upd e j v)) := by
  refine (h.store j (.int .i64 v)).congr fun l _ => ?_
  unfold Ints En.upd
  split <;> rfl

theorem Lie.ent {x : World} {Q : Nat} {T : TypeId} {e : Nat → Int} (h : Lie x Q T 11 (Ints e)) : x.cell? ⟨Q, 0, none⟩ = some (.int .i64 (e 0)) ∧ x.cell? ⟨Q, 1, none⟩ = some (.int .i64 (e 1)) ∧ x.cell? ⟨Q, 2, none⟩ = some (.int .i64 (e 2)) ∧ x.cell? ⟨Q, 3, none⟩ = some (.int .i64 (e 3)) ∧ x.cell? ⟨Q, 4, none⟩ = some (.int .i64 (e 4)) ∧ x.cell? ⟨Q, 5, none⟩ = some (.int .i64 (e 5)) ∧ x.cell? ⟨Q, 6, none⟩ = some (.int .i64 (e 6)) ∧ x.cell? ⟨Q, 7, none⟩ = some (.int .i64 (e 7)) ∧ x.cell? ⟨Q, 8, none⟩ = some (.int .i64 (e 8)) ∧ x.cell? ⟨Q, 9, none⟩ = some (.int .i64 (e 9)) ∧ x.cell? ⟨Q, 10, none⟩ = some (.int .i64 (e 10)) :=
  ⟨h.cell (by omega), h.cell (by omega), h.cell (by omega), h.cell (by omega), h.cell (by omega), h.cell (by omega), h.cell (by omega), h.cell (by omega), h.cell (by omega), h.cell (by omega), h.cell (by omega)⟩

theorem Lie.born (x : World) (e : Nat → Int) (T : TypeId) : Lie (x.alloc (.cells (En.cells e) T)) x.heap.size T 11 (Ints e) :=
  Lie.congr (m := 11) (Arr.lit (heap_alloc_new x (.cells (En.cells e) T))).lie fun j hj => by
    rcases (show j = 0 ∨ j = 1 ∨ j = 2 ∨ j = 3 ∨ j = 4 ∨ j = 5 ∨ j = 6 ∨ j = 7 ∨ j = 8 ∨ j = 9 ∨ j = 10 by omega) with rfl | rfl | rfl | rfl | rfl | rfl | rfl | rfl | rfl | rfl | rfl <;> rfl

theorem Gd.Law.folk {w x x' : World} {T gC gE gI cC cE cI jE dE : Nat} {s g c : Nat → Int} {E I F : Nat → Nat → Int} (h : Gd.Law w x T gC gE gI cC cE cI s g c E I) (hcap : 32 ≤ dE) (l2 : x.heap.size ≤ jE) (hO : Own x' jE 32 F) (hg : x.grownBy x' none) :
    Gd.Law w (x'.setCell ⟨T, 5, none⟩ (.slice (some ⟨jE, 0, none⟩) 32 dE)) T gC jE gI cC dE cI s g c F I := by
  have h1 := h.hold.box.lt
  have h2 := h.hold.lists.cells.lt
  have h3 := h.hold.lists.items.lt
  have h4 := h.grown.size
  have r := grown_set0 x' T 5 (.slice (some ⟨jE, 0, none⟩) 32 dE)
  have hb := ((h.hold.box.on hg).store 5 (.slice (some ⟨jE, 0, none⟩) 32 dE)).congr (Gd.box_5 s g gC gE gI cC cE cI jE dE)
  exact ⟨⟨hb, ⟨(h.hold.lists.cells.on hg).grown r (by simpa using h.hold.bC), (hO.lie (m := 352) (by omega)).grown r (by simp; omega), (h.hold.lists.items.on hg).grown r (by simpa using h.hold.bI)⟩, h.hold.bC, by omega, h.hold.bI, by omega, h.hold.cI, by omega⟩, h.lT, by omega, h.lI, hcap, grown_store (grown_trans h.grown hg) ⟨T, 5, none⟩ h.lT _⟩

theorem Gd.Law.worlds {w x : World} {T R gC gE gI cC cE cI : Nat} {s g c : Nat → Int} {E I : Nat → Nat → Int} {F : Nat → Value} (h : Gd.Law w x T gC gE gI cC cE cI s g c E I) (lC : w.heap.size ≤ gC) (lR : w.heap.size ≤ R) (hR : Lie x R 30 11 F) (vs : List Value) : Gd.Worlds w s g c E I (.returned (.agg (Gd.world s gC gE gI cC cE cI g))) (x.setCells R 0 vs) := by
  have r := grown_sets (g := R) vs 0 x (World.grownBy.refl _ _)
  have n1 := hR.type_ne h.hold.lists.cells (by decide)
  have n2 := hR.type_ne h.hold.lists.ents (by decide)
  have n3 := hR.type_ne h.hold.lists.items (by decide)
  exact ⟨gC, gE, gI, cC, cE, cI, rfl, h.cap, lC, h.lE, h.lI, h.hold.cE, h.hold.cI, h.hold.eI, ⟨h.hold.lists.cells.grown r (by simpa using n1), h.hold.lists.ents.grown r (by simpa using n2), h.hold.lists.items.grown r (by simpa using n3)⟩, own_sets lR vs 0 x h.grown⟩

theorem En.stats_fit {k : Int} (h1 : 1 ≤ k) (h4 : k ≤ 4) : En.stats k 0 = k ∧ En.stats k 1 = 0 ∧ En.stats k 2 = 0 ∧ En.stats k 3 = 0 ∧ En.stats k 4 = 0 ∧ En.stats k 5 = En.stats k 6 ∧ 4 ≤ En.stats k 6 ∧ En.stats k 6 ≤ 20 ∧ 0 ≤ En.stats k 7 ∧ En.stats k 7 ≤ 5 ∧ 0 ≤ En.stats k 8 ∧ En.stats k 8 ≤ 1 ∧ En.stats k 9 = 0 ∧ En.stats k 10 = 0 := by
  rcases (show k = 1 ∨ k = 2 ∨ k = 3 ∨ k = 4 by omega) with rfl | rfl | rfl | rfl <;> decide

theorem Ft.Fit.gens {c : Nat → Int} {E I : Nat → Nat → Int} (h : Ft.Fit c E I) : En.Gens 32 E := fun i hi => ⟨(h.rows i hi).1, (h.rows i hi).2.1⟩

structure Ft.Mon (kd : Int) (e : Nat → Int) : Prop where
  k : e 0 = kd
  hp : 1 ≤ e 5
  hpm : e 5 ≤ e 6
  m : e 6 = En.stats kd 6
  atk : e 7 = En.stats kd 7
  dfn : e 8 = En.stats kd 8
  p0 : 0 ≤ e 9
  p9 : e 9 ≤ 9
  s0 : 0 ≤ e 10
  s9 : e 10 ≤ 9

theorem Ft.Mon.row {kd : Int} {e : Nat → Int} (h : Ft.Mon kd e) (h1 : 1 ≤ kd) (h4 : kd ≤ 4) {gn : Int} (g0 : 0 ≤ gn) (g9 : gn ≤ 255) : Ft.Row (En.gen e gn) := by
  obtain ⟨_, _, _, _, _, _, f6, f6', f7, f7', f8, f8', _, _⟩ := En.stats_fit h1 h4
  obtain ⟨a1, a2, a3, a4, a5, a6, a7, a8, a9, a10⟩ := h
  refine ⟨g0, g9, .inr ?_⟩
  show 1 ≤ e 0 ∧ e 0 ≤ 4 ∧ 1 ≤ e 5 ∧ e 5 ≤ e 6 ∧ e 6 ≤ 20 ∧ 0 ≤ e 7 ∧ e 7 ≤ 5 ∧ 0 ≤ e 8 ∧ e 8 ≤ 1 ∧ 0 ≤ e 9 ∧ e 9 ≤ 9 ∧ 0 ≤ e 10 ∧ e 10 ≤ 9
  omega

structure Ft.Off (w : World) (Q T R gC gE gI : Nat) : Prop where
  nT : Q ≠ T
  nR : Q ≠ R
  nC : Q ≠ gC
  nE : Q ≠ gE
  nI : Q ≠ gI
  l : w.heap.size ≤ Q

theorem Gd.Law.off {w x : World} {Q T R gC gE gI cC cE cI : Nat} {s g c : Nat → Int} {E I : Nat → Nat → Int} (h : Gd.Law w x T gC gE gI cC cE cI s g c E I) (hq : Ft.Off w Q T R gC gE gI) (j : Nat) (v : Value) : Gd.Law w (x.setCell ⟨Q, j, none⟩ v) T gC gE gI cC cE cI s g c E I :=
  { h with hold := { h.hold with box := h.hold.box.other hq.nT _ _, lists := ⟨h.hold.lists.cells.other hq.nC _ _, h.hold.lists.ents.other hq.nE _ _, h.hold.lists.items.other hq.nI _ _⟩ }, grown := grown_store h.grown ⟨Q, j, none⟩ hq.l _ }

def Ft.Born (E : Nat → Nat → Int) : Prop := ∀ k, k < 32 → E k 0 ≠ 0 → E k 6 = En.stats (E k 0) 6 ∧ E k 7 = En.stats (E k 0) 7 ∧ E k 8 = En.stats (E k 0) 8

theorem Ft.Born.put {E : Nat → Nat → Int} (h : Ft.Born E) {r : Nat} {e : Nat → Int} (he : e 6 = En.stats (e 0) 6 ∧ e 7 = En.stats (e 0) 7 ∧ e 8 = En.stats (e 0) 8) : Ft.Born (En.put E r e) := fun k hk h0 => by
  by_cases x : k = r
  · rw [x, En.put_same]
    exact he
  · rw [En.put_other x] at h0 ⊢
    exact h k hk h0

theorem Ft.stays {E : Nat → Nat → Int} {r k : Nat} {e : Nat → Int} (h0 : E r 0 = 0) (hk : E k 0 ≠ 0) : En.put E r e k = E k := En.put_other (by rintro rfl; exact hk h0)

def Ft.Has (E : Nat → Nat → Int) (kd : Int) : Prop := ∃ r, r < 32 ∧ E r 0 = kd

theorem Ft.Has.put {E : Nat → Nat → Int} {kd : Int} (h : Ft.Has E kd) (hk : kd ≠ 0) {r : Nat} {e : Nat → Int} (h0 : E r 0 = 0) : Ft.Has (En.put E r e) kd := by
  obtain ⟨q, hq, he⟩ := h
  exact ⟨q, hq, by rw [Ft.stays h0 (by omega)]; exact he⟩

end Go.Proofs.YtbanjoflgoiegaaGreat

namespace Go.Proofs.YtbanjoflgoiegaaGreat
open Go.RowKit

def Md.Wide (e : Ending) : Prop := ∃ (s : Nat → Int) (gC gE gI cC cE cI : Nat) (g : Nat → Int), 384 ≤ cC ∧ e = .returned (.agg (Gd.world s gC gE gI cC cE cI g))

theorem Md.Wide.cap {s : Nat → Int} {gC gE gI cC cE cI : Nat} {g : Nat → Int} (h : Md.Wide (.returned (.agg (Gd.world s gC gE gI cC cE cI g)))) : 384 ≤ cC := by
  obtain ⟨s', gC', gE', gI', cC', cE', cI', g', hc, he⟩ := h
  simp [Gd.world] at he
  omega

end Go.Proofs.YtbanjoflgoiegaaGreat

namespace Go.Proofs.YtbanjoflgoiegaaGreat
open Go.RowKit

structure Ft.Stands (c : Nat → Int) (E : Nat → Nat → Int) : Prop where
  on : ∀ k, k < 32 → E k 0 ≠ 0 → 0 ≤ E k 3 ∧ E k 3 < 24 ∧ 0 ≤ E k 4 ∧ E k 4 < 16 ∧ Gr.walkB (c (E k 4 * 24 + E k 3).toNat) = true
  apart : ∀ j k, j < 32 → k < 32 → E j 0 ≠ 0 → E k 0 ≠ 0 → E j 3 = E k 3 → E j 4 = E k 4 → j = k

structure Ft.Set (c : Nat → Int) (E : Nat → Nat → Int) : Prop where
  born : Ft.Born E
  stands : Ft.Stands c E

def Ft.Room (c : Nat → Int) (E : Nat → Nat → Int) (q : Nat) : Prop := Gr.walkB (c q) = true ∧ En.first (En.atQ E ((q : Int) % 24) ((q : Int) / 24)) 32 < 0

theorem Ft.cell_num {q : Nat} (hq : q < 384) : 0 ≤ (q : Int) % 24 ∧ (q : Int) % 24 < 24 ∧ 0 ≤ (q : Int) / 24 ∧ (q : Int) / 24 < 16 ∧ ((q : Int) / 24 * 24 + (q : Int) % 24).toNat = q := by omega

theorem Ft.room_none {E : Nat → Nat → Int} {x y : Int} (h : En.first (En.atQ E x y) 32 < 0) : ∀ j, j < 32 → E j 0 ≠ 0 → ¬ (E j 3 = x ∧ E j 4 = y) := by
  rcases En.first_cases (En.atQ E x y) 32 with ⟨_, hno⟩ | ⟨k, _, he, _⟩
  · intro j hj h0 hxy
    have := hno j hj
    simp [En.atQ, h0, hxy.1, hxy.2] at this
  · omega

theorem Ft.Set.put {c : Nat → Int} {E : Nat → Nat → Int} (h : Ft.Set c E) {r q : Nat} {e : Nat → Int} {gn : Int} (_h0 : E r 0 = 0) (hq : q < 384) (hr : Ft.Room c E q) (hx : e 3 = (q : Int) % 24) (hy : e 4 = (q : Int) / 24) (he : e 6 = En.stats (e 0) 6 ∧ e 7 = En.stats (e 0) 7 ∧ e 8 = En.stats (e 0) 8) : Ft.Set c (En.put E r (En.gen e gn)) := by
  obtain ⟨n1, n2, n3, n4, n5⟩ := Ft.cell_num hq
  have hno := Ft.room_none hr.2
  have e3 : En.gen e gn 3 = (q : Int) % 24 := hx
  have e4 : En.gen e gn 4 = (q : Int) / 24 := hy
  refine ⟨h.born.put he, ⟨fun k hk k0 => ?_, fun j k hj hk j0 k0 hx' hy' => ?_⟩⟩
  · by_cases e' : k = r
    · subst e'
      rw [En.put_same, e3, e4, n5]
      exact ⟨n1, n2, n3, n4, hr.1⟩
    · rw [En.put_other e'] at k0 ⊢
      exact h.stands.on k hk k0
  · by_cases ej : j = r
    · by_cases ek : k = r
      · omega
      · subst ej
        rw [En.put_same, En.put_other ek, e3] at hx'
        rw [En.put_same, En.put_other ek, e4] at hy'
        rw [En.put_other ek] at k0
        exact absurd ⟨hx'.symm, hy'.symm⟩ (hno k hk k0)
    · by_cases ek : k = r
      · subst ek
        rw [En.put_same, En.put_other ej, e3] at hx'
        rw [En.put_same, En.put_other ej, e4] at hy'
        rw [En.put_other ej] at j0
        exact absurd ⟨hx', hy'⟩ (hno j hj j0)
      · rw [En.put_other ej, En.put_other ek] at hx' hy'
        rw [En.put_other ej] at j0
        rw [En.put_other ek] at k0
        exact h.stands.apart j k hj hk j0 k0 hx' hy'

end Go.Proofs.YtbanjoflgoiegaaGreat

namespace Go.Proofs.YtbanjoflgoiegaaGreat
open Go.RowKit

theorem Nv.reach_walk {f t : Nat → Int} {tlen blen : Nat} {g : Nat → Bool} {F : Nat → Int} (h : Gr.IsField (fun i => Gr.openB f blen g i = true) (Gr.tgt f t tlen) F) {p : Nat} (hp : p < 384) (h0 : 0 ≤ F p) : Gr.walkB (f p) = true := by
  by_cases e : F p = 0
  · exact ((h.zero p hp).1 e).1
  · have ho := (h.back p hp (by omega)).1
    by_cases hw : Gr.walkB (f p) = true
    · exact hw
    · rw [Bool.not_eq_true] at hw
      rw [Gr.open_no hw] at ho
      cases ho

theorem Nv.Floor.all {cs : Nat → Int} (hf : Nv.Floor cs) {H : Nat → Int} {b : Nat} (hb : b < 384) (hcb : cs b ≠ 0) (h : Gr.IsField (fun i => Gr.openB cs 0 (fun _ => false) i = true) (Gr.tgt cs (fun _ => (b : Int)) 1) H) (i : Nat) (hi : i < 384) (hci : cs i ≠ 0) : 0 ≤ H i := by
  have hw : ∀ j, cs j ≠ 0 → Gr.walkB (cs j) = true := fun j hj => (Gn.walk_nz (hf.five j)).2 hj
  refine hf.hang (fun j => 0 ≤ H j) ?_ b hb hcb ?_ i hi hci
  · intro j e hj he hP hn hc
    exact (h.fwd j hj hP e he hn (by show Gr.openB cs 0 (fun _ => false) _ = true; exact Gr.open_past (hw _ hc) (by omega))).1
  · have : H b = 0 := (h.zero b hb).2 ⟨hw b hcb, 0, by omega, rfl⟩
    show 0 ≤ H b
    omega

theorem Md.Seen.row {c : Nat → Int} {E : Nat → Nat → Int} {x y : Int} : ∀ {t : Nat} {b a : Int}, Md.Seen c E x y t b a → a = -1 ∨ ∃ h : Nat, h < 32 ∧ a = (h : Int) ∧ E h 0 = 1
  | 0, b, a, h => .inl h.2
  | t + 1, b, a, h => by
    obtain ⟨b0, a0, hs, hc⟩ := h
    have ih := Md.Seen.row hs
    rcases hc with ⟨_, _, ha⟩ | ⟨k, r, hk, _, hc⟩
    · rw [ha]; exact ih
    · rcases hc with ⟨_, _, ha⟩ | ⟨_, _, ha⟩
      · obtain ⟨j, hj, he, h0, _⟩ := Md.hero_row (E := E) (seat := (t : Int)) (by omega)
        obtain rfl : j = k := by omega
        exact .inr ⟨j, hj, ha, h0⟩
      · rw [ha]; exact ih

theorem Md.at_stand {c : Nat → Int} {E : Nat → Nat → Int} (hS : Ft.Stands c E) {k : Nat} (hk : k < 32) (k0 : E k 0 ≠ 0) : Gr.walkB (Gr.at 384 c (E k 3) (E k 4)) = true := by
  obtain ⟨a1, a2, a3, a4, a5⟩ := hS.on k hk k0
  unfold Gr.at
  rw [if_pos ⟨(Gr.inB_iff _ _).2 (by omega), by omega⟩]
  exact a5

end Go.Proofs.YtbanjoflgoiegaaGreat

namespace Go.Proofs.YtbanjoflgoiegaaGreat
open Go.RowKit

theorem Md.fine_of {c : Nat → Int} {E I : Nat → Nat → Int} (hF : Ft.Fit c E I) (hS : Ft.Set c E) : Md.Fine E := fun k hk k0 => by
  obtain ⟨a, b, d, e, _⟩ := hS.stands.on k hk k0
  have ht := (hF.rows k hk).taken k0
  exact ⟨a, b, d, e, by omega, by omega⟩

theorem Md.good_fit {c : Nat → Int} {E I : Nat → Nat → Int} (hF : Ft.Fit c E I) (hS : Ft.Set c E) : Md.Good c E I :=
  Md.good_of (Md.fine_of hF hS) (fun k hk => ⟨⟨(hF.rows k hk).1, (hF.rows k hk).2.1⟩, fun k0 => by
    rcases (hF.rows k hk).2.2 with hz | ht
    · exact ⟨hz 3 (by omega) (by omega), hz 4 (by omega) (by omega)⟩
    · omega⟩) hF.ok

end Go.Proofs.YtbanjoflgoiegaaGreat

namespace Go.Proofs.YtbanjoflgoiegaaGreat
open Go.RowKit

def Cr.Less (E F : Nat → Nat → Int) : Prop := ∀ k, k < 32 → F k 0 = 0 ∨ (F k 0 = E k 0 ∧ F k 2 = E k 2 ∧ F k 3 = E k 3 ∧ F k 4 = E k 4 ∧ F k 6 = E k 6 ∧ F k 7 = E k 7 ∧ F k 8 = E k 8)

theorem Cr.Less.refl (E : Nat → Nat → Int) : Cr.Less E E := fun _ _ => .inr ⟨rfl, rfl, rfl, rfl, rfl, rfl, rfl⟩

theorem Cr.Less.trans {E F G : Nat → Nat → Int} (h : Cr.Less E F) (h' : Cr.Less F G) : Cr.Less E G := fun k hk => by
  rcases h' k hk with h0 | ⟨g0, g2, g3, g4, g6, g7, g8⟩
  · exact .inl h0
  · rcases h k hk with f0 | ⟨f0, f2, f3, f4, f6, f7, f8⟩
    · exact .inl (g0.trans f0)
    · exact .inr ⟨g0.trans f0, g2.trans f2, g3.trans f3, g4.trans f4, g6.trans f6, g7.trans f7, g8.trans f8⟩

theorem Cr.Less.hole (E : Nat → Nat → Int) (k : Nat) (n : Int) : Cr.Less E (En.put E k (En.hole n)) := fun i hi => by
  by_cases e : i = k
  · rw [e, En.put_same]
    exact .inl rfl
  · rw [En.put_other e]
    exact Cr.Less.refl E i hi

theorem Cr.Less.set (E : Nat → Nat → Int) (k j : Nat) (v : Int) (hj : j = 5 ∨ j = 9 ∨ j = 10) : Cr.Less E (Gd.set E k j v) := fun i _ => by
  have h : ∀ l, l ≠ 5 → l ≠ 9 → l ≠ 10 → Gd.set E k j v i l = E i l := fun l h5 h9 h10 => if_neg (by omega)
  exact .inr ⟨h 0 (by omega) (by omega) (by omega), h 2 (by omega) (by omega) (by omega), h 3 (by omega) (by omega) (by omega), h 4 (by omega) (by omega) (by omega), h 6 (by omega) (by omega) (by omega), h 7 (by omega) (by omega) (by omega), h 8 (by omega) (by omega) (by omega)⟩

theorem Cr.Less.hurt (E : Nat → Nat → Int) (k : Nat) (n : Int) : Cr.Less E (Ft.hurtE E k n) := by
  unfold Ft.hurtE
  split
  · exact Cr.Less.set E k 5 _ (.inl rfl)
  · exact Cr.Less.hole E k _

theorem Cr.Less.leave (s : Nat → Int) (E : Nat → Nat → Int) (f t : Nat) : Cr.Less E (Ft.leaveE s E f t) := by
  unfold Ft.leaveE
  split
  · exact Cr.Less.set E t 9 _ (.inr (.inl rfl))
  · split
    · exact Cr.Less.set E t 10 _ (.inr (.inr rfl))
    · exact Cr.Less.refl E

theorem Cr.Less.hit (s : Nat → Int) (E I : Nat → Nat → Int) (f t : Int) : Cr.Less E (Ft.hitE s E I f t) := by
  unfold Ft.hitE
  split
  · unfold Ft.blowE
    split
    · exact (Cr.Less.hurt E _ _).trans (Cr.Less.leave s _ _ _)
    · exact Cr.Less.hurt E _ _
  · exact Cr.Less.refl E

theorem Cr.Less.one (E : Nat → Nat → Int) (k : Nat) : Cr.Less E (Ft.oneE E k) := by
  have hst : Cr.Less E (Ft.stunE E k) := by
    unfold Ft.stunE
    split
    · exact Cr.Less.set E k 10 _ (.inr (.inr rfl))
    · exact Cr.Less.refl E
  unfold Ft.oneE
  split
  · exact (hst.trans (Cr.Less.set _ k 9 _ (.inr (.inl rfl)))).trans (Cr.Less.hurt _ _ _)
  · exact hst

theorem Cr.Less.ail (E I : Nat → Nat → Int) : ∀ n, Cr.Less E (Ft.ailE E I n).1
  | 0 => Cr.Less.refl E
  | n + 1 => by
    unfold Ft.ailE
    split
    · exact (Cr.Less.ail E I n).trans (Cr.Less.one _ _)
    · exact Cr.Less.ail E I n

theorem Cr.Less.next (E I : Nat → Nat → Int) (seat input : Int) : Cr.Less E (Gd.nextE E I seat input) := by
  unfold Gd.nextE
  split
  · unfold Gd.entsOf
    split
    · exact (Cr.Less.set E _ 5 _ (.inl rfl)).trans (Cr.Less.set _ _ 9 _ (.inr (.inl rfl)))
    · exact Cr.Less.refl E
  · exact Cr.Less.refl E

structure Cr.Seats (E : Nat → Nat → Int) : Prop where
  seat : ∀ k, k < 32 → E k 0 = 1 → 0 ≤ E k 2 ∧ E k 2 < 4
  one : ∀ j k, j < 32 → k < 32 → E j 0 = 1 → E k 0 = 1 → E j 2 = E k 2 → j = k
  none : ∀ k, k < 32 → E k 0 ≠ 0 → E k 0 ≠ 1 → E k 2 = 0

structure Cr.Sane (c : Nat → Int) (E I : Nat → Nat → Int) : Prop where
  fit : Ft.Fit c E I
  set : Ft.Set c E
  seats : Cr.Seats E

theorem Cr.Less.seats {E F : Nat → Nat → Int} (h : Cr.Less E F) (hs : Cr.Seats E) : Cr.Seats F := by
  refine ⟨fun k hk k1 => ?_, fun j k hj hk j1 k1 he => ?_, fun k hk k0 k1 => ?_⟩
  · rcases h k hk with h0 | ⟨f0, f2, _⟩
    · omega
    · rw [f2]; exact hs.seat k hk (by omega)
  · rcases h j hj with h0 | ⟨f0, f2, _⟩
    · omega
    · rcases h k hk with h0' | ⟨g0, g2, _⟩
      · omega
      · exact hs.one j k hj hk (by omega) (by omega) (by omega)
  · rcases h k hk with h0 | ⟨f0, f2, _⟩
    · omega
    · rw [f2]; exact hs.none k hk (by omega) (by omega)

theorem Cr.Less.sets {c : Nat → Int} {E F : Nat → Nat → Int} (h : Cr.Less E F) (hs : Ft.Set c E) : Ft.Set c F := by
  refine ⟨fun k hk k0 => ?_, ⟨fun k hk k0 => ?_, fun j k hj hk j0 k0 hx hy => ?_⟩⟩
  · rcases h k hk with h0 | ⟨f0, _, _, _, f6, f7, f8⟩
    · exact absurd h0 k0
    · rw [f0, f6, f7, f8]; exact hs.born k hk (by omega)
  · rcases h k hk with h0 | ⟨f0, _, f3, f4, _⟩
    · exact absurd h0 k0
    · rw [f3, f4]; exact hs.stands.on k hk (by omega)
  · rcases h j hj with h0 | ⟨f0, _, f3, f4, _⟩
    · exact absurd h0 j0
    · rcases h k hk with h0' | ⟨g0, _, g3, g4, _⟩
      · exact absurd h0' k0
      · exact hs.stands.apart j k hj hk (by omega) (by omega) (by omega) (by omega)

theorem Cr.Sane.less {c : Nat → Int} {E F I J : Nat → Nat → Int} (h : Cr.Sane c E I) (hl : Cr.Less E F) (hF : Ft.Fit c F J) : Cr.Sane c F J :=
  ⟨hF, hl.sets h.set, hl.seats h.seats⟩

theorem Cr.Sane.hit {c : Nat → Int} {E I : Nat → Nat → Int} (h : Cr.Sane c E I) (s : Nat → Int) (f t : Int) : Cr.Sane c (Ft.hitE s E I f t) (Ft.hitI s E I f t) :=
  h.less (Cr.Less.hit s E I f t) (h.fit.hit s f t)

theorem Cr.Sane.good {c : Nat → Int} {E I : Nat → Nat → Int} (h : Cr.Sane c E I) : Md.Good c E I := Md.good_fit h.fit h.set

def Cr.Gold (g : Nat → Int) : Prop := ∀ t, t < 4 → 0 ≤ g t ∧ g t ≤ 999

theorem Cr.Sane.fine {c g : Nat → Int} {E I : Nat → Nat → Int} (h : Cr.Sane c E I) (hg : Cr.Gold g) : Gd.Fine c g E I :=
  ⟨h.fit.cells, hg, fun k hk => by
    rcases (h.fit.rows k hk).2.2 with hz | ht
    · rw [hz 5 (by omega) (by omega)]; omega
    · omega, h.fit.ok⟩

def Cr.go (E : Nat → Nat → Int) (k : Nat) (x y : Int) : Nat → Nat → Int := Gd.set (Gd.set E k 3 x) k 4 y

theorem Cr.go_row (E : Nat → Nat → Int) {k i : Nat} (x y : Int) (h : i ≠ k) : Cr.go E k x y i = E i := by
  unfold Cr.go
  rw [Ft.set_row _ _ _ _ _ h, Ft.set_row _ _ _ _ _ h]

theorem Cr.go_at (E : Nat → Nat → Int) (k : Nat) (x y : Int) (j : Nat) : Cr.go E k x y k j = if j = 4 then y else if j = 3 then x else E k j := by
  unfold Cr.go Gd.set
  by_cases h4 : j = 4
  · rw [if_pos ⟨rfl, h4⟩, if_pos h4]
  · rw [if_neg (fun h => h4 h.2), if_neg h4]
    by_cases h3 : j = 3
    · rw [if_pos ⟨rfl, h3⟩, if_pos h3]
    · rw [if_neg (fun h => h3 h.2), if_neg h3]

theorem Cr.Sane.go {c : Nat → Int} {E I : Nat → Nat → Int} (h : Cr.Sane c E I) {k : Nat} (hk : k < 32) (k0 : E k 0 ≠ 0) {x y : Int} (hin : Gr.inB x y = true) (hw : Gr.walkB (Gr.at 384 c x y) = true) (hno : En.first (En.atQ E x y) 32 < 0) : Cr.Sane c (Cr.go E k x y) I := by
  have hb := (Gr.inB_iff _ _).1 hin
  have hno' := Ft.room_none hno
  have e : ∀ j, j ≠ 3 → j ≠ 4 → Cr.go E k x y k j = E k j := fun j h3 h4 => by rw [Cr.go_at, if_neg h4, if_neg h3]
  have e3 : Cr.go E k x y k 3 = x := by rw [Cr.go_at, if_neg (by omega), if_pos rfl]
  have e4 : Cr.go E k x y k 4 = y := by rw [Cr.go_at, if_pos rfl]
  have hw' : Gr.walkB (c (y * 24 + x).toNat) = true := by
    unfold Gr.at at hw
    rwa [if_pos ⟨hin, by omega⟩] at hw
  refine ⟨⟨h.fit.cells, h.fit.ok, fun i hi => ?_⟩, ⟨fun i hi i0 => ?_, ⟨fun i hi i0 => ?_, fun i j hi hj i0 j0 hx hy => ?_⟩⟩, ⟨fun i hi i1 => ?_, fun i j hi hj i1 j1 he => ?_, fun i hi i0 i1 => ?_⟩⟩
  · by_cases x' : i = k
    · rw [x']
      have ht := (h.fit.rows k hk).taken k0
      refine ⟨by rw [e 1 (by omega) (by omega)]; exact (h.fit.rows k hk).1, by rw [e 1 (by omega) (by omega)]; exact (h.fit.rows k hk).2.1, .inr ?_⟩
      rw [e 0 (by omega) (by omega), e 5 (by omega) (by omega), e 6 (by omega) (by omega), e 7 (by omega) (by omega), e 8 (by omega) (by omega), e 9 (by omega) (by omega), e 10 (by omega) (by omega)]
      exact ht
    · rw [Cr.go_row E x y x']; exact h.fit.rows i hi
  · by_cases x' : i = k
    · rw [x', e 0 (by omega) (by omega), e 6 (by omega) (by omega), e 7 (by omega) (by omega), e 8 (by omega) (by omega)]
      exact h.set.born k hk k0
    · rw [Cr.go_row E x y x'] at i0 ⊢; exact h.set.born i hi i0
  · by_cases x' : i = k
    · rw [x', e3, e4]
      exact ⟨hb.1, hb.2.1, hb.2.2.1, hb.2.2.2, hw'⟩
    · rw [Cr.go_row E x y x'] at i0 ⊢; exact h.set.stands.on i hi i0
  · by_cases xi : i = k
    · by_cases xj : j = k
      · omega
      · subst xi
        rw [e3, Cr.go_row E x y xj] at hx
        rw [e4, Cr.go_row E x y xj] at hy
        rw [Cr.go_row E x y xj] at j0
        exact absurd ⟨hx.symm, hy.symm⟩ (hno' j hj j0)
    · by_cases xj : j = k
      · subst xj
        rw [e3, Cr.go_row E x y xi] at hx
        rw [e4, Cr.go_row E x y xi] at hy
        rw [Cr.go_row E x y xi] at i0
        exact absurd ⟨hx, hy⟩ (hno' i hi i0)
      · rw [Cr.go_row E x y xi] at i0 hx hy
        rw [Cr.go_row E x y xj] at j0 hx hy
        exact h.set.stands.apart i j hi hj i0 j0 hx hy
  · by_cases x' : i = k
    · rw [x', e 0 (by omega) (by omega)] at i1
      rw [x', e 2 (by omega) (by omega)]
      exact h.seats.seat k hk i1
    · rw [Cr.go_row E x y x'] at i1 ⊢; exact h.seats.seat i hi i1
  · have f0 : ∀ i, Cr.go E k x y i 0 = E i 0 := fun i => by
      by_cases x' : i = k
      · rw [x', e 0 (by omega) (by omega)]
      · rw [Cr.go_row E x y x']
    have f2 : ∀ i, Cr.go E k x y i 2 = E i 2 := fun i => by
      by_cases x' : i = k
      · rw [x', e 2 (by omega) (by omega)]
      · rw [Cr.go_row E x y x']
    rw [f0] at i1 j1
    rw [f2, f2] at he
    exact h.seats.one i j hi hj i1 j1 he
  · by_cases x' : i = k
    · rw [x', e 0 (by omega) (by omega)] at i0 i1
      rw [x', e 2 (by omega) (by omega)]
      exact h.seats.none k hk i0 i1
    · rw [Cr.go_row E x y x'] at i0 i1 ⊢; exact h.seats.none i hi i0 i1

def Cr.who (E : Nat → Nat → Int) (k : Nat) (d : Int) : Int := En.first (En.atQ E (E k 3 + (Fx.way d).1) (E k 4 + (Fx.way d).2)) 32

def Cr.act (s c : Nat → Int) (E I : Nat → Nat → Int) (k : Nat) (d : Int) (foe : Bool) : (Nat → Nat → Int) × (Nat → Nat → Int) :=
  if d < 1 ∨ 4 < d then (E, I)
  else if 0 ≤ Cr.who E k d then (if decide (E (Cr.who E k d).toNat 0 = 1) = foe then (Ft.hitE s E I (k : Int) (Cr.who E k d), Ft.hitI s E I (k : Int) (Cr.who E k d)) else (E, I))
  else if Gr.walkB (Gr.at 384 c (E k 3 + (Fx.way d).1) (E k 4 + (Fx.way d).2)) = true then (Cr.go E k (E k 3 + (Fx.way d).1) (E k 4 + (Fx.way d).2), I) else (E, I)

theorem Cr.walk_in {c : Nat → Int} {x y : Int} (h : Gr.walkB (Gr.at 384 c x y) = true) : Gr.inB x y = true := by
  by_cases hi : Gr.inB x y = true
  · exact hi
  · unfold Gr.at at h
    rw [if_neg (fun hh => hi hh.1)] at h
    cases h

theorem Cr.Sane.act {s c : Nat → Int} {E I : Nat → Nat → Int} (h : Cr.Sane c E I) {k : Nat} (hk : k < 32) (k0 : E k 0 ≠ 0) (d : Int) (foe : Bool) : Cr.Sane c (Cr.act s c E I k d foe).1 (Cr.act s c E I k d foe).2 := by
  unfold Cr.act
  split
  · exact h
  · split
    · split
      · exact h.hit s _ _
      · exact h
    · split
      · rename_i _ hn hw
        exact h.go hk k0 (Cr.walk_in hw) hw (by unfold Cr.who at hn; omega)
      · exact h

def Cr.join (E : Nat → Nat → Int) (e : Nat → Int) : Nat → Nat → Int := if 0 ≤ En.first (En.freeQ E) 32 then En.put E (En.first (En.freeQ E) 32).toNat (En.gen e ((E (En.first (En.freeQ E) 32).toNat 1 + 1) % 256)) else E

def Cr.one (kd st : Int) (q : Nat) : Nat → Int := En.upd (En.upd (En.upd (En.stats kd) 2 st) 3 ((q : Int) % 24)) 4 ((q : Int) / 24)

theorem Cr.join_cases (E : Nat → Nat → Int) (e : Nat → Int) : Cr.join E e = E ∨ ∃ f : Nat, f < 32 ∧ E f 0 = 0 ∧ (∀ j, j < f → E j 0 ≠ 0) ∧ Cr.join E e = En.put E f (En.gen e ((E f 1 + 1) % 256)) := by
  unfold Cr.join
  rcases En.first_cases (En.freeQ E) 32 with ⟨he, _⟩ | ⟨f, hf, he, hq, hno⟩
  · rw [he, if_neg (by omega)]; exact .inl rfl
  · rw [he, if_pos (by omega), Int.toNat_natCast]
    exact .inr ⟨f, hf, by simpa [En.freeQ] using hq, fun j hj => by simpa [En.freeQ] using hno j hj, rfl⟩

end Go.Proofs.YtbanjoflgoiegaaGreat

namespace Go.Proofs.YtbanjoflgoiegaaGreat
open Go.RowKit

structure Md.Lone (E : Nat → Nat → Int) (r : Nat) (seat : Int) (m : Nat) : Prop where
  r32 : r < 32
  rest : ∀ k j, k ≠ r → E k j = 0
  kind : E r 0 = 1
  gen : E r 1 = 0
  seat : E r 2 = seat
  x : E r 3 = (m : Int) % 24
  y : E r 4 = (m : Int) / 24
  most : E r 6 = 20
  m4 : m < 384

theorem Md.Lone.hero {E : Nat → Nat → Int} {r m : Nat} {seat : Int} (h : Md.Lone E r seat m) : Gd.hero E seat = (r : Int) := by
  unfold Gd.hero
  refine En.first_hit (fun j hj => ?_) ?_ h.r32
  · unfold En.heroQ
    rw [h.rest j 0 (by omega)]
    rfl
  · unfold En.heroQ
    rw [h.kind, h.seat]
    simp

theorem Md.Lone.fine {E : Nat → Nat → Int} {r m : Nat} {seat : Int} (h : Md.Lone E r seat m) : Md.Fine E := fun k _ k0 => by
  by_cases e : k = r
  · rw [e, h.x, h.y, h.most]
    have := h.m4
    omega
  · exact absurd (h.rest k 0 e) k0

theorem Md.Lone.good {E I : Nat → Nat → Int} {c : Nat → Int} {r m : Nat} {seat : Int} (h : Md.Lone E r seat m) (hok : Gd.Ok c 40 I) : Md.Good c E I :=
  Md.good_of h.fine (fun k _ => by
    by_cases e : k = r
    · rw [e, h.gen, h.kind]
      exact ⟨by omega, fun h0 => by omega⟩
    · rw [h.rest k 1 e, h.rest k 3 e, h.rest k 4 e]
      exact ⟨by omega, fun _ => ⟨rfl, rfl⟩⟩) hok

theorem Md.ok_none (c : Nat → Int) : Gd.Ok c 40 (fun _ _ => 0) := ⟨fun _ _ => .inl ⟨rfl, rfl, rfl, rfl⟩, fun _ _ _ _ _ h => absurd rfl h⟩

theorem Md.Lone.none {E : Nat → Nat → Int} {r m : Nat} {seat x y : Int} (h : Md.Lone E r seat m) (hne : ¬ (x = (m : Int) % 24 ∧ y = (m : Int) / 24)) : En.first (En.atQ E x y) 32 = -1 := by
  refine En.first_none fun j _ => ?_
  unfold En.atQ
  by_cases e : j = r
  · rw [e, h.x, h.y]
    by_cases h1 : (m : Int) % 24 = x
    · have h2 : ¬ (m : Int) / 24 = y := fun h2 => hne ⟨h1.symm, h2.symm⟩
      simp [h2]
    · simp [h1]
  · rw [h.rest j 0 e]
    simp

theorem Md.Lone.st {E : Nat → Nat → Int} {r m : Nat} {seat : Int} (h : Md.Lone E r seat m) {i : Nat} (hi : i ≠ m) : Nv.st E 32 i = false := by
  unfold Nv.st
  rw [h.none (by omega)]
  rfl

theorem Md.find_none (w x y : Int) (hw : w ≠ 0) : Gd.find (fun _ _ => 0) 40 w x y = -1 := by
  rcases Gd.find_cases (fun _ _ => 0) 40 w x y with ⟨h, _⟩ | ⟨k, _, _, h1, _⟩
  · exact h
  · exact absurd h1.symm hw

theorem Md.way_some {d : Nat} (h1 : 1 ≤ d) (h4 : d ≤ 4) (x y : Int) : ¬ (x + (Fx.way (d : Int)).1 = x ∧ y + (Fx.way (d : Int)).2 = y) := by
  rcases (show d = 1 ∨ d = 2 ∨ d = 3 ∨ d = 4 by omega) with rfl | rfl | rfl | rfl
  · show ¬ (x + 0 = x ∧ y + (-1) = y); omega
  · show ¬ (x + 1 = x ∧ y + 0 = y); omega
  · show ¬ (x + 0 = x ∧ y + 1 = y); omega
  · show ¬ (x + (-1) = x ∧ y + 0 = y); omega

theorem Md.Lone.foe {E : Nat → Nat → Int} {r m : Nat} {seat : Int} (h : Md.Lone E r seat m) : Nv.wayFrom (Md.foe E (E r 3) (E r 4)) 4 1 = 0 := by
  refine Nv.way_none 4 1 fun j h1 h2 => ?_
  unfold Md.foe Md.who
  rw [h.x, h.y, h.none (Md.way_some h1 (by omega) _ _)]
  rfl

theorem Md.Lone.robot {c : Nat → Int} {E : Nat → Nat → Int} {r m : Nat} {seat v : Int} (h : Md.Lone E r seat m) (hp : 6 < E r 5) (hr : Md.IsRobot c E (fun _ _ => 0) seat v) : if c m = 4 then v = 9 else Nv.IsToward c (fun _ => Gr.find 384 c 4) 1 E 32 ((m : Int) % 24) ((m : Int) / 24) v := by
  unfold Md.IsRobot at hr
  rw [h.hero, if_neg (by omega), Int.toNat_natCast] at hr
  unfold Md.robotAt at hr
  have hat : Gr.at 384 c ((m : Int) % 24) ((m : Int) / 24) = c m := by
    have := h.m4
    exact Gr.at_in ((Gr.inB_iff _ _).2 (by omega)) (by omega)
  rw [if_neg (by rw [h.most]; omega), if_neg (by rw [h.foe]; simp), h.x, h.y, if_neg (by rw [Md.find_none 1 _ _ (by omega)]; omega), hat] at hr
  exact hr

theorem Md.num_cell {m : Nat} (h : m < 384) : Nv.num ((m : Int) % 24) ((m : Int) / 24) = (m : Int) := by
  unfold Nv.num
  rw [if_pos ((Gr.inB_iff _ _).2 (by omega))]
  omega

theorem Md.Lone.ends {c F : Nat → Int} {E : Nat → Nat → Int} {r m d : Nat} {seat v : Int} (h : Md.Lone E r seat m) (hp : 6 < E r 5) (hr : Md.IsRobot c E (fun _ _ => 0) seat v) (hcd : c d = 4) (hF : Gr.IsField (fun i => Gr.openB c 0 (fun _ => false) i = true) (Gr.tgt c (fun _ => (d : Int)) 1) F) (h0 : F m = 0) : v = 9 := by
  obtain ⟨_, j, _, hj⟩ := (hF.zero m h.m4).1 h0
  have hj' : (d : Int) = (m : Int) := hj
  obtain rfl : d = m := by omega
  have hr2 := h.robot hp hr
  rwa [if_pos hcd] at hr2

theorem Md.set_at (E : Nat → Nat → Int) (k j : Nat) (v : Int) : Gd.set E k j v k j = v := if_pos ⟨rfl, rfl⟩

theorem Md.set_else (E : Nat → Nat → Int) (k j : Nat) (v : Int) {i l : Nat} (h : ¬ (i = k ∧ l = j)) : Gd.set E k j v i l = E i l := if_neg h

theorem Md.Lone.heal {E : Nat → Nat → Int} {r m : Nat} {seat : Int} (h : Md.Lone E r seat m) (v : Int) : Md.Lone (Gd.set E r 5 v) r seat m :=
  ⟨h.r32, fun k j hk => by rw [Md.set_else _ _ _ _ (by omega)]; exact h.rest k j hk, by rw [Md.set_else _ _ _ _ (by omega)]; exact h.kind, by rw [Md.set_else _ _ _ _ (by omega)]; exact h.gen, by rw [Md.set_else _ _ _ _ (by omega)]; exact h.seat, by rw [Md.set_else _ _ _ _ (by omega)]; exact h.x, by rw [Md.set_else _ _ _ _ (by omega)]; exact h.y, by rw [Md.set_else _ _ _ _ (by omega)]; exact h.most, h.m4⟩

end Go.Proofs.YtbanjoflgoiegaaGreat

namespace Go.Proofs.YtbanjoflgoiegaaGreat
open Go.RowKit

theorem Cr.one_row {kd st : Int} {q : Nat} {gn : Int} (h1 : 1 ≤ kd) (h4 : kd ≤ 4) (g0 : 0 ≤ gn) (g9 : gn ≤ 255) : Ft.Row (En.gen (Cr.one kd st q) gn) := by
  have e : ∀ j, j ≠ 1 → j ≠ 2 → j ≠ 3 → j ≠ 4 → En.gen (Cr.one kd st q) gn j = En.stats kd j := fun j j1 j2 j3 j4 => by
    show (if j = 1 then gn else Cr.one kd st q j) = _
    rw [if_neg j1]
    unfold Cr.one
    rw [En.upd_other j4, En.upd_other j3, En.upd_other j2]
  refine ⟨g0, g9, .inr ?_⟩
  rw [e 0 (by omega) (by omega) (by omega) (by omega), e 5 (by omega) (by omega) (by omega) (by omega), e 6 (by omega) (by omega) (by omega) (by omega), e 7 (by omega) (by omega) (by omega) (by omega), e 8 (by omega) (by omega) (by omega) (by omega), e 9 (by omega) (by omega) (by omega) (by omega), e 10 (by omega) (by omega) (by omega) (by omega)]
  rcases (show kd = 1 ∨ kd = 2 ∨ kd = 3 ∨ kd = 4 by omega) with rfl | rfl | rfl | rfl <;> decide

theorem Cr.one_at (kd st : Int) (q : Nat) : (1 ≤ kd → kd ≤ 4 → Cr.one kd st q 0 = kd) ∧ Cr.one kd st q 2 = st ∧ Cr.one kd st q 3 = (q : Int) % 24 ∧ Cr.one kd st q 4 = (q : Int) / 24 ∧ Cr.one kd st q 6 = En.stats kd 6 ∧ Cr.one kd st q 7 = En.stats kd 7 ∧ Cr.one kd st q 8 = En.stats kd 8 := by
  unfold Cr.one
  refine ⟨fun h1 h4 => ?_, ?_, ?_, ?_, ?_, ?_, ?_⟩
  · rw [En.upd_other (by omega), En.upd_other (by omega), En.upd_other (by omega)]
    rcases (show kd = 1 ∨ kd = 2 ∨ kd = 3 ∨ kd = 4 by omega) with rfl | rfl | rfl | rfl <;> decide
  · rw [En.upd_other (by omega), En.upd_other (by omega), En.upd_same]
  · rw [En.upd_other (by omega), En.upd_same]
  · rw [En.upd_same]
  · rw [En.upd_other (by omega), En.upd_other (by omega), En.upd_other (by omega)]
  · rw [En.upd_other (by omega), En.upd_other (by omega), En.upd_other (by omega)]
  · rw [En.upd_other (by omega), En.upd_other (by omega), En.upd_other (by omega)]

theorem Cr.Sane.join {c : Nat → Int} {E I : Nat → Nat → Int} (h : Cr.Sane c E I) {kd st : Int} {q : Nat} (h1 : 1 ≤ kd) (h4 : kd ≤ 4) (hq : q < 384) (hr : Ft.Room c E q) (hs : (kd = 1 ∧ 0 ≤ st ∧ st < 4 ∧ Gd.hero E st < 0) ∨ (kd ≠ 1 ∧ st = 0)) : Cr.Sane c (Cr.join E (Cr.one kd st q)) I := by
  obtain ⟨o0, o2, o3, o4, o6, o7, o8⟩ := Cr.one_at kd st q
  rcases Cr.join_cases E (Cr.one kd st q) with he | ⟨f, hf, hf0, _, he⟩
  · rw [he]; exact h
  rw [he]
  have hg : 0 ≤ (E f 1 + 1) % 256 ∧ (E f 1 + 1) % 256 ≤ 255 := by omega
  generalize (E f 1 + 1) % 256 = gn at hg
  have k0 : En.gen (Cr.one kd st q) gn 0 = kd := o0 h1 h4
  have k2 : En.gen (Cr.one kd st q) gn 2 = st := o2
  have hset := h.set.put (e := Cr.one kd st q) (gn := gn) hf0 hq hr o3 o4 (by rw [o0 h1 h4]; exact ⟨o6, o7, o8⟩)
  have nohero : ∀ j, j < 32 → E j 0 = 1 → kd = 1 → E j 2 ≠ st := fun j hj j1 hk e => by
    rcases hs with ⟨_, _, _, hno⟩ | ⟨hn, _⟩
    · unfold Gd.hero at hno
      rcases En.first_cases (En.heroQ E st) 32 with ⟨_, hn⟩ | ⟨i, _, hi, _⟩
      · have := hn j hj
        simp [En.heroQ, j1, e] at this
      · omega
    · exact hn hk
  refine ⟨h.fit.put (Cr.one_row h1 h4 hg.1 hg.2), hset, ⟨fun j hj j1 => ?_, fun i j hi hj i1 j1 hij => ?_, fun j hj j0 j1 => ?_⟩⟩
  · by_cases x : j = f
    · rw [x, En.put_same, k0] at j1
      rw [x, En.put_same, k2]
      rcases hs with ⟨_, a, b, _⟩ | ⟨hn, _⟩
      · exact ⟨a, b⟩
      · exact absurd j1 hn
    · rw [En.put_other x] at j1 ⊢; exact h.seats.seat j hj j1
  · by_cases xi : i = f
    · by_cases xj : j = f
      · omega
      · rw [xi, En.put_same, k0] at i1
        rw [xi, En.put_same, k2, En.put_other xj] at hij
        rw [En.put_other xj] at j1
        exact absurd hij.symm (nohero j hj j1 i1)
    · by_cases xj : j = f
      · rw [xj, En.put_same, k0] at j1
        rw [xj, En.put_same, k2, En.put_other xi] at hij
        rw [En.put_other xi] at i1
        exact absurd hij (nohero i hi i1 j1)
      · rw [En.put_other xi] at i1 hij
        rw [En.put_other xj] at j1 hij
        exact h.seats.one i j hi hj i1 j1 hij
  · by_cases x : j = f
    · rw [x, En.put_same, k0] at j1
      rw [x, En.put_same, k2]
      rcases hs with ⟨hk, _⟩ | ⟨_, hst⟩
      · exact absurd hk j1
      · exact hst
    · rw [En.put_other x] at j0 j1 ⊢; exact h.seats.none j hj j0 j1

theorem Cr.spot_room {c : Nat → Int} {E : Nat → Nat → Int} {x y : Int} {q : Nat} (h : Nv.IsSpot c E 32 x y (q : Int)) : q < 384 ∧ Ft.Room c E q := by
  obtain ⟨F, hF, hq⟩ := h
  have key : ∀ n, Nv.best F (Nv.st E 32) n = -1 ∨ ∃ p : Nat, p < n ∧ Nv.best F (Nv.st E 32) n = (p : Int) ∧ 0 ≤ F p ∧ Nv.st E 32 p = false := by
    intro n
    induction n with
    | zero => exact .inl rfl
    | succ n ih =>
      unfold Nv.best
      split
      · rename_i hc
        exact .inr ⟨n, by omega, rfl, hc.1, hc.2.1⟩
      · rcases ih with h0 | ⟨p, hp, he, h1, h2⟩
        · exact .inl h0
        · exact .inr ⟨p, by omega, he, h1, h2⟩
  rcases key 384 with h0 | ⟨p, hp, he, h1, h2⟩
  · omega
  · obtain rfl : q = p := by omega
    refine ⟨hp, Nv.reach_walk hF hp h1, ?_⟩
    unfold Nv.st at h2
    simp only [decide_eq_false_iff_not] at h2
    have e1 : ((q % 24 : Nat) : Int) = (q : Int) % 24 := by omega
    have e2 : ((q / 24 : Nat) : Int) = (q : Int) / 24 := by omega
    rw [e1, e2] at h2
    omega

def Cr.Comes (c : Nat → Int) (t : Int) (sp : Bool) (E F : Nat → Nat → Int) : Prop :=
  if sp = true ∧ Gd.hero E t < 0 then ∃ v, Nv.IsSpot c E 32 (Gr.find 384 c 3 % 24) (Gr.find 384 c 3 / 24) v ∧ ((v < 0 ∧ F = E) ∨ ∃ q : Nat, v = (q : Int) ∧ F = Cr.join E (Cr.one 1 t q)) else F = E

theorem Cr.Comes.one {c : Nat → Int} {t : Int} {sp : Bool} {E F G : Nat → Nat → Int} (h : Cr.Comes c t sp E F) (h' : Cr.Comes c t sp E G) : G = F := by
  unfold Cr.Comes at h h'
  split at h
  · rename_i hc
    rw [if_pos hc] at h'
    obtain ⟨v, hv, hF⟩ := h
    obtain ⟨v', hv', hG⟩ := h'
    obtain rfl := hv.one hv'
    rcases hF with ⟨h0, rfl⟩ | ⟨q, hq, rfl⟩
    · rcases hG with ⟨_, hG⟩ | ⟨q', hq', _⟩
      · exact hG
      · omega
    · rcases hG with ⟨h0, _⟩ | ⟨q', hq', hG⟩
      · omega
      · obtain rfl : q' = q := by omega
        exact hG
  · rename_i hc
    rw [if_neg hc] at h'
    rw [h, h']

theorem Cr.Sane.comes {c : Nat → Int} {t : Int} {sp : Bool} {E F I : Nat → Nat → Int} (h : Cr.Sane c E I) (t0 : 0 ≤ t) (t4 : t < 4) (hc : Cr.Comes c t sp E F) : Cr.Sane c F I := by
  unfold Cr.Comes at hc
  split at hc
  · rename_i hcond
    obtain ⟨v, hv, ⟨_, rfl⟩ | ⟨q, rfl, rfl⟩⟩ := hc
    · exact h
    · obtain ⟨hq, hr⟩ := Cr.spot_room hv
      exact h.join (by omega) (by omega) hq hr (.inl ⟨rfl, t0, t4, hcond.2⟩)
  · rw [hc]; exact h

def Cr.ComesTo (c : Nat → Int) (sp : Nat → Bool) : Nat → (Nat → Nat → Int) → (Nat → Nat → Int) → Prop
  | 0, E, F => F = E
  | t + 1, E, F => ∃ G, Cr.ComesTo c sp t E G ∧ Cr.Comes c (t : Int) (sp t) G F

theorem Cr.ComesTo.one {c : Nat → Int} {sp : Nat → Bool} : ∀ {t : Nat} {E F G : Nat → Nat → Int}, Cr.ComesTo c sp t E F → Cr.ComesTo c sp t E G → G = F
  | 0, _, _, _, h, h' => by rw [h, h']
  | t + 1, _, _, _, h, h' => by
    obtain ⟨A, hA, hF⟩ := h
    obtain ⟨B, hB, hG⟩ := h'
    obtain rfl := Cr.ComesTo.one hA hB
    exact hF.one hG

theorem Cr.Sane.comesTo {c : Nat → Int} {sp : Nat → Bool} {I : Nat → Nat → Int} : ∀ {t : Nat} {E F : Nat → Nat → Int}, Cr.Sane c E I → t ≤ 4 → Cr.ComesTo c sp t E F → Cr.Sane c F I
  | 0, _, _, h, _, hc => by rw [hc]; exact h
  | t + 1, _, _, h, ht, hc => by
    obtain ⟨G, hG, hF⟩ := hc
    exact (Cr.Sane.comesTo h (by omega) hG).comes (by omega) (by omega) hF

structure Cr.M where
  g : Nat → Int
  E : Nat → Nat → Int
  I : Nat → Nat → Int
  left : Bool

def Cr.does (s c : Nat → Int) (m : Cr.M) (t : Int) (k : Nat) (v : Int) : Cr.M :=
  if 1 ≤ v ∧ v ≤ 4 then ⟨m.g, (Cr.act s c m.E m.I k v false).1, (Cr.act s c m.E m.I k v false).2, m.left⟩
  else if v = 9 then ⟨m.g, m.E, m.I, m.left || decide (Gr.at 384 c (m.E k 3) (m.E k 4) = 4)⟩
  else ⟨Gd.nextG c m.g m.E m.I t v, Gd.nextE m.E m.I t v, Gd.nextI c m.g m.E m.I t v, m.left⟩

def Cr.Moved (s c : Nat → Int) (t how input : Int) (m n : Cr.M) : Prop :=
  if Gd.hero m.E t < 0 ∨ 0 < m.E (Gd.hero m.E t).toNat 10 ∨ (how ≠ 1 ∧ how ≠ 2) then n = m
  else ∃ v, (if how = 2 then Md.IsRobot c m.E m.I t v else v = input) ∧ n = Cr.does s c m t (Gd.hero m.E t).toNat v

theorem Cr.Moved.one {s c : Nat → Int} {t how input : Int} {m n o : Cr.M} (h : Cr.Moved s c t how input m n) (h' : Cr.Moved s c t how input m o) : o = n := by
  unfold Cr.Moved at h h'
  split at h
  · rename_i hc
    rw [if_pos hc] at h'
    rw [h, h']
  · rename_i hc
    rw [if_neg hc] at h'
    obtain ⟨v, hv, rfl⟩ := h
    obtain ⟨v', hv', rfl⟩ := h'
    by_cases h2 : how = 2
    · rw [if_pos h2] at hv hv'
      rw [hv.one hv']
    · rw [if_neg h2] at hv hv'
      rw [hv, hv']

def Cr.MFit (c : Nat → Int) (m : Cr.M) : Prop := Cr.Sane c m.E m.I ∧ Cr.Gold m.g

theorem Cr.goldOf_bd {I : Nat → Nat → Int} {t X Y G v : Int} {shop : Bool} (h0 : 0 ≤ G) (h9 : G ≤ 999) : 0 ≤ Gd.goldOf I t X Y shop G v ∧ Gd.goldOf I t X Y shop G v ≤ 999 := by
  unfold Gd.goldOf
  split
  · split <;> omega
  · split
    · split
      · rename_i hb
        unfold Gd.buys at hb
        simp only [Bool.and_eq_true, decide_eq_true_eq] at hb
        omega
      · omega
    · omega

theorem Cr.MFit.next {c : Nat → Int} {m : Cr.M} (h : Cr.MFit c m) (t v : Int) : Cr.Sane c (Gd.nextE m.E m.I t v) (Gd.nextI c m.g m.E m.I t v) ∧ Cr.Gold (Gd.nextG c m.g m.E m.I t v) := by
  obtain ⟨hs, hg⟩ := h
  by_cases hc : 0 ≤ t ∧ t < 4 ∧ 0 ≤ Gd.hero m.E t
  · obtain ⟨k, hk, he, hk2, hk1⟩ := Gd.hero_pos hc.2.2
    obtain ⟨a1, a2, a3, a4, a5⟩ := hs.set.stands.on k hk (by omega)
    have hin : Gr.inB (m.E k 3) (m.E k 4) = true := (Gr.inB_iff _ _).2 ⟨a1, a2, a3, a4⟩
    have hw := Md.at_stand hs.set.stands hk (by omega)
    have hI : Gd.nextI c m.g m.E m.I t v = Gd.act m.I 40 t (m.E k 3) (m.E k 4) (decide (Gr.at 384 c (m.E k 3) (m.E k 4) = 5)) (m.g t.toNat) v := by
      unfold Gd.nextI
      rw [if_pos hc, he, Int.toNat_natCast]
    have hok : Gd.Ok c 40 (Gd.nextI c m.g m.E m.I t v) := by
      rw [hI]
      exact hs.fit.ok.act hc.1 hc.2.1 hin hw _ _ _
    have hfit : Ft.Fit c (Gd.nextE m.E m.I t v) (Gd.nextI c m.g m.E m.I t v) := by
      refine ⟨hs.fit.cells, hok, fun i hi => ?_⟩
      unfold Gd.nextE
      rw [if_pos hc, he, Int.toNat_natCast]
      unfold Gd.entsOf
      split
      · have ht := (hs.fit.rows k hk).taken (by omega)
        by_cases x : i = k
        · rw [x]
          have e : ∀ j, j ≠ 5 → j ≠ 9 → Gd.heal m.E k k j = m.E k j := fun j h5 h9 => by
            unfold Gd.heal
            rw [Md.set_else _ _ _ _ (by omega), Md.set_else _ _ _ _ (by omega)]
          have e5 : Gd.heal m.E k k 5 = min (m.E k 5 + 6) (m.E k 6) := by
            unfold Gd.heal
            rw [Md.set_else _ _ _ _ (by omega), Md.set_at]
          have e9 : Gd.heal m.E k k 9 = 0 := by
            unfold Gd.heal
            rw [Md.set_at]
          refine ⟨by rw [e 1 (by omega) (by omega)]; exact (hs.fit.rows k hk).1, by rw [e 1 (by omega) (by omega)]; exact (hs.fit.rows k hk).2.1, .inr ?_⟩
          rw [e 0 (by omega) (by omega), e5, e 6 (by omega) (by omega), e 7 (by omega) (by omega), e 8 (by omega) (by omega), e9, e 10 (by omega) (by omega)]
          omega
        · have : Gd.heal m.E k i = m.E i := by
            unfold Gd.heal
            rw [Ft.set_row _ _ _ _ _ x, Ft.set_row _ _ _ _ _ x]
          rw [this]
          exact hs.fit.rows i hi
      · exact hs.fit.rows i hi
    refine ⟨hs.less (Cr.Less.next _ _ _ _) hfit, fun i hi => ?_⟩
    unfold Gd.nextG
    rw [if_pos hc]
    unfold Gd.give
    split
    · exact Cr.goldOf_bd (hg _ (by omega)).1 (hg _ (by omega)).2
    · exact hg i hi
  · unfold Gd.nextE Gd.nextI Gd.nextG
    rw [if_neg hc, if_neg hc, if_neg hc]
    exact ⟨hs, hg⟩

theorem Cr.MFit.does {s c : Nat → Int} {m : Cr.M} (h : Cr.MFit c m) (t : Int) {k : Nat} (hk : k < 32) (k0 : m.E k 0 ≠ 0) (v : Int) : Cr.MFit c (Cr.does s c m t k v) := by
  unfold Cr.does
  split
  · exact ⟨h.1.act hk k0 v false, h.2⟩
  · split
    · exact ⟨h.1, h.2⟩
    · exact h.next t v

theorem Cr.MFit.moved {s c : Nat → Int} {t how input : Int} {m n : Cr.M} (h : Cr.MFit c m) (hm : Cr.Moved s c t how input m n) : Cr.MFit c n := by
  unfold Cr.Moved at hm
  split at hm
  · rw [hm]; exact h
  · rename_i hc
    obtain ⟨v, _, rfl⟩ := hm
    obtain ⟨k, hk, he, k1, _⟩ := Md.hero_row (E := m.E) (seat := t) (by omega)
    rw [he, Int.toNat_natCast]
    exact h.does t hk (by omega) v

def Cr.MovedTo (s c how input : Nat → Int) : Nat → Cr.M → Cr.M → Prop
  | 0, m, n => n = m
  | t + 1, m, n => ∃ o, Cr.MovedTo s c how input t m o ∧ Cr.Moved s c (t : Int) (how t) (input t) o n

theorem Cr.MovedTo.one {s c how input : Nat → Int} : ∀ {t : Nat} {m n o : Cr.M}, Cr.MovedTo s c how input t m n → Cr.MovedTo s c how input t m o → o = n
  | 0, _, _, _, h, h' => by rw [h, h']
  | t + 1, _, _, _, h, h' => by
    obtain ⟨A, hA, hF⟩ := h
    obtain ⟨B, hB, hG⟩ := h'
    obtain rfl := Cr.MovedTo.one hA hB
    exact hF.one hG

theorem Cr.MFit.movedTo {s c how input : Nat → Int} : ∀ {t : Nat} {m n : Cr.M}, Cr.MFit c m → Cr.MovedTo s c how input t m n → Cr.MFit c n
  | 0, _, _, h, hm => by rw [hm]; exact h
  | t + 1, _, _, h, hm => by
    obtain ⟨o, ho, hn⟩ := hm
    exact (Cr.MFit.movedTo h ho).moved hn

def Cr.Prowls (s c : Nat → Int) (i : Nat) (E I F J : Nat → Nat → Int) : Prop :=
  if E i 0 = 0 ∨ E i 0 = 1 ∨ 0 < E i 10 then F = E ∧ J = I
  else ∃ v, Md.IsMonster s c E (i : Int) v ∧ F = (Cr.act s c E I i v true).1 ∧ J = (Cr.act s c E I i v true).2

theorem Cr.Prowls.one {s c : Nat → Int} {i : Nat} {E I F J G K : Nat → Nat → Int} (h : Cr.Prowls s c i E I F J) (h' : Cr.Prowls s c i E I G K) : G = F ∧ K = J := by
  unfold Cr.Prowls at h h'
  split at h
  · rename_i hc
    rw [if_pos hc] at h'
    rw [h.1, h.2, h'.1, h'.2]
    exact ⟨rfl, rfl⟩
  · rename_i hc
    rw [if_neg hc] at h'
    obtain ⟨v, hv, rfl, rfl⟩ := h
    obtain ⟨v', hv', rfl, rfl⟩ := h'
    rw [hv.one hv']
    exact ⟨rfl, rfl⟩

theorem Cr.Sane.prowls {s c : Nat → Int} {i : Nat} {E I F J : Nat → Nat → Int} (h : Cr.Sane c E I) (hi : i < 32) (hp : Cr.Prowls s c i E I F J) : Cr.Sane c F J := by
  unfold Cr.Prowls at hp
  split at hp
  · rw [hp.1, hp.2]; exact h
  · rename_i hc
    obtain ⟨v, _, rfl, rfl⟩ := hp
    exact h.act hi (by omega) v true

def Cr.ProwlTo (s c : Nat → Int) : Nat → (Nat → Nat → Int) → (Nat → Nat → Int) → (Nat → Nat → Int) → (Nat → Nat → Int) → Prop
  | 0, E, I, F, J => F = E ∧ J = I
  | i + 1, E, I, F, J => ∃ G K, Cr.ProwlTo s c i E I G K ∧ Cr.Prowls s c i G K F J

theorem Cr.ProwlTo.one {s c : Nat → Int} : ∀ {i : Nat} {E I F J G K : Nat → Nat → Int}, Cr.ProwlTo s c i E I F J → Cr.ProwlTo s c i E I G K → G = F ∧ K = J
  | 0, _, _, _, _, _, _, h, h' => by rw [h.1, h.2, h'.1, h'.2]; exact ⟨rfl, rfl⟩
  | i + 1, _, _, _, _, _, _, h, h' => by
    obtain ⟨A, B, hA, hF⟩ := h
    obtain ⟨C, D, hC, hG⟩ := h'
    obtain ⟨rfl, rfl⟩ := Cr.ProwlTo.one hA hC
    exact hF.one hG

theorem Cr.Sane.prowlTo {s c : Nat → Int} : ∀ {i : Nat} {E I F J : Nat → Nat → Int}, Cr.Sane c E I → i ≤ 32 → Cr.ProwlTo s c i E I F J → Cr.Sane c F J
  | 0, _, _, _, _, h, _, hp => by rw [hp.1, hp.2]; exact h
  | i + 1, _, _, _, _, h, hi, hp => by
    obtain ⟨G, K, hG, hF⟩ := hp
    exact (Cr.Sane.prowlTo h (by omega) hG).prowls (by omega) hF

def Cr.manned (E : Nat → Nat → Int) : Bool := decide (∃ t : Nat, t < 4 ∧ 0 ≤ Gd.hero E (t : Int))

def Cr.rats (s c : Nat → Int) (E : Nat → Nat → Int) : Nat → Nat → Int :=
  if s 1 % 16 = 0 ∧ En.first (En.atQ E (Gr.find 384 c 3 % 24) (Gr.find 384 c 3 / 24)) 32 < 0 then Cr.join E (Cr.one 2 0 (Gr.find 384 c 3).toNat) else E

theorem Cr.up_stair {c : Nat → Int} (hF : Nv.Floor c) : ∃ u : Nat, u < 384 ∧ Gr.find 384 c 3 = (u : Int) ∧ c u = 3 ∧ ∀ i, c i = 3 → i = u := by
  obtain ⟨u, v, hu, _, h3, _⟩ := hF.stairs
  refine ⟨u, hu, ?_, (h3 u).2 rfl, fun i hi => (h3 i).1 hi⟩
  have key : ∀ n k : Nat, k ≤ u → u < k + n → Gr.findFrom c 3 n k = (u : Int) := by
    intro n
    induction n with
    | zero => intro k h1 h2; omega
    | succ n ih =>
      intro k h1 h2
      unfold Gr.findFrom
      by_cases e : c k = 3
      · rw [if_pos e, (h3 k).1 e]
      · rw [if_neg e]
        refine ih (k + 1) ?_ (by omega)
        by_cases ek : k = u
        · exact absurd ((h3 k).2 ek) e
        · omega
  exact key 384 0 (by omega) (by omega)

theorem Cr.Sane.rats {s c : Nat → Int} {E I : Nat → Nat → Int} (h : Cr.Sane c E I) (hF : Nv.Floor c) : Cr.Sane c (Cr.rats s c E) I := by
  unfold Cr.rats
  split
  · rename_i hc
    obtain ⟨u, hu, hfu, hcu, _⟩ := Cr.up_stair hF
    rw [hfu] at hc
    rw [hfu, Int.toNat_natCast]
    exact h.join (by omega) (by omega) hu ⟨by rw [hcu]; rfl, hc.2⟩ (.inr ⟨by omega, rfl⟩)
  · exact h

theorem Cr.Sane.ail {c : Nat → Int} {E I : Nat → Nat → Int} (h : Cr.Sane c E I) : Cr.Sane c (Ft.ailE E I 32).1 (Ft.ailE E I 32).2 :=
  h.less (Cr.Less.ail E I 32) (h.fit.ail 32 (by omega))

end Go.Proofs.YtbanjoflgoiegaaGreat
