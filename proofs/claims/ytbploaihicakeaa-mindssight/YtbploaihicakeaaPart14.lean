/-
  Items, and worlds of items and entities, as they lie in memory; lists that are copied whole.
  What the small functions of goods answer.
  Which item is in a place, in goods; the bag's slots; the shop's wares.
  A seat's bag and the shop's wares, in goods; which item an input is about.
  The shop's ware for a hero, and which item an input is about, in goods.
  Which item an input is about, in goods.
-/
import Derived.Test.YtbploaihicakeaaPart13
import Derived.Test.YtbploaihicakeaaPart09
import Derived.Laws.CopyOwn
namespace Go.Proofs.Ytbploaihicakeaa
open Go.RowKit

/-- The first m cells of a block are known; nothing is frozen there, and there may be room behind them. -/
def Lie (x : World) (g : Nat) (T : TypeId) (m : Nat) (F : Nat → Value) : Prop := ∃ M G, Arr x g T M G ∧ m ≤ M ∧ ∀ c, c < m → G c = F c

theorem Arr.lie {x : World} {g : Nat} {T : TypeId} {m : Nat} {F : Nat → Value} (h : Arr x g T m F) : Lie x g T m F := ⟨m, F, h, Nat.le_refl _, fun _ _ => rfl⟩

theorem Lie.cell {x : World} {g : Nat} {T : TypeId} {m : Nat} {F : Nat → Value} (h : Lie x g T m F) {c : Nat} (hc : c < m) : x.cell? ⟨g, c, none⟩ = some (F c) := by
  obtain ⟨M, G, hA, hm, he⟩ := h
  rw [hA.cell (i := c) (by omega), he c hc]

theorem Lie.free {x : World} {g : Nat} {T : TypeId} {m : Nat} {F : Nat → Value} (h : Lie x g T m F) (i : Nat) : x.frozen? ⟨g, i, none⟩ = false := by
  obtain ⟨M, G, hA, _, _⟩ := h
  exact hA.free i

theorem Lie.lt {x : World} {g : Nat} {T : TypeId} {m : Nat} {F : Nat → Value} (h : Lie x g T m F) : g < x.heap.size := by
  obtain ⟨M, G, hA, _, _⟩ := h
  exact hA.lt

theorem Lie.congr {x : World} {g : Nat} {T : TypeId} {m : Nat} {F G : Nat → Value} (h : Lie x g T m F) (he : ∀ c, c < m → F c = G c) : Lie x g T m G := by
  obtain ⟨M, K, hA, hm, hk⟩ := h
  exact ⟨M, K, hA, hm, fun c hc => (hk c hc).trans (he c hc)⟩

theorem Lie.grown {x y : World} {g : Nat} {T : TypeId} {m : Nat} {F : Nat → Value} {r : Option Nat} (h : Lie x g T m F) (hg : x.grownBy y r) (hr : r ≠ some g) : Lie y g T m F := by
  obtain ⟨M, K, hA, hm, hk⟩ := h
  exact ⟨M, K, hA.grown hg hr, hm, hk⟩

theorem Lie.on {x y : World} {g : Nat} {T : TypeId} {m : Nat} {F : Nat → Value} (h : Lie x g T m F) (hg : x.grownBy y none) : Lie y g T m F := h.grown hg (by simp)

theorem Lie.below {x y : World} {B g : Nat} {T : TypeId} {m : Nat} {F : Nat → Value} (h : Lie x g T m F) (hb : Below B x y) (hg : g < B) : Lie y g T m F := by
  obtain ⟨M, K, hA, hm, hk⟩ := h
  exact ⟨M, K, hA.kept hb hg, hm, hk⟩

theorem Lie.other {x : World} {g : Nat} {T : TypeId} {m : Nat} {F : Nat → Value} (h : Lie x g T m F) {p : Nat} (hp : p ≠ g) (i : Nat) (u : Value) : Lie (x.setCell ⟨p, i, none⟩ u) g T m F :=
  h.grown (grown_set0 x p i u) (by simpa using hp)

theorem Lie.others {x : World} {g : Nat} {T : TypeId} {m : Nat} {F : Nat → Value} (h : Lie x g T m F) {p : Nat} (hp : p ≠ g) (o : Nat) (vs : List Value) : Lie (x.setCells p o vs) g T m F :=
  h.grown (grown_sets vs o x (World.grownBy.refl _ _)) (by simpa using hp)

theorem Lie.store {x : World} {g : Nat} {T : TypeId} {m : Nat} {F : Nat → Value} (h : Lie x g T m F) (i : Nat) (u : Value) : Lie (x.setCell ⟨g, i, none⟩ u) g T m (fun j => if j = i then u else F j) := by
  obtain ⟨M, K, hA, hm, hk⟩ := h
  refine ⟨M, _, hA.store i u, hm, fun c hc => ?_⟩
  show (if c = i then u else K c) = _
  rw [hk c hc]

theorem Lie.stores {x : World} {g : Nat} {T : TypeId} {m : Nat} {F : Nat → Value} (h : Lie x g T m F) (o : Nat) (vs : List Value) : Lie (x.setCells g o vs) g T m (fun j => if o ≤ j ∧ j < o + vs.length then vs[j - o]?.getD undef else F j) := by
  obtain ⟨M, K, hA, hm, hk⟩ := h
  refine ⟨M, _, hA.stores vs o, hm, fun c hc => ?_⟩
  show (if o ≤ c ∧ c < o + vs.length then vs[c - o]?.getD undef else K c) = _
  rw [hk c hc]

/-- An item's cells. -/
def Gd.cells (r : Nat → Int) : Array Value := #[.int .i64 (r 0), .int .i64 (r 1), .int .i64 (r 2), .int .i64 (r 3)]

def Gd.flat (I : Nat → Nat → Int) : Nat → Value := fun c => .int .i64 (I (c / 4) (c % 4))

theorem Gd.flat_at (I : Nat → Nat → Int) (i j : Nat) (hj : j < 4) : Gd.flat I (i * 4 + j) = .int .i64 (I i j) := by
  unfold Gd.flat
  rw [show (i * 4 + j) / 4 = i by omega, show (i * 4 + j) % 4 = j by omega]

/-- A list of n items at cell 'o' of a block. -/
def Its (w : World) (b o n : Nat) (I : Nat → Nat → Int) : Prop := n ≤ 100 ∧ b < w.heap.size ∧ ∀ i j, i < n → j < 4 → w.cell? ⟨b, o + i * 4 + j, none⟩ = some (.int .i64 (I i j))

theorem Its.on {w w' : World} {b o n : Nat} {I : Nat → Nat → Int} (h : Its w b o n I) (hg : w.grownBy w' none) : Its w' b o n I :=
  ⟨h.1, Nat.lt_of_lt_of_le h.2.1 hg.size, fun i j hi hj => (grown_cell hg b _ h.2.1 (by simp)).trans (h.2.2 i j hi hj)⟩

theorem Its.row {w : World} {b n : Nat} {I : Nat → Nat → Int} (h : Its w b 0 n I) {k : Nat} (hk : k < n) :
    w.cell? ⟨b, k * 4, none⟩ = some (.int .i64 (I k 0)) ∧ w.cell? ⟨b, k * 4 + 1, none⟩ = some (.int .i64 (I k 1)) ∧ w.cell? ⟨b, k * 4 + 2, none⟩ = some (.int .i64 (I k 2)) ∧ w.cell? ⟨b, k * 4 + 3, none⟩ = some (.int .i64 (I k 3)) := by
  have := fun j hj => h.2.2 k j hk hj
  simp only [Nat.zero_add] at this
  exact ⟨this 0 (by omega), this 1 (by omega), this 2 (by omega), this 3 (by omega)⟩

theorem Lie.its {x : World} {g n m : Nat} {T : TypeId} {I : Nat → Nat → Int} (h : Lie x g T m (Gd.flat I)) (hm : n * 4 = m) (hn : n ≤ 100) : Its x g 0 n I :=
  ⟨hn, h.lt, fun i j hi hj => by rw [Nat.zero_add, h.cell (c := i * 4 + j) (by omega), Gd.flat_at I i j hj]⟩

theorem Lie.own {x : World} {g n m : Nat} {E : Nat → Nat → Int} (h : Lie x g 36 m (En.flat E)) (hm : n * 11 = m) (hn : n ≤ 32) : Own x g n E := by
  obtain ⟨M, K, hA, hl, hk⟩ := h
  exact ⟨hn, M, K, hA, by omega, fun c hc => hk c (by omega)⟩

theorem Own.lie {x : World} {g n m : Nat} {E : Nat → Nat → Int} (h : Own x g n E) (hm : n * 11 = m) : Lie x g 36 m (En.flat E) := by
  obtain ⟨_, M, K, hA, hl, hk⟩ := h
  exact ⟨M, K, hA, by omega, fun c hc => hk c (by omega)⟩

theorem Gd.cells_at (r : Nat → Int) (j : Nat) (hj : j < 4) : (Gd.cells r).toList[j]?.getD undef = .int .i64 (r j) := by
  rcases (show j = 0 ∨ j = 1 ∨ j = 2 ∨ j = 3 by omega) with rfl | rfl | rfl | rfl <;> rfl

/-- One item of a list stored anew. -/
theorem Lie.item {x : World} {g m : Nat} {T : TypeId} {I : Nat → Nat → Int} (h : Lie x g T m (Gd.flat I)) (k : Nat) (r : Nat → Int) : Lie (x.setCells g (k * 4) (Gd.cells r).toList) g T m (Gd.flat (En.put I k r)) := by
  refine (h.stores (k * 4) (Gd.cells r).toList).congr fun c hc => ?_
  show (if k * 4 ≤ c ∧ c < k * 4 + 4 then (Gd.cells r).toList[c - k * 4]?.getD undef else Gd.flat I c) = Gd.flat (En.put I k r) c
  unfold Gd.flat
  by_cases hk : k * 4 ≤ c ∧ c < k * 4 + 4
  · rw [if_pos hk, Gd.cells_at r _ (by omega), show c / 4 = k by omega, En.put_same, show c - k * 4 = c % 4 by omega]
  · rw [if_neg hk, En.put_other (by omega)]

/-- One field of a row stored anew. -/
def Gd.set (I : Nat → Nat → Int) (k j : Nat) (v : Int) : Nat → Nat → Int := fun i l => if i = k ∧ l = j then v else I i l

theorem Lie.field {x : World} {g m : Nat} {T : TypeId} {I : Nat → Nat → Int} (h : Lie x g T m (Gd.flat I)) (k j : Nat) (hj : j < 4) (v : Int) : Lie (x.setCell ⟨g, k * 4 + j, none⟩ (.int .i64 v)) g T m (Gd.flat (Gd.set I k j v)) := by
  refine (h.store (k * 4 + j) (.int .i64 v)).congr fun c hc => ?_
  unfold Gd.flat Gd.set
  by_cases hk : c = k * 4 + j
  · rw [if_pos hk, if_pos ⟨by omega, by omega⟩]
  · rw [if_neg hk, if_neg (by omega)]

theorem Lie.stat {x : World} {g m : Nat} {T : TypeId} {E : Nat → Nat → Int} (h : Lie x g T m (En.flat E)) (k j : Nat) (hj : j < 11) (v : Int) : Lie (x.setCell ⟨g, k * 11 + j, none⟩ (.int .i64 v)) g T m (En.flat (Gd.set E k j v)) := by
  refine (h.store (k * 11 + j) (.int .i64 v)).congr fun c hc => ?_
  unfold En.flat Gd.set
  by_cases hk : c = k * 11 + j
  · rw [if_pos hk, if_pos ⟨by omega, by omega⟩]
  · rw [if_neg hk, if_neg (by omega)]

/-- A world's eleven cells: Seed, Frame, Floor, State, the three lists, the gold of four seats. -/
def Gd.box (s : Nat → Int) (gC gE gI : Nat) (cC cE cI : Nat) (g : Nat → Int) : Nat → Value
  | 0 => .int .i64 (s 0)
  | 1 => .int .i64 (s 1)
  | 2 => .int .i64 (s 2)
  | 3 => .int .i64 (s 3)
  | 4 => .slice (some ⟨gC, 0, none⟩) 384 cC
  | 5 => .slice (some ⟨gE, 0, none⟩) 32 cE
  | 6 => .slice (some ⟨gI, 0, none⟩) 40 cI
  | 7 => .int .i64 (g 0)
  | 8 => .int .i64 (g 1)
  | 9 => .int .i64 (g 2)
  | 10 => .int .i64 (g 3)
  | _ => undef

def Gd.world (s : Nat → Int) (gC gE gI : Nat) (cC cE cI : Nat) (g : Nat → Int) : Array Value :=
  #[.int .i64 (s 0), .int .i64 (s 1), .int .i64 (s 2), .int .i64 (s 3), .slice (some ⟨gC, 0, none⟩) 384 cC, .slice (some ⟨gE, 0, none⟩) 32 cE, .slice (some ⟨gI, 0, none⟩) 40 cI, .int .i64 (g 0), .int .i64 (g 1), .int .i64 (g 2), .int .i64 (g 3)]

theorem Gd.world_at (s : Nat → Int) (gC gE gI cC cE cI : Nat) (g : Nat → Int) (j : Nat) (hj : j < 11) : (Gd.world s gC gE gI cC cE cI g)[j]? = some (Gd.box s gC gE gI cC cE cI g j) := by
  rcases (show j = 0 ∨ j = 1 ∨ j = 2 ∨ j = 3 ∨ j = 4 ∨ j = 5 ∨ j = 6 ∨ j = 7 ∨ j = 8 ∨ j = 9 ∨ j = 10 by omega) with rfl | rfl | rfl | rfl | rfl | rfl | rfl | rfl | rfl | rfl | rfl <;> rfl

/-- A world in a new block. -/
theorem Arr.world {w : World} {B : Nat} {s : Nat → Int} {gC gE gI cC cE cI : Nat} {g : Nat → Int} (h : w.heap[B]? = some (.cells (Gd.world s gC gE gI cC cE cI g) 29 (0, 0))) : Arr w B 29 11 (Gd.box s gC gE gI cC cE cI g) :=
  ⟨_, h, rfl, fun i hi => Gd.world_at s gC gE gI cC cE cI g i hi⟩

/-- The gold of one seat stored anew. -/
def Gd.give (g : Nat → Int) (k : Nat) (v : Int) : Nat → Int := fun i => if i = k then v else g i

theorem Lie.gold {x : World} {B : Nat} {T : TypeId} {s : Nat → Int} {gC gE gI cC cE cI : Nat} {g : Nat → Int} (h : Lie x B T 11 (Gd.box s gC gE gI cC cE cI g)) (k : Nat) (hk : k < 4) (v : Int) : Lie (x.setCell ⟨B, 7 + k, none⟩ (.int .i64 v)) B T 11 (Gd.box s gC gE gI cC cE cI (Gd.give g k v)) := by
  refine (h.store (7 + k) (.int .i64 v)).congr fun c hc => ?_
  rcases (show k = 0 ∨ k = 1 ∨ k = 2 ∨ k = 3 by omega) with rfl | rfl | rfl | rfl <;>
  rcases (show c = 0 ∨ c = 1 ∨ c = 2 ∨ c = 3 ∨ c = 4 ∨ c = 5 ∨ c = 6 ∨ c = 7 ∨ c = 8 ∨ c = 9 ∨ c = 10 by omega) with rfl | rfl | rfl | rfl | rfl | rfl | rfl | rfl | rfl | rfl | rfl <;> rfl

theorem Gd.box_gold (s : Nat → Int) (gC gE gI cC cE cI : Nat) (g : Nat → Int) (k : Nat) (hk : k < 4) : Gd.box s gC gE gI cC cE cI g (7 + k) = .int .i64 (g k) := by
  rcases (show k = 0 ∨ k = 1 ∨ k = 2 ∨ k = 3 by omega) with rfl | rfl | rfl | rfl <;> rfl

/-- The lists of a world: cells, entities, items. -/
structure Gd.Lists (x : World) (gC gE gI : Nat) (c : Nat → Int) (E I : Nat → Nat → Int) : Prop where
  cells : Lie x gC 5 384 (Byts c)
  ents : Lie x gE 36 352 (En.flat E)
  items : Lie x gI 57 160 (Gd.flat I)

theorem Gd.Lists.on {x y : World} {gC gE gI : Nat} {c : Nat → Int} {E I : Nat → Nat → Int} (h : Gd.Lists x gC gE gI c E I) (hg : x.grownBy y none) : Gd.Lists y gC gE gI c E I :=
  ⟨h.cells.on hg, h.ents.on hg, h.items.on hg⟩

theorem Gd.Lists.below {x y : World} {B gC gE gI : Nat} {c : Nat → Int} {E I : Nat → Nat → Int} (h : Gd.Lists x gC gE gI c E I) (hb : Below B x y) (h1 : gC < B) (h2 : gE < B) (h3 : gI < B) : Gd.Lists y gC gE gI c E I :=
  ⟨h.cells.below hb h1, h.ents.below hb h2, h.items.below hb h3⟩

theorem Gd.Lists.its {x : World} {gC gE gI : Nat} {c : Nat → Int} {E I : Nat → Nat → Int} (h : Gd.Lists x gC gE gI c E I) : Its x gI 0 40 I := h.items.its (by omega) (by omega)

theorem Gd.Lists.own {x : World} {gC gE gI : Nat} {c : Nat → Int} {E I : Nat → Nat → Int} (h : Gd.Lists x gC gE gI c E I) : Own x gE 32 E := h.ents.own (by omega) (by omega)

theorem Gd.Lists.vec {x : World} {gC gE gI : Nat} {c : Nat → Int} {E I : Nat → Nat → Int} (h : Gd.Lists x gC gE gI c E I) : Vec x.heap.size x (some ⟨gC, 0, none⟩) 384 (Byts c) :=
  ⟨by unfold maxLen; omega, .inr ⟨gC, 0, rfl, h.cells.lt, fun i hi => by rw [Nat.zero_add]; exact h.cells.cell hi⟩⟩

/-- A world of a call's own, in a block of its own. -/
structure Gd.Hold (x : World) (B gC gE gI : Nat) (cC cE cI : Nat) (s : Nat → Int) (g : Nat → Int) (c : Nat → Int) (E I : Nat → Nat → Int) : Prop where
  box : Lie x B 29 11 (Gd.box s gC gE gI cC cE cI g)
  lists : Gd.Lists x gC gE gI c E I
  bC : B ≠ gC
  bE : B ≠ gE
  bI : B ≠ gI
  cE : gC ≠ gE
  cI : gC ≠ gI
  eI : gE ≠ gI

theorem Gd.Hold.on {x y : World} {B gC gE gI cC cE cI : Nat} {s g c : Nat → Int} {E I : Nat → Nat → Int} (h : Gd.Hold x B gC gE gI cC cE cI s g c E I) (hg : x.grownBy y none) : Gd.Hold y B gC gE gI cC cE cI s g c E I :=
  { h with box := h.box.on hg, lists := h.lists.on hg }

theorem Gd.Hold.items {x : World} {B gC gE gI cC cE cI : Nat} {s g c : Nat → Int} {E I J : Nat → Nat → Int} (h : Gd.Hold x B gC gE gI cC cE cI s g c E I) {y : World} (hg : x.grownBy y (some gI)) (hI : Lie y gI 57 160 (Gd.flat J)) : Gd.Hold y B gC gE gI cC cE cI s g c E J :=
  { h with box := h.box.grown hg (by simpa using h.bI.symm), lists := ⟨h.lists.cells.grown hg (by simpa using h.cI.symm), h.lists.ents.grown hg (by simpa using h.eI.symm), hI⟩ }

theorem Gd.Hold.ents {x : World} {B gC gE gI cC cE cI : Nat} {s g c : Nat → Int} {E I F : Nat → Nat → Int} (h : Gd.Hold x B gC gE gI cC cE cI s g c E I) {y : World} (hg : x.grownBy y (some gE)) (hE : Lie y gE 36 352 (En.flat F)) : Gd.Hold y B gC gE gI cC cE cI s g c F I :=
  { h with box := h.box.grown hg (by simpa using h.bE.symm), lists := ⟨h.lists.cells.grown hg (by simpa using h.cE.symm), hE, h.lists.items.grown hg (by simpa using h.eI)⟩ }

theorem Gd.Hold.gold {x : World} {B gC gE gI cC cE cI : Nat} {s g c : Nat → Int} {E I : Nat → Nat → Int} (h : Gd.Hold x B gC gE gI cC cE cI s g c E I) (k : Nat) (hk : k < 4) (v : Int) : Gd.Hold (x.setCell ⟨B, 7 + k, none⟩ (.int .i64 v)) B gC gE gI cC cE cI s (Gd.give g k v) c E I :=
  { h with box := h.box.gold k hk v, lists := ⟨h.lists.cells.other h.bC _ _, h.lists.ents.other h.bE _ _, h.lists.items.other h.bI _ _⟩ }

/-- The cells of a list, as they are copied. -/
def Gd.list (m : Nat) (F : Nat → Value) : List Value := (List.range m).map F

theorem Gd.list_len (m : Nat) (F : Nat → Value) : (Gd.list m F).length = m := by simp [Gd.list]

theorem Gd.list_at {m : Nat} {F : Nat → Value} {c : Nat} (hc : c < m) : (Gd.list m F)[c]? = some (F c) := by
  unfold Gd.list
  rw [List.getElem?_map, List.getElem?_range hc]
  rfl

theorem Gd.list_one {m : Nat} {F : Nat → Value} (h : ∀ c, (F c).oneCell' = true) : ∀ v ∈ Gd.list m F, v.oneCell' = true := by
  intro v hv
  unfold Gd.list at hv
  obtain ⟨c, _, rfl⟩ := List.mem_map.1 hv
  exact h c

theorem Gd.list_src {w : World} {b m : Nat} {F : Nat → Value} (h : ∀ c, c < m → w.cell? ⟨b, c, none⟩ = some (F c)) : ∀ j v, (Gd.list m F)[j]? = some v → w.cell? ((⟨b, 0, none⟩ : Addr).add j) = some v := by
  intro j v hj
  have hlt : j < m := by
    have := (List.getElem?_eq_some_iff.1 hj).1
    rwa [Gd.list_len] at this
  rw [Gd.list_at hlt] at hj
  rw [show (⟨b, 0, none⟩ : Addr).add j = ⟨b, j, none⟩ by rw [Go.WideShapes.add_plain, Nat.zero_add], h j hlt]
  exact hj

theorem Arr.of_list {w : World} {g m : Nat} {T : TypeId} {F : Nat → Value} (h : w.heap[g]? = some (.cells (Gd.list m F).toArray T (0, 0))) : Arr w g T m F := by
  refine ⟨_, h, by simp [Gd.list_len], fun c hc => ?_⟩
  rw [List.getElem?_toArray, Gd.list_at hc]

/-- A call hands back a list that is the same, apart. -/
def Copies (w : World) (T : TypeId) (n m : Nat) (F : Nat → Value) (e : Ending) (w' : World) : Prop :=
  ∃ g, e = .returned (.slice (some ⟨g, 0, none⟩) n n) ∧ w.heap.size ≤ g ∧ Arr w' g T m F ∧ w.grownBy w' none

end Go.Proofs.Ytbploaihicakeaa

namespace Go.Proofs.Ytbploaihicakeaa
open Go.RowKit

theorem run_eq_item (k a b c k' a' b' c' : Int) (w : World) : (binOp .eql 57 (.agg #[.int .i64 k, .int .i64 a, .int .i64 b, .int .i64 c]) (.agg #[.int .i64 k', .int .i64 a', .int .i64 b', .int .i64 c'])).run Try.prog w = .ok (.bool (decide (k = k') && (decide (a = a') && (decide (b = b') && decide (c = c'))))) w := by
  by_cases h0 : k = k' <;> by_cases h1 : a = a' <;> by_cases h2 : b = b' <;> by_cases h3 : c = c' <;> simp [go_sem, h0, h1, h2, h3]

theorem run_ne_item (k a b c k' a' b' c' : Int) (w : World) : (binOp .neq 57 (.agg #[.int .i64 k, .int .i64 a, .int .i64 b, .int .i64 c]) (.agg #[.int .i64 k', .int .i64 a', .int .i64 b', .int .i64 c'])).run Try.prog w = .ok (.bool (!(decide (k = k') && (decide (a = a') && (decide (b = b') && decide (c = c')))))) w := by
  by_cases h0 : k = k' <;> by_cases h1 : a = a' <;> by_cases h2 : b = b' <;> by_cases h3 : c = c' <;> simp [go_sem, h0, h1, h2, h3]

def Gd.serves (k input : Int) : Bool := if input = 6 then decide (k = 1) else if input = 7 then decide (k = 2) || decide (k = 3) else true

def Gd.isSeat (s : Int) : Bool := decide (0 ≤ s ∧ s < 4)

def Gd.zeroB (k p a b : Int) : Bool := decide (k = 0 ∧ p = 0 ∧ a = 0 ∧ b = 0)

end Go.Proofs.Ytbploaihicakeaa

namespace Go.Proofs.Ytbploaihicakeaa
open Go.RowKit

theorem Gd.inQ_no {I : Nat → Nat → Int} {p a q : Int} {k : Nat} (h : ¬ (I k 1 = p ∧ I k 2 = a ∧ I k 3 = q)) : Gd.inQ I p a q k = false := by
  simp only [Gd.inQ, Bool.and_eq_false_iff, decide_eq_false_iff_not]
  by_cases h1 : I k 1 = p
  · by_cases h2 : I k 2 = a
    · exact .inr (.inr fun h3 => h ⟨h1, h2, h3⟩)
    · exact .inr (.inl h2)
  · exact .inl h1

theorem Gd.inQ_yes {I : Nat → Nat → Int} {p a q : Int} {k : Nat} (h1 : I k 1 = p) (h2 : I k 2 = a) (h3 : I k 3 = q) : Gd.inQ I p a q k = true := by
  simp [Gd.inQ, h1, h2, h3]

end Go.Proofs.Ytbploaihicakeaa

namespace Go.Proofs.Ytbploaihicakeaa
open Go.RowKit

/-- The item in the lowest slot whose kind is let by. -/
def Gd.carQ (I : Nat → Nat → Int) (n : Nat) (seat : Int) (t : Int → Bool) : Nat → Bool := fun b => decide (0 ≤ Gd.find I n 2 seat (b : Int)) && t (I (Gd.find I n 2 seat (b : Int)).toNat 0)

def Gd.car (I : Nat → Nat → Int) (n : Nat) (seat : Int) (t : Int → Bool) : Int := if 0 ≤ En.first (Gd.carQ I n seat t) 4 then Gd.find I n 2 seat (En.first (Gd.carQ I n seat t) 4) else -1

theorem Gd.has_car (I : Nat → Nat → Int) (n : Nat) (seat lo hi : Int) : Gd.has I n seat lo hi = Gd.car I n seat (fun k => decide (lo ≤ k) && decide (k ≤ hi)) := rfl

theorem Gd.car_hit {I : Nat → Nat → Int} {n : Nat} {seat : Int} {t : Int → Bool} {k : Nat} (hno : ∀ j, j < k → Gd.carQ I n seat t j = false) (hk : Gd.carQ I n seat t k = true) (h4 : k < 4) : Gd.car I n seat t = Gd.find I n 2 seat (k : Int) := by
  unfold Gd.car
  rw [En.first_hit hno hk h4, if_pos (by omega)]

theorem Gd.car_none {I : Nat → Nat → Int} {n : Nat} {seat : Int} {t : Int → Bool} (hno : ∀ j, j < 4 → Gd.carQ I n seat t j = false) : Gd.car I n seat t = -1 := by
  unfold Gd.car
  rw [En.first_none hno, if_neg (by omega)]

theorem Gd.car_congr {I : Nat → Nat → Int} {n : Nat} {seat : Int} {t u : Int → Bool} (h : ∀ k, k < n → I k 1 = 2 → t (I k 0) = u (I k 0)) : Gd.car I n seat t = Gd.car I n seat u := by
  have e : ∀ b, b < 4 → Gd.carQ I n seat t b = Gd.carQ I n seat u b := fun b _ => by
    unfold Gd.carQ
    by_cases hf : 0 ≤ Gd.find I n 2 seat (b : Int)
    · obtain ⟨k, hk, ek, h1, _⟩ := Gd.find_pos hf
      rw [ek, Int.toNat_natCast, h k hk h1]
    · rw [decide_eq_false hf, Bool.false_and, Bool.false_and]
  unfold Gd.car
  rw [En.first_congr e]

theorem Gd.find_lt {I : Nat → Nat → Int} {n : Nat} {p a q : Int} (h : 0 ≤ Gd.find I n p a q) : (Gd.find I n p a q).toNat < n ∧ Gd.find I n p a q = ((Gd.find I n p a q).toNat : Int) := by
  obtain ⟨k, hk, e, _⟩ := Gd.find_pos h
  rw [e]
  simp [hk]

end Go.Proofs.Ytbploaihicakeaa

namespace Go.Proofs.Ytbploaihicakeaa
open Go.RowKit

theorem Gd.ware_hit {I : Nat → Nat → Int} {n k : Nat} (hno : ∀ j : Nat, j < k → decide (0 ≤ Gd.find I n 4 (j : Int) 0) = false) (hk : 0 ≤ Gd.find I n 4 (k : Int) 0) (h3 : k < 3) : Gd.ware I n = Gd.find I n 4 (k : Int) 0 := by
  unfold Gd.ware
  rw [En.first_hit (q := fun k : Nat => decide (0 ≤ Gd.find I n 4 (k : Int) 0)) hno (decide_eq_true hk) h3, if_pos (by omega)]

theorem Gd.ware_none {I : Nat → Nat → Int} {n : Nat} (hno : ∀ j : Nat, j < 3 → decide (0 ≤ Gd.find I n 4 (j : Int) 0) = false) : Gd.ware I n = -1 := by
  unfold Gd.ware
  rw [En.first_none (q := fun k : Nat => decide (0 ≤ Gd.find I n 4 (k : Int) 0)) hno, if_neg (by omega)]

/-- What a hero, at row k of a world that lies in memory, is told by: its seat, its place; the gold of its seat. -/
structure Gd.Near (x : World) (B gC gE gI cC cI k s : Nat) (X Y G : Int) : Prop where
  lB : B < x.heap.size
  lE : gE < x.heap.size
  k32 : k < 32
  s4 : s < 4
  b4 : x.cell? ⟨B, 4, none⟩ = some (.slice (some ⟨gC, 0, none⟩) 384 cC)
  b6 : x.cell? ⟨B, 6, none⟩ = some (.slice (some ⟨gI, 0, none⟩) 40 cI)
  b7 : x.cell? ⟨B, 7 + s, none⟩ = some (.int .i64 G)
  e2 : x.cell? ⟨gE, k * 11 + 2, none⟩ = some (.int .i64 (s : Int))
  e3 : x.cell? ⟨gE, k * 11 + 3, none⟩ = some (.int .i64 X)
  e4 : x.cell? ⟨gE, k * 11 + 4, none⟩ = some (.int .i64 Y)

theorem Gd.Near.on {x y : World} {B gC gE gI cC cI k s : Nat} {X Y G : Int} (h : Gd.Near x B gC gE gI cC cI k s X Y G) (hg : x.grownBy y none) : Gd.Near y B gC gE gI cC cI k s X Y G :=
  have t := fun (b i : Nat) (hb : b < x.heap.size) => grown_cell hg b i hb (by simp)
  { lB := Nat.lt_of_lt_of_le h.lB hg.size, lE := Nat.lt_of_lt_of_le h.lE hg.size, k32 := h.k32, s4 := h.s4, b4 := (t _ _ h.lB).trans h.b4, b6 := (t _ _ h.lB).trans h.b6, b7 := (t _ _ h.lB).trans h.b7, e2 := (t _ _ h.lE).trans h.e2, e3 := (t _ _ h.lE).trans h.e3, e4 := (t _ _ h.lE).trans h.e4 }

theorem Gd.Hold.near {x : World} {B gC gE gI cC cE cI : Nat} {s g c : Nat → Int} {E I : Nat → Nat → Int} (h : Gd.Hold x B gC gE gI cC cE cI s g c E I) {k t : Nat} (hk : k < 32) (ht : t < 4) (he : E k 2 = (t : Int)) : Gd.Near x B gC gE gI cC cI k t (E k 3) (E k 4) (g t) :=
  have r := h.lists.own.ents.row hk
  { lB := h.box.lt, lE := h.lists.ents.lt, k32 := hk, s4 := ht, b4 := h.box.cell (c := 4) (by omega), b6 := h.box.cell (c := 6) (by omega), b7 := by rw [h.box.cell (c := 7 + t) (by omega), Gd.box_gold _ _ _ _ _ _ _ _ t ht], e2 := by rw [← he]; exact r.2.2.1, e3 := r.2.2.2.1, e4 := r.2.2.2.2.1 }

/-- Which item an input is about. -/
def Gd.want (I : Nat → Nat → Int) (s X Y : Int) (shop : Bool) (G input : Int) : Int :=
  if input = 5 then Gd.find I 40 1 X Y
  else if input = 10 then (if shop = true ∧ 5 ≤ G then Gd.ware I 40 else -1)
  else if input = 8 then (if 0 ≤ Gd.find I 40 1 X Y then -1 else Gd.car I 40 s (fun k => Gd.serves k 8))
  else if input = 6 then Gd.car I 40 s (fun k => Gd.serves k 6)
  else if input = 7 then Gd.car I 40 s (fun k => Gd.serves k 7)
  else -1

end Go.Proofs.Ytbploaihicakeaa

namespace Go.Proofs.Ytbploaihicakeaa
open Go.RowKit

end Go.Proofs.Ytbploaihicakeaa
