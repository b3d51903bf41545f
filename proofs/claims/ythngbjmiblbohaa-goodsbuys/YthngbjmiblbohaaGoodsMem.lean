/-
  Items, and worlds of items and entities, as they lie in memory; lists that are copied whole.
-/
import Derived.Test.YthngbjmiblbohaaGoodsMath
import Derived.Test.YthngbjmiblbohaaEntStats
import Derived.Laws.CopyOwn
namespace Go.Proofs.Ythngbjmiblbohaa
open Go.RowKit

/-- The first m cells of a block are known; nothing is frozen there, and there may be room behind them. -/
def Lie (x : World) (g : Nat) (T : TypeId) (m : Nat) (F : Nat → Value) : Prop := ∃ M G, Arr x g T M G ∧ m ≤ M ∧ ∀ c, c < m → G c = F c

theorem Arr.lie {x : World} {g : Nat} {T : TypeId} {m : Nat} {F : Nat → Value} (h : Arr x g T m F) : Lie x g T m F := ⟨m, F, h, Nat.le_refl _, fun _ _ => rfl⟩

theorem Lie.cell {x : World} {g : Nat} {T : TypeId} {m : Nat} {F : Nat → Value} (h : Lie x g T m F) {c : Nat} (hc : c < m) : x.cell? ⟨g, c, none⟩ = some (F c) := by
  obtain ⟨M, G, hA, hm, he⟩ := h
  rw [hA.cell (i := c) (by omega), he c hc]

theorem Lie.free {x : World} {g : Nat} {T : TypeId} {m : Nat} {F : Nat → Value} (h : Lie x g T m F) (i : Nat) : x.frozen? ⟨g, i, none⟩ = false := by
  obtain ⟨M, G, hA, _, _⟩ := h
  exact hA.free i

theorem Lie.lt {x : World} {g : Nat} {T : TypeId} {m : Nat} {F : Nat → Value} (h : Lie x g T m F) : g < x.heap.size := by
  obtain ⟨M, G, hA, _, _⟩ := h
  exact hA.lt

theorem Lie.congr {x : World} {g : Nat} {T : TypeId} {m : Nat} {F G : Nat → Value} (h : Lie x g T m F) (he : ∀ c, c < m → F c = G c) : Lie x g T m G := by
  obtain ⟨M, K, hA, hm, hk⟩ := h
  exact ⟨M, K, hA, hm, fun c hc => (hk c hc).trans (he c hc)⟩

theorem Lie.grown {x y : World} {g : Nat} {T : TypeId} {m : Nat} {F : Nat → Value} {r : Option Nat} (h : Lie x g T m F) (hg : x.grownBy y r) (hr : r ≠ some g) : Lie y g T m F := by
  obtain ⟨M, K, hA, hm, hk⟩ := h
  exact ⟨M, K, hA.grown hg hr, hm, hk⟩

theorem Lie.on {x y : World} {g : Nat} {T : TypeId} {m : Nat} {F : Nat → Value} (h : Lie x g T m F) (hg : x.grownBy y none) : Lie y g T m F := h.grown hg (by simp)

theorem Lie.below {x y : World} {B g : Nat} {T : TypeId} {m : Nat} {F : Nat → Value} (h : Lie x g T m F) (hb : Below B x y) (hg : g < B) : Lie y g T m F := by
  obtain ⟨M, K, hA, hm, hk⟩ := h
  exact ⟨M, K, hA.kept hb hg, hm, hk⟩

theorem Lie.other {x : World} {g : Nat} {T : TypeId} {m : Nat} {F : Nat → Value} (h : Lie x g T m F) {p : Nat} (hp : p ≠ g) (i : Nat) (u : Value) : Lie (x.setCell ⟨p, i, none⟩ u) g T m F :=
  h.grown (grown_set0 x p i u) (by simpa using hp)

theorem Lie.others {x : World} {g : Nat} {T : TypeId} {m : Nat} {F : Nat → Value} (h : Lie x g T m F) {p : Nat} (hp : p ≠ g) (o : Nat) (vs : List Value) : Lie (x.setCells p o vs) g T m F :=
  h.grown (grown_sets vs o x (World.grownBy.refl _ _)) (by simpa using hp)

theorem Lie.store {x : World} {g : Nat} {T : TypeId} {m : Nat} {F : Nat → Value} (h : Lie x g T m F) (i : Nat) (u : Value) : Lie (x.setCell ⟨g, i, none⟩ u) g T m (fun j => if j = i then u else F j) := by
  obtain ⟨M, K, hA, hm, hk⟩ := h
  refine ⟨M, _, hA.store i u, hm, fun c hc => ?_⟩
  show (if c = i then u else K c) = _
  rw [hk c hc]

theorem Lie.stores {x : World} {g : Nat} {T : TypeId} {m : Nat} {F : Nat → Value} (h : Lie x g T m F) (o : Nat) (vs : List Value) : Lie (x.setCells g o vs) g T m (fun j => if o ≤ j ∧ j < o + vs.length then vs[j - o]?.getD undef else F j) := by
  obtain ⟨M, K, hA, hm, hk⟩ := h
  refine ⟨M, _, hA.stores vs o, hm, fun c hc => ?_⟩
  show (if o ≤ c ∧ c < o + vs.length then vs[c - o]?.getD undef else K c) = _
  rw [hk c hc]

/-- An item's cells. -/
def Gd.cells (r : Nat → Int) : Array Value := #[.int .i64 (r 0), .int .i64 (r 1), .int .i64 (r 2), .int .i64 (r 3)]

def Gd.flat (I : Nat → Nat → Int) : Nat → Value := fun c => .int .i64 (I (c / 4) (c % 4))

theorem Gd.flat_at (I : Nat → Nat → Int) (i j : Nat) (hj : j < 4) : Gd.flat I (i * 4 + j) = .int .i64 (I i j) := by
  unfold Gd.flat
  rw [show (i * 4 + j) / 4 = i by omega, show (i * 4 + j) % 4 = j by omega]

/-- A list of n items at cell 'o' of a block. -/
def Its (w : World) (b o n : Nat) (I : Nat → Nat → Int) : Prop := n ≤ 100 ∧ b < w.heap.size ∧ ∀ i j, i < n → j < 4 → w.cell? ⟨b, o + i * 4 + j, none⟩ = some (.int .i64 (I i j))

theorem Its.on {w w' : World} {b o n : Nat} {I : Nat → Nat → Int} (h : Its w b o n I) (hg : w.grownBy w' none) : Its w' b o n I :=
  ⟨h.1, Nat.lt_of_lt_of_le h.2.1 hg.size, fun i j hi hj => (grown_cell hg b _ h.2.1 (by simp)).trans (h.2.2 i j hi hj)⟩

theorem Its.row {w : World} {b n : Nat} {I : Nat → Nat → Int} (h : Its w b 0 n I) {k : Nat} (hk : k < n) :
    w.cell? ⟨b, k * 4, none⟩ = some (.int .i64 (I k 0)) ∧ w.cell? ⟨b, k * 4 + 1, none⟩ = some (.int .i64 (I k 1)) ∧ w.cell? ⟨b, k * 4 + 2, none⟩ = some (.int .i64 (I k 2)) ∧ w.cell? ⟨b, k * 4 + 3, none⟩ = some (.int .i64 (I k 3)) := by
  have := fun j hj => h.2.2 k j hk hj
  simp only [Nat.zero_add] at this
  exact ⟨this 0 (by omega), this 1 (by omega), this 2 (by omega), this 3 (by omega)⟩

theorem Lie.its {x : World} {g n m : Nat} {T : TypeId} {I : Nat → Nat → Int} (h : Lie x g T m (Gd.flat I)) (hm : n * 4 = m) (hn : n ≤ 100) : Its x g 0 n I :=
  ⟨hn, h.lt, fun i j hi hj => by rw [Nat.zero_add, h.cell (c := i * 4 + j) (by omega), Gd.flat_at I i j hj]⟩

theorem Lie.own {x : World} {g n m : Nat} {E : Nat → Nat → Int} (h : Lie x g 50 m (En.flat E)) (hm : n * 11 = m) (hn : n ≤ 32) : Own x g n E := by
  obtain ⟨M, K, hA, hl, hk⟩ := h
  exact ⟨hn, M, K, hA, by omega, fun c hc => hk c (by omega)⟩

theorem Own.lie {x : World} {g n m : Nat} {E : Nat → Nat → Int} (h : Own x g n E) (hm : n * 11 = m) : Lie x g 50 m (En.flat E) := by
  obtain ⟨_, M, K, hA, hl, hk⟩ := h
  exact ⟨M, K, hA, by omega, fun c hc => hk c (by omega)⟩

theorem Gd.cells_at (r : Nat → Int) (j : Nat) (hj : j < 4) : (Gd.cells r).toList[j]?.getD undef = .int .i64 (r j) := by
  rcases (show j = 0 ∨ j = 1 ∨ j = 2 ∨ j = 3 by omega) with rfl | rfl | rfl | rfl <;> rfl

/-- One item of a list stored anew. -/
theorem Lie.item {x : World} {g m : Nat} {T : TypeId} {I : Nat → Nat → Int} (h : Lie x g T m (Gd.flat I)) (k : Nat) (r : Nat → Int) : Lie (x.setCells g (k * 4) (Gd.cells r).toList) g T m (Gd.flat (En.put I k r)) := by
  refine (h.stores (k * 4) (Gd.cells r).toList).congr fun c hc => ?_
  show (if k * 4 ≤ c ∧ c < k * 4 + 4 then (Gd.cells r).toList[c - k * 4]?.getD undef else Gd.flat I c) = Gd.flat (En.put I k r) c
  unfold Gd.flat
  by_cases hk : k * 4 ≤ c ∧ c < k * 4 + 4
  · rw [if_pos hk, Gd.cells_at r _ (by omega), show c / 4 = k by omega, En.put_same, show c - k * 4 = c % 4 by omega]
  · rw [if_neg hk, En.put_other (by omega)]

/-- One field of a row stored anew. -/
def Gd.set (I : Nat → Nat → Int) (k j : Nat) (v : Int) : Nat → Nat → Int := fun i l => if i = k ∧ l = j then v else I i l

theorem Lie.field {x : World} {g m : Nat} {T : TypeId} {I : Nat → Nat → Int} (h : Lie x g T m (Gd.flat I)) (k j : Nat) (hj : j < 4) (v : Int) : Lie (x.setCell ⟨g, k * 4 + j, none⟩ (.int .i64 v)) g T m (Gd.flat (Gd.set I k j v)) := by
  refine (h.store (k * 4 + j) (.int .i64 v)).congr fun c hc => ?_
  unfold Gd.flat Gd.set
  by_cases hk : c = k * 4 + j
  · rw [if_pos hk, if_pos ⟨by omega, by omega⟩]
  · rw [if_neg hk, if_neg (by omega)]

theorem Lie.stat {x : World} {g m : Nat} {T : TypeId} {E : Nat → Nat → Int} (h : Lie x g T m (En.flat E)) (k j : Nat) (hj : j < 11) (v : Int) : Lie (x.setCell ⟨g, k * 11 + j, none⟩ (.int .i64 v)) g T m (En.flat (Gd.set E k j v)) := by
  refine (h.store (k * 11 + j) (.int .i64 v)).congr fun c hc => ?_
  unfold En.flat Gd.set
  by_cases hk : c = k * 11 + j
  · rw [if_pos hk, if_pos ⟨by omega, by omega⟩]
  · rw [if_neg hk, if_neg (by omega)]

/-- A world's eleven cells: Seed, Frame, Floor, State, the three lists, the gold of four seats. -/
def Gd.box (s : Nat → Int) (gC gE gI : Nat) (cC cE cI : Nat) (g : Nat → Int) : Nat → Value
  | 0 => .int .i64 (s 0)
  | 1 => .int .i64 (s 1)
  | 2 => .int .i64 (s 2)
  | 3 => .int .i64 (s 3)
  | 4 => .slice (some ⟨gC, 0, none⟩) 384 cC
  | 5 => .slice (some ⟨gE, 0, none⟩) 32 cE
  | 6 => .slice (some ⟨gI, 0, none⟩) 40 cI
  | 7 => .int .i64 (g 0)
  | 8 => .int .i64 (g 1)
  | 9 => .int .i64 (g 2)
  | 10 => .int .i64 (g 3)
  | _ => undef

def Gd.world (s : Nat → Int) (gC gE gI : Nat) (cC cE cI : Nat) (g : Nat → Int) : Array Value :=
  #[.int .i64 (s 0), .int .i64 (s 1), .int .i64 (s 2), .int .i64 (s 3), .slice (some ⟨gC, 0, none⟩) 384 cC, .slice (some ⟨gE, 0, none⟩) 32 cE, .slice (some ⟨gI, 0, none⟩) 40 cI, .int .i64 (g 0), .int .i64 (g 1), .int .i64 (g 2), .int .i64 (g 3)]

theorem Gd.world_at (s : Nat → Int) (gC gE gI cC cE cI : Nat) (g : Nat → Int) (j : Nat) (hj : j < 11) : (Gd.world s gC gE gI cC cE cI g)[j]? = some (Gd.box s gC gE gI cC cE cI g j) := by
  rcases (show j = 0 ∨ j = 1 ∨ j = 2 ∨ j = 3 ∨ j = 4 ∨ j = 5 ∨ j = 6 ∨ j = 7 ∨ j = 8 ∨ j = 9 ∨ j = 10 by omega) with rfl | rfl | rfl | rfl | rfl | rfl | rfl | rfl | rfl | rfl | rfl <;> rfl

/-- A world in a new block. -/
theorem Arr.world {w : World} {B : Nat} {s : Nat → Int} {gC gE gI cC cE cI : Nat} {g : Nat → Int} (h : w.heap[B]? = some (.cells (Gd.world s gC gE gI cC cE cI g) 29 (0, 0))) : Arr w B 29 11 (Gd.box s gC gE gI cC cE cI g) :=
  ⟨_, h, rfl, fun i hi => Gd.world_at s gC gE gI cC cE cI g i hi⟩

/-- The gold of one seat stored anew. -/
def Gd.give (g : Nat → Int) (k : Nat) (v : Int) : Nat → Int := fun i => if i = k then v else g i

theorem Lie.gold {x : World} {B : Nat} {T : TypeId} {s : Nat → Int} {gC gE gI cC cE cI : Nat} {g : Nat → Int} (h : Lie x B T 11 (Gd.box s gC gE gI cC cE cI g)) (k : Nat) (hk : k < 4) (v : Int) : Lie (x.setCell ⟨B, 7 + k, none⟩ (.int .i64 v)) B T 11 (Gd.box s gC gE gI cC cE cI (Gd.give g k v)) := by
  refine (h.store (7 + k) (.int .i64 v)).congr fun c hc => ?_
  rcases (show k = 0 ∨ k = 1 ∨ k = 2 ∨ k = 3 by omega) with rfl | rfl | rfl | rfl <;>
  rcases (show c = 0 ∨ c = 1 ∨ c = 2 ∨ c = 3 ∨ c = 4 ∨ c = 5 ∨ c = 6 ∨ c = 7 ∨ c = 8 ∨ c = 9 ∨ c = 10 by omega) with rfl | rfl | rfl | rfl | rfl | rfl | rfl | rfl | rfl | rfl | rfl <;> rfl

theorem Gd.box_gold (s : Nat → Int) (gC gE gI cC cE cI : Nat) (g : Nat → Int) (k : Nat) (hk : k < 4) : Gd.box s gC gE gI cC cE cI g (7 + k) = .int .i64 (g k) := by
  rcases (show k = 0 ∨ k = 1 ∨ k = 2 ∨ k = 3 by omega) with rfl | rfl | rfl | rfl <;> rfl

/-- The lists of a world: cells, entities, items. -/
structure Gd.Lists (x : World) (gC gE gI : Nat) (c : Nat → Int) (E I : Nat → Nat → Int) : Prop where
  cells : Lie x gC 5 384 (Byts c)
  ents : Lie x gE 50 352 (En.flat E)
  items : Lie x gI 38 160 (Gd.flat I)

theorem Gd.Lists.on {x y : World} {gC gE gI : Nat} {c : Nat → Int} {E I : Nat → Nat → Int} (h : Gd.Lists x gC gE gI c E I) (hg : x.grownBy y none) : Gd.Lists y gC gE gI c E I :=
  ⟨h.cells.on hg, h.ents.on hg, h.items.on hg⟩

theorem Gd.Lists.below {x y : World} {B gC gE gI : Nat} {c : Nat → Int} {E I : Nat → Nat → Int} (h : Gd.Lists x gC gE gI c E I) (hb : Below B x y) (h1 : gC < B) (h2 : gE < B) (h3 : gI < B) : Gd.Lists y gC gE gI c E I :=
  ⟨h.cells.below hb h1, h.ents.below hb h2, h.items.below hb h3⟩

theorem Gd.Lists.its {x : World} {gC gE gI : Nat} {c : Nat → Int} {E I : Nat → Nat → Int} (h : Gd.Lists x gC gE gI c E I) : Its x gI 0 40 I := h.items.its (by omega) (by omega)

theorem Gd.Lists.own {x : World} {gC gE gI : Nat} {c : Nat → Int} {E I : Nat → Nat → Int} (h : Gd.Lists x gC gE gI c E I) : Own x gE 32 E := h.ents.own (by omega) (by omega)

theorem Gd.Lists.vec {x : World} {gC gE gI : Nat} {c : Nat → Int} {E I : Nat → Nat → Int} (h : Gd.Lists x gC gE gI c E I) : Vec x.heap.size x (some ⟨gC, 0, none⟩) 384 (Byts c) :=
  ⟨by unfold maxLen; omega, .inr ⟨gC, 0, rfl, h.cells.lt, fun i hi => by rw [Nat.zero_add]; exact h.cells.cell hi⟩⟩

/-- A world of a call's own, in a block of its own. -/
structure Gd.Hold (x : World) (B gC gE gI : Nat) (cC cE cI : Nat) (s : Nat → Int) (g : Nat → Int) (c : Nat → Int) (E I : Nat → Nat → Int) : Prop where
  box : Lie x B 29 11 (Gd.box s gC gE gI cC cE cI g)
  lists : Gd.Lists x gC gE gI c E I
  bC : B ≠ gC
  bE : B ≠ gE
  bI : B ≠ gI
  cE : gC ≠ gE
  cI : gC ≠ gI
  eI : gE ≠ gI

theorem Gd.Hold.on {x y : World} {B gC gE gI cC cE cI : Nat} {s g c : Nat → Int} {E I : Nat → Nat → Int} (h : Gd.Hold x B gC gE gI cC cE cI s g c E I) (hg : x.grownBy y none) : Gd.Hold y B gC gE gI cC cE cI s g c E I :=
  { h with box := h.box.on hg, lists := h.lists.on hg }

theorem Gd.Hold.items {x : World} {B gC gE gI cC cE cI : Nat} {s g c : Nat → Int} {E I J : Nat → Nat → Int} (h : Gd.Hold x B gC gE gI cC cE cI s g c E I) {y : World} (hg : x.grownBy y (some gI)) (hI : Lie y gI 38 160 (Gd.flat J)) : Gd.Hold y B gC gE gI cC cE cI s g c E J :=
  { h with box := h.box.grown hg (by simpa using h.bI.symm), lists := ⟨h.lists.cells.grown hg (by simpa using h.cI.symm), h.lists.ents.grown hg (by simpa using h.eI.symm), hI⟩ }

theorem Gd.Hold.ents {x : World} {B gC gE gI cC cE cI : Nat} {s g c : Nat → Int} {E I F : Nat → Nat → Int} (h : Gd.Hold x B gC gE gI cC cE cI s g c E I) {y : World} (hg : x.grownBy y (some gE)) (hE : Lie y gE 50 352 (En.flat F)) : Gd.Hold y B gC gE gI cC cE cI s g c F I :=
  { h with box := h.box.grown hg (by simpa using h.bE.symm), lists := ⟨h.lists.cells.grown hg (by simpa using h.cE.symm), hE, h.lists.items.grown hg (by simpa using h.eI)⟩ }

theorem Gd.Hold.gold {x : World} {B gC gE gI cC cE cI : Nat} {s g c : Nat → Int} {E I : Nat → Nat → Int} (h : Gd.Hold x B gC gE gI cC cE cI s g c E I) (k : Nat) (hk : k < 4) (v : Int) : Gd.Hold (x.setCell ⟨B, 7 + k, none⟩ (.int .i64 v)) B gC gE gI cC cE cI s (Gd.give g k v) c E I :=
  { h with box := h.box.gold k hk v, lists := ⟨h.lists.cells.other h.bC _ _, h.lists.ents.other h.bE _ _, h.lists.items.other h.bI _ _⟩ }

/-- The cells of a list, as they are copied. -/
def Gd.list (m : Nat) (F : Nat → Value) : List Value := (List.range m).map F

theorem Gd.list_len (m : Nat) (F : Nat → Value) : (Gd.list m F).length = m := by simp [Gd.list]

theorem Gd.list_at {m : Nat} {F : Nat → Value} {c : Nat} (hc : c < m) : (Gd.list m F)[c]? = some (F c) := by
  unfold Gd.list
  rw [List.getElem?_map, List.getElem?_range hc]
  rfl

theorem Gd.list_one {m : Nat} {F : Nat → Value} (h : ∀ c, (F c).oneCell' = true) : ∀ v ∈ Gd.list m F, v.oneCell' = true := by
  intro v hv
  unfold Gd.list at hv
  obtain ⟨c, _, rfl⟩ := List.mem_map.1 hv
  exact h c

theorem Gd.list_src {w : World} {b m : Nat} {F : Nat → Value} (h : ∀ c, c < m → w.cell? ⟨b, c, none⟩ = some (F c)) : ∀ j v, (Gd.list m F)[j]? = some v → w.cell? ((⟨b, 0, none⟩ : Addr).add j) = some v := by
  intro j v hj
  have hlt : j < m := by
    have := (List.getElem?_eq_some_iff.1 hj).1
    rwa [Gd.list_len] at this
  rw [Gd.list_at hlt] at hj
  rw [show (⟨b, 0, none⟩ : Addr).add j = ⟨b, j, none⟩ by rw [Go.WideShapes.add_plain, Nat.zero_add], h j hlt]
  exact hj

theorem Arr.of_list {w : World} {g m : Nat} {T : TypeId} {F : Nat → Value} (h : w.heap[g]? = some (.cells (Gd.list m F).toArray T (0, 0))) : Arr w g T m F := by
  refine ⟨_, h, by simp [Gd.list_len], fun c hc => ?_⟩
  rw [List.getElem?_toArray, Gd.list_at hc]

/-- A call hands back a list that is the same, apart. -/
def Copies (w : World) (T : TypeId) (n m : Nat) (F : Nat → Value) (e : Ending) (w' : World) : Prop :=
  ∃ g, e = .returned (.slice (some ⟨g, 0, none⟩) n n) ∧ w.heap.size ≤ g ∧ Arr w' g T m F ∧ w.grownBy w' none

set_option maxHeartbeats 800000 in
theorem twinBytes_any (b n m cp : Nat) (F : Nat → Value) (w : World) (hn : n ≤ 1000) (hm : m = n * 1) (h1 : ∀ c, (F c).oneCell' = true) (hF : ∀ c, c < m → w.cell? ⟨b, c, none⟩ = some (F c)) (hb : b < w.heap.size) :
    Calls Try.prog 49 #[.slice (some ⟨b, 0, none⟩) n cp] w (Copies w 5 n m F) := by
  have hF' := hide hF
  have h1' := hide h1
  obtain ⟨i0, hi, hz0, hz1, hz2⟩ := info_parts info_byte
  have hsz : (Try.prog.info? 5).map (·.size) = some 1 := by rw [hi]; simp [hz1]
  clear hF h1
  go_enter Try.func49, Try.ntmps49
  go_wp2_with (at_make; refine wpList_make_full _ rfl _ _ 25 rfl w.heap.size 5 i0 (.int .u8 0) 1 Try.underlying25 hi hz0 hz1 .i64 .i64 _ _ n rfl rfl rfl rfl ?q3 ?q4 ?q5 ?_)
  any_goals (first | (rw [hz2]; omega) | (unfold maxLen; omega) | exact Nat.le_refl _)
  intro w1 hown hgrow
  obtain ⟨cur, hg, hcs⟩ : ∃ cur, w1.heap[w.heap.size]? = some (.cells cur 5 (0, 0)) ∧ cur.size = n * 1 := by
    rcases hown.2 with ⟨h', _⟩ | ⟨g', cap', cur, h', _, hg, _, _, hcs, _⟩
    · simp at h'
    · simp only [Value.slice.injEq, Option.some.injEq, Addr.mk.injEq, and_true, true_and] at h'
      obtain ⟨rfl, rfl⟩ := h'
      exact ⟨cur, hg, hcs⟩
  have hg' := hide hg
  have hgrow' := hide hgrow
  have hcs' := hide hcs
  clear hown hg hgrow hcs hi hz0 hz1 hz2
  obtain ⟨w2, hrun, hrow, hgr2⟩ := run_copy_whole 25 25 3 5 Try.underlying25 1 hsz w.heap.size n n ⟨b, 0, none⟩ cp cur _ (unhide hg') (Gd.list m F) ((Gd.list_len m F).trans hm) (Gd.list_src fun c hc => (grown_cell (unhide hgrow') b c hb (by simp)).trans (unhide hF' c hc)) (by rw [Gd.list_len, unhide hcs', hm]) (Gd.list_one (unhide h1'))
  have hfin := hide (Arr.of_list hrow)
  have hgw := hide (show w.grownBy w2 none from grown_own (unhide hgrow') hgr2 (fun k e => by cases e; exact Nat.le_refl _))
  clear hrow hgr2 hb hm hn hsz
  go_wp2
  go_ret
  exact ⟨w.heap.size, rfl, Nat.le_refl _, unhide hfin, unhide hgw⟩

set_option maxHeartbeats 800000 in
theorem twinEnts_any (b n m cp : Nat) (F : Nat → Value) (w : World) (hn : n ≤ 1000) (hm : m = n * 11) (h1 : ∀ c, (F c).oneCell' = true) (hF : ∀ c, c < m → w.cell? ⟨b, c, none⟩ = some (F c)) (hb : b < w.heap.size) :
    Calls Try.prog 50 #[.slice (some ⟨b, 0, none⟩) n cp] w (Copies w 50 n m F) := by
  have hF' := hide hF
  have h1' := hide h1
  obtain ⟨i0, hi, hz0, hz1, hz2⟩ := info_parts info_ent
  have hsz : (Try.prog.info? 50).map (·.size) = some 11 := by rw [hi]; simp [hz1]
  clear hF h1
  go_enter Try.func50, Try.ntmps50
  go_wp2_with (at_make; refine wpList_make_full _ rfl _ _ 26 rfl w.heap.size 50 i0 (.agg #[.int .i64 0, .int .i64 0, .int .i64 0, .int .i64 0, .int .i64 0, .int .i64 0, .int .i64 0, .int .i64 0, .int .i64 0, .int .i64 0, .int .i64 0]) 11 Try.underlying26 hi hz0 hz1 .i64 .i64 _ _ n rfl rfl rfl rfl ?q3 ?q4 ?q5 ?_)
  any_goals (first | (rw [hz2]; omega) | (unfold maxLen; omega) | exact Nat.le_refl _)
  intro w1 hown hgrow
  obtain ⟨cur, hg, hcs⟩ : ∃ cur, w1.heap[w.heap.size]? = some (.cells cur 50 (0, 0)) ∧ cur.size = n * 11 := by
    rcases hown.2 with ⟨h', _⟩ | ⟨g', cap', cur, h', _, hg, _, _, hcs, _⟩
    · simp at h'
    · simp only [Value.slice.injEq, Option.some.injEq, Addr.mk.injEq, and_true, true_and] at h'
      obtain ⟨rfl, rfl⟩ := h'
      exact ⟨cur, hg, hcs⟩
  have hg' := hide hg
  have hgrow' := hide hgrow
  have hcs' := hide hcs
  clear hown hg hgrow hcs hi hz0 hz1 hz2
  obtain ⟨w2, hrun, hrow, hgr2⟩ := run_copy_whole 26 26 3 50 Try.underlying26 11 hsz w.heap.size n n ⟨b, 0, none⟩ cp cur _ (unhide hg') (Gd.list m F) ((Gd.list_len m F).trans hm) (Gd.list_src fun c hc => (grown_cell (unhide hgrow') b c hb (by simp)).trans (unhide hF' c hc)) (by rw [Gd.list_len, unhide hcs', hm]) (Gd.list_one (unhide h1'))
  have hfin := hide (Arr.of_list hrow)
  have hgw := hide (show w.grownBy w2 none from grown_own (unhide hgrow') hgr2 (fun k e => by cases e; exact Nat.le_refl _))
  clear hrow hgr2 hb hm hn hsz
  go_wp2
  go_ret
  exact ⟨w.heap.size, rfl, Nat.le_refl _, unhide hfin, unhide hgw⟩

set_option maxHeartbeats 800000 in
theorem twinItems_any (b n m cp : Nat) (F : Nat → Value) (w : World) (hn : n ≤ 1000) (hm : m = n * 4) (h1 : ∀ c, (F c).oneCell' = true) (hF : ∀ c, c < m → w.cell? ⟨b, c, none⟩ = some (F c)) (hb : b < w.heap.size) :
    Calls Try.prog 43 #[.slice (some ⟨b, 0, none⟩) n cp] w (Copies w 38 n m F) := by
  have hF' := hide hF
  have h1' := hide h1
  obtain ⟨i0, hi, hz0, hz1, hz2⟩ := info_parts info_item
  have hsz : (Try.prog.info? 38).map (·.size) = some 4 := by rw [hi]; simp [hz1]
  clear hF h1
  go_enter Try.func43, Try.ntmps43
  go_wp2_with (at_make; refine wpList_make_full _ rfl _ _ 22 rfl w.heap.size 38 i0 (.agg #[.int .i64 0, .int .i64 0, .int .i64 0, .int .i64 0]) 4 Try.underlying22 hi hz0 hz1 .i64 .i64 _ _ n rfl rfl rfl rfl ?q3 ?q4 ?q5 ?_)
  any_goals (first | (rw [hz2]; omega) | (unfold maxLen; omega) | exact Nat.le_refl _)
  intro w1 hown hgrow
  obtain ⟨cur, hg, hcs⟩ : ∃ cur, w1.heap[w.heap.size]? = some (.cells cur 38 (0, 0)) ∧ cur.size = n * 4 := by
    rcases hown.2 with ⟨h', _⟩ | ⟨g', cap', cur, h', _, hg, _, _, hcs, _⟩
    · simp at h'
    · simp only [Value.slice.injEq, Option.some.injEq, Addr.mk.injEq, and_true, true_and] at h'
      obtain ⟨rfl, rfl⟩ := h'
      exact ⟨cur, hg, hcs⟩
  have hg' := hide hg
  have hgrow' := hide hgrow
  have hcs' := hide hcs
  clear hown hg hgrow hcs hi hz0 hz1 hz2
  obtain ⟨w2, hrun, hrow, hgr2⟩ := run_copy_whole 22 22 3 38 Try.underlying22 4 hsz w.heap.size n n ⟨b, 0, none⟩ cp cur _ (unhide hg') (Gd.list m F) ((Gd.list_len m F).trans hm) (Gd.list_src fun c hc => (grown_cell (unhide hgrow') b c hb (by simp)).trans (unhide hF' c hc)) (by rw [Gd.list_len, unhide hcs', hm]) (Gd.list_one (unhide h1'))
  have hfin := hide (Arr.of_list hrow)
  have hgw := hide (show w.grownBy w2 none from grown_own (unhide hgrow') hgr2 (fun k e => by cases e; exact Nat.le_refl _))
  clear hrow hgr2 hb hm hn hsz
  go_wp2
  go_ret
  exact ⟨w.heap.size, rfl, Nat.le_refl _, unhide hfin, unhide hgw⟩

end Go.Proofs.Ythngbjmiblbohaa
