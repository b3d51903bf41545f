/-
  Boxes of a call's own, beside a side.
-/
import Derived.Test.YtiegccdgoemamaaWireList
namespace Go.Proofs.Ytiegccdgoemamaa
open Go.RowKit

/-- A block that holds so many cells. -/
def Wr.Bx (x : World) (g : Nat) (ty : TypeId) (m : Nat) (F : Nat → Value) : Prop := ∃ arr : Array Value, x.heap[g]? = some (.cells arr ty (0, 0)) ∧ arr.size = m ∧ ∀ i, i < m → arr[i]? = some (F i)

section
variable {x y : World} {g m : Nat} {ty : TypeId} {F G : Nat → Value}

theorem Wr.Bx.cell (h : Wr.Bx x g ty m F) {i : Nat} (hi : i < m) : x.cell? ⟨g, i, none⟩ = some (F i) := by
  obtain ⟨arr, h1, _, h3⟩ := h
  rw [cell_of_row _ _ i _ _ (0, 0) h1]
  exact h3 i hi

theorem Wr.Bx.free (h : Wr.Bx x g ty m F) (i : Nat) : x.frozen? ⟨g, i, none⟩ = false := by
  obtain ⟨arr, h1, _, _⟩ := h
  exact frozen_of_row x g i _ _ h1

theorem Wr.Bx.lt (h : Wr.Bx x g ty m F) : g < x.heap.size := by
  obtain ⟨arr, h1, _, _⟩ := h
  exact (Array.getElem?_eq_some_iff.1 h1).1

theorem Wr.Bx.congr (h : Wr.Bx x g ty m F) (he : ∀ i, i < m → F i = G i) : Wr.Bx x g ty m G := by
  obtain ⟨arr, h1, h2, h3⟩ := h
  exact ⟨arr, h1, h2, fun i hi => (h3 i hi).trans (by rw [he i hi])⟩

theorem Wr.Bx.turn {B : Nat → Prop} (h : Wr.Bx x g ty m F) (ht : Turn B x y) (hb : ¬ B g) : Wr.Bx y g ty m F := by
  have hl := h.lt
  obtain ⟨arr, h1, h2, h3⟩ := h
  exact ⟨arr, (ht.block g hl hb).trans h1, h2, h3⟩

theorem Wr.Bx.on (h : Wr.Bx x g ty m F) (hg : x.grownBy y none) : Wr.Bx y g ty m F := h.turn (Turn.new (B := fun _ => False) hg) (fun q => q)

theorem Wr.Bx.store (h : Wr.Bx x g ty m F) (k : Nat) (u : Value) : Wr.Bx (x.setCell ⟨g, k, none⟩ u) g ty m (fun j => if j = k then u else F j) := by
  obtain ⟨arr, h1, h2, h3⟩ := h
  refine ⟨arr.setIfInBounds k u, heap_setCell_same x g k arr ty u h1, by simpa using h2, fun i hi => ?_⟩
  by_cases e : i = k
  · subst e
    simp [h2, hi]
  · show _ = some (if i = k then u else F i)
    rw [if_neg e, Array.getElem?_setIfInBounds_ne (fun q => e q.symm)]
    exact h3 i hi

theorem Wr.Bx.new (w : World) (arr : Array Value) (ty : TypeId) {m : Nat} {F : Nat → Value} (hm : arr.size = m) (h : ∀ i, i < m → arr[i]? = some (F i)) : Wr.Bx (w.alloc (.cells arr ty)) w.heap.size ty m F :=
  ⟨arr, heap_alloc_new w _, hm, h⟩

end

/-- What stands within a call: the row's box, the box that it turns, the box for what is handed back. -/
structure Wr.In {σ : Type} (H : World → σ → (Nat → Prop) → Prop) (w x : World) (B : Nat → Prop) (s : σ) (B' : Nat → Prop) (T : TypeId) (v : Value) (R M Z : Nat) (ty : TypeId) (m : Nat) (F : Nat → Value) : Prop where
  held : H x s B'
  kept : Wr.K w B x B'
  away : ¬ B' R ∧ ¬ B' M ∧ ¬ B' Z
  row : x.cell? ⟨R, 0, none⟩ = some (.iface T v)
  box : Wr.Bx x M ty m F
  res : ∃ q, Wr.Bx x Z ty m q
  low : w.heap.size ≤ R ∧ w.heap.size ≤ M ∧ w.heap.size ≤ Z ∧ R ≠ M ∧ R ≠ Z ∧ M ≠ Z ∧ R < x.heap.size

section
variable {T : TypeId} {v : Value} {f : FuncId} {σ : Type} {step : σ → Int → Int → Int → Int → σ × Int} {H : World → σ → (Nat → Prop) → Prop} {Lv : σ → Prop} {w x y : World} {s s' : σ} {B B' B2 : Nat → Prop} {R M Z m : Nat} {ty : TypeId} {F : Nat → Value}

theorem Wr.In.next (h : Wr.In H w x B s B' T v R M Z ty m F) (hs : H y s' B2) (hk : Wr.K x B' y B2) : Wr.In H w y B s' B2 T v R M Z ty m F := by
  obtain ⟨q, hq⟩ := h.res
  have far : ∀ b, b < x.heap.size → ¬ B' b → ¬ B2 b := fun b hb hn e => by
    rcases hk.own b e with e | e
    · exact hn e
    · omega
  refine ⟨hs, h.kept.trans hk, ⟨far R h.low.2.2.2.2.2.2 h.away.1, far M h.box.lt h.away.2.1, far Z hq.lt h.away.2.2⟩, ?_, h.box.turn hk.turn h.away.2.1, ⟨q, hq.turn hk.turn h.away.2.2⟩, h.low.1, h.low.2.1, h.low.2.2.1, h.low.2.2.2.1, h.low.2.2.2.2.1, h.low.2.2.2.2.2.1, Nat.lt_of_lt_of_le h.low.2.2.2.2.2.2 hk.turn.size⟩
  exact (World.cell?_of_block (a := ⟨R, 0, none⟩) (hk.turn.block R h.low.2.2.2.2.2.2 h.away.1)).trans h.row

theorem Wr.In.put (hS : Wr.Side T v f step H Lv) (h : Wr.In H w x B s B' T v R M Z ty m F) (k : Nat) (u : Value) : Wr.In H w (x.setCell ⟨M, k, none⟩ u) B s B' T v R M Z ty m (fun j => if j = k then u else F j) := by
  obtain ⟨q, hq⟩ := h.res
  have ht : Turn (fun b => b = M) x (x.setCell ⟨M, k, none⟩ u) := (Turn.refl _ x).store M k u rfl
  refine ⟨hS.turned h.held ht (fun b hb e => h.away.2.1 (e ▸ hb)), h.kept.then ht (fun b e => by rw [e]; exact h.low.2.1), h.away, ?_, h.box.store k u, ⟨q, hq.turn ht (fun e => h.low.2.2.2.2.2.1 e.symm)⟩, h.low.1, h.low.2.1, h.low.2.2.1, h.low.2.2.2.1, h.low.2.2.2.2.1, h.low.2.2.2.2.2.1, Nat.lt_of_lt_of_le h.low.2.2.2.2.2.2 ht.size⟩
  exact (World.cell?_of_block (a := ⟨R, 0, none⟩) (ht.block R h.low.2.2.2.2.2.2 h.low.2.2.2.1)).trans h.row

theorem Wr.turn_cells (Z : Nat) : ∀ (vs : List Value) (o : Nat) (x : World), Turn (fun b => b = Z) x (x.setCells Z o vs)
  | [], _, x => Turn.refl _ x
  | u :: vs, o, x => ((Turn.refl (fun b => b = Z) x).store Z o u rfl).trans (Wr.turn_cells Z vs (o + 1) (x.setCell ⟨Z, o, none⟩ u)) (fun _ _ q => q)

/-- At the end. -/
theorem Wr.In.last (hS : Wr.Side T v f step H Lv) (h : Wr.In H w x B s B' T v R M Z ty m F) (vs : List Value) : ∃ B', H (x.setCells Z 0 vs) s B' ∧ Wr.K w B (x.setCells Z 0 vs) B' :=
  ⟨B', hS.turned h.held (Wr.turn_cells Z vs 0 x) (fun b hb e => h.away.2.2 (e ▸ hb)), h.kept.then (Wr.turn_cells Z vs 0 x) (fun b e => by rw [e]; exact h.low.2.2.1)⟩

theorem Wr.In.fixed (hS : Wr.Side T v f step H Lv) (h : Wr.In H w x B s B' T v R M Z ty m F) (vs : List Value) : H (x.setCells Z 0 vs) s B' ∧ Wr.K w B (x.setCells Z 0 vs) B' :=
  ⟨hS.turned h.held (Wr.turn_cells Z vs 0 x) (fun b hb e => h.away.2.2 (e ▸ hb)), h.kept.then (Wr.turn_cells Z vs 0 x) (fun b e => by rw [e]; exact h.low.2.2.1)⟩

/-- What came in stands as it stood. -/
theorem Wr.In.src (h : Wr.In H w x B s B' T v R M Z ty m F) {b : Nat} (hb : b < w.heap.size) (hB : ¬ B b) : b < x.heap.size ∧ ¬ B' b ∧ ∀ i, x.cell? ⟨b, i, none⟩ = w.cell? ⟨b, i, none⟩ :=
  ⟨Nat.lt_of_lt_of_le hb h.kept.turn.size, fun e => by
    rcases h.kept.own b e with e | e
    · exact hB e
    · omega, fun i => World.cell?_of_block (a := ⟨b, i, none⟩) (h.kept.turn.block b hb hB)⟩

/-- At the beginning. -/
theorem Wr.In.first (hS : Wr.Side T v f step H Lv) (hs : H w s B) (arr zero : Array Value) (hm : arr.size = m) (hF : ∀ i, i < m → arr[i]? = some (F i)) (hz : zero.size = m) :
    Wr.In H w (((w.alloc (.cells #[.iface T v] 73)).alloc (.cells arr ty)).alloc (.cells zero ty)) B s B T v w.heap.size (w.heap.size + 1) (w.heap.size + 1 + 1) ty m F := by
  have g1 := World.grownBy_alloc w (.cells #[.iface T v] 73) none
  have g2 := World.grownBy_alloc (w.alloc (.cells #[.iface T v] 73)) (.cells arr ty) none
  have g3 := World.grownBy_alloc ((w.alloc (.cells #[.iface T v] 73)).alloc (.cells arr ty)) (.cells zero ty) none
  have e1 : (w.alloc (.cells #[.iface T v] 73)).heap.size = w.heap.size + 1 := by simp
  have e2 : ((w.alloc (.cells #[.iface T v] 73)).alloc (.cells arr ty)).heap.size = w.heap.size + 1 + 1 := by simp
  have b1 := (Wr.Bx.new (w.alloc (.cells #[.iface T v] 73)) arr ty hm hF).on g3
  have b2 := Wr.Bx.new ((w.alloc (.cells #[.iface T v] 73)).alloc (.cells arr ty)) zero ty (F := fun i => zero[i]?.getD undef) hz (fun i hi => by rw [Array.getElem?_eq_getElem (by omega)]; rfl)
  rw [e1] at b1
  rw [e2] at b2
  have hg : w.grownBy (((w.alloc (.cells #[.iface T v] 73)).alloc (.cells arr ty)).alloc (.cells zero ty)) none := ⟨rfl, rfl, rfl, by simp; omega, fun k hk hr => ((g3.block k (by rw [e2]; omega) (by simp)).trans (g2.block k (by rw [e1]; omega) (by simp))).trans (g1.block k hk (by simp))⟩
  have hlt := hS.lt hs
  refine ⟨hS.on hs hg, (Wr.K.refl w B).then (Turn.new (B := fun _ => False) hg) (fun _ q => q.elim), ⟨fun e => by have := hlt _ e; omega, fun e => by have := hlt _ e; omega, fun e => by have := hlt _ e; omega⟩, ?_, b1, ⟨_, b2⟩, Nat.le_refl _, by omega, by omega, by omega, by omega, by omega, by simp; omega⟩
  have h1 := Wr.row_cell w T v
  exact (World.cell?_of_block (a := ⟨w.heap.size, 0, none⟩) ((g3.block _ (by rw [e2]; show w.heap.size < _; omega) (by simp)).trans (g2.block _ (by rw [e1]; show w.heap.size < _; omega) (by simp)))).trans h1

end

end Go.Proofs.Ytiegccdgoemamaa
