/-
  What a call may have turned: some blocks, and new ones; all others are as they were.
-/
import Derived.Test.YtiegccdgoemamaaEntMem
import Derived.Deep.Cut
namespace Go.Proofs.Ytiegccdgoemamaa
open Go.RowKit

/-- All blocks but those of B are as they were. -/
structure Turn (B : Nat → Prop) (w w' : World) : Prop where
  os : w'.os = w.os
  tape : w'.tape = w.tape
  output : w'.output = w.output
  size : w.heap.size ≤ w'.heap.size
  block : ∀ k, k < w.heap.size → ¬ B k → w'.heap[k]? = w.heap[k]?

theorem Turn.refl (B : Nat → Prop) (w : World) : Turn B w w := ⟨rfl, rfl, rfl, Nat.le_refl _, fun _ _ _ => rfl⟩

theorem Turn.trans {B C : Nat → Prop} {a b c : World} (h : Turn B a b) (k : Turn C b c) (hC : ∀ i, i < a.heap.size → C i → B i) : Turn B a c :=
  ⟨k.os.trans h.os, k.tape.trans h.tape, k.output.trans h.output, Nat.le_trans h.size k.size, fun i hi hb => (k.block i (Nat.lt_of_lt_of_le hi h.size) (fun q => hb (hC i hi q))).trans (h.block i hi hb)⟩

theorem Turn.mono {B C : Nat → Prop} {a b : World} (h : Turn B a b) (hC : ∀ i, B i → C i) : Turn C a b :=
  ⟨h.os, h.tape, h.output, h.size, fun i hi hc => h.block i hi (fun q => hc (hC i q))⟩

theorem Turn.grown {B : Nat → Prop} {a b : World} {r : Option Nat} (h : a.grownBy b r) (hr : ∀ k, r = some k → B k) : Turn B a b :=
  ⟨h.os, h.tape, h.output, h.size, fun i hi hb => h.block i hi (fun e => hb (hr i e.symm))⟩

theorem Turn.new {B : Nat → Prop} {a b : World} (h : a.grownBy b none) : Turn B a b := Turn.grown h (fun _ e => by cases e)

theorem Turn.then {B : Nat → Prop} {a b c : World} (h : Turn B a b) (k : b.grownBy c none) : Turn B a c := h.trans (C := fun _ => False) (Turn.new k) (fun _ _ q => q.elim)

theorem Turn.below {B : Nat → Prop} {a b : World} {N : Nat} (h : Turn B a b) (hN : N ≤ a.heap.size) (hB : ∀ i, B i → N ≤ i) : Below N a b :=
  ⟨h.os, h.tape, h.output, h.size, fun k hk => h.block k (Nat.lt_of_lt_of_le hk hN) (fun q => Nat.not_lt_of_le (hB k q) hk)⟩

theorem Turn.grownBy {a b : World} (h : Turn (fun _ => False) a b) : a.grownBy b none := ⟨h.os, h.tape, h.output, h.size, fun k hk _ => h.block k hk (fun q => q)⟩

theorem Turn.cell {B : Nat → Prop} {a b : World} (h : Turn B a b) {k : Nat} (hk : k < a.heap.size) (hb : ¬ B k) (i : Nat) : b.cell? ⟨k, i, none⟩ = a.cell? ⟨k, i, none⟩ :=
  World.cell?_of_block (a := ⟨k, i, none⟩) (h.block k hk hb)

theorem Arr.turn {B : Nat → Prop} {a b : World} {g : Nat} {T : TypeId} {n : Nat} {F : Nat → Value} (h : Arr a g T n F) (ht : Turn B a b) (hb : ¬ B g) : Arr b g T n F := by
  have hlt := h.lt
  obtain ⟨cur, hg, hs, hc⟩ := h
  exact ⟨cur, (ht.block g hlt hb).trans hg, hs, hc⟩

theorem Turn.store {B : Nat → Prop} {a b : World} (h : Turn B a b) (g i : Nat) (v : Value) (hg : B g) : Turn B a (b.setCell ⟨g, i, none⟩ v) := by
  have hb : b.grownBy (b.setCell ⟨g, i, none⟩ v) (some g) := ⟨rfl, rfl, rfl, by simp, fun k _ hk => heap_setCell_other b ⟨g, i, none⟩ k v (fun e => hk (by rw [e]))⟩
  exact h.trans (Turn.grown (B := fun k => k = g) hb (fun k e => by cases e; rfl)) (fun k _ e => by cases e; exact hg)

/-- A store into a block that is new since a. -/
theorem Turn.fresh {B : Nat → Prop} {a b : World} (h : Turn B a b) (g i : Nat) (v : Value) (hg : a.heap.size ≤ g) : Turn B a (b.setCell ⟨g, i, none⟩ v) := by
  have hb : b.grownBy (b.setCell ⟨g, i, none⟩ v) (some g) := ⟨rfl, rfl, rfl, by simp, fun k _ hk => heap_setCell_other b ⟨g, i, none⟩ k v (fun e => hk (by rw [e]))⟩
  exact h.trans (Turn.grown (B := fun k => k = g) hb (fun k e => by cases e; rfl)) (fun k hk e => by cases e; exact absurd hk (Nat.not_lt_of_le hg))

theorem Turn.drew {B : Nat → Prop} {a b : World} (h : Turn B a b) (n : Nat) : Turn B a (b.drewN n) := h.then (grown_drew (World.grownBy.refl _ none) n)

theorem Turn.alloc {B : Nat → Prop} {a b : World} (h : Turn B a b) (o : Obj) : Turn B a (b.alloc o) := h.then (World.grownBy_alloc _ _ _)

end Go.Proofs.Ytiegccdgoemamaa
