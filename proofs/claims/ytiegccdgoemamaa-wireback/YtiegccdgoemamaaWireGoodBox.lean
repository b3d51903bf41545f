/-
  Boxes of the law package's own good; the code behind the first pieces of a body.
-/
import Derived.Test.YtiegccdgoemamaaWireLaw
import Derived.Test.YtiegccdgoemamaaTill
import Derived.Deep.MidRow
import Derived.Deep.RegionHeld3
import Derived.Deep.Cut
namespace Go.Proofs.Ytiegccdgoemamaa
open Go.RowKit

/-- A box that is turned, a box for what is handed back; nothing that was there has turned. -/
structure Wr.Gd (w x : World) (M Z : Nat) (F : Nat → Value) : Prop where
  grown : w.grownBy x none
  box : Wr.Bx x M 29 30 F
  res : ∃ q, Wr.Bx x Z 29 30 q
  low : w.heap.size ≤ M ∧ w.heap.size ≤ Z ∧ M ≠ Z

section
variable {w x y : World} {M Z : Nat} {F : Nat → Value}

theorem Wr.Gd.on (h : Wr.Gd w x M Z F) (hg : x.grownBy y none) : Wr.Gd w y M Z F := by
  obtain ⟨q, hq⟩ := h.res
  exact ⟨grown_trans h.grown hg, h.box.on hg, ⟨q, hq.on hg⟩, h.low⟩

theorem Wr.Gd.put (h : Wr.Gd w x M Z F) (k : Nat) (u : Value) : Wr.Gd w (x.setCell ⟨M, k, none⟩ u) M Z (fun j => if j = k then u else F j) := by
  obtain ⟨q, hq⟩ := h.res
  have ht : Turn (fun b => b = M) x (x.setCell ⟨M, k, none⟩ u) := (Turn.refl _ x).store M k u rfl
  exact ⟨grown_store h.grown ⟨M, k, none⟩ h.low.1 u, h.box.store k u, ⟨q, hq.turn ht (fun e => h.low.2.2 e.symm)⟩, h.low⟩

theorem Wr.Gd.far (h : Wr.Gd w x M Z F) {row : Option Nat} (hg : x.grownBy y row) (hr : ∀ b, row = some b → w.heap.size ≤ b ∧ b ≠ M ∧ b ≠ Z) : Wr.Gd w y M Z F := by
  obtain ⟨q, hq⟩ := h.res
  have ht : Turn (fun b => row = some b) x y := ⟨hg.os, hg.tape, hg.output, hg.size, fun k hk hn => hg.block k hk (fun e => hn e.symm)⟩
  exact ⟨grown_own h.grown hg (fun b e => (hr b e).1), h.box.turn ht (fun e => (hr M e).2.1 rfl), ⟨q, hq.turn ht (fun e => (hr Z e).2.2 rfl)⟩, h.low⟩

theorem Wr.Gd.last (h : Wr.Gd w x M Z F) (vs : List Value) : w.grownBy (x.setCells Z 0 vs) none := own_sets h.low.2.1 vs 0 x h.grown

theorem Wr.Gd.first (w : World) (g : Wr.G) : Wr.Gd w ((w.alloc (.cells g.cells 29)).alloc (.cells Wr.G.zero.cells 29)) w.heap.size (w.heap.size + 1) g.box := by
  have g1 := World.grownBy_alloc w (.cells g.cells 29) none
  have g2 := World.grownBy_alloc (w.alloc (.cells g.cells 29)) (.cells Wr.G.zero.cells 29) none
  have b2 := Wr.msgBox (w.alloc (.cells g.cells 29)) Wr.G.zero
  have e1 : (w.alloc (.cells g.cells 29)).heap.size = w.heap.size + 1 := by simp
  rw [e1] at b2
  exact ⟨grown_trans g1 g2, (Wr.msgBox w g).on g2, ⟨_, b2⟩, by omega, by omega, by omega⟩
end

theorem Wr.results_cell {P : Program} {fn : Func} {tmps : Array Value} {a : Nat} {t : TypeId} {p : Addr} {v : Value} {W : World} (hr : fn.results = #[.cell a t]) (ha : tmps.getD a undef = .pointer (some p)) (hl : (loadVar t p).run P W = .ok v W) : (results fn tmps).run P W = .ok v W := by
  unfold results
  rw [hr]
  have ha' : tmps[a]?.getD undef = .pointer (some p) := by rw [← Array.getD_eq_getD_getElem?]; exact ha
  simp [ha', asAddr, hl]

/-- The code behind the first n pieces. -/
def Wr.cdrop : Nat → Code → Code
  | 0, c => c
  | n + 1, .seq _ b => Wr.cdrop n b
  | _ + 1, c => c

end Go.Proofs.Ytiegccdgoemamaa
