/-
  GenRefCorr GenRefMake GoodsSame
-/
import Derived.Test.YtbanjoflgoiegaaGreatPart23
import Derived.Test.YtbanjoflgoiegaaGreatPart19
import Derived.Laws.BytesArg
import Derived.ChangeKeysEq
namespace Go.Proofs.YtbanjoflgoiegaaGreat
open Go.RowKit

structure RefCor (w : World) (B G X Y : Nat) (d : Gn.Dice) (c : Nat → Int) (wr : World) : Prop where
  cells : Arr wr G 5 384 (Byts c)
  xs : Arr wr X 89 6 (fun j => .int .i64 (Gn.mx d j))
  ys : Arr wr Y 89 6 (fun j => .int .i64 (Gn.my d j))
  res : Arr wr B 58 3 (fun _ => .slice none 0 0)
  grown : w.grownBy wr none
  o0 : w.heap.size ≤ B
  o1 : B < G
  o2 : G < X
  o3 : X < Y

theorem RefCor.on {w : World} {B G X Y : Nat} {d : Gn.Dice} {c : Nat → Int} {wr wx : World} (h : RefCor w B G X Y d c wr) (hg : wr.grownBy wx none) : RefCor w B G X Y d c wx :=
  ⟨h.cells.grown hg (by simp), h.xs.grown hg (by simp), h.ys.grown hg (by simp), h.res.grown hg (by simp), grown_none h.grown hg, h.o0, h.o1, h.o2, h.o3⟩

end Go.Proofs.YtbanjoflgoiegaaGreat

namespace Go.Proofs.YtbanjoflgoiegaaGreat
open Go.RowKit

structure RefRoom (w : World) (B G X Y : Nat) (d : Gn.Dice) (k : Nat) (c : Nat → Int) (wr : World) : Prop where
  cells : Arr wr G 5 384 (Byts c)
  xs : Arr wr X 89 6 (fun j => .int .i64 (if j < k then Gn.mx d j else 0))
  ys : Arr wr Y 89 6 (fun j => .int .i64 (if j < k then Gn.my d j else 0))
  res : Arr wr B 58 3 (fun _ => .slice none 0 0)
  grown : w.grownBy wr none
  o0 : w.heap.size ≤ B
  o1 : B < G
  o2 : G < X
  o3 : X < Y

theorem RefRoom.on {w : World} {B G X Y : Nat} {d : Gn.Dice} {k : Nat} {c : Nat → Int} {wr wx : World} (h : RefRoom w B G X Y d k c wr) (hg : wr.grownBy wx none) : RefRoom w B G X Y d k c wx :=
  ⟨h.cells.grown hg (by simp), h.xs.grown hg (by simp), h.ys.grown hg (by simp), h.res.grown hg (by simp), grown_none h.grown hg, h.o0, h.o1, h.o2, h.o3⟩

theorem RefRoom.congr {w : World} {B G X Y : Nat} {d : Gn.Dice} {k : Nat} {c c' : Nat → Int} {wr : World} (h : RefRoom w B G X Y d k c wr) (he : ∀ i, c i = c' i) : RefRoom w B G X Y d k c' wr := by
  obtain rfl : c = c' := funext he
  exact h

theorem RefRoom.put {w : World} {B G X Y : Nat} {d : Gn.Dice} {k : Nat} {c : Nat → Int} {wr : World} (h : RefRoom w B G X Y d k c wr) (i : Nat) (v : Int) : RefRoom w B G X Y d k (Gr.upd c i v) (wr.setCell ⟨G, i, none⟩ (.int .u8 v)) := by
  have h0 := h.o0
  have h1 := h.o1
  have h2 := h.o2
  have h3 := h.o3
  have hg := grown_put wr G i (.int .u8 v)
  exact ⟨h.cells.byte i v, h.xs.grown hg (by simp; omega), h.ys.grown hg (by simp; omega), h.res.grown hg (by simp; omega), grown_own h.grown hg (fun n e => by cases e; omega), h0, h1, h2, h3⟩

theorem RefRoom.next {w : World} {B G X Y : Nat} {d : Gn.Dice} {k : Nat} {c : Nat → Int} {wr : World} (h : RefRoom w B G X Y d k c wr) (u v : Int) (hu : u = Gn.mx d k) (hv : v = Gn.my d k) : RefRoom w B G X Y d (k + 1) c ((wr.setCell ⟨X, k, none⟩ (.int .i64 u)).setCell ⟨Y, k, none⟩ (.int .i64 v)) := by
  have h0 := h.o0
  have h1 := h.o1
  have h2 := h.o2
  have h3 := h.o3
  have g1 := grown_put wr X k (.int .i64 u)
  have g2 := grown_put (wr.setCell ⟨X, k, none⟩ (.int .i64 u)) Y k (.int .i64 v)
  refine ⟨(h.cells.grown g1 (by simp; omega)).grown g2 (by simp; omega), ((h.xs.store k (.int .i64 u)).grown g2 (by simp; omega)).congr fun j _ => fill_more hu j, ((h.ys.grown g1 (by simp; omega)).store k (.int .i64 v)).congr fun j _ => fill_more hv j, (h.res.grown g1 (by simp; omega)).grown g2 (by simp; omega), grown_own (grown_own h.grown g1 (fun n e => by cases e; omega)) g2 (fun n e => by cases e; omega), h0, h1, h2, h3⟩

end Go.Proofs.YtbanjoflgoiegaaGreat

namespace Go.Proofs.YtbanjoflgoiegaaGreat
open Go.RowKit

end Go.Proofs.YtbanjoflgoiegaaGreat
