/-
  One step nearer, of the program and of the document said again.
-/
import Derived.Test.YthngbjmiblbohaaGenSmall
import Derived.Deep.RegionHeld3
namespace Go.Proofs.Ythngbjmiblbohaa
open Go.RowKit

def Gn.way (x y tx ty : Int) (first : Bool) : Bool := (y == ty) || (first && x != tx)
def Gn.stepX (x y tx ty : Int) (first : Bool) : Int := if Gn.way x y tx ty first then Gn.to1 x tx else x
def Gn.stepY (x y tx ty : Int) (first : Bool) : Int := if Gn.way x y tx ty first then y else Gn.to1 y ty

theorem Gn.cmp_add (a b : Int) : a + Gn.cmp b a = Gn.to1 a b := by
  unfold Gn.cmp Gn.to1
  split
  · split <;> omega
  · split <;> omega

theorem Gn.cmp_bd (a b : Int) : -1 ≤ Gn.cmp a b ∧ Gn.cmp a b ≤ 1 := by
  unfold Gn.cmp
  split
  · omega
  · split <;> omega

theorem grown_drew1 {a b : World} {r : Option Nat} (h : a.grownBy b r) : a.grownBy b.drew r := ⟨h.os, h.tape, h.output, h.size, h.block⟩

theorem grown_three (w : World) (o1 o2 o3 : Obj) : w.grownBy (((w.alloc o1).alloc o2).alloc o3).drew none := grown_drew1 (grown_alloc (grown_alloc (World.grownBy_alloc _ _ _) _) _)

end Go.Proofs.Ythngbjmiblbohaa
