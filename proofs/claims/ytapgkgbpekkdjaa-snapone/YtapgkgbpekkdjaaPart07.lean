import Derived.Test.YtapgkgbpekkdjaaPart06
import Derived.Deep.RegionHeld3
namespace Go.Proofs.Ytapgkgbpekkdjaa
open Go.RowKit

def Gn.way (x y tx ty:Int) (first:Bool):Bool:=(y == ty) || (first && x != tx)
def Gn.stepX (x y tx ty:Int) (first:Bool):Int:=if Gn.way x y tx ty first then Gn.to1 x tx else x
def Gn.stepY (x y tx ty:Int) (first:Bool):Int:=if Gn.way x y tx ty first then y else Gn.to1 y ty

theorem gd1 {a b:World} {r:Option Nat} (h:a.grownBy b r):a.grownBy b.drew r:=⟨h.os,h.tape,h.output,h.size,h.block⟩

end Go.Proofs.Ytapgkgbpekkdjaa
