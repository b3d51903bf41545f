import Derived.Test.YtapgkgbpekkdjaaPart17
import Derived.Deep.Cut
import Derived.Deep.RegionWith
namespace Go.Proofs.Ytapgkgbpekkdjaa
open Go.RowKit

theorem Lie.put {x:World} {g m:Nat} {T:TypeId} {I:Nat→Nat→Int} (h:Lie x g T m (Gd.flat I)) (k:Nat) (a b c d:Int):Lie ((((x.setCell ⟨g,k*4,none⟩ (.int .i64 a)).setCell ⟨g,k*4+1,none⟩ (.int .i64 b)).setCell ⟨g,k*4+2,none⟩ (.int .i64 c)).setCell ⟨g,k*4+3,none⟩ (.int .i64 d)) g T m (Gd.flat (En.put I k (Gd.row a b c d))):=h.item k (Gd.row a b c d)

theorem grown_put4 {x y:World} {g:Nat} (h:x.grownBy y (some g)) (k:Nat) (a b c d:Value):x.grownBy ((((y.setCell ⟨g,k*4,none⟩ a).setCell ⟨g,k*4+1,none⟩ b).setCell ⟨g,k*4+2,none⟩ c).setCell ⟨g,k*4+3,none⟩ d) (some g) :=
 gst (gst (gst (gst h _ _) _ _) _ _) _ _

theorem grown_some {x y:World} {r:Option Nat} (h:x.grownBy y none):x.grownBy y r :=
 ⟨h.os,h.tape,h.output,h.size,fun i hi _=>h.block i hi (fun e=>by cases e)⟩

end Go.Proofs.Ytapgkgbpekkdjaa
