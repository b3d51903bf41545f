import Derived.Test.YtapgkgbpekkdjaaPart21
import Derived.Deep.RegionWith
namespace Go.Proofs.Ytapgkgbpekkdjaa
open Go.RowKit

theorem Lie.put {x:World} {g m:Nat} {T:TypeId} {I:Nat→Nat→Int} (h:Lie x g T m (Gd.flat I)) (k:Nat) (a b c d:Int):Lie ((((x.setCell ⟨g,k*4,none⟩ (.int .i64 a)).setCell ⟨g,k*4+1,none⟩ (.int .i64 b)).setCell ⟨g,k*4+2,none⟩ (.int .i64 c)).setCell ⟨g,k*4+3,none⟩ (.int .i64 d)) g T m (Gd.flat (En.put I k (Gd.row a b c d))):=h.item k (Gd.row a b c d)

theorem grown_put4 {x y:World} {g:Nat} (h:x.grownBy y (some g)) (k:Nat) (a b c d:Value):x.grownBy ((((y.setCell ⟨g,k*4,none⟩ a).setCell ⟨g,k*4+1,none⟩ b).setCell ⟨g,k*4+2,none⟩ c).setCell ⟨g,k*4+3,none⟩ d) (some g) :=
 gst (gst (gst (gst h _ _) _ _) _ _) _ _

end Go.Proofs.Ytapgkgbpekkdjaa
