import Derived.Test.YtapgkgbpekkdjaaGreatPart32
import Derived.Test.YtapgkgbpekkdjaaGreatPart27
namespace Go.Proofs.YtapgkgbpekkdjaaGreat
open Go.RowKit

theorem Cr.Hand.back {w x:World} {B R gC gE gI cC cE cI oC oE oI:Nat} {s g c:Nat→Int} {E I:Nat→Nat→Int} (h:Cr.Hand w x B gC gE gI cC cE cI s g c E I) (lR:w.heap.size≤R) (nC:R≠gC) (nE:R≠gE) (nI:R≠gI) (l1:gC=oC∨w.heap.size≤gC) (l2:gE=oE∨w.heap.size≤gE) (l3:gI=oI∨w.heap.size≤gI) (vs:List Value) :
  Cr.Back w oC oE oI s g c E I (.returned (.agg (Gd.world s gC gE gI cC cE cI g))) (x.setCells R 0 vs):=by
 have r:=gss (g:=R) vs 0 x (World.grownBy.refl _ _)
 exact ⟨gC,gE,gI,cC,cE,cI,rfl,h.cap,l1,l2,l3,h.hold.cE,h.hold.cI,h.hold.eI,⟨h.hold.lists.cells.grown r (by simpa using nC),h.hold.lists.ents.grown r (by simpa using nE),h.hold.lists.items.grown r (by simpa using nI)⟩,own_sets lR _ 0 x h.grown⟩

end Go.Proofs.YtapgkgbpekkdjaaGreat
