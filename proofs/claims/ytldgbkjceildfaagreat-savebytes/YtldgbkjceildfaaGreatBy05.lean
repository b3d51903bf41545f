import Derived.Test.YtldgbkjceildfaaGreatBy02
import Derived.Deep.LoopGhost
namespace Go.Proofs.YtldgbkjceildfaaGreat
open Go.RowKit

theorem gs0 (w:World) (g i:Nat) (u:Value):w.grownBy (w.setCell ⟨g,i,none⟩ u) (some g):=gst (World.grownBy.refl _ _) i u

end Go.Proofs.YtldgbkjceildfaaGreat
