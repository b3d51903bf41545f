/-
  GoodsLots
-/
import Derived.Test.YtbanjoflgoiegaaGreatPart28
import Derived.Test.YtbanjoflgoiegaaGreatPart14
import Derived.Deep.RegionWith
namespace Go.Proofs.YtbanjoflgoiegaaGreat
open Go.RowKit

end Go.Proofs.YtbanjoflgoiegaaGreat
