/-
  GoodsToldPut
-/
import Derived.Test.YtbanjoflgoiegaaGreatPart28
namespace Go.Proofs.YtbanjoflgoiegaaGreat
open Go.RowKit

end Go.Proofs.YtbanjoflgoiegaaGreat
