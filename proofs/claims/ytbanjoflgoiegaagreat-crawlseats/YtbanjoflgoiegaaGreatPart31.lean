/-
  GoodsTold
-/
import Derived.Test.YtbanjoflgoiegaaGreatPart29
import Derived.Test.YtbanjoflgoiegaaGreatPart30
namespace Go.Proofs.YtbanjoflgoiegaaGreat
open Go.RowKit

end Go.Proofs.YtbanjoflgoiegaaGreat
