import Derived.Test.YtbanjoflgoiegaaGreatPart20
import Derived.Test.YtbanjoflgoiegaaGreatPart21
import Derived.Deep.CutRange
import Derived.Deep.CutBlock
namespace Go.Proofs.YtbanjoflgoiegaaGreat
open Go.RowKit
def cin:Code->Code
 | .block _ b=>b
 | .loop b=>b
 | c=>c
