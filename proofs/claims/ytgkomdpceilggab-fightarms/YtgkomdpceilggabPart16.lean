/-
  What a hero does with an item, in goods: what is worn, dropped, taken up and bought.
  What a hero does with an item, in goods: what comes into the bag.
-/
import Derived.Test.YtgkomdpceilggabPart15
namespace Go.Proofs.Ytgkomdpceilggab
open Go.RowKit

end Go.Proofs.Ytgkomdpceilggab

namespace Go.Proofs.Ytgkomdpceilggab
open Go.RowKit

end Go.Proofs.Ytgkomdpceilggab
