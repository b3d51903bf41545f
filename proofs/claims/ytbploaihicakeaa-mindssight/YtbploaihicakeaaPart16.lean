/-
  What a hero does with an item, in goods: what is worn, dropped, taken up and bought.
  What a hero does with an item, in goods: what comes into the bag.
-/
import Derived.Test.YtbploaihicakeaaPart15
namespace Go.Proofs.Ytbploaihicakeaa
open Go.RowKit

end Go.Proofs.Ytbploaihicakeaa

namespace Go.Proofs.Ytbploaihicakeaa
open Go.RowKit

end Go.Proofs.Ytbploaihicakeaa
