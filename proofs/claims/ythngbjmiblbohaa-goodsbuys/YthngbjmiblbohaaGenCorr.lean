/-
  All corridors of a floor.
-/
import Derived.Test.YthngbjmiblbohaaGenDig
import Derived.Test.YthngbjmiblbohaaGenRooms
import Derived.Deep.RegionHeld3
namespace Go.Proofs.Ythngbjmiblbohaa
open Go.RowKit

theorem Gn.mid_even (d : Gn.Dice) (k : Nat) : Gn.mid d (k * 2) = Gn.mx d k := by
  unfold Gn.mid
  rw [if_pos (by omega), show k * 2 / 2 = k by omega]

theorem Gn.mid_odd (d : Gn.Dice) (k : Nat) : Gn.mid d (k * 2 + 1) = Gn.my d k := by
  unfold Gn.mid
  rw [if_neg (by omega), show (k * 2 + 1) / 2 = k by omega]

end Go.Proofs.Ythngbjmiblbohaa
