/-
  The law package's own 'known' and 'within'.
-/
import Derived.Test.YthofgjphoahkfaaGenFacts
namespace Go.Proofs.Ythofgjphoahkfaa
open Go.RowKit

/-- Of a seed and a floor: its dice. -/
theorem dice_of (s f : Int) : ∃ d : Gn.Dice, (∀ a b n, Gn.D s f a b n = d a b n) ∧ Gn.Fair d := ⟨fun a b n => Gn.D s f a b n, fun _ _ _ => rfl, fun a b n h => Gn.D_bd s f a b n h⟩

end Go.Proofs.Ythofgjphoahkfaa
