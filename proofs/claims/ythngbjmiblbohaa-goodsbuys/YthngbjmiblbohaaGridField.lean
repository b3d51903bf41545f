/-
  The program's field: ring by ring, by a goto from one to the next.
-/
import Derived.Test.YthngbjmiblbohaaGridIn
import Derived.Test.YthngbjmiblbohaaGhost
namespace Go.Proofs.Ythngbjmiblbohaa
open Go.RowKit

/-- A call hands back the field. -/
def IsFieldOf (w : World) (op tg : Nat → Prop) (e : Ending) (w' : World) : Prop := ∃ F, Made w 3 384 (Ints F) e w' ∧ Gr.IsField op tg F

end Go.Proofs.Ythngbjmiblbohaa
