/-
  No cell of these rows narrows 'for every input' (looked for: loops, veiled, ifaces, maps, wideKeys, modest, calm, conditions, laid).
  DERIVED. THE GIVEN ROWS OF THIS SEAT. 4 by the template 'for every input the law returns true; each argument reads behind the call as it read before'; 0 by the template 'total and deterministic' (their statements: YtbooojkhcnfhbaaTotals.lean).
  GIVEN WITH THE SEED: the statements are not yours to turn. If you find one false, say at which input.
  Laid BY PROGRAM, IN A SANDBOX (cutbox-rows.mjs): the forced cells as the released guide's own fill.sh prints them over the translation 11dbcd26a2902ecc… (all of the seat's roots in one cut). By AI agents, Wed Nov 11 2026. No macro, syntax, notation, axiom, sorry.
-/
import Derived.Test.YtbooojkhcnfhbaaChecked
import GoSem.Claim
import GoSem.ClaimJoined
import GoSem.ClaimMapViews
import Derived.JoinedTies
import Derived.KernelRfl
namespace Go.Proofs.Ytbooojkhcnfhbaa
/- THE CELL 'sum', in the pinned program and in every row, IS THE sha256 OF THE DUMP (.gsa) THAT YtbooojkhcnfhbaaProg.lean LOADS. Nothing in Lean hashes anything: it is a label: what it is worth is what the hold of that sum in a sandbox is worth. -/
noncomputable def Try.pinned : Pinned := { name := "ytbooojkhcnfhbaa", sum := "11dbcd26a2902ecc8367a6ed2514e9be315b302211250fb497c6bf7465398688", checked := Try.checked }
namespace Rows
def none {H : Type} : Left H := { results := [], args := [] }

/-- 'aditlaw5.EntsAsks': WHATEVER THE INPUT: true; the input reads as it did. -/
def entsAsksSpec : ChangeSpec := { name := "entsAsks", fn := fun _ => fun
  | [d1, d2, d3, d4, d5, d6, d7] => { results := [.lit (.bool true)], args := [d1, d2, d3, d4, d5, d6, d7] }
  | _ => none }
def entsAsksRow : OpenClaim := { program := "ytbooojkhcnfhbaa", sum := "11dbcd26a2902ecc8367a6ed2514e9be315b302211250fb497c6bf7465398688", func := "adit/aditlaw5.EntsAsks", spec := "entsAsks", unfollowed := true, recurses := true, apart := false }
def EntsAsksSaid : Prop := entsAsksRow.holds Try.pinned (OpenSpec.ofChange entsAsksSpec)

/-- ITS FALSE NEIGHBOUR: 'it returns false'. Refute it at one input. -/
def entsAsksWrong : ChangeSpec := { name := "entsAsks", fn := fun _ => fun
  | [d1, d2, d3, d4, d5, d6, d7] => { results := [.lit (.bool false)], args := [d1, d2, d3, d4, d5, d6, d7] }
  | _ => none }
def EntsAsksWrongFalsely : Prop := entsAsksRow.holds Try.pinned (OpenSpec.ofChange entsAsksWrong)

/-- 'aditlaw5.EntsTurns': WHATEVER THE INPUT: true; the input reads as it did. -/
def entsTurnsSpec : ChangeSpec := { name := "entsTurns", fn := fun _ => fun
  | [d] => { results := [.lit (.bool true)], args := [d] }
  | _ => none }
def entsTurnsRow : OpenClaim := { program := "ytbooojkhcnfhbaa", sum := "11dbcd26a2902ecc8367a6ed2514e9be315b302211250fb497c6bf7465398688", func := "adit/aditlaw5.EntsTurns", spec := "entsTurns", unfollowed := true, recurses := true, apart := false }
def EntsTurnsSaid : Prop := entsTurnsRow.holds Try.pinned (OpenSpec.ofChange entsTurnsSpec)

/-- ITS FALSE NEIGHBOUR: 'it returns false'. Refute it at one input. -/
def entsTurnsWrong : ChangeSpec := { name := "entsTurns", fn := fun _ => fun
  | [d] => { results := [.lit (.bool false)], args := [d] }
  | _ => none }
def EntsTurnsWrongFalsely : Prop := entsTurnsRow.holds Try.pinned (OpenSpec.ofChange entsTurnsWrong)

/-- 'aditlaw5.EntsFinds': WHATEVER THE INPUT: true; the input reads as it did. -/
def entsFindsSpec : ChangeSpec := { name := "entsFinds", fn := fun _ => fun
  | [d1, d2] => { results := [.lit (.bool true)], args := [d1, d2] }
  | _ => none }
def entsFindsRow : OpenClaim := { program := "ytbooojkhcnfhbaa", sum := "11dbcd26a2902ecc8367a6ed2514e9be315b302211250fb497c6bf7465398688", func := "adit/aditlaw5.EntsFinds", spec := "entsFinds", unfollowed := true, recurses := true, apart := false }
def EntsFindsSaid : Prop := entsFindsRow.holds Try.pinned (OpenSpec.ofChange entsFindsSpec)

/-- ITS FALSE NEIGHBOUR: 'it returns false'. Refute it at one input. -/
def entsFindsWrong : ChangeSpec := { name := "entsFinds", fn := fun _ => fun
  | [d1, d2] => { results := [.lit (.bool false)], args := [d1, d2] }
  | _ => none }
def EntsFindsWrongFalsely : Prop := entsFindsRow.holds Try.pinned (OpenSpec.ofChange entsFindsWrong)

/-- 'aditlaw5.EntsFull': WHATEVER THE INPUT: true; the input reads as it did. -/
def entsFullSpec : ChangeSpec := { name := "entsFull", fn := fun _ => fun
  | [d1, d2] => { results := [.lit (.bool true)], args := [d1, d2] }
  | _ => none }
def entsFullRow : OpenClaim := { program := "ytbooojkhcnfhbaa", sum := "11dbcd26a2902ecc8367a6ed2514e9be315b302211250fb497c6bf7465398688", func := "adit/aditlaw5.EntsFull", spec := "entsFull", unfollowed := true, recurses := true, apart := false }
def EntsFullSaid : Prop := entsFullRow.holds Try.pinned (OpenSpec.ofChange entsFullSpec)

/-- ITS FALSE NEIGHBOUR: 'it returns false'. Refute it at one input. -/
def entsFullWrong : ChangeSpec := { name := "entsFull", fn := fun _ => fun
  | [d1, d2] => { results := [.lit (.bool false)], args := [d1, d2] }
  | _ => none }
def EntsFullWrongFalsely : Prop := entsFullRow.holds Try.pinned (OpenSpec.ofChange entsFullWrong)

/- THE SECOND FORM. 'bulk': how many values and letters a reading holds, each counted each time it is reached (what is shared counts as often as it is met; a slice's spare places count too). A statement '..UptoSaid' is the law's where the arguments, and the package variables that the reading takes, are together of bulk at most 1048576: NARROWER than '..Said'. Prove '..Said' where nothing that the law and all that it calls make is longer than what came in: it says more and counts as full. Else prove '..UptoSaid'. A law counts once. -/
mutual
def uptoBulk {H : Type} : DataW H → Nat
  | .lit (.string bytes) => bytes.length + 1
  | .lit _ => 1
  | .nil => 1
  | .ptr d => uptoBulk d + 1
  | .slice elems spare => uptoBulkAll elems + uptoBulkAll spare + 1
  | .agg parts => uptoBulkAll parts + 1
  | .iface _ d => uptoBulk d + 1
  | .map entries => uptoBulkEntries entries + 1
  | .held _ => 1
def uptoBulkAll {H : Type} : List (DataW H) → Nat
  | [] => 0
  | d :: r => uptoBulk d + uptoBulkAll r
def uptoBulkEntries {H : Type} : List (Lit × DataW H) → Nat
  | [] => 0
  | x :: r => uptoBulkEntry x + uptoBulkEntries r
def uptoBulkEntry {H : Type} : Lit × DataW H → Nat
  | (.string bytes, d) => bytes.length + uptoBulk d + 1
  | (_, d) => uptoBulk d + 1
 end
def uptoSmall : (H : Type) → List (DataW H) → Bool := fun _ ds => decide (uptoBulkAll ds ≤ 1048576)
def OpenSpec.upto (s : _root_.Go.ChangeSpec) : _root_.Go.OpenSpec := { _root_.Go.OpenSpec.ofChange s with cond := some uptoSmall }

/-- 'aditlaw5.EntsAsks', WHERE WHAT IT READS IS OF BULK AT MOST 1048576: true; the input reads as it did. -/
def entsAsksUptoRow : OpenClaim := { program := "ytbooojkhcnfhbaa", sum := "11dbcd26a2902ecc8367a6ed2514e9be315b302211250fb497c6bf7465398688", func := "adit/aditlaw5.EntsAsks", spec := "entsAsks", unfollowed := true, recurses := true, apart := false, narrowed := true }
def EntsAsksUptoSaid : Prop := entsAsksUptoRow.holds Try.pinned (OpenSpec.upto entsAsksSpec)

/-- 'aditlaw5.EntsTurns', WHERE WHAT IT READS IS OF BULK AT MOST 1048576: true; the input reads as it did. -/
def entsTurnsUptoRow : OpenClaim := { program := "ytbooojkhcnfhbaa", sum := "11dbcd26a2902ecc8367a6ed2514e9be315b302211250fb497c6bf7465398688", func := "adit/aditlaw5.EntsTurns", spec := "entsTurns", unfollowed := true, recurses := true, apart := false, narrowed := true }
def EntsTurnsUptoSaid : Prop := entsTurnsUptoRow.holds Try.pinned (OpenSpec.upto entsTurnsSpec)

/-- 'aditlaw5.EntsFinds', WHERE WHAT IT READS IS OF BULK AT MOST 1048576: true; the input reads as it did. -/
def entsFindsUptoRow : OpenClaim := { program := "ytbooojkhcnfhbaa", sum := "11dbcd26a2902ecc8367a6ed2514e9be315b302211250fb497c6bf7465398688", func := "adit/aditlaw5.EntsFinds", spec := "entsFinds", unfollowed := true, recurses := true, apart := false, narrowed := true }
def EntsFindsUptoSaid : Prop := entsFindsUptoRow.holds Try.pinned (OpenSpec.upto entsFindsSpec)

/-- 'aditlaw5.EntsFull', WHERE WHAT IT READS IS OF BULK AT MOST 1048576: true; the input reads as it did. -/
def entsFullUptoRow : OpenClaim := { program := "ytbooojkhcnfhbaa", sum := "11dbcd26a2902ecc8367a6ed2514e9be315b302211250fb497c6bf7465398688", func := "adit/aditlaw5.EntsFull", spec := "entsFull", unfollowed := true, recurses := true, apart := false, narrowed := true }
def EntsFullUptoSaid : Prop := entsFullUptoRow.holds Try.pinned (OpenSpec.upto entsFullSpec)

end Rows
end Go.Proofs.Ytbooojkhcnfhbaa
