/-
  No cell of these rows narrows 'for every input' (looked for: loops, veiled, ifaces, maps, wideKeys, modest, calm, conditions, laid).
  DERIVED. THE GIVEN ROWS OF THIS SEAT. 3 by the template 'for every input the law returns true; each argument reads behind the call as it read before'; 0 by the template 'total and deterministic' (their statements: YtldgbkjceildfaaGreatTotals.lean).
  GIVEN WITH THE SEED: the statements are not yours to turn. If you find one false, say at which input.
  Laid BY PROGRAM, IN A SANDBOX (cutbox-rows.mjs): the forced cells as the released guide's own fill.sh prints them over the translation 923186b061b9c859… (all of the seat's roots in one cut). By AI agents, Wed Nov 11 2026. No macro, syntax, notation, axiom, sorry.
-/
import Derived.Test.YtldgbkjceildfaaGreatChecked
import GoSem.Claim
import GoSem.ClaimJoined
import GoSem.ClaimMapViews
import Derived.JoinedTies
import Derived.KernelRfl
namespace Go.Proofs.YtldgbkjceildfaaGreat
/- THE CELL 'sum', in the pinned program and in every row, IS THE sha256 OF THE DUMP (.gsa) THAT YtldgbkjceildfaaGreatProg.lean LOADS. Nothing in Lean hashes anything: it is a label: what it is worth is what the hold of that sum in a sandbox is worth. -/
noncomputable def Tryz.pinned : Pinned := { name := "ytldgbkjceildfaagreat", sum := "923186b061b9c8596d180a9394af396ae20a0ec40309680d715aedad3ee549a5", checked := Tryz.checked }
namespace Rows
def none {H : Type} : Left H := { results := [], args := [] }

/-- 'aditlaw14.SaveBytes': WHATEVER THE INPUT: true; the input reads as it did. -/
def saveBytesSpec : ChangeSpec := { name := "saveBytes", fn := fun _ => fun
  | [d1, d2, d3, d4, d5, d6, d7] => { results := [.lit (.bool true)], args := [d1, d2, d3, d4, d5, d6, d7] }
  | _ => none }
def saveBytesRow : OpenClaim := { program := "ytldgbkjceildfaagreat", sum := "923186b061b9c8596d180a9394af396ae20a0ec40309680d715aedad3ee549a5", func := "adit/aditlaw14.SaveBytes", spec := "saveBytes", unfollowed := true, recurses := true, apart := false }
def SaveBytesSaid : Prop := saveBytesRow.holds Tryz.pinned (OpenSpec.ofChange saveBytesSpec)

/-- ITS FALSE NEIGHBOUR: 'it returns false'. Refute it at one input. -/
def saveBytesWrong : ChangeSpec := { name := "saveBytes", fn := fun _ => fun
  | [d1, d2, d3, d4, d5, d6, d7] => { results := [.lit (.bool false)], args := [d1, d2, d3, d4, d5, d6, d7] }
  | _ => none }
def SaveBytesWrongFalsely : Prop := saveBytesRow.holds Tryz.pinned (OpenSpec.ofChange saveBytesWrong)

/-- 'aditlaw14.SaveCuts': WHATEVER THE INPUT: true; the input reads as it did. -/
def saveCutsSpec : ChangeSpec := { name := "saveCuts", fn := fun _ => fun
  | [d1, d2, d3, d4, d5] => { results := [.lit (.bool true)], args := [d1, d2, d3, d4, d5] }
  | _ => none }
def saveCutsRow : OpenClaim := { program := "ytldgbkjceildfaagreat", sum := "923186b061b9c8596d180a9394af396ae20a0ec40309680d715aedad3ee549a5", func := "adit/aditlaw14.SaveCuts", spec := "saveCuts", unfollowed := true, recurses := true, apart := false }
def SaveCutsSaid : Prop := saveCutsRow.holds Tryz.pinned (OpenSpec.ofChange saveCutsSpec)

/-- ITS FALSE NEIGHBOUR: 'it returns false'. Refute it at one input. -/
def saveCutsWrong : ChangeSpec := { name := "saveCuts", fn := fun _ => fun
  | [d1, d2, d3, d4, d5] => { results := [.lit (.bool false)], args := [d1, d2, d3, d4, d5] }
  | _ => none }
def SaveCutsWrongFalsely : Prop := saveCutsRow.holds Tryz.pinned (OpenSpec.ofChange saveCutsWrong)

/-- 'aditlaw14.SaveTwoCuts': WHATEVER THE INPUT: true; the input reads as it did. -/
def saveTwoCutsSpec : ChangeSpec := { name := "saveTwoCuts", fn := fun _ => fun
  | [d1, d2, d3, d4, d5] => { results := [.lit (.bool true)], args := [d1, d2, d3, d4, d5] }
  | _ => none }
def saveTwoCutsRow : OpenClaim := { program := "ytldgbkjceildfaagreat", sum := "923186b061b9c8596d180a9394af396ae20a0ec40309680d715aedad3ee549a5", func := "adit/aditlaw14.SaveTwoCuts", spec := "saveTwoCuts", unfollowed := true, recurses := true, apart := false }
def SaveTwoCutsSaid : Prop := saveTwoCutsRow.holds Tryz.pinned (OpenSpec.ofChange saveTwoCutsSpec)

/-- ITS FALSE NEIGHBOUR: 'it returns false'. Refute it at one input. -/
def saveTwoCutsWrong : ChangeSpec := { name := "saveTwoCuts", fn := fun _ => fun
  | [d1, d2, d3, d4, d5] => { results := [.lit (.bool false)], args := [d1, d2, d3, d4, d5] }
  | _ => none }
def SaveTwoCutsWrongFalsely : Prop := saveTwoCutsRow.holds Tryz.pinned (OpenSpec.ofChange saveTwoCutsWrong)

/- THE SECOND FORM. 'bulk': how many values and letters a reading holds, each counted each time it is reached (what is shared counts as often as it is met; a slice's spare places count too). A statement '..UptoSaid' is the law's where the arguments, and the package variables that the reading takes, are together of bulk at most 1048576: NARROWER than '..Said'. Prove '..Said' where nothing that the law and all that it calls make is longer than what came in: it says more and counts as full. Else prove '..UptoSaid'. A law counts once. -/
mutual
def uptoBulk {H : Type} : DataW H → Nat
  | .lit (.string bytes) => bytes.length + 1
  | .lit _ => 1
  | .nil => 1
  | .ptr d => uptoBulk d + 1
  | .slice elems spare => uptoBulkAll elems + uptoBulkAll spare + 1
  | .agg parts => uptoBulkAll parts + 1
  | .iface _ d => uptoBulk d + 1
  | .map entries => uptoBulkEntries entries + 1
  | .held _ => 1
def uptoBulkAll {H : Type} : List (DataW H) → Nat
  | [] => 0
  | d :: r => uptoBulk d + uptoBulkAll r
def uptoBulkEntries {H : Type} : List (Lit × DataW H) → Nat
  | [] => 0
  | x :: r => uptoBulkEntry x + uptoBulkEntries r
def uptoBulkEntry {H : Type} : Lit × DataW H → Nat
  | (.string bytes, d) => bytes.length + uptoBulk d + 1
  | (_, d) => uptoBulk d + 1
 end
def uptoSmall : (H : Type) → List (DataW H) → Bool := fun _ ds => decide (uptoBulkAll ds ≤ 1048576)
def OpenSpec.upto (s : _root_.Go.ChangeSpec) : _root_.Go.OpenSpec := { _root_.Go.OpenSpec.ofChange s with cond := some uptoSmall }

/-- 'aditlaw14.SaveBytes', WHERE WHAT IT READS IS OF BULK AT MOST 1048576: true; the input reads as it did. -/
def saveBytesUptoRow : OpenClaim := { program := "ytldgbkjceildfaagreat", sum := "923186b061b9c8596d180a9394af396ae20a0ec40309680d715aedad3ee549a5", func := "adit/aditlaw14.SaveBytes", spec := "saveBytes", unfollowed := true, recurses := true, apart := false, narrowed := true }
def SaveBytesUptoSaid : Prop := saveBytesUptoRow.holds Tryz.pinned (OpenSpec.upto saveBytesSpec)

/-- 'aditlaw14.SaveCuts', WHERE WHAT IT READS IS OF BULK AT MOST 1048576: true; the input reads as it did. -/
def saveCutsUptoRow : OpenClaim := { program := "ytldgbkjceildfaagreat", sum := "923186b061b9c8596d180a9394af396ae20a0ec40309680d715aedad3ee549a5", func := "adit/aditlaw14.SaveCuts", spec := "saveCuts", unfollowed := true, recurses := true, apart := false, narrowed := true }
def SaveCutsUptoSaid : Prop := saveCutsUptoRow.holds Tryz.pinned (OpenSpec.upto saveCutsSpec)

/-- 'aditlaw14.SaveTwoCuts', WHERE WHAT IT READS IS OF BULK AT MOST 1048576: true; the input reads as it did. -/
def saveTwoCutsUptoRow : OpenClaim := { program := "ytldgbkjceildfaagreat", sum := "923186b061b9c8596d180a9394af396ae20a0ec40309680d715aedad3ee549a5", func := "adit/aditlaw14.SaveTwoCuts", spec := "saveTwoCuts", unfollowed := true, recurses := true, apart := false, narrowed := true }
def SaveTwoCutsUptoSaid : Prop := saveTwoCutsUptoRow.holds Tryz.pinned (OpenSpec.upto saveTwoCutsSpec)

end Rows
end Go.Proofs.YtldgbkjceildfaaGreat
