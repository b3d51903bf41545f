/-
  No cell of these rows narrows 'for every input' (looked for: loops, veiled, ifaces, maps, wideKeys, modest, calm, conditions, laid).
  DERIVED. THE GIVEN ROWS OF THIS SEAT. 3 by the template 'for every input the law returns true; each argument reads behind the call as it read before'; 0 by the template 'total and deterministic' (their statements: YtiegccdgoemamabTotals.lean).
  GIVEN WITH THE SEED: the statements are not yours to turn. If you find one false, say at which input.
  Laid BY PROGRAM, IN A SANDBOX (cutbox-rows.mjs): the forced cells as the released guide's own fill.sh prints them over the translation 3f1c3b9d5ebeae5b… (all of the seat's roots in one cut). By AI agents, Wed Nov 11 2026. No macro, syntax, notation, axiom, sorry.
-/
import Derived.Test.YtiegccdgoemamabChecked
import GoSem.Claim
import GoSem.ClaimJoined
import GoSem.ClaimMapViews
import Derived.JoinedTies
import Derived.KernelRfl
namespace Go.Proofs.Ytiegccdgoemamab
/- THE CELL 'sum', in the pinned program and in every row, IS THE sha256 OF THE DUMP (.gsa) THAT YtiegccdgoemamabProg.lean LOADS. Nothing in Lean hashes anything: it is a label: what it is worth is what the hold of that sum in a sandbox is worth. -/
noncomputable def Try.pinned : Pinned := { name := "ytiegccdgoemamab", sum := "3f1c3b9d5ebeae5bb128fe083a3281eb6878134d0231d0296336882d24c81da5", checked := Try.checked }
namespace Rows
def none {H : Type} : Left H := { results := [], args := [] }

/-- 'aditlaw16.TableLives': WHATEVER THE INPUT: true; the input reads as it did. -/
def tableLivesSpec : ChangeSpec := { name := "tableLives", fn := fun _ => fun
  | [d1, d2] => { results := [.lit (.bool true)], args := [d1, d2] }
  | _ => none }
def tableLivesRow : OpenClaim := { program := "ytiegccdgoemamab", sum := "3f1c3b9d5ebeae5bb128fe083a3281eb6878134d0231d0296336882d24c81da5", func := "adit/aditlaw16.TableLives", spec := "tableLives", apart := false }
def TableLivesSaid : Prop := tableLivesRow.holds Try.pinned (OpenSpec.ofChange tableLivesSpec)

/-- ITS FALSE NEIGHBOUR: 'it returns false'. Refute it at one input. -/
def tableLivesWrong : ChangeSpec := { name := "tableLives", fn := fun _ => fun
  | [d1, d2] => { results := [.lit (.bool false)], args := [d1, d2] }
  | _ => none }
def TableLivesWrongFalsely : Prop := tableLivesRow.holds Try.pinned (OpenSpec.ofChange tableLivesWrong)

/-- 'aditlaw16.TableHost': WHATEVER THE INPUT: true; the input reads as it did. -/
def tableHostSpec : ChangeSpec := { name := "tableHost", fn := fun _ => fun
  | [d1, d2] => { results := [.lit (.bool true)], args := [d1, d2] }
  | _ => none }
def tableHostRow : OpenClaim := { program := "ytiegccdgoemamab", sum := "3f1c3b9d5ebeae5bb128fe083a3281eb6878134d0231d0296336882d24c81da5", func := "adit/aditlaw16.TableHost", spec := "tableHost", apart := false }
def TableHostSaid : Prop := tableHostRow.holds Try.pinned (OpenSpec.ofChange tableHostSpec)

/-- ITS FALSE NEIGHBOUR: 'it returns false'. Refute it at one input. -/
def tableHostWrong : ChangeSpec := { name := "tableHost", fn := fun _ => fun
  | [d1, d2] => { results := [.lit (.bool false)], args := [d1, d2] }
  | _ => none }
def TableHostWrongFalsely : Prop := tableHostRow.holds Try.pinned (OpenSpec.ofChange tableHostWrong)

/-- 'aditlaw16.TableOpen': WHATEVER THE INPUT: true; the input reads as it did. -/
def tableOpenSpec : ChangeSpec := { name := "tableOpen", fn := fun _ => fun
  | [d1, d2, d3] => { results := [.lit (.bool true)], args := [d1, d2, d3] }
  | _ => none }
def tableOpenRow : OpenClaim := { program := "ytiegccdgoemamab", sum := "3f1c3b9d5ebeae5bb128fe083a3281eb6878134d0231d0296336882d24c81da5", func := "adit/aditlaw16.TableOpen", spec := "tableOpen", apart := false }
def TableOpenSaid : Prop := tableOpenRow.holds Try.pinned (OpenSpec.ofChange tableOpenSpec)

/-- ITS FALSE NEIGHBOUR: 'it returns false'. Refute it at one input. -/
def tableOpenWrong : ChangeSpec := { name := "tableOpen", fn := fun _ => fun
  | [d1, d2, d3] => { results := [.lit (.bool false)], args := [d1, d2, d3] }
  | _ => none }
def TableOpenWrongFalsely : Prop := tableOpenRow.holds Try.pinned (OpenSpec.ofChange tableOpenWrong)

/- THE SECOND FORM. 'bulk': how many values and letters a reading holds, each counted each time it is reached (what is shared counts as often as it is met; a slice's spare places count too). A statement '..UptoSaid' is the law's where the arguments, and the package variables that the reading takes, are together of bulk at most 1048576: NARROWER than '..Said'. Prove '..Said' where nothing that the law and all that it calls make is longer than what came in: it says more and counts as full. Else prove '..UptoSaid'. A law counts once. -/
mutual
def uptoBulk {H : Type} : DataW H → Nat
  | .lit (.string bytes) => bytes.length + 1
  | .lit _ => 1
  | .nil => 1
  | .ptr d => uptoBulk d + 1
  | .slice elems spare => uptoBulkAll elems + uptoBulkAll spare + 1
  | .agg parts => uptoBulkAll parts + 1
  | .iface _ d => uptoBulk d + 1
  | .map entries => uptoBulkEntries entries + 1
  | .held _ => 1
def uptoBulkAll {H : Type} : List (DataW H) → Nat
  | [] => 0
  | d :: r => uptoBulk d + uptoBulkAll r
def uptoBulkEntries {H : Type} : List (Lit × DataW H) → Nat
  | [] => 0
  | x :: r => uptoBulkEntry x + uptoBulkEntries r
def uptoBulkEntry {H : Type} : Lit × DataW H → Nat
  | (.string bytes, d) => bytes.length + uptoBulk d + 1
  | (_, d) => uptoBulk d + 1
 end
def uptoSmall : (H : Type) → List (DataW H) → Bool := fun _ ds => decide (uptoBulkAll ds ≤ 1048576)
def OpenSpec.upto (s : _root_.Go.ChangeSpec) : _root_.Go.OpenSpec := { _root_.Go.OpenSpec.ofChange s with cond := some uptoSmall }

/-- 'aditlaw16.TableLives', WHERE WHAT IT READS IS OF BULK AT MOST 1048576: true; the input reads as it did. -/
def tableLivesUptoRow : OpenClaim := { program := "ytiegccdgoemamab", sum := "3f1c3b9d5ebeae5bb128fe083a3281eb6878134d0231d0296336882d24c81da5", func := "adit/aditlaw16.TableLives", spec := "tableLives", apart := false, narrowed := true }
def TableLivesUptoSaid : Prop := tableLivesUptoRow.holds Try.pinned (OpenSpec.upto tableLivesSpec)

/-- 'aditlaw16.TableHost', WHERE WHAT IT READS IS OF BULK AT MOST 1048576: true; the input reads as it did. -/
def tableHostUptoRow : OpenClaim := { program := "ytiegccdgoemamab", sum := "3f1c3b9d5ebeae5bb128fe083a3281eb6878134d0231d0296336882d24c81da5", func := "adit/aditlaw16.TableHost", spec := "tableHost", apart := false, narrowed := true }
def TableHostUptoSaid : Prop := tableHostUptoRow.holds Try.pinned (OpenSpec.upto tableHostSpec)

/-- 'aditlaw16.TableOpen', WHERE WHAT IT READS IS OF BULK AT MOST 1048576: true; the input reads as it did. -/
def tableOpenUptoRow : OpenClaim := { program := "ytiegccdgoemamab", sum := "3f1c3b9d5ebeae5bb128fe083a3281eb6878134d0231d0296336882d24c81da5", func := "adit/aditlaw16.TableOpen", spec := "tableOpen", apart := false, narrowed := true }
def TableOpenUptoSaid : Prop := tableOpenUptoRow.holds Try.pinned (OpenSpec.upto tableOpenSpec)

end Rows
end Go.Proofs.Ytiegccdgoemamab
