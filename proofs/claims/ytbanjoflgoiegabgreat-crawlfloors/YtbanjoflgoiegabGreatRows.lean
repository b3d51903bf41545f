/-
  No cell of these rows narrows 'for every input' (looked for: loops, veiled, ifaces, maps, wideKeys, modest, calm, conditions, laid).
  DERIVED. THE GIVEN ROWS OF THIS SEAT. 4 by the template 'for every input the law returns true; each argument reads behind the call as it read before'; 0 by the template 'total and deterministic' (their statements: YtbanjoflgoiegabGreatTotals.lean).
  GIVEN WITH THE SEED: the statements are not yours to turn. If you find one false, say at which input.
  Laid BY PROGRAM, IN A SANDBOX (cutbox-rows.mjs): the forced cells as the released guide's own fill.sh prints them over the translation 2119fa4470c8a43d… (all of the seat's roots in one cut). By AI agents, Wed Nov 11 2026. No macro, syntax, notation, axiom, sorry.
-/
import Derived.Test.YtbanjoflgoiegabGreatChecked
import GoSem.Claim
import GoSem.ClaimJoined
import GoSem.ClaimMapViews
import Derived.JoinedTies
import Derived.KernelRfl
namespace Go.Proofs.YtbanjoflgoiegabGreat
/- THE CELL 'sum', in the pinned program and in every row, IS THE sha256 OF THE DUMP (.gsa) THAT YtbanjoflgoiegabGreatProg.lean LOADS. Nothing in Lean hashes anything: it is a label: what it is worth is what the hold of that sum in a sandbox is worth. -/
noncomputable def Tryz.pinned : Pinned := { name := "ytbanjoflgoiegabgreat", sum := "2119fa4470c8a43deff323d5a341d4e8464db60bf07885a2016f169761a4ba16", checked := Tryz.checked }
namespace Rows
def none {H : Type} : Left H := { results := [], args := [] }

/-- 'aditlaw10.CrawlMoves': WHATEVER THE INPUT: true; the input reads as it did. -/
def crawlMovesSpec : ChangeSpec := { name := "crawlMoves", fn := fun _ => fun
  | [d1, d2, d3, d4] => { results := [.lit (.bool true)], args := [d1, d2, d3, d4] }
  | _ => none }
def crawlMovesRow : OpenClaim := { program := "ytbanjoflgoiegabgreat", sum := "2119fa4470c8a43deff323d5a341d4e8464db60bf07885a2016f169761a4ba16", func := "adit/aditlaw10.CrawlMoves", spec := "crawlMoves", unfollowed := true, recurses := true, apart := false }
def CrawlMovesSaid : Prop := crawlMovesRow.holds Tryz.pinned (OpenSpec.ofChange crawlMovesSpec)

/-- ITS FALSE NEIGHBOUR: 'it returns false'. Refute it at one input. -/
def crawlMovesWrong : ChangeSpec := { name := "crawlMoves", fn := fun _ => fun
  | [d1, d2, d3, d4] => { results := [.lit (.bool false)], args := [d1, d2, d3, d4] }
  | _ => none }
def CrawlMovesWrongFalsely : Prop := crawlMovesRow.holds Tryz.pinned (OpenSpec.ofChange crawlMovesWrong)

/-- 'aditlaw10.CrawlFloors': WHATEVER THE INPUT: true; the input reads as it did. -/
def crawlFloorsSpec : ChangeSpec := { name := "crawlFloors", fn := fun _ => fun
  | [d1, d2, d3, d4] => { results := [.lit (.bool true)], args := [d1, d2, d3, d4] }
  | _ => none }
def crawlFloorsRow : OpenClaim := { program := "ytbanjoflgoiegabgreat", sum := "2119fa4470c8a43deff323d5a341d4e8464db60bf07885a2016f169761a4ba16", func := "adit/aditlaw10.CrawlFloors", spec := "crawlFloors", unfollowed := true, recurses := true, apart := false }
def CrawlFloorsSaid : Prop := crawlFloorsRow.holds Tryz.pinned (OpenSpec.ofChange crawlFloorsSpec)

/-- ITS FALSE NEIGHBOUR: 'it returns false'. Refute it at one input. -/
def crawlFloorsWrong : ChangeSpec := { name := "crawlFloors", fn := fun _ => fun
  | [d1, d2, d3, d4] => { results := [.lit (.bool false)], args := [d1, d2, d3, d4] }
  | _ => none }
def CrawlFloorsWrongFalsely : Prop := crawlFloorsRow.holds Tryz.pinned (OpenSpec.ofChange crawlFloorsWrong)

/-- 'aditlaw10.CrawlRats': WHATEVER THE INPUT: true; the input reads as it did. -/
def crawlRatsSpec : ChangeSpec := { name := "crawlRats", fn := fun _ => fun
  | [d1, d2, d3] => { results := [.lit (.bool true)], args := [d1, d2, d3] }
  | _ => none }
def crawlRatsRow : OpenClaim := { program := "ytbanjoflgoiegabgreat", sum := "2119fa4470c8a43deff323d5a341d4e8464db60bf07885a2016f169761a4ba16", func := "adit/aditlaw10.CrawlRats", spec := "crawlRats", unfollowed := true, recurses := true, apart := false }
def CrawlRatsSaid : Prop := crawlRatsRow.holds Tryz.pinned (OpenSpec.ofChange crawlRatsSpec)

/-- ITS FALSE NEIGHBOUR: 'it returns false'. Refute it at one input. -/
def crawlRatsWrong : ChangeSpec := { name := "crawlRats", fn := fun _ => fun
  | [d1, d2, d3] => { results := [.lit (.bool false)], args := [d1, d2, d3] }
  | _ => none }
def CrawlRatsWrongFalsely : Prop := crawlRatsRow.holds Tryz.pinned (OpenSpec.ofChange crawlRatsWrong)

/-- 'aditlaw10.CrawlFull': WHATEVER THE INPUT: true; the input reads as it did. -/
def crawlFullSpec : ChangeSpec := { name := "crawlFull", fn := fun _ => fun
  | [d1, d2, d3] => { results := [.lit (.bool true)], args := [d1, d2, d3] }
  | _ => none }
def crawlFullRow : OpenClaim := { program := "ytbanjoflgoiegabgreat", sum := "2119fa4470c8a43deff323d5a341d4e8464db60bf07885a2016f169761a4ba16", func := "adit/aditlaw10.CrawlFull", spec := "crawlFull", unfollowed := true, recurses := true, apart := false }
def CrawlFullSaid : Prop := crawlFullRow.holds Tryz.pinned (OpenSpec.ofChange crawlFullSpec)

/-- ITS FALSE NEIGHBOUR: 'it returns false'. Refute it at one input. -/
def crawlFullWrong : ChangeSpec := { name := "crawlFull", fn := fun _ => fun
  | [d1, d2, d3] => { results := [.lit (.bool false)], args := [d1, d2, d3] }
  | _ => none }
def CrawlFullWrongFalsely : Prop := crawlFullRow.holds Tryz.pinned (OpenSpec.ofChange crawlFullWrong)

/- THE SECOND FORM. 'bulk': how many values and letters a reading holds, each counted each time it is reached (what is shared counts as often as it is met; a slice's spare places count too). A statement '..UptoSaid' is the law's where the arguments, and the package variables that the reading takes, are together of bulk at most 1048576: NARROWER than '..Said'. Prove '..Said' where nothing that the law and all that it calls make is longer than what came in: it says more and counts as full. Else prove '..UptoSaid'. A law counts once. -/
mutual
def uptoBulk {H : Type} : DataW H → Nat
  | .lit (.string bytes) => bytes.length + 1
  | .lit _ => 1
  | .nil => 1
  | .ptr d => uptoBulk d + 1
  | .slice elems spare => uptoBulkAll elems + uptoBulkAll spare + 1
  | .agg parts => uptoBulkAll parts + 1
  | .iface _ d => uptoBulk d + 1
  | .map entries => uptoBulkEntries entries + 1
  | .held _ => 1
def uptoBulkAll {H : Type} : List (DataW H) → Nat
  | [] => 0
  | d :: r => uptoBulk d + uptoBulkAll r
def uptoBulkEntries {H : Type} : List (Lit × DataW H) → Nat
  | [] => 0
  | x :: r => uptoBulkEntry x + uptoBulkEntries r
def uptoBulkEntry {H : Type} : Lit × DataW H → Nat
  | (.string bytes, d) => bytes.length + uptoBulk d + 1
  | (_, d) => uptoBulk d + 1
 end
def uptoSmall : (H : Type) → List (DataW H) → Bool := fun _ ds => decide (uptoBulkAll ds ≤ 1048576)
def OpenSpec.upto (s : _root_.Go.ChangeSpec) : _root_.Go.OpenSpec := { _root_.Go.OpenSpec.ofChange s with cond := some uptoSmall }

/-- 'aditlaw10.CrawlMoves', WHERE WHAT IT READS IS OF BULK AT MOST 1048576: true; the input reads as it did. -/
def crawlMovesUptoRow : OpenClaim := { program := "ytbanjoflgoiegabgreat", sum := "2119fa4470c8a43deff323d5a341d4e8464db60bf07885a2016f169761a4ba16", func := "adit/aditlaw10.CrawlMoves", spec := "crawlMoves", unfollowed := true, recurses := true, apart := false, narrowed := true }
def CrawlMovesUptoSaid : Prop := crawlMovesUptoRow.holds Tryz.pinned (OpenSpec.upto crawlMovesSpec)

/-- 'aditlaw10.CrawlFloors', WHERE WHAT IT READS IS OF BULK AT MOST 1048576: true; the input reads as it did. -/
def crawlFloorsUptoRow : OpenClaim := { program := "ytbanjoflgoiegabgreat", sum := "2119fa4470c8a43deff323d5a341d4e8464db60bf07885a2016f169761a4ba16", func := "adit/aditlaw10.CrawlFloors", spec := "crawlFloors", unfollowed := true, recurses := true, apart := false, narrowed := true }
def CrawlFloorsUptoSaid : Prop := crawlFloorsUptoRow.holds Tryz.pinned (OpenSpec.upto crawlFloorsSpec)

/-- 'aditlaw10.CrawlRats', WHERE WHAT IT READS IS OF BULK AT MOST 1048576: true; the input reads as it did. -/
def crawlRatsUptoRow : OpenClaim := { program := "ytbanjoflgoiegabgreat", sum := "2119fa4470c8a43deff323d5a341d4e8464db60bf07885a2016f169761a4ba16", func := "adit/aditlaw10.CrawlRats", spec := "crawlRats", unfollowed := true, recurses := true, apart := false, narrowed := true }
def CrawlRatsUptoSaid : Prop := crawlRatsUptoRow.holds Tryz.pinned (OpenSpec.upto crawlRatsSpec)

/-- 'aditlaw10.CrawlFull', WHERE WHAT IT READS IS OF BULK AT MOST 1048576: true; the input reads as it did. -/
def crawlFullUptoRow : OpenClaim := { program := "ytbanjoflgoiegabgreat", sum := "2119fa4470c8a43deff323d5a341d4e8464db60bf07885a2016f169761a4ba16", func := "adit/aditlaw10.CrawlFull", spec := "crawlFull", unfollowed := true, recurses := true, apart := false, narrowed := true }
def CrawlFullUptoSaid : Prop := crawlFullUptoRow.holds Tryz.pinned (OpenSpec.upto crawlFullSpec)

end Rows
end Go.Proofs.YtbanjoflgoiegabGreat
