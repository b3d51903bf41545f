/-
  No cell of these rows narrows 'for every input' (looked for: loops, veiled, ifaces, maps, wideKeys, modest, calm, conditions, laid).
  DERIVED. THE GIVEN ROWS OF THIS SEAT. 6 by the template 'for every input the law returns true; each argument reads behind the call as it read before'; 0 by the template 'total and deterministic' (their statements: YtbanjoflgoiegaaGreatTotals.lean).
  GIVEN WITH THE SEED: the statements are not yours to turn. If you find one false, say at which input.
  Laid BY PROGRAM, IN A SANDBOX (cutbox-rows.mjs): the forced cells as the released guide's own fill.sh prints them over the translation a2564ef599e5fdff… (all of the seat's roots in one cut). By AI agents, Wed Nov 11 2026. No macro, syntax, notation, axiom, sorry.
-/
import Derived.Test.YtbanjoflgoiegaaGreatChecked
import GoSem.Claim
import GoSem.ClaimJoined
import GoSem.ClaimMapViews
import Derived.JoinedTies
import Derived.KernelRfl
namespace Go.Proofs.YtbanjoflgoiegaaGreat
/- THE CELL 'sum', in the pinned program and in every row, IS THE sha256 OF THE DUMP (.gsa) THAT YtbanjoflgoiegaaGreatProg.lean LOADS. Nothing in Lean hashes anything: it is a label: what it is worth is what the hold of that sum in a sandbox is worth. -/
noncomputable def Tryz.pinned : Pinned := { name := "ytbanjoflgoiegaagreat", sum := "a2564ef599e5fdfffb7fea70e3415cfaac5dd6c3ecc1f534063631fa941da83c", checked := Tryz.checked }
namespace Rows
def none {H : Type} : Left H := { results := [], args := [] }

/-- 'aditlaw10.CrawlSteps': WHATEVER THE INPUT: true; the input reads as it did. -/
def crawlStepsSpec : ChangeSpec := { name := "crawlSteps", fn := fun _ => fun
  | [d1, d2, d3] => { results := [.lit (.bool true)], args := [d1, d2, d3] }
  | _ => none }
def crawlStepsRow : OpenClaim := { program := "ytbanjoflgoiegaagreat", sum := "a2564ef599e5fdfffb7fea70e3415cfaac5dd6c3ecc1f534063631fa941da83c", func := "adit/aditlaw10.CrawlSteps", spec := "crawlSteps", unfollowed := true, recurses := true, apart := false }
def CrawlStepsSaid : Prop := crawlStepsRow.holds Tryz.pinned (OpenSpec.ofChange crawlStepsSpec)

/-- ITS FALSE NEIGHBOUR: 'it returns false'. Refute it at one input. -/
def crawlStepsWrong : ChangeSpec := { name := "crawlSteps", fn := fun _ => fun
  | [d1, d2, d3] => { results := [.lit (.bool false)], args := [d1, d2, d3] }
  | _ => none }
def CrawlStepsWrongFalsely : Prop := crawlStepsRow.holds Tryz.pinned (OpenSpec.ofChange crawlStepsWrong)

/-- 'aditlaw10.CrawlRobots': WHATEVER THE INPUT: true; the input reads as it did. -/
def crawlRobotsSpec : ChangeSpec := { name := "crawlRobots", fn := fun _ => fun
  | [d1, d2, d3, d4] => { results := [.lit (.bool true)], args := [d1, d2, d3, d4] }
  | _ => none }
def crawlRobotsRow : OpenClaim := { program := "ytbanjoflgoiegaagreat", sum := "a2564ef599e5fdfffb7fea70e3415cfaac5dd6c3ecc1f534063631fa941da83c", func := "adit/aditlaw10.CrawlRobots", spec := "crawlRobots", unfollowed := true, recurses := true, apart := false }
def CrawlRobotsSaid : Prop := crawlRobotsRow.holds Tryz.pinned (OpenSpec.ofChange crawlRobotsSpec)

/-- ITS FALSE NEIGHBOUR: 'it returns false'. Refute it at one input. -/
def crawlRobotsWrong : ChangeSpec := { name := "crawlRobots", fn := fun _ => fun
  | [d1, d2, d3, d4] => { results := [.lit (.bool false)], args := [d1, d2, d3, d4] }
  | _ => none }
def CrawlRobotsWrongFalsely : Prop := crawlRobotsRow.holds Tryz.pinned (OpenSpec.ofChange crawlRobotsWrong)

/-- 'aditlaw10.CrawlCrowds': WHATEVER THE INPUT: true; the input reads as it did. -/
def crawlCrowdsSpec : ChangeSpec := { name := "crawlCrowds", fn := fun _ => fun
  | [d1, d2, d3, d4, d5, d6] => { results := [.lit (.bool true)], args := [d1, d2, d3, d4, d5, d6] }
  | _ => none }
def crawlCrowdsRow : OpenClaim := { program := "ytbanjoflgoiegaagreat", sum := "a2564ef599e5fdfffb7fea70e3415cfaac5dd6c3ecc1f534063631fa941da83c", func := "adit/aditlaw10.CrawlCrowds", spec := "crawlCrowds", unfollowed := true, recurses := true, apart := false }
def CrawlCrowdsSaid : Prop := crawlCrowdsRow.holds Tryz.pinned (OpenSpec.ofChange crawlCrowdsSpec)

/-- ITS FALSE NEIGHBOUR: 'it returns false'. Refute it at one input. -/
def crawlCrowdsWrong : ChangeSpec := { name := "crawlCrowds", fn := fun _ => fun
  | [d1, d2, d3, d4, d5, d6] => { results := [.lit (.bool false)], args := [d1, d2, d3, d4, d5, d6] }
  | _ => none }
def CrawlCrowdsWrongFalsely : Prop := crawlCrowdsRow.holds Tryz.pinned (OpenSpec.ofChange crawlCrowdsWrong)

/-- 'aditlaw10.CrawlSound': WHATEVER THE INPUT: true; the input reads as it did. -/
def crawlSoundSpec : ChangeSpec := { name := "crawlSound", fn := fun _ => fun
  | [d1, d2, d3] => { results := [.lit (.bool true)], args := [d1, d2, d3] }
  | _ => none }
def crawlSoundRow : OpenClaim := { program := "ytbanjoflgoiegaagreat", sum := "a2564ef599e5fdfffb7fea70e3415cfaac5dd6c3ecc1f534063631fa941da83c", func := "adit/aditlaw10.CrawlSound", spec := "crawlSound", unfollowed := true, recurses := true, apart := false }
def CrawlSoundSaid : Prop := crawlSoundRow.holds Tryz.pinned (OpenSpec.ofChange crawlSoundSpec)

/-- ITS FALSE NEIGHBOUR: 'it returns false'. Refute it at one input. -/
def crawlSoundWrong : ChangeSpec := { name := "crawlSound", fn := fun _ => fun
  | [d1, d2, d3] => { results := [.lit (.bool false)], args := [d1, d2, d3] }
  | _ => none }
def CrawlSoundWrongFalsely : Prop := crawlSoundRow.holds Tryz.pinned (OpenSpec.ofChange crawlSoundWrong)

/-- 'aditlaw10.CrawlEnds': WHATEVER THE INPUT: true; the input reads as it did. -/
def crawlEndsSpec : ChangeSpec := { name := "crawlEnds", fn := fun _ => fun
  | [d1, d2, d3] => { results := [.lit (.bool true)], args := [d1, d2, d3] }
  | _ => none }
def crawlEndsRow : OpenClaim := { program := "ytbanjoflgoiegaagreat", sum := "a2564ef599e5fdfffb7fea70e3415cfaac5dd6c3ecc1f534063631fa941da83c", func := "adit/aditlaw10.CrawlEnds", spec := "crawlEnds", unfollowed := true, recurses := true, apart := false }
def CrawlEndsSaid : Prop := crawlEndsRow.holds Tryz.pinned (OpenSpec.ofChange crawlEndsSpec)

/-- ITS FALSE NEIGHBOUR: 'it returns false'. Refute it at one input. -/
def crawlEndsWrong : ChangeSpec := { name := "crawlEnds", fn := fun _ => fun
  | [d1, d2, d3] => { results := [.lit (.bool false)], args := [d1, d2, d3] }
  | _ => none }
def CrawlEndsWrongFalsely : Prop := crawlEndsRow.holds Tryz.pinned (OpenSpec.ofChange crawlEndsWrong)

/-- 'aditlaw10.CrawlSeats': WHATEVER THE INPUT: true; the input reads as it did. -/
def crawlSeatsSpec : ChangeSpec := { name := "crawlSeats", fn := fun _ => fun
  | [d1, d2, d3, d4] => { results := [.lit (.bool true)], args := [d1, d2, d3, d4] }
  | _ => none }
def crawlSeatsRow : OpenClaim := { program := "ytbanjoflgoiegaagreat", sum := "a2564ef599e5fdfffb7fea70e3415cfaac5dd6c3ecc1f534063631fa941da83c", func := "adit/aditlaw10.CrawlSeats", spec := "crawlSeats", unfollowed := true, recurses := true, apart := false }
def CrawlSeatsSaid : Prop := crawlSeatsRow.holds Tryz.pinned (OpenSpec.ofChange crawlSeatsSpec)

/-- ITS FALSE NEIGHBOUR: 'it returns false'. Refute it at one input. -/
def crawlSeatsWrong : ChangeSpec := { name := "crawlSeats", fn := fun _ => fun
  | [d1, d2, d3, d4] => { results := [.lit (.bool false)], args := [d1, d2, d3, d4] }
  | _ => none }
def CrawlSeatsWrongFalsely : Prop := crawlSeatsRow.holds Tryz.pinned (OpenSpec.ofChange crawlSeatsWrong)

/- THE SECOND FORM. 'bulk': how many values and letters a reading holds, each counted each time it is reached (what is shared counts as often as it is met; a slice's spare places count too). A statement '..UptoSaid' is the law's where the arguments, and the package variables that the reading takes, are together of bulk at most 1048576: NARROWER than '..Said'. Prove '..Said' where nothing that the law and all that it calls make is longer than what came in: it says more and counts as full. Else prove '..UptoSaid'. A law counts once. -/
mutual
def uptoBulk {H : Type} : DataW H → Nat
  | .lit (.string bytes) => bytes.length + 1
  | .lit _ => 1
  | .nil => 1
  | .ptr d => uptoBulk d + 1
  | .slice elems spare => uptoBulkAll elems + uptoBulkAll spare + 1
  | .agg parts => uptoBulkAll parts + 1
  | .iface _ d => uptoBulk d + 1
  | .map entries => uptoBulkEntries entries + 1
  | .held _ => 1
def uptoBulkAll {H : Type} : List (DataW H) → Nat
  | [] => 0
  | d :: r => uptoBulk d + uptoBulkAll r
def uptoBulkEntries {H : Type} : List (Lit × DataW H) → Nat
  | [] => 0
  | x :: r => uptoBulkEntry x + uptoBulkEntries r
def uptoBulkEntry {H : Type} : Lit × DataW H → Nat
  | (.string bytes, d) => bytes.length + uptoBulk d + 1
  | (_, d) => uptoBulk d + 1
 end
def uptoSmall : (H : Type) → List (DataW H) → Bool := fun _ ds => decide (uptoBulkAll ds ≤ 1048576)
def OpenSpec.upto (s : _root_.Go.ChangeSpec) : _root_.Go.OpenSpec := { _root_.Go.OpenSpec.ofChange s with cond := some uptoSmall }

/-- 'aditlaw10.CrawlSteps', WHERE WHAT IT READS IS OF BULK AT MOST 1048576: true; the input reads as it did. -/
def crawlStepsUptoRow : OpenClaim := { program := "ytbanjoflgoiegaagreat", sum := "a2564ef599e5fdfffb7fea70e3415cfaac5dd6c3ecc1f534063631fa941da83c", func := "adit/aditlaw10.CrawlSteps", spec := "crawlSteps", unfollowed := true, recurses := true, apart := false, narrowed := true }
def CrawlStepsUptoSaid : Prop := crawlStepsUptoRow.holds Tryz.pinned (OpenSpec.upto crawlStepsSpec)

/-- 'aditlaw10.CrawlRobots', WHERE WHAT IT READS IS OF BULK AT MOST 1048576: true; the input reads as it did. -/
def crawlRobotsUptoRow : OpenClaim := { program := "ytbanjoflgoiegaagreat", sum := "a2564ef599e5fdfffb7fea70e3415cfaac5dd6c3ecc1f534063631fa941da83c", func := "adit/aditlaw10.CrawlRobots", spec := "crawlRobots", unfollowed := true, recurses := true, apart := false, narrowed := true }
def CrawlRobotsUptoSaid : Prop := crawlRobotsUptoRow.holds Tryz.pinned (OpenSpec.upto crawlRobotsSpec)

/-- 'aditlaw10.CrawlCrowds', WHERE WHAT IT READS IS OF BULK AT MOST 1048576: true; the input reads as it did. -/
def crawlCrowdsUptoRow : OpenClaim := { program := "ytbanjoflgoiegaagreat", sum := "a2564ef599e5fdfffb7fea70e3415cfaac5dd6c3ecc1f534063631fa941da83c", func := "adit/aditlaw10.CrawlCrowds", spec := "crawlCrowds", unfollowed := true, recurses := true, apart := false, narrowed := true }
def CrawlCrowdsUptoSaid : Prop := crawlCrowdsUptoRow.holds Tryz.pinned (OpenSpec.upto crawlCrowdsSpec)

/-- 'aditlaw10.CrawlSound', WHERE WHAT IT READS IS OF BULK AT MOST 1048576: true; the input reads as it did. -/
def crawlSoundUptoRow : OpenClaim := { program := "ytbanjoflgoiegaagreat", sum := "a2564ef599e5fdfffb7fea70e3415cfaac5dd6c3ecc1f534063631fa941da83c", func := "adit/aditlaw10.CrawlSound", spec := "crawlSound", unfollowed := true, recurses := true, apart := false, narrowed := true }
def CrawlSoundUptoSaid : Prop := crawlSoundUptoRow.holds Tryz.pinned (OpenSpec.upto crawlSoundSpec)

/-- 'aditlaw10.CrawlEnds', WHERE WHAT IT READS IS OF BULK AT MOST 1048576: true; the input reads as it did. -/
def crawlEndsUptoRow : OpenClaim := { program := "ytbanjoflgoiegaagreat", sum := "a2564ef599e5fdfffb7fea70e3415cfaac5dd6c3ecc1f534063631fa941da83c", func := "adit/aditlaw10.CrawlEnds", spec := "crawlEnds", unfollowed := true, recurses := true, apart := false, narrowed := true }
def CrawlEndsUptoSaid : Prop := crawlEndsUptoRow.holds Tryz.pinned (OpenSpec.upto crawlEndsSpec)

/-- 'aditlaw10.CrawlSeats', WHERE WHAT IT READS IS OF BULK AT MOST 1048576: true; the input reads as it did. -/
def crawlSeatsUptoRow : OpenClaim := { program := "ytbanjoflgoiegaagreat", sum := "a2564ef599e5fdfffb7fea70e3415cfaac5dd6c3ecc1f534063631fa941da83c", func := "adit/aditlaw10.CrawlSeats", spec := "crawlSeats", unfollowed := true, recurses := true, apart := false, narrowed := true }
def CrawlSeatsUptoSaid : Prop := crawlSeatsUptoRow.holds Tryz.pinned (OpenSpec.upto crawlSeatsSpec)

end Rows
end Go.Proofs.YtbanjoflgoiegaaGreat
