/-
  No cell of these rows narrows 'for every input' (looked for: loops, veiled, ifaces, maps, wideKeys, modest, calm, conditions, laid).
  DERIVED. THE GIVEN ROWS OF THIS SEAT. 6 by the template 'for every input the law returns true; each argument reads behind the call as it read before'; 0 by the template 'total and deterministic' (their statements: YtgkomdpceilggaaTotals.lean).
  GIVEN WITH THE SEED: the statements are not yours to turn. If you find one false, say at which input.
  Laid BY PROGRAM, IN A SANDBOX (cutbox-rows.mjs): the forced cells as the released guide's own fill.sh prints them over the translation ca82f0f8df958754… (all of the seat's roots in one cut). By AI agents, Wed Nov 11 2026. No macro, syntax, notation, axiom, sorry.
-/
import Derived.Test.YtgkomdpceilggaaChecked
import GoSem.Claim
import GoSem.ClaimJoined
import GoSem.ClaimMapViews
import Derived.JoinedTies
import Derived.KernelRfl
namespace Go.Proofs.Ytgkomdpceilggaa
/- THE CELL 'sum', in the pinned program and in every row, IS THE sha256 OF THE DUMP (.gsa) THAT YtgkomdpceilggaaProg.lean LOADS. Nothing in Lean hashes anything: it is a label: what it is worth is what the hold of that sum in a sandbox is worth. -/
noncomputable def Try.pinned : Pinned := { name := "ytgkomdpceilggaa", sum := "ca82f0f8df9587545dfb38a49f30968ea2aff6091754cc26aa6779174ffb6ca2", checked := Try.checked }
namespace Rows
def none {H : Type} : Left H := { results := [], args := [] }

/-- 'aditlaw7.GoodsDo': WHATEVER THE INPUT: true; the input reads as it did. -/
def goodsDoSpec : ChangeSpec := { name := "goodsDo", fn := fun _ => fun
  | [d1, d2, d3, d4, d5, d6, d7] => { results := [.lit (.bool true)], args := [d1, d2, d3, d4, d5, d6, d7] }
  | _ => none }
def goodsDoRow : OpenClaim := { program := "ytgkomdpceilggaa", sum := "ca82f0f8df9587545dfb38a49f30968ea2aff6091754cc26aa6779174ffb6ca2", func := "adit/aditlaw7.GoodsDo", spec := "goodsDo", unfollowed := true, recurses := true, apart := false }
def GoodsDoSaid : Prop := goodsDoRow.holds Try.pinned (OpenSpec.ofChange goodsDoSpec)

/-- ITS FALSE NEIGHBOUR: 'it returns false'. Refute it at one input. -/
def goodsDoWrong : ChangeSpec := { name := "goodsDo", fn := fun _ => fun
  | [d1, d2, d3, d4, d5, d6, d7] => { results := [.lit (.bool false)], args := [d1, d2, d3, d4, d5, d6, d7] }
  | _ => none }
def GoodsDoWrongFalsely : Prop := goodsDoRow.holds Try.pinned (OpenSpec.ofChange goodsDoWrong)

/-- 'aditlaw7.GoodsPlaces': WHATEVER THE INPUT: true; the input reads as it did. -/
def goodsPlacesSpec : ChangeSpec := { name := "goodsPlaces", fn := fun _ => fun
  | [d1, d2, d3, d4, d5, d6, d7] => { results := [.lit (.bool true)], args := [d1, d2, d3, d4, d5, d6, d7] }
  | _ => none }
def goodsPlacesRow : OpenClaim := { program := "ytgkomdpceilggaa", sum := "ca82f0f8df9587545dfb38a49f30968ea2aff6091754cc26aa6779174ffb6ca2", func := "adit/aditlaw7.GoodsPlaces", spec := "goodsPlaces", unfollowed := true, recurses := true, apart := false }
def GoodsPlacesSaid : Prop := goodsPlacesRow.holds Try.pinned (OpenSpec.ofChange goodsPlacesSpec)

/-- ITS FALSE NEIGHBOUR: 'it returns false'. Refute it at one input. -/
def goodsPlacesWrong : ChangeSpec := { name := "goodsPlaces", fn := fun _ => fun
  | [d1, d2, d3, d4, d5, d6, d7] => { results := [.lit (.bool false)], args := [d1, d2, d3, d4, d5, d6, d7] }
  | _ => none }
def GoodsPlacesWrongFalsely : Prop := goodsPlacesRow.holds Try.pinned (OpenSpec.ofChange goodsPlacesWrong)

/-- 'aditlaw7.GoodsAsks': WHATEVER THE INPUT: true; the input reads as it did. -/
def goodsAsksSpec : ChangeSpec := { name := "goodsAsks", fn := fun _ => fun
  | [d1, d2, d3, d4] => { results := [.lit (.bool true)], args := [d1, d2, d3, d4] }
  | _ => none }
def goodsAsksRow : OpenClaim := { program := "ytgkomdpceilggaa", sum := "ca82f0f8df9587545dfb38a49f30968ea2aff6091754cc26aa6779174ffb6ca2", func := "adit/aditlaw7.GoodsAsks", spec := "goodsAsks", unfollowed := true, recurses := true, apart := false }
def GoodsAsksSaid : Prop := goodsAsksRow.holds Try.pinned (OpenSpec.ofChange goodsAsksSpec)

/-- ITS FALSE NEIGHBOUR: 'it returns false'. Refute it at one input. -/
def goodsAsksWrong : ChangeSpec := { name := "goodsAsks", fn := fun _ => fun
  | [d1, d2, d3, d4] => { results := [.lit (.bool false)], args := [d1, d2, d3, d4] }
  | _ => none }
def GoodsAsksWrongFalsely : Prop := goodsAsksRow.holds Try.pinned (OpenSpec.ofChange goodsAsksWrong)

/-- 'aditlaw7.GoodsHeals': WHATEVER THE INPUT: true; the input reads as it did. -/
def goodsHealsSpec : ChangeSpec := { name := "goodsHeals", fn := fun _ => fun
  | [d1, d2, d3, d4] => { results := [.lit (.bool true)], args := [d1, d2, d3, d4] }
  | _ => none }
def goodsHealsRow : OpenClaim := { program := "ytgkomdpceilggaa", sum := "ca82f0f8df9587545dfb38a49f30968ea2aff6091754cc26aa6779174ffb6ca2", func := "adit/aditlaw7.GoodsHeals", spec := "goodsHeals", unfollowed := true, recurses := true, apart := false }
def GoodsHealsSaid : Prop := goodsHealsRow.holds Try.pinned (OpenSpec.ofChange goodsHealsSpec)

/-- ITS FALSE NEIGHBOUR: 'it returns false'. Refute it at one input. -/
def goodsHealsWrong : ChangeSpec := { name := "goodsHeals", fn := fun _ => fun
  | [d1, d2, d3, d4] => { results := [.lit (.bool false)], args := [d1, d2, d3, d4] }
  | _ => none }
def GoodsHealsWrongFalsely : Prop := goodsHealsRow.holds Try.pinned (OpenSpec.ofChange goodsHealsWrong)

/-- 'aditlaw8.FightBlows': WHATEVER THE INPUT: true; the input reads as it did. -/
def fightBlowsSpec : ChangeSpec := { name := "fightBlows", fn := fun _ => fun
  | [d1, d2, d3, d4, d5, d6, d7] => { results := [.lit (.bool true)], args := [d1, d2, d3, d4, d5, d6, d7] }
  | _ => none }
def fightBlowsRow : OpenClaim := { program := "ytgkomdpceilggaa", sum := "ca82f0f8df9587545dfb38a49f30968ea2aff6091754cc26aa6779174ffb6ca2", func := "adit/aditlaw8.FightBlows", spec := "fightBlows", apart := false }
def FightBlowsSaid : Prop := fightBlowsRow.holds Try.pinned (OpenSpec.ofChange fightBlowsSpec)

/-- ITS FALSE NEIGHBOUR: 'it returns false'. Refute it at one input. -/
def fightBlowsWrong : ChangeSpec := { name := "fightBlows", fn := fun _ => fun
  | [d1, d2, d3, d4, d5, d6, d7] => { results := [.lit (.bool false)], args := [d1, d2, d3, d4, d5, d6, d7] }
  | _ => none }
def FightBlowsWrongFalsely : Prop := fightBlowsRow.holds Try.pinned (OpenSpec.ofChange fightBlowsWrong)

/-- 'aditlaw8.FightBounds': WHATEVER THE INPUT: true; the input reads as it did. -/
def fightBoundsSpec : ChangeSpec := { name := "fightBounds", fn := fun _ => fun
  | [d1, d2, d3, d4, d5, d6, d7] => { results := [.lit (.bool true)], args := [d1, d2, d3, d4, d5, d6, d7] }
  | _ => none }
def fightBoundsRow : OpenClaim := { program := "ytgkomdpceilggaa", sum := "ca82f0f8df9587545dfb38a49f30968ea2aff6091754cc26aa6779174ffb6ca2", func := "adit/aditlaw8.FightBounds", spec := "fightBounds", apart := false }
def FightBoundsSaid : Prop := fightBoundsRow.holds Try.pinned (OpenSpec.ofChange fightBoundsSpec)

/-- ITS FALSE NEIGHBOUR: 'it returns false'. Refute it at one input. -/
def fightBoundsWrong : ChangeSpec := { name := "fightBounds", fn := fun _ => fun
  | [d1, d2, d3, d4, d5, d6, d7] => { results := [.lit (.bool false)], args := [d1, d2, d3, d4, d5, d6, d7] }
  | _ => none }
def FightBoundsWrongFalsely : Prop := fightBoundsRow.holds Try.pinned (OpenSpec.ofChange fightBoundsWrong)

/- THE SECOND FORM. 'bulk': how many values and letters a reading holds, each counted each time it is reached (what is shared counts as often as it is met; a slice's spare places count too). A statement '..UptoSaid' is the law's where the arguments, and the package variables that the reading takes, are together of bulk at most 1048576: NARROWER than '..Said'. Prove '..Said' where nothing that the law and all that it calls make is longer than what came in: it says more and counts as full. Else prove '..UptoSaid'. A law counts once. -/
mutual
def uptoBulk {H : Type} : DataW H → Nat
  | .lit (.string bytes) => bytes.length + 1
  | .lit _ => 1
  | .nil => 1
  | .ptr d => uptoBulk d + 1
  | .slice elems spare => uptoBulkAll elems + uptoBulkAll spare + 1
  | .agg parts => uptoBulkAll parts + 1
  | .iface _ d => uptoBulk d + 1
  | .map entries => uptoBulkEntries entries + 1
  | .held _ => 1
def uptoBulkAll {H : Type} : List (DataW H) → Nat
  | [] => 0
  | d :: r => uptoBulk d + uptoBulkAll r
def uptoBulkEntries {H : Type} : List (Lit × DataW H) → Nat
  | [] => 0
  | x :: r => uptoBulkEntry x + uptoBulkEntries r
def uptoBulkEntry {H : Type} : Lit × DataW H → Nat
  | (.string bytes, d) => bytes.length + uptoBulk d + 1
  | (_, d) => uptoBulk d + 1
 end
def uptoSmall : (H : Type) → List (DataW H) → Bool := fun _ ds => decide (uptoBulkAll ds ≤ 1048576)
def OpenSpec.upto (s : _root_.Go.ChangeSpec) : _root_.Go.OpenSpec := { _root_.Go.OpenSpec.ofChange s with cond := some uptoSmall }

/-- 'aditlaw7.GoodsDo', WHERE WHAT IT READS IS OF BULK AT MOST 1048576: true; the input reads as it did. -/
def goodsDoUptoRow : OpenClaim := { program := "ytgkomdpceilggaa", sum := "ca82f0f8df9587545dfb38a49f30968ea2aff6091754cc26aa6779174ffb6ca2", func := "adit/aditlaw7.GoodsDo", spec := "goodsDo", unfollowed := true, recurses := true, apart := false, narrowed := true }
def GoodsDoUptoSaid : Prop := goodsDoUptoRow.holds Try.pinned (OpenSpec.upto goodsDoSpec)

/-- 'aditlaw7.GoodsPlaces', WHERE WHAT IT READS IS OF BULK AT MOST 1048576: true; the input reads as it did. -/
def goodsPlacesUptoRow : OpenClaim := { program := "ytgkomdpceilggaa", sum := "ca82f0f8df9587545dfb38a49f30968ea2aff6091754cc26aa6779174ffb6ca2", func := "adit/aditlaw7.GoodsPlaces", spec := "goodsPlaces", unfollowed := true, recurses := true, apart := false, narrowed := true }
def GoodsPlacesUptoSaid : Prop := goodsPlacesUptoRow.holds Try.pinned (OpenSpec.upto goodsPlacesSpec)

/-- 'aditlaw7.GoodsAsks', WHERE WHAT IT READS IS OF BULK AT MOST 1048576: true; the input reads as it did. -/
def goodsAsksUptoRow : OpenClaim := { program := "ytgkomdpceilggaa", sum := "ca82f0f8df9587545dfb38a49f30968ea2aff6091754cc26aa6779174ffb6ca2", func := "adit/aditlaw7.GoodsAsks", spec := "goodsAsks", unfollowed := true, recurses := true, apart := false, narrowed := true }
def GoodsAsksUptoSaid : Prop := goodsAsksUptoRow.holds Try.pinned (OpenSpec.upto goodsAsksSpec)

/-- 'aditlaw7.GoodsHeals', WHERE WHAT IT READS IS OF BULK AT MOST 1048576: true; the input reads as it did. -/
def goodsHealsUptoRow : OpenClaim := { program := "ytgkomdpceilggaa", sum := "ca82f0f8df9587545dfb38a49f30968ea2aff6091754cc26aa6779174ffb6ca2", func := "adit/aditlaw7.GoodsHeals", spec := "goodsHeals", unfollowed := true, recurses := true, apart := false, narrowed := true }
def GoodsHealsUptoSaid : Prop := goodsHealsUptoRow.holds Try.pinned (OpenSpec.upto goodsHealsSpec)

/-- 'aditlaw8.FightBlows', WHERE WHAT IT READS IS OF BULK AT MOST 1048576: true; the input reads as it did. -/
def fightBlowsUptoRow : OpenClaim := { program := "ytgkomdpceilggaa", sum := "ca82f0f8df9587545dfb38a49f30968ea2aff6091754cc26aa6779174ffb6ca2", func := "adit/aditlaw8.FightBlows", spec := "fightBlows", apart := false, narrowed := true }
def FightBlowsUptoSaid : Prop := fightBlowsUptoRow.holds Try.pinned (OpenSpec.upto fightBlowsSpec)

/-- 'aditlaw8.FightBounds', WHERE WHAT IT READS IS OF BULK AT MOST 1048576: true; the input reads as it did. -/
def fightBoundsUptoRow : OpenClaim := { program := "ytgkomdpceilggaa", sum := "ca82f0f8df9587545dfb38a49f30968ea2aff6091754cc26aa6779174ffb6ca2", func := "adit/aditlaw8.FightBounds", spec := "fightBounds", apart := false, narrowed := true }
def FightBoundsUptoSaid : Prop := fightBoundsUptoRow.holds Try.pinned (OpenSpec.upto fightBoundsSpec)

end Rows
end Go.Proofs.Ytgkomdpceilggaa
