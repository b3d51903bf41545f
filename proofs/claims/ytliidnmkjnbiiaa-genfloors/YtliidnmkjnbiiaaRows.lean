/-
  No cell of these rows narrows 'for every input' (looked for: loops, veiled, ifaces, maps, wideKeys, modest, calm, conditions, laid).
  DERIVED. THE GIVEN ROWS OF THIS SEAT. 5 by the template 'for every input the law returns true; each argument reads behind the call as it read before'; 0 by the template 'total and deterministic' (their statements: YtliidnmkjnbiiaaTotals.lean).
  GIVEN WITH THE SEED: the statements are not yours to turn. If you find one false, say at which input.
  Laid BY PROGRAM, IN A SANDBOX (cutbox-rows.mjs): the forced cells as the released guide's own fill.sh prints them over the translation 92627b428d0fd6e5… (all of the seat's roots in one cut). By AI agents, Wed Nov 11 2026. No macro, syntax, notation, axiom, sorry.
-/
import Derived.Test.YtliidnmkjnbiiaaChecked
import GoSem.Claim
import GoSem.ClaimJoined
import GoSem.ClaimMapViews
import Derived.JoinedTies
import Derived.KernelRfl
namespace Go.Proofs.Ytliidnmkjnbiiaa
/- THE CELL 'sum', in the pinned program and in every row, IS THE sha256 OF THE DUMP (.gsa) THAT YtliidnmkjnbiiaaProg.lean LOADS. Nothing in Lean hashes anything: it is a label: what it is worth is what the hold of that sum in a sandbox is worth. -/
noncomputable def Try.pinned : Pinned := { name := "ytliidnmkjnbiiaa", sum := "92627b428d0fd6e54a193f9ccc4091928022386513742e4cdb0893837b7c44c3", checked := Try.checked }
namespace Rows
def none {H : Type} : Left H := { results := [], args := [] }

/-- 'aditlaw4.GenFloors': WHATEVER THE INPUT: true; the input reads as it did. -/
def genFloorsSpec : ChangeSpec := { name := "genFloors", fn := fun _ => fun
  | [d1, d2] => { results := [.lit (.bool true)], args := [d1, d2] }
  | _ => none }
def genFloorsRow : OpenClaim := { program := "ytliidnmkjnbiiaa", sum := "92627b428d0fd6e54a193f9ccc4091928022386513742e4cdb0893837b7c44c3", func := "adit/aditlaw4.GenFloors", spec := "genFloors", unfollowed := true, recurses := true, apart := false }
def GenFloorsSaid : Prop := genFloorsRow.holds Try.pinned (OpenSpec.ofChange genFloorsSpec)

/-- ITS FALSE NEIGHBOUR: 'it returns false'. Refute it at one input. -/
def genFloorsWrong : ChangeSpec := { name := "genFloors", fn := fun _ => fun
  | [d1, d2] => { results := [.lit (.bool false)], args := [d1, d2] }
  | _ => none }
def GenFloorsWrongFalsely : Prop := genFloorsRow.holds Try.pinned (OpenSpec.ofChange genFloorsWrong)

/-- 'aditlaw4.GenReaches': WHATEVER THE INPUT: true; the input reads as it did. -/
def genReachesSpec : ChangeSpec := { name := "genReaches", fn := fun _ => fun
  | [d1, d2] => { results := [.lit (.bool true)], args := [d1, d2] }
  | _ => none }
def genReachesRow : OpenClaim := { program := "ytliidnmkjnbiiaa", sum := "92627b428d0fd6e54a193f9ccc4091928022386513742e4cdb0893837b7c44c3", func := "adit/aditlaw4.GenReaches", spec := "genReaches", unfollowed := true, recurses := true, apart := false }
def GenReachesSaid : Prop := genReachesRow.holds Try.pinned (OpenSpec.ofChange genReachesSpec)

/-- ITS FALSE NEIGHBOUR: 'it returns false'. Refute it at one input. -/
def genReachesWrong : ChangeSpec := { name := "genReaches", fn := fun _ => fun
  | [d1, d2] => { results := [.lit (.bool false)], args := [d1, d2] }
  | _ => none }
def GenReachesWrongFalsely : Prop := genReachesRow.holds Try.pinned (OpenSpec.ofChange genReachesWrong)

/-- 'aditlaw4.GenStocks': WHATEVER THE INPUT: true; the input reads as it did. -/
def genStocksSpec : ChangeSpec := { name := "genStocks", fn := fun _ => fun
  | [d1, d2] => { results := [.lit (.bool true)], args := [d1, d2] }
  | _ => none }
def genStocksRow : OpenClaim := { program := "ytliidnmkjnbiiaa", sum := "92627b428d0fd6e54a193f9ccc4091928022386513742e4cdb0893837b7c44c3", func := "adit/aditlaw4.GenStocks", spec := "genStocks", unfollowed := true, recurses := true, apart := false }
def GenStocksSaid : Prop := genStocksRow.holds Try.pinned (OpenSpec.ofChange genStocksSpec)

/-- ITS FALSE NEIGHBOUR: 'it returns false'. Refute it at one input. -/
def genStocksWrong : ChangeSpec := { name := "genStocks", fn := fun _ => fun
  | [d1, d2] => { results := [.lit (.bool false)], args := [d1, d2] }
  | _ => none }
def GenStocksWrongFalsely : Prop := genStocksRow.holds Try.pinned (OpenSpec.ofChange genStocksWrong)

/-- 'aditlaw4.GenAgain': WHATEVER THE INPUT: true; the input reads as it did. -/
def genAgainSpec : ChangeSpec := { name := "genAgain", fn := fun _ => fun
  | [d1, d2, d3] => { results := [.lit (.bool true)], args := [d1, d2, d3] }
  | _ => none }
def genAgainRow : OpenClaim := { program := "ytliidnmkjnbiiaa", sum := "92627b428d0fd6e54a193f9ccc4091928022386513742e4cdb0893837b7c44c3", func := "adit/aditlaw4.GenAgain", spec := "genAgain", unfollowed := true, recurses := true, apart := false }
def GenAgainSaid : Prop := genAgainRow.holds Try.pinned (OpenSpec.ofChange genAgainSpec)

/-- ITS FALSE NEIGHBOUR: 'it returns false'. Refute it at one input. -/
def genAgainWrong : ChangeSpec := { name := "genAgain", fn := fun _ => fun
  | [d1, d2, d3] => { results := [.lit (.bool false)], args := [d1, d2, d3] }
  | _ => none }
def GenAgainWrongFalsely : Prop := genAgainRow.holds Try.pinned (OpenSpec.ofChange genAgainWrong)

/-- 'aditlaw4.GenRooms': WHATEVER THE INPUT: true; the input reads as it did. -/
def genRoomsSpec : ChangeSpec := { name := "genRooms", fn := fun _ => fun
  | [d1, d2] => { results := [.lit (.bool true)], args := [d1, d2] }
  | _ => none }
def genRoomsRow : OpenClaim := { program := "ytliidnmkjnbiiaa", sum := "92627b428d0fd6e54a193f9ccc4091928022386513742e4cdb0893837b7c44c3", func := "adit/aditlaw4.GenRooms", spec := "genRooms", unfollowed := true, recurses := true, apart := false }
def GenRoomsSaid : Prop := genRoomsRow.holds Try.pinned (OpenSpec.ofChange genRoomsSpec)

/-- ITS FALSE NEIGHBOUR: 'it returns false'. Refute it at one input. -/
def genRoomsWrong : ChangeSpec := { name := "genRooms", fn := fun _ => fun
  | [d1, d2] => { results := [.lit (.bool false)], args := [d1, d2] }
  | _ => none }
def GenRoomsWrongFalsely : Prop := genRoomsRow.holds Try.pinned (OpenSpec.ofChange genRoomsWrong)

/- THE SECOND FORM. 'bulk': how many values and letters a reading holds, each counted each time it is reached (what is shared counts as often as it is met; a slice's spare places count too). A statement '..UptoSaid' is the law's where the arguments, and the package variables that the reading takes, are together of bulk at most 1048576: NARROWER than '..Said'. Prove '..Said' where nothing that the law and all that it calls make is longer than what came in: it says more and counts as full. Else prove '..UptoSaid'. A law counts once. -/
mutual
def uptoBulk {H : Type} : DataW H → Nat
  | .lit (.string bytes) => bytes.length + 1
  | .lit _ => 1
  | .nil => 1
  | .ptr d => uptoBulk d + 1
  | .slice elems spare => uptoBulkAll elems + uptoBulkAll spare + 1
  | .agg parts => uptoBulkAll parts + 1
  | .iface _ d => uptoBulk d + 1
  | .map entries => uptoBulkEntries entries + 1
  | .held _ => 1
def uptoBulkAll {H : Type} : List (DataW H) → Nat
  | [] => 0
  | d :: r => uptoBulk d + uptoBulkAll r
def uptoBulkEntries {H : Type} : List (Lit × DataW H) → Nat
  | [] => 0
  | x :: r => uptoBulkEntry x + uptoBulkEntries r
def uptoBulkEntry {H : Type} : Lit × DataW H → Nat
  | (.string bytes, d) => bytes.length + uptoBulk d + 1
  | (_, d) => uptoBulk d + 1
 end
def uptoSmall : (H : Type) → List (DataW H) → Bool := fun _ ds => decide (uptoBulkAll ds ≤ 1048576)
def OpenSpec.upto (s : _root_.Go.ChangeSpec) : _root_.Go.OpenSpec := { _root_.Go.OpenSpec.ofChange s with cond := some uptoSmall }

/-- 'aditlaw4.GenFloors', WHERE WHAT IT READS IS OF BULK AT MOST 1048576: true; the input reads as it did. -/
def genFloorsUptoRow : OpenClaim := { program := "ytliidnmkjnbiiaa", sum := "92627b428d0fd6e54a193f9ccc4091928022386513742e4cdb0893837b7c44c3", func := "adit/aditlaw4.GenFloors", spec := "genFloors", unfollowed := true, recurses := true, apart := false, narrowed := true }
def GenFloorsUptoSaid : Prop := genFloorsUptoRow.holds Try.pinned (OpenSpec.upto genFloorsSpec)

/-- 'aditlaw4.GenReaches', WHERE WHAT IT READS IS OF BULK AT MOST 1048576: true; the input reads as it did. -/
def genReachesUptoRow : OpenClaim := { program := "ytliidnmkjnbiiaa", sum := "92627b428d0fd6e54a193f9ccc4091928022386513742e4cdb0893837b7c44c3", func := "adit/aditlaw4.GenReaches", spec := "genReaches", unfollowed := true, recurses := true, apart := false, narrowed := true }
def GenReachesUptoSaid : Prop := genReachesUptoRow.holds Try.pinned (OpenSpec.upto genReachesSpec)

/-- 'aditlaw4.GenStocks', WHERE WHAT IT READS IS OF BULK AT MOST 1048576: true; the input reads as it did. -/
def genStocksUptoRow : OpenClaim := { program := "ytliidnmkjnbiiaa", sum := "92627b428d0fd6e54a193f9ccc4091928022386513742e4cdb0893837b7c44c3", func := "adit/aditlaw4.GenStocks", spec := "genStocks", unfollowed := true, recurses := true, apart := false, narrowed := true }
def GenStocksUptoSaid : Prop := genStocksUptoRow.holds Try.pinned (OpenSpec.upto genStocksSpec)

/-- 'aditlaw4.GenAgain', WHERE WHAT IT READS IS OF BULK AT MOST 1048576: true; the input reads as it did. -/
def genAgainUptoRow : OpenClaim := { program := "ytliidnmkjnbiiaa", sum := "92627b428d0fd6e54a193f9ccc4091928022386513742e4cdb0893837b7c44c3", func := "adit/aditlaw4.GenAgain", spec := "genAgain", unfollowed := true, recurses := true, apart := false, narrowed := true }
def GenAgainUptoSaid : Prop := genAgainUptoRow.holds Try.pinned (OpenSpec.upto genAgainSpec)

/-- 'aditlaw4.GenRooms', WHERE WHAT IT READS IS OF BULK AT MOST 1048576: true; the input reads as it did. -/
def genRoomsUptoRow : OpenClaim := { program := "ytliidnmkjnbiiaa", sum := "92627b428d0fd6e54a193f9ccc4091928022386513742e4cdb0893837b7c44c3", func := "adit/aditlaw4.GenRooms", spec := "genRooms", unfollowed := true, recurses := true, apart := false, narrowed := true }
def GenRoomsUptoSaid : Prop := genRoomsUptoRow.holds Try.pinned (OpenSpec.upto genRoomsSpec)

end Rows
end Go.Proofs.Ytliidnmkjnbiiaa
