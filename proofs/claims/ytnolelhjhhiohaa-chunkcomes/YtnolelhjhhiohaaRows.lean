/-
  No cell of these rows narrows 'for every input' (looked for: loops, veiled, ifaces, maps, wideKeys, modest, calm, conditions, laid).
  DERIVED. THE GIVEN ROWS OF THIS SEAT. 6 by the template 'for every input the law returns true; each argument reads behind the call as it read before'; 0 by the template 'total and deterministic' (their statements: YtnolelhjhhiohaaTotals.lean).
  GIVEN WITH THE SEED: the statements are not yours to turn. If you find one false, say at which input.
  Laid BY PROGRAM, IN A SANDBOX (cutbox-rows.mjs): the forced cells as the released guide's own fill.sh prints them over the translation 08ab699859721297… (all of the seat's roots in one cut). By AI agents, Wed Nov 11 2026. No macro, syntax, notation, axiom, sorry.
-/
import Derived.Test.YtnolelhjhhiohaaChecked
import GoSem.Claim
import GoSem.ClaimJoined
import GoSem.ClaimMapViews
import Derived.JoinedTies
import Derived.KernelRfl
namespace Go.Proofs.Ytnolelhjhhiohaa
/- THE CELL 'sum', in the pinned program and in every row, IS THE sha256 OF THE DUMP (.gsa) THAT YtnolelhjhhiohaaProg.lean LOADS. Nothing in Lean hashes anything: it is a label: what it is worth is what the hold of that sum in a sandbox is worth. -/
noncomputable def Try.pinned : Pinned := { name := "ytnolelhjhhiohaa", sum := "08ab699859721297243445dc8ad3cf5790261d28d50aef1bb49b5be5cf6f949d", checked := Try.checked }
namespace Rows
def none {H : Type} : Left H := { results := [], args := [] }

/-- 'aditlaw12.ChunkSplits': WHATEVER THE INPUT: true; the input reads as it did. -/
def chunkSplitsSpec : ChangeSpec := { name := "chunkSplits", fn := fun _ => fun
  | [d] => { results := [.lit (.bool true)], args := [d] }
  | _ => none }
def chunkSplitsRow : OpenClaim := { program := "ytnolelhjhhiohaa", sum := "08ab699859721297243445dc8ad3cf5790261d28d50aef1bb49b5be5cf6f949d", func := "adit/aditlaw12.ChunkSplits", spec := "chunkSplits", apart := false }
def ChunkSplitsSaid : Prop := chunkSplitsRow.holds Try.pinned (OpenSpec.ofChange chunkSplitsSpec)

/-- ITS FALSE NEIGHBOUR: 'it returns false'. Refute it at one input. -/
def chunkSplitsWrong : ChangeSpec := { name := "chunkSplits", fn := fun _ => fun
  | [d] => { results := [.lit (.bool false)], args := [d] }
  | _ => none }
def ChunkSplitsWrongFalsely : Prop := chunkSplitsRow.holds Try.pinned (OpenSpec.ofChange chunkSplitsWrong)

/-- 'aditlaw12.ChunkSends': WHATEVER THE INPUT: true; the input reads as it did. -/
def chunkSendsSpec : ChangeSpec := { name := "chunkSends", fn := fun _ => fun
  | [d1, d2, d3] => { results := [.lit (.bool true)], args := [d1, d2, d3] }
  | _ => none }
def chunkSendsRow : OpenClaim := { program := "ytnolelhjhhiohaa", sum := "08ab699859721297243445dc8ad3cf5790261d28d50aef1bb49b5be5cf6f949d", func := "adit/aditlaw12.ChunkSends", spec := "chunkSends", apart := false }
def ChunkSendsSaid : Prop := chunkSendsRow.holds Try.pinned (OpenSpec.ofChange chunkSendsSpec)

/-- ITS FALSE NEIGHBOUR: 'it returns false'. Refute it at one input. -/
def chunkSendsWrong : ChangeSpec := { name := "chunkSends", fn := fun _ => fun
  | [d1, d2, d3] => { results := [.lit (.bool false)], args := [d1, d2, d3] }
  | _ => none }
def ChunkSendsWrongFalsely : Prop := chunkSendsRow.holds Try.pinned (OpenSpec.ofChange chunkSendsWrong)

/-- 'aditlaw12.ChunkTakes': WHATEVER THE INPUT: true; the input reads as it did. -/
def chunkTakesSpec : ChangeSpec := { name := "chunkTakes", fn := fun _ => fun
  | [d] => { results := [.lit (.bool true)], args := [d] }
  | _ => none }
def chunkTakesRow : OpenClaim := { program := "ytnolelhjhhiohaa", sum := "08ab699859721297243445dc8ad3cf5790261d28d50aef1bb49b5be5cf6f949d", func := "adit/aditlaw12.ChunkTakes", spec := "chunkTakes", apart := false }
def ChunkTakesSaid : Prop := chunkTakesRow.holds Try.pinned (OpenSpec.ofChange chunkTakesSpec)

/-- ITS FALSE NEIGHBOUR: 'it returns false'. Refute it at one input. -/
def chunkTakesWrong : ChangeSpec := { name := "chunkTakes", fn := fun _ => fun
  | [d] => { results := [.lit (.bool false)], args := [d] }
  | _ => none }
def ChunkTakesWrongFalsely : Prop := chunkTakesRow.holds Try.pinned (OpenSpec.ofChange chunkTakesWrong)

/-- 'aditlaw12.ChunkComes': WHATEVER THE INPUT: true; the input reads as it did. -/
def chunkComesSpec : ChangeSpec := { name := "chunkComes", fn := fun _ => fun
  | [d1, d2, d3, d4] => { results := [.lit (.bool true)], args := [d1, d2, d3, d4] }
  | _ => none }
def chunkComesRow : OpenClaim := { program := "ytnolelhjhhiohaa", sum := "08ab699859721297243445dc8ad3cf5790261d28d50aef1bb49b5be5cf6f949d", func := "adit/aditlaw12.ChunkComes", spec := "chunkComes", apart := false }
def ChunkComesSaid : Prop := chunkComesRow.holds Try.pinned (OpenSpec.ofChange chunkComesSpec)

/-- ITS FALSE NEIGHBOUR: 'it returns false'. Refute it at one input. -/
def chunkComesWrong : ChangeSpec := { name := "chunkComes", fn := fun _ => fun
  | [d1, d2, d3, d4] => { results := [.lit (.bool false)], args := [d1, d2, d3, d4] }
  | _ => none }
def ChunkComesWrongFalsely : Prop := chunkComesRow.holds Try.pinned (OpenSpec.ofChange chunkComesWrong)

/-- 'aditlaw12.ChunkRounds': WHATEVER THE INPUT: true; the input reads as it did. -/
def chunkRoundsSpec : ChangeSpec := { name := "chunkRounds", fn := fun _ => fun
  | [d1, d2, d3] => { results := [.lit (.bool true)], args := [d1, d2, d3] }
  | _ => none }
def chunkRoundsRow : OpenClaim := { program := "ytnolelhjhhiohaa", sum := "08ab699859721297243445dc8ad3cf5790261d28d50aef1bb49b5be5cf6f949d", func := "adit/aditlaw12.ChunkRounds", spec := "chunkRounds", apart := false }
def ChunkRoundsSaid : Prop := chunkRoundsRow.holds Try.pinned (OpenSpec.ofChange chunkRoundsSpec)

/-- ITS FALSE NEIGHBOUR: 'it returns false'. Refute it at one input. -/
def chunkRoundsWrong : ChangeSpec := { name := "chunkRounds", fn := fun _ => fun
  | [d1, d2, d3] => { results := [.lit (.bool false)], args := [d1, d2, d3] }
  | _ => none }
def ChunkRoundsWrongFalsely : Prop := chunkRoundsRow.holds Try.pinned (OpenSpec.ofChange chunkRoundsWrong)

/-- 'aditlaw12.ChunkBits': WHATEVER THE INPUT: true; the input reads as it did. -/
def chunkBitsSpec : ChangeSpec := { name := "chunkBits", fn := fun _ => fun
  | [d1, d2] => { results := [.lit (.bool true)], args := [d1, d2] }
  | _ => none }
def chunkBitsRow : OpenClaim := { program := "ytnolelhjhhiohaa", sum := "08ab699859721297243445dc8ad3cf5790261d28d50aef1bb49b5be5cf6f949d", func := "adit/aditlaw12.ChunkBits", spec := "chunkBits", apart := false }
def ChunkBitsSaid : Prop := chunkBitsRow.holds Try.pinned (OpenSpec.ofChange chunkBitsSpec)

/-- ITS FALSE NEIGHBOUR: 'it returns false'. Refute it at one input. -/
def chunkBitsWrong : ChangeSpec := { name := "chunkBits", fn := fun _ => fun
  | [d1, d2] => { results := [.lit (.bool false)], args := [d1, d2] }
  | _ => none }
def ChunkBitsWrongFalsely : Prop := chunkBitsRow.holds Try.pinned (OpenSpec.ofChange chunkBitsWrong)

/- THE SECOND FORM. 'bulk': how many values and letters a reading holds, each counted each time it is reached (what is shared counts as often as it is met; a slice's spare places count too). A statement '..UptoSaid' is the law's where the arguments, and the package variables that the reading takes, are together of bulk at most 1048576: NARROWER than '..Said'. Prove '..Said' where nothing that the law and all that it calls make is longer than what came in: it says more and counts as full. Else prove '..UptoSaid'. A law counts once. -/
mutual
def uptoBulk {H : Type} : DataW H → Nat
  | .lit (.string bytes) => bytes.length + 1
  | .lit _ => 1
  | .nil => 1
  | .ptr d => uptoBulk d + 1
  | .slice elems spare => uptoBulkAll elems + uptoBulkAll spare + 1
  | .agg parts => uptoBulkAll parts + 1
  | .iface _ d => uptoBulk d + 1
  | .map entries => uptoBulkEntries entries + 1
  | .held _ => 1
def uptoBulkAll {H : Type} : List (DataW H) → Nat
  | [] => 0
  | d :: r => uptoBulk d + uptoBulkAll r
def uptoBulkEntries {H : Type} : List (Lit × DataW H) → Nat
  | [] => 0
  | x :: r => uptoBulkEntry x + uptoBulkEntries r
def uptoBulkEntry {H : Type} : Lit × DataW H → Nat
  | (.string bytes, d) => bytes.length + uptoBulk d + 1
  | (_, d) => uptoBulk d + 1
 end
def uptoSmall : (H : Type) → List (DataW H) → Bool := fun _ ds => decide (uptoBulkAll ds ≤ 1048576)
def OpenSpec.upto (s : _root_.Go.ChangeSpec) : _root_.Go.OpenSpec := { _root_.Go.OpenSpec.ofChange s with cond := some uptoSmall }

/-- 'aditlaw12.ChunkSplits', WHERE WHAT IT READS IS OF BULK AT MOST 1048576: true; the input reads as it did. -/
def chunkSplitsUptoRow : OpenClaim := { program := "ytnolelhjhhiohaa", sum := "08ab699859721297243445dc8ad3cf5790261d28d50aef1bb49b5be5cf6f949d", func := "adit/aditlaw12.ChunkSplits", spec := "chunkSplits", apart := false, narrowed := true }
def ChunkSplitsUptoSaid : Prop := chunkSplitsUptoRow.holds Try.pinned (OpenSpec.upto chunkSplitsSpec)

/-- 'aditlaw12.ChunkSends', WHERE WHAT IT READS IS OF BULK AT MOST 1048576: true; the input reads as it did. -/
def chunkSendsUptoRow : OpenClaim := { program := "ytnolelhjhhiohaa", sum := "08ab699859721297243445dc8ad3cf5790261d28d50aef1bb49b5be5cf6f949d", func := "adit/aditlaw12.ChunkSends", spec := "chunkSends", apart := false, narrowed := true }
def ChunkSendsUptoSaid : Prop := chunkSendsUptoRow.holds Try.pinned (OpenSpec.upto chunkSendsSpec)

/-- 'aditlaw12.ChunkTakes', WHERE WHAT IT READS IS OF BULK AT MOST 1048576: true; the input reads as it did. -/
def chunkTakesUptoRow : OpenClaim := { program := "ytnolelhjhhiohaa", sum := "08ab699859721297243445dc8ad3cf5790261d28d50aef1bb49b5be5cf6f949d", func := "adit/aditlaw12.ChunkTakes", spec := "chunkTakes", apart := false, narrowed := true }
def ChunkTakesUptoSaid : Prop := chunkTakesUptoRow.holds Try.pinned (OpenSpec.upto chunkTakesSpec)

/-- 'aditlaw12.ChunkComes', WHERE WHAT IT READS IS OF BULK AT MOST 1048576: true; the input reads as it did. -/
def chunkComesUptoRow : OpenClaim := { program := "ytnolelhjhhiohaa", sum := "08ab699859721297243445dc8ad3cf5790261d28d50aef1bb49b5be5cf6f949d", func := "adit/aditlaw12.ChunkComes", spec := "chunkComes", apart := false, narrowed := true }
def ChunkComesUptoSaid : Prop := chunkComesUptoRow.holds Try.pinned (OpenSpec.upto chunkComesSpec)

/-- 'aditlaw12.ChunkRounds', WHERE WHAT IT READS IS OF BULK AT MOST 1048576: true; the input reads as it did. -/
def chunkRoundsUptoRow : OpenClaim := { program := "ytnolelhjhhiohaa", sum := "08ab699859721297243445dc8ad3cf5790261d28d50aef1bb49b5be5cf6f949d", func := "adit/aditlaw12.ChunkRounds", spec := "chunkRounds", apart := false, narrowed := true }
def ChunkRoundsUptoSaid : Prop := chunkRoundsUptoRow.holds Try.pinned (OpenSpec.upto chunkRoundsSpec)

/-- 'aditlaw12.ChunkBits', WHERE WHAT IT READS IS OF BULK AT MOST 1048576: true; the input reads as it did. -/
def chunkBitsUptoRow : OpenClaim := { program := "ytnolelhjhhiohaa", sum := "08ab699859721297243445dc8ad3cf5790261d28d50aef1bb49b5be5cf6f949d", func := "adit/aditlaw12.ChunkBits", spec := "chunkBits", apart := false, narrowed := true }
def ChunkBitsUptoSaid : Prop := chunkBitsUptoRow.holds Try.pinned (OpenSpec.upto chunkBitsSpec)

end Rows
end Go.Proofs.Ytnolelhjhhiohaa
