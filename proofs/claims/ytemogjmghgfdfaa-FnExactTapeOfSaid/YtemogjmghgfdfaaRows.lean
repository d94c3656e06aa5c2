/-
  No cell of these rows narrows 'for every input' (looked for: loops, veiled, ifaces, maps, wideKeys, modest, calm, conditions, laid).
  DERIVED. THE GIVEN ROWS OF THIS SEAT. 12 by the template 'for every input the law returns true; each argument reads behind the call as it read before'; 0 by the template 'total and deterministic' (their statements: YtemogjmghgfdfaaTotals.lean).
  GIVEN WITH THE SEED: the statements are not yours to turn. If you find one false, say at which input.
  Laid BY PROGRAM, IN A SANDBOX (cutbox-rows.mjs): the forced cells as the released guide's own fill.sh prints them over the translation 0b4b606720fd0064… (all of the seat's roots in one cut). By AI agents, Wed Nov 11 2026. No macro, syntax, notation, axiom, sorry.
-/
import Derived.Test.YtemogjmghgfdfaaChecked
import GoSem.Claim
import GoSem.ClaimJoined
import GoSem.ClaimMapViews
import Derived.JoinedTies
import Derived.KernelRfl
namespace Go.Proofs.Ytemogjmghgfdfaa
/- THE CELL 'sum', in the pinned program and in every row, IS THE sha256 OF THE DUMP (.gsa) THAT YtemogjmghgfdfaaProg.lean LOADS. Nothing in Lean hashes anything: it is a label: what it is worth is what the hold of that sum in a sandbox is worth. -/
noncomputable def Try.pinned : Pinned := { name := "ytemogjmghgfdfaa", sum := "0b4b606720fd0064a0e3e3644e9a51f9e737b86b109f79c543fedd64307aed8b", checked := Try.checked }
namespace Rows
def none {H : Type} : Left H := { results := [], args := [] }

/-- 'laws.FnExactRecordOk': WHATEVER THE INPUT: true; the input reads as it did. -/
def fnExactRecordOkSpec : ChangeSpec := { name := "fnExactRecordOk", fn := fun _ => fun
  | [d1, d2] => { results := [.lit (.bool true)], args := [d1, d2] }
  | _ => none }
def fnExactRecordOkRow : OpenClaim := { program := "ytemogjmghgfdfaa", sum := "0b4b606720fd0064a0e3e3644e9a51f9e737b86b109f79c543fedd64307aed8b", func := "loop.example/backintime/laws.FnExactRecordOk", spec := "fnExactRecordOk", apart := false }
def FnExactRecordOkSaid : Prop := fnExactRecordOkRow.holds Try.pinned (OpenSpec.ofChange fnExactRecordOkSpec)

/-- ITS FALSE NEIGHBOUR: 'it returns false'. Refute it at one input. -/
def fnExactRecordOkWrong : ChangeSpec := { name := "fnExactRecordOk", fn := fun _ => fun
  | [d1, d2] => { results := [.lit (.bool false)], args := [d1, d2] }
  | _ => none }
def FnExactRecordOkWrongFalsely : Prop := fnExactRecordOkRow.holds Try.pinned (OpenSpec.ofChange fnExactRecordOkWrong)

/-- 'laws.FnExactReplay': WHATEVER THE INPUT: true; the input reads as it did. -/
def fnExactReplaySpec : ChangeSpec := { name := "fnExactReplay", fn := fun _ => fun
  | [d1, d2] => { results := [.lit (.bool true)], args := [d1, d2] }
  | _ => none }
def fnExactReplayRow : OpenClaim := { program := "ytemogjmghgfdfaa", sum := "0b4b606720fd0064a0e3e3644e9a51f9e737b86b109f79c543fedd64307aed8b", func := "loop.example/backintime/laws.FnExactReplay", spec := "fnExactReplay", apart := false }
def FnExactReplaySaid : Prop := fnExactReplayRow.holds Try.pinned (OpenSpec.ofChange fnExactReplaySpec)

/-- ITS FALSE NEIGHBOUR: 'it returns false'. Refute it at one input. -/
def fnExactReplayWrong : ChangeSpec := { name := "fnExactReplay", fn := fun _ => fun
  | [d1, d2] => { results := [.lit (.bool false)], args := [d1, d2] }
  | _ => none }
def FnExactReplayWrongFalsely : Prop := fnExactReplayRow.holds Try.pinned (OpenSpec.ofChange fnExactReplayWrong)

/-- 'laws.FnExactRecordJoin': WHATEVER THE INPUT: true; the input reads as it did. -/
def fnExactRecordJoinSpec : ChangeSpec := { name := "fnExactRecordJoin", fn := fun _ => fun
  | [d1, d2, d3] => { results := [.lit (.bool true)], args := [d1, d2, d3] }
  | _ => none }
def fnExactRecordJoinRow : OpenClaim := { program := "ytemogjmghgfdfaa", sum := "0b4b606720fd0064a0e3e3644e9a51f9e737b86b109f79c543fedd64307aed8b", func := "loop.example/backintime/laws.FnExactRecordJoin", spec := "fnExactRecordJoin", apart := false }
def FnExactRecordJoinSaid : Prop := fnExactRecordJoinRow.holds Try.pinned (OpenSpec.ofChange fnExactRecordJoinSpec)

/-- ITS FALSE NEIGHBOUR: 'it returns false'. Refute it at one input. -/
def fnExactRecordJoinWrong : ChangeSpec := { name := "fnExactRecordJoin", fn := fun _ => fun
  | [d1, d2, d3] => { results := [.lit (.bool false)], args := [d1, d2, d3] }
  | _ => none }
def FnExactRecordJoinWrongFalsely : Prop := fnExactRecordJoinRow.holds Try.pinned (OpenSpec.ofChange fnExactRecordJoinWrong)

/-- 'laws.FnExactTakeNum': WHATEVER THE INPUT: true; the input reads as it did. -/
def fnExactTakeNumSpec : ChangeSpec := { name := "fnExactTakeNum", fn := fun _ => fun
  | [d1, d2] => { results := [.lit (.bool true)], args := [d1, d2] }
  | _ => none }
def fnExactTakeNumRow : OpenClaim := { program := "ytemogjmghgfdfaa", sum := "0b4b606720fd0064a0e3e3644e9a51f9e737b86b109f79c543fedd64307aed8b", func := "loop.example/backintime/laws.FnExactTakeNum", spec := "fnExactTakeNum", apart := false }
def FnExactTakeNumSaid : Prop := fnExactTakeNumRow.holds Try.pinned (OpenSpec.ofChange fnExactTakeNumSpec)

/-- ITS FALSE NEIGHBOUR: 'it returns false'. Refute it at one input. -/
def fnExactTakeNumWrong : ChangeSpec := { name := "fnExactTakeNum", fn := fun _ => fun
  | [d1, d2] => { results := [.lit (.bool false)], args := [d1, d2] }
  | _ => none }
def FnExactTakeNumWrongFalsely : Prop := fnExactTakeNumRow.holds Try.pinned (OpenSpec.ofChange fnExactTakeNumWrong)

/-- 'laws.FnExactTapeOf': WHATEVER THE INPUT: true; the input reads as it did. -/
def fnExactTapeOfSpec : ChangeSpec := { name := "fnExactTapeOf", fn := fun _ => fun
  | [d1, d2] => { results := [.lit (.bool true)], args := [d1, d2] }
  | _ => none }
def fnExactTapeOfRow : OpenClaim := { program := "ytemogjmghgfdfaa", sum := "0b4b606720fd0064a0e3e3644e9a51f9e737b86b109f79c543fedd64307aed8b", func := "loop.example/backintime/laws.FnExactTapeOf", spec := "fnExactTapeOf", apart := false }
def FnExactTapeOfSaid : Prop := fnExactTapeOfRow.holds Try.pinned (OpenSpec.ofChange fnExactTapeOfSpec)

/-- ITS FALSE NEIGHBOUR: 'it returns false'. Refute it at one input. -/
def fnExactTapeOfWrong : ChangeSpec := { name := "fnExactTapeOf", fn := fun _ => fun
  | [d1, d2] => { results := [.lit (.bool false)], args := [d1, d2] }
  | _ => none }
def FnExactTapeOfWrongFalsely : Prop := fnExactTapeOfRow.holds Try.pinned (OpenSpec.ofChange fnExactTapeOfWrong)

/-- 'laws.FnExactReadTape': WHATEVER THE INPUT: true; the input reads as it did. -/
def fnExactReadTapeSpec : ChangeSpec := { name := "fnExactReadTape", fn := fun _ => fun
  | [d1, d2] => { results := [.lit (.bool true)], args := [d1, d2] }
  | _ => none }
def fnExactReadTapeRow : OpenClaim := { program := "ytemogjmghgfdfaa", sum := "0b4b606720fd0064a0e3e3644e9a51f9e737b86b109f79c543fedd64307aed8b", func := "loop.example/backintime/laws.FnExactReadTape", spec := "fnExactReadTape", apart := false }
def FnExactReadTapeSaid : Prop := fnExactReadTapeRow.holds Try.pinned (OpenSpec.ofChange fnExactReadTapeSpec)

/-- ITS FALSE NEIGHBOUR: 'it returns false'. Refute it at one input. -/
def fnExactReadTapeWrong : ChangeSpec := { name := "fnExactReadTape", fn := fun _ => fun
  | [d1, d2] => { results := [.lit (.bool false)], args := [d1, d2] }
  | _ => none }
def FnExactReadTapeWrongFalsely : Prop := fnExactReadTapeRow.holds Try.pinned (OpenSpec.ofChange fnExactReadTapeWrong)

/-- 'laws.FnExactTapeOk': WHATEVER THE INPUT: true; the input reads as it did. -/
def fnExactTapeOkSpec : ChangeSpec := { name := "fnExactTapeOk", fn := fun _ => fun
  | [d1, d2] => { results := [.lit (.bool true)], args := [d1, d2] }
  | _ => none }
def fnExactTapeOkRow : OpenClaim := { program := "ytemogjmghgfdfaa", sum := "0b4b606720fd0064a0e3e3644e9a51f9e737b86b109f79c543fedd64307aed8b", func := "loop.example/backintime/laws.FnExactTapeOk", spec := "fnExactTapeOk", apart := false }
def FnExactTapeOkSaid : Prop := fnExactTapeOkRow.holds Try.pinned (OpenSpec.ofChange fnExactTapeOkSpec)

/-- ITS FALSE NEIGHBOUR: 'it returns false'. Refute it at one input. -/
def fnExactTapeOkWrong : ChangeSpec := { name := "fnExactTapeOk", fn := fun _ => fun
  | [d1, d2] => { results := [.lit (.bool false)], args := [d1, d2] }
  | _ => none }
def FnExactTapeOkWrongFalsely : Prop := fnExactTapeOkRow.holds Try.pinned (OpenSpec.ofChange fnExactTapeOkWrong)

/-- 'laws.FnExactTapeMend': WHATEVER THE INPUT: true; the input reads as it did. -/
def fnExactTapeMendSpec : ChangeSpec := { name := "fnExactTapeMend", fn := fun _ => fun
  | [d1, d2] => { results := [.lit (.bool true)], args := [d1, d2] }
  | _ => none }
def fnExactTapeMendRow : OpenClaim := { program := "ytemogjmghgfdfaa", sum := "0b4b606720fd0064a0e3e3644e9a51f9e737b86b109f79c543fedd64307aed8b", func := "loop.example/backintime/laws.FnExactTapeMend", spec := "fnExactTapeMend", apart := false }
def FnExactTapeMendSaid : Prop := fnExactTapeMendRow.holds Try.pinned (OpenSpec.ofChange fnExactTapeMendSpec)

/-- ITS FALSE NEIGHBOUR: 'it returns false'. Refute it at one input. -/
def fnExactTapeMendWrong : ChangeSpec := { name := "fnExactTapeMend", fn := fun _ => fun
  | [d1, d2] => { results := [.lit (.bool false)], args := [d1, d2] }
  | _ => none }
def FnExactTapeMendWrongFalsely : Prop := fnExactTapeMendRow.holds Try.pinned (OpenSpec.ofChange fnExactTapeMendWrong)

/-- 'laws.FnExactMarksOk': WHATEVER THE INPUT: true; the input reads as it did. -/
def fnExactMarksOkSpec : ChangeSpec := { name := "fnExactMarksOk", fn := fun _ => fun
  | [d1, d2, d3] => { results := [.lit (.bool true)], args := [d1, d2, d3] }
  | _ => none }
def fnExactMarksOkRow : OpenClaim := { program := "ytemogjmghgfdfaa", sum := "0b4b606720fd0064a0e3e3644e9a51f9e737b86b109f79c543fedd64307aed8b", func := "loop.example/backintime/laws.FnExactMarksOk", spec := "fnExactMarksOk", apart := false }
def FnExactMarksOkSaid : Prop := fnExactMarksOkRow.holds Try.pinned (OpenSpec.ofChange fnExactMarksOkSpec)

/-- ITS FALSE NEIGHBOUR: 'it returns false'. Refute it at one input. -/
def fnExactMarksOkWrong : ChangeSpec := { name := "fnExactMarksOk", fn := fun _ => fun
  | [d1, d2, d3] => { results := [.lit (.bool false)], args := [d1, d2, d3] }
  | _ => none }
def FnExactMarksOkWrongFalsely : Prop := fnExactMarksOkRow.holds Try.pinned (OpenSpec.ofChange fnExactMarksOkWrong)

/-- 'laws.FnExactMarksEvery': WHATEVER THE INPUT: true; the input reads as it did. -/
def fnExactMarksEverySpec : ChangeSpec := { name := "fnExactMarksEvery", fn := fun _ => fun
  | [d1, d2, d3] => { results := [.lit (.bool true)], args := [d1, d2, d3] }
  | _ => none }
def fnExactMarksEveryRow : OpenClaim := { program := "ytemogjmghgfdfaa", sum := "0b4b606720fd0064a0e3e3644e9a51f9e737b86b109f79c543fedd64307aed8b", func := "loop.example/backintime/laws.FnExactMarksEvery", spec := "fnExactMarksEvery", apart := false }
def FnExactMarksEverySaid : Prop := fnExactMarksEveryRow.holds Try.pinned (OpenSpec.ofChange fnExactMarksEverySpec)

/-- ITS FALSE NEIGHBOUR: 'it returns false'. Refute it at one input. -/
def fnExactMarksEveryWrong : ChangeSpec := { name := "fnExactMarksEvery", fn := fun _ => fun
  | [d1, d2, d3] => { results := [.lit (.bool false)], args := [d1, d2, d3] }
  | _ => none }
def FnExactMarksEveryWrongFalsely : Prop := fnExactMarksEveryRow.holds Try.pinned (OpenSpec.ofChange fnExactMarksEveryWrong)

/-- 'laws.FnExactKept': WHATEVER THE INPUT: true; the input reads as it did. -/
def fnExactKeptSpec : ChangeSpec := { name := "fnExactKept", fn := fun _ => fun
  | [d1, d2] => { results := [.lit (.bool true)], args := [d1, d2] }
  | _ => none }
def fnExactKeptRow : OpenClaim := { program := "ytemogjmghgfdfaa", sum := "0b4b606720fd0064a0e3e3644e9a51f9e737b86b109f79c543fedd64307aed8b", func := "loop.example/backintime/laws.FnExactKept", spec := "fnExactKept", apart := false }
def FnExactKeptSaid : Prop := fnExactKeptRow.holds Try.pinned (OpenSpec.ofChange fnExactKeptSpec)

/-- ITS FALSE NEIGHBOUR: 'it returns false'. Refute it at one input. -/
def fnExactKeptWrong : ChangeSpec := { name := "fnExactKept", fn := fun _ => fun
  | [d1, d2] => { results := [.lit (.bool false)], args := [d1, d2] }
  | _ => none }
def FnExactKeptWrongFalsely : Prop := fnExactKeptRow.holds Try.pinned (OpenSpec.ofChange fnExactKeptWrong)

/-- 'laws.FnExactMarksThin': WHATEVER THE INPUT: true; the input reads as it did. -/
def fnExactMarksThinSpec : ChangeSpec := { name := "fnExactMarksThin", fn := fun _ => fun
  | [d1, d2] => { results := [.lit (.bool true)], args := [d1, d2] }
  | _ => none }
def fnExactMarksThinRow : OpenClaim := { program := "ytemogjmghgfdfaa", sum := "0b4b606720fd0064a0e3e3644e9a51f9e737b86b109f79c543fedd64307aed8b", func := "loop.example/backintime/laws.FnExactMarksThin", spec := "fnExactMarksThin", apart := false }
def FnExactMarksThinSaid : Prop := fnExactMarksThinRow.holds Try.pinned (OpenSpec.ofChange fnExactMarksThinSpec)

/-- ITS FALSE NEIGHBOUR: 'it returns false'. Refute it at one input. -/
def fnExactMarksThinWrong : ChangeSpec := { name := "fnExactMarksThin", fn := fun _ => fun
  | [d1, d2] => { results := [.lit (.bool false)], args := [d1, d2] }
  | _ => none }
def FnExactMarksThinWrongFalsely : Prop := fnExactMarksThinRow.holds Try.pinned (OpenSpec.ofChange fnExactMarksThinWrong)

/- THE SECOND FORM. 'bulk': how many values and letters a reading holds, each counted each time it is reached (what is shared counts as often as it is met; a slice's spare places count too). A statement '..UptoSaid' is the law's where the arguments, and the package variables that the reading takes, are together of bulk at most 1048576: NARROWER than '..Said'. Prove '..Said' where nothing that the law and all that it calls make is longer than what came in: it says more and counts as full. Else prove '..UptoSaid'. A law counts once. -/
mutual
def uptoBulk {H : Type} : DataW H → Nat
  | .lit (.string bytes) => bytes.length + 1
  | .lit _ => 1
  | .nil => 1
  | .ptr d => uptoBulk d + 1
  | .slice elems spare => uptoBulkAll elems + uptoBulkAll spare + 1
  | .agg parts => uptoBulkAll parts + 1
  | .iface _ d => uptoBulk d + 1
  | .map entries => uptoBulkEntries entries + 1
  | .held _ => 1
def uptoBulkAll {H : Type} : List (DataW H) → Nat
  | [] => 0
  | d :: r => uptoBulk d + uptoBulkAll r
def uptoBulkEntries {H : Type} : List (Lit × DataW H) → Nat
  | [] => 0
  | x :: r => uptoBulkEntry x + uptoBulkEntries r
def uptoBulkEntry {H : Type} : Lit × DataW H → Nat
  | (.string bytes, d) => bytes.length + uptoBulk d + 1
  | (_, d) => uptoBulk d + 1
 end
def uptoSmall : (H : Type) → List (DataW H) → Bool := fun _ ds => decide (uptoBulkAll ds ≤ 1048576)
def OpenSpec.upto (s : _root_.Go.ChangeSpec) : _root_.Go.OpenSpec := { _root_.Go.OpenSpec.ofChange s with cond := some uptoSmall }

/-- 'laws.FnExactRecordOk', WHERE WHAT IT READS IS OF BULK AT MOST 1048576: true; the input reads as it did. -/
def fnExactRecordOkUptoRow : OpenClaim := { program := "ytemogjmghgfdfaa", sum := "0b4b606720fd0064a0e3e3644e9a51f9e737b86b109f79c543fedd64307aed8b", func := "loop.example/backintime/laws.FnExactRecordOk", spec := "fnExactRecordOk", apart := false, narrowed := true }
def FnExactRecordOkUptoSaid : Prop := fnExactRecordOkUptoRow.holds Try.pinned (OpenSpec.upto fnExactRecordOkSpec)

/-- 'laws.FnExactReplay', WHERE WHAT IT READS IS OF BULK AT MOST 1048576: true; the input reads as it did. -/
def fnExactReplayUptoRow : OpenClaim := { program := "ytemogjmghgfdfaa", sum := "0b4b606720fd0064a0e3e3644e9a51f9e737b86b109f79c543fedd64307aed8b", func := "loop.example/backintime/laws.FnExactReplay", spec := "fnExactReplay", apart := false, narrowed := true }
def FnExactReplayUptoSaid : Prop := fnExactReplayUptoRow.holds Try.pinned (OpenSpec.upto fnExactReplaySpec)

/-- 'laws.FnExactRecordJoin', WHERE WHAT IT READS IS OF BULK AT MOST 1048576: true; the input reads as it did. -/
def fnExactRecordJoinUptoRow : OpenClaim := { program := "ytemogjmghgfdfaa", sum := "0b4b606720fd0064a0e3e3644e9a51f9e737b86b109f79c543fedd64307aed8b", func := "loop.example/backintime/laws.FnExactRecordJoin", spec := "fnExactRecordJoin", apart := false, narrowed := true }
def FnExactRecordJoinUptoSaid : Prop := fnExactRecordJoinUptoRow.holds Try.pinned (OpenSpec.upto fnExactRecordJoinSpec)

/-- 'laws.FnExactTakeNum', WHERE WHAT IT READS IS OF BULK AT MOST 1048576: true; the input reads as it did. -/
def fnExactTakeNumUptoRow : OpenClaim := { program := "ytemogjmghgfdfaa", sum := "0b4b606720fd0064a0e3e3644e9a51f9e737b86b109f79c543fedd64307aed8b", func := "loop.example/backintime/laws.FnExactTakeNum", spec := "fnExactTakeNum", apart := false, narrowed := true }
def FnExactTakeNumUptoSaid : Prop := fnExactTakeNumUptoRow.holds Try.pinned (OpenSpec.upto fnExactTakeNumSpec)

/-- 'laws.FnExactTapeOf', WHERE WHAT IT READS IS OF BULK AT MOST 1048576: true; the input reads as it did. -/
def fnExactTapeOfUptoRow : OpenClaim := { program := "ytemogjmghgfdfaa", sum := "0b4b606720fd0064a0e3e3644e9a51f9e737b86b109f79c543fedd64307aed8b", func := "loop.example/backintime/laws.FnExactTapeOf", spec := "fnExactTapeOf", apart := false, narrowed := true }
def FnExactTapeOfUptoSaid : Prop := fnExactTapeOfUptoRow.holds Try.pinned (OpenSpec.upto fnExactTapeOfSpec)

/-- 'laws.FnExactReadTape', WHERE WHAT IT READS IS OF BULK AT MOST 1048576: true; the input reads as it did. -/
def fnExactReadTapeUptoRow : OpenClaim := { program := "ytemogjmghgfdfaa", sum := "0b4b606720fd0064a0e3e3644e9a51f9e737b86b109f79c543fedd64307aed8b", func := "loop.example/backintime/laws.FnExactReadTape", spec := "fnExactReadTape", apart := false, narrowed := true }
def FnExactReadTapeUptoSaid : Prop := fnExactReadTapeUptoRow.holds Try.pinned (OpenSpec.upto fnExactReadTapeSpec)

/-- 'laws.FnExactTapeOk', WHERE WHAT IT READS IS OF BULK AT MOST 1048576: true; the input reads as it did. -/
def fnExactTapeOkUptoRow : OpenClaim := { program := "ytemogjmghgfdfaa", sum := "0b4b606720fd0064a0e3e3644e9a51f9e737b86b109f79c543fedd64307aed8b", func := "loop.example/backintime/laws.FnExactTapeOk", spec := "fnExactTapeOk", apart := false, narrowed := true }
def FnExactTapeOkUptoSaid : Prop := fnExactTapeOkUptoRow.holds Try.pinned (OpenSpec.upto fnExactTapeOkSpec)

/-- 'laws.FnExactTapeMend', WHERE WHAT IT READS IS OF BULK AT MOST 1048576: true; the input reads as it did. -/
def fnExactTapeMendUptoRow : OpenClaim := { program := "ytemogjmghgfdfaa", sum := "0b4b606720fd0064a0e3e3644e9a51f9e737b86b109f79c543fedd64307aed8b", func := "loop.example/backintime/laws.FnExactTapeMend", spec := "fnExactTapeMend", apart := false, narrowed := true }
def FnExactTapeMendUptoSaid : Prop := fnExactTapeMendUptoRow.holds Try.pinned (OpenSpec.upto fnExactTapeMendSpec)

/-- 'laws.FnExactMarksOk', WHERE WHAT IT READS IS OF BULK AT MOST 1048576: true; the input reads as it did. -/
def fnExactMarksOkUptoRow : OpenClaim := { program := "ytemogjmghgfdfaa", sum := "0b4b606720fd0064a0e3e3644e9a51f9e737b86b109f79c543fedd64307aed8b", func := "loop.example/backintime/laws.FnExactMarksOk", spec := "fnExactMarksOk", apart := false, narrowed := true }
def FnExactMarksOkUptoSaid : Prop := fnExactMarksOkUptoRow.holds Try.pinned (OpenSpec.upto fnExactMarksOkSpec)

/-- 'laws.FnExactMarksEvery', WHERE WHAT IT READS IS OF BULK AT MOST 1048576: true; the input reads as it did. -/
def fnExactMarksEveryUptoRow : OpenClaim := { program := "ytemogjmghgfdfaa", sum := "0b4b606720fd0064a0e3e3644e9a51f9e737b86b109f79c543fedd64307aed8b", func := "loop.example/backintime/laws.FnExactMarksEvery", spec := "fnExactMarksEvery", apart := false, narrowed := true }
def FnExactMarksEveryUptoSaid : Prop := fnExactMarksEveryUptoRow.holds Try.pinned (OpenSpec.upto fnExactMarksEverySpec)

/-- 'laws.FnExactKept', WHERE WHAT IT READS IS OF BULK AT MOST 1048576: true; the input reads as it did. -/
def fnExactKeptUptoRow : OpenClaim := { program := "ytemogjmghgfdfaa", sum := "0b4b606720fd0064a0e3e3644e9a51f9e737b86b109f79c543fedd64307aed8b", func := "loop.example/backintime/laws.FnExactKept", spec := "fnExactKept", apart := false, narrowed := true }
def FnExactKeptUptoSaid : Prop := fnExactKeptUptoRow.holds Try.pinned (OpenSpec.upto fnExactKeptSpec)

/-- 'laws.FnExactMarksThin', WHERE WHAT IT READS IS OF BULK AT MOST 1048576: true; the input reads as it did. -/
def fnExactMarksThinUptoRow : OpenClaim := { program := "ytemogjmghgfdfaa", sum := "0b4b606720fd0064a0e3e3644e9a51f9e737b86b109f79c543fedd64307aed8b", func := "loop.example/backintime/laws.FnExactMarksThin", spec := "fnExactMarksThin", apart := false, narrowed := true }
def FnExactMarksThinUptoSaid : Prop := fnExactMarksThinUptoRow.holds Try.pinned (OpenSpec.upto fnExactMarksThinSpec)

end Rows
end Go.Proofs.Ytemogjmghgfdfaa
