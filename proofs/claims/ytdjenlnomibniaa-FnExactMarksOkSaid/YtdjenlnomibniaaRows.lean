/-
  No cell of these rows narrows 'for every input' (looked for: loops, veiled, ifaces, maps, wideKeys, modest, calm, conditions, laid).
  DERIVED. THE GIVEN ROWS OF THIS SEAT. 11 by the template 'for every input the law returns true; each argument reads behind the call as it read before'; 0 by the template 'total and deterministic' (their statements: YtdjenlnomibniaaTotals.lean).
  GIVEN WITH THE SEED: the statements are not yours to turn. If you find one false, say at which input.
  Laid BY PROGRAM, IN A SANDBOX (cutbox-rows.mjs): the forced cells as the released guide's own fill.sh prints them over the translation f0dace107c81b519… (all of the seat's roots in one cut). By AI agents, Wed Nov 11 2026. No macro, syntax, notation, axiom, sorry.
-/
import Derived.Test.YtdjenlnomibniaaChecked
import GoSem.Claim
import GoSem.ClaimJoined
import GoSem.ClaimMapViews
import Derived.JoinedTies
import Derived.KernelRfl
namespace Go.Proofs.Ytdjenlnomibniaa
/- THE CELL 'sum', in the pinned program and in every row, IS THE sha256 OF THE DUMP (.gsa) THAT YtdjenlnomibniaaProg.lean LOADS. Nothing in Lean hashes anything: it is a label: what it is worth is what the hold of that sum in a sandbox is worth. -/
noncomputable def Try.pinned : Pinned := { name := "ytdjenlnomibniaa", sum := "f0dace107c81b519d53c2120613b463a1737973cb3c55edec10008e374210978", checked := Try.checked }
namespace Rows
def none {H : Type} : Left H := { results := [], args := [] }

/-- 'laws.FnExactUndoSize': WHATEVER THE INPUT: true; the input reads as it did. -/
def fnExactUndoSizeSpec : ChangeSpec := { name := "fnExactUndoSize", fn := fun _ => fun
  | [d] => { results := [.lit (.bool true)], args := [d] }
  | _ => none }
def fnExactUndoSizeRow : OpenClaim := { program := "ytdjenlnomibniaa", sum := "f0dace107c81b519d53c2120613b463a1737973cb3c55edec10008e374210978", func := "loop.example/backintime/laws.FnExactUndoSize", spec := "fnExactUndoSize", apart := false }
def FnExactUndoSizeSaid : Prop := fnExactUndoSizeRow.holds Try.pinned (OpenSpec.ofChange fnExactUndoSizeSpec)

/-- ITS FALSE NEIGHBOUR: 'it returns false'. Refute it at one input. -/
def fnExactUndoSizeWrong : ChangeSpec := { name := "fnExactUndoSize", fn := fun _ => fun
  | [d] => { results := [.lit (.bool false)], args := [d] }
  | _ => none }
def FnExactUndoSizeWrongFalsely : Prop := fnExactUndoSizeRow.holds Try.pinned (OpenSpec.ofChange fnExactUndoSizeWrong)

/-- 'laws.FnExactTakeBack': WHATEVER THE INPUT: true; the input reads as it did. -/
def fnExactTakeBackSpec : ChangeSpec := { name := "fnExactTakeBack", fn := fun _ => fun
  | [d1, d2] => { results := [.lit (.bool true)], args := [d1, d2] }
  | _ => none }
def fnExactTakeBackRow : OpenClaim := { program := "ytdjenlnomibniaa", sum := "f0dace107c81b519d53c2120613b463a1737973cb3c55edec10008e374210978", func := "loop.example/backintime/laws.FnExactTakeBack", spec := "fnExactTakeBack", apart := false }
def FnExactTakeBackSaid : Prop := fnExactTakeBackRow.holds Try.pinned (OpenSpec.ofChange fnExactTakeBackSpec)

/-- ITS FALSE NEIGHBOUR: 'it returns false'. Refute it at one input. -/
def fnExactTakeBackWrong : ChangeSpec := { name := "fnExactTakeBack", fn := fun _ => fun
  | [d1, d2] => { results := [.lit (.bool false)], args := [d1, d2] }
  | _ => none }
def FnExactTakeBackWrongFalsely : Prop := fnExactTakeBackRow.holds Try.pinned (OpenSpec.ofChange fnExactTakeBackWrong)

/-- 'laws.FnExactTapeOk': WHATEVER THE INPUT: true; the input reads as it did. -/
def fnExactTapeOkSpec : ChangeSpec := { name := "fnExactTapeOk", fn := fun _ => fun
  | [d1, d2] => { results := [.lit (.bool true)], args := [d1, d2] }
  | _ => none }
def fnExactTapeOkRow : OpenClaim := { program := "ytdjenlnomibniaa", sum := "f0dace107c81b519d53c2120613b463a1737973cb3c55edec10008e374210978", func := "loop.example/backintime/laws.FnExactTapeOk", spec := "fnExactTapeOk", apart := false }
def FnExactTapeOkSaid : Prop := fnExactTapeOkRow.holds Try.pinned (OpenSpec.ofChange fnExactTapeOkSpec)

/-- ITS FALSE NEIGHBOUR: 'it returns false'. Refute it at one input. -/
def fnExactTapeOkWrong : ChangeSpec := { name := "fnExactTapeOk", fn := fun _ => fun
  | [d1, d2] => { results := [.lit (.bool false)], args := [d1, d2] }
  | _ => none }
def FnExactTapeOkWrongFalsely : Prop := fnExactTapeOkRow.holds Try.pinned (OpenSpec.ofChange fnExactTapeOkWrong)

/-- 'laws.FnExactTapeMend': WHATEVER THE INPUT: true; the input reads as it did. -/
def fnExactTapeMendSpec : ChangeSpec := { name := "fnExactTapeMend", fn := fun _ => fun
  | [d1, d2] => { results := [.lit (.bool true)], args := [d1, d2] }
  | _ => none }
def fnExactTapeMendRow : OpenClaim := { program := "ytdjenlnomibniaa", sum := "f0dace107c81b519d53c2120613b463a1737973cb3c55edec10008e374210978", func := "loop.example/backintime/laws.FnExactTapeMend", spec := "fnExactTapeMend", apart := false }
def FnExactTapeMendSaid : Prop := fnExactTapeMendRow.holds Try.pinned (OpenSpec.ofChange fnExactTapeMendSpec)

/-- ITS FALSE NEIGHBOUR: 'it returns false'. Refute it at one input. -/
def fnExactTapeMendWrong : ChangeSpec := { name := "fnExactTapeMend", fn := fun _ => fun
  | [d1, d2] => { results := [.lit (.bool false)], args := [d1, d2] }
  | _ => none }
def FnExactTapeMendWrongFalsely : Prop := fnExactTapeMendRow.holds Try.pinned (OpenSpec.ofChange fnExactTapeMendWrong)

/-- 'laws.FnExactRecordJoin': WHATEVER THE INPUT: true; the input reads as it did. -/
def fnExactRecordJoinSpec : ChangeSpec := { name := "fnExactRecordJoin", fn := fun _ => fun
  | [d1, d2, d3] => { results := [.lit (.bool true)], args := [d1, d2, d3] }
  | _ => none }
def fnExactRecordJoinRow : OpenClaim := { program := "ytdjenlnomibniaa", sum := "f0dace107c81b519d53c2120613b463a1737973cb3c55edec10008e374210978", func := "loop.example/backintime/laws.FnExactRecordJoin", spec := "fnExactRecordJoin", apart := false }
def FnExactRecordJoinSaid : Prop := fnExactRecordJoinRow.holds Try.pinned (OpenSpec.ofChange fnExactRecordJoinSpec)

/-- ITS FALSE NEIGHBOUR: 'it returns false'. Refute it at one input. -/
def fnExactRecordJoinWrong : ChangeSpec := { name := "fnExactRecordJoin", fn := fun _ => fun
  | [d1, d2, d3] => { results := [.lit (.bool false)], args := [d1, d2, d3] }
  | _ => none }
def FnExactRecordJoinWrongFalsely : Prop := fnExactRecordJoinRow.holds Try.pinned (OpenSpec.ofChange fnExactRecordJoinWrong)

/-- 'laws.FnExactMarksOk': WHATEVER THE INPUT: true; the input reads as it did. -/
def fnExactMarksOkSpec : ChangeSpec := { name := "fnExactMarksOk", fn := fun _ => fun
  | [d1, d2, d3] => { results := [.lit (.bool true)], args := [d1, d2, d3] }
  | _ => none }
def fnExactMarksOkRow : OpenClaim := { program := "ytdjenlnomibniaa", sum := "f0dace107c81b519d53c2120613b463a1737973cb3c55edec10008e374210978", func := "loop.example/backintime/laws.FnExactMarksOk", spec := "fnExactMarksOk", apart := false }
def FnExactMarksOkSaid : Prop := fnExactMarksOkRow.holds Try.pinned (OpenSpec.ofChange fnExactMarksOkSpec)

/-- ITS FALSE NEIGHBOUR: 'it returns false'. Refute it at one input. -/
def fnExactMarksOkWrong : ChangeSpec := { name := "fnExactMarksOk", fn := fun _ => fun
  | [d1, d2, d3] => { results := [.lit (.bool false)], args := [d1, d2, d3] }
  | _ => none }
def FnExactMarksOkWrongFalsely : Prop := fnExactMarksOkRow.holds Try.pinned (OpenSpec.ofChange fnExactMarksOkWrong)

/-- 'laws.FnExactUndoOf': WHATEVER THE INPUT: true; the input reads as it did. -/
def fnExactUndoOfSpec : ChangeSpec := { name := "fnExactUndoOf", fn := fun _ => fun
  | [d1, d2, d3] => { results := [.lit (.bool true)], args := [d1, d2, d3] }
  | _ => none }
def fnExactUndoOfRow : OpenClaim := { program := "ytdjenlnomibniaa", sum := "f0dace107c81b519d53c2120613b463a1737973cb3c55edec10008e374210978", func := "loop.example/backintime/laws.FnExactUndoOf", spec := "fnExactUndoOf", apart := false }
def FnExactUndoOfSaid : Prop := fnExactUndoOfRow.holds Try.pinned (OpenSpec.ofChange fnExactUndoOfSpec)

/-- ITS FALSE NEIGHBOUR: 'it returns false'. Refute it at one input. -/
def fnExactUndoOfWrong : ChangeSpec := { name := "fnExactUndoOf", fn := fun _ => fun
  | [d1, d2, d3] => { results := [.lit (.bool false)], args := [d1, d2, d3] }
  | _ => none }
def FnExactUndoOfWrongFalsely : Prop := fnExactUndoOfRow.holds Try.pinned (OpenSpec.ofChange fnExactUndoOfWrong)

/-- 'laws.FnExactUndosOf': WHATEVER THE INPUT: true; the input reads as it did. -/
def fnExactUndosOfSpec : ChangeSpec := { name := "fnExactUndosOf", fn := fun _ => fun
  | [d1, d2] => { results := [.lit (.bool true)], args := [d1, d2] }
  | _ => none }
def fnExactUndosOfRow : OpenClaim := { program := "ytdjenlnomibniaa", sum := "f0dace107c81b519d53c2120613b463a1737973cb3c55edec10008e374210978", func := "loop.example/backintime/laws.FnExactUndosOf", spec := "fnExactUndosOf", apart := false }
def FnExactUndosOfSaid : Prop := fnExactUndosOfRow.holds Try.pinned (OpenSpec.ofChange fnExactUndosOfSpec)

/-- ITS FALSE NEIGHBOUR: 'it returns false'. Refute it at one input. -/
def fnExactUndosOfWrong : ChangeSpec := { name := "fnExactUndosOf", fn := fun _ => fun
  | [d1, d2] => { results := [.lit (.bool false)], args := [d1, d2] }
  | _ => none }
def FnExactUndosOfWrongFalsely : Prop := fnExactUndosOfRow.holds Try.pinned (OpenSpec.ofChange fnExactUndosOfWrong)

/-- 'laws.FnExactBackFrom': WHATEVER THE INPUT: true; the input reads as it did. -/
def fnExactBackFromSpec : ChangeSpec := { name := "fnExactBackFrom", fn := fun _ => fun
  | [d1, d2, d3] => { results := [.lit (.bool true)], args := [d1, d2, d3] }
  | _ => none }
def fnExactBackFromRow : OpenClaim := { program := "ytdjenlnomibniaa", sum := "f0dace107c81b519d53c2120613b463a1737973cb3c55edec10008e374210978", func := "loop.example/backintime/laws.FnExactBackFrom", spec := "fnExactBackFrom", apart := false }
def FnExactBackFromSaid : Prop := fnExactBackFromRow.holds Try.pinned (OpenSpec.ofChange fnExactBackFromSpec)

/-- ITS FALSE NEIGHBOUR: 'it returns false'. Refute it at one input. -/
def fnExactBackFromWrong : ChangeSpec := { name := "fnExactBackFrom", fn := fun _ => fun
  | [d1, d2, d3] => { results := [.lit (.bool false)], args := [d1, d2, d3] }
  | _ => none }
def FnExactBackFromWrongFalsely : Prop := fnExactBackFromRow.holds Try.pinned (OpenSpec.ofChange fnExactBackFromWrong)

/-- 'laws.FnExactMarksEvery': WHATEVER THE INPUT: true; the input reads as it did. -/
def fnExactMarksEverySpec : ChangeSpec := { name := "fnExactMarksEvery", fn := fun _ => fun
  | [d1, d2, d3] => { results := [.lit (.bool true)], args := [d1, d2, d3] }
  | _ => none }
def fnExactMarksEveryRow : OpenClaim := { program := "ytdjenlnomibniaa", sum := "f0dace107c81b519d53c2120613b463a1737973cb3c55edec10008e374210978", func := "loop.example/backintime/laws.FnExactMarksEvery", spec := "fnExactMarksEvery", apart := false }
def FnExactMarksEverySaid : Prop := fnExactMarksEveryRow.holds Try.pinned (OpenSpec.ofChange fnExactMarksEverySpec)

/-- ITS FALSE NEIGHBOUR: 'it returns false'. Refute it at one input. -/
def fnExactMarksEveryWrong : ChangeSpec := { name := "fnExactMarksEvery", fn := fun _ => fun
  | [d1, d2, d3] => { results := [.lit (.bool false)], args := [d1, d2, d3] }
  | _ => none }
def FnExactMarksEveryWrongFalsely : Prop := fnExactMarksEveryRow.holds Try.pinned (OpenSpec.ofChange fnExactMarksEveryWrong)

/-- 'laws.FnExactMarksThin': WHATEVER THE INPUT: true; the input reads as it did. -/
def fnExactMarksThinSpec : ChangeSpec := { name := "fnExactMarksThin", fn := fun _ => fun
  | [d1, d2] => { results := [.lit (.bool true)], args := [d1, d2] }
  | _ => none }
def fnExactMarksThinRow : OpenClaim := { program := "ytdjenlnomibniaa", sum := "f0dace107c81b519d53c2120613b463a1737973cb3c55edec10008e374210978", func := "loop.example/backintime/laws.FnExactMarksThin", spec := "fnExactMarksThin", apart := false }
def FnExactMarksThinSaid : Prop := fnExactMarksThinRow.holds Try.pinned (OpenSpec.ofChange fnExactMarksThinSpec)

/-- ITS FALSE NEIGHBOUR: 'it returns false'. Refute it at one input. -/
def fnExactMarksThinWrong : ChangeSpec := { name := "fnExactMarksThin", fn := fun _ => fun
  | [d1, d2] => { results := [.lit (.bool false)], args := [d1, d2] }
  | _ => none }
def FnExactMarksThinWrongFalsely : Prop := fnExactMarksThinRow.holds Try.pinned (OpenSpec.ofChange fnExactMarksThinWrong)

/- THE SECOND FORM. 'bulk': how many values and letters a reading holds, each counted each time it is reached (what is shared counts as often as it is met; a slice's spare places count too). A statement '..UptoSaid' is the law's where the arguments, and the package variables that the reading takes, are together of bulk at most 1048576: NARROWER than '..Said'. Prove '..Said' where nothing that the law and all that it calls make is longer than what came in: it says more and counts as full. Else prove '..UptoSaid'. A law counts once. -/
mutual
def uptoBulk {H : Type} : DataW H → Nat
  | .lit (.string bytes) => bytes.length + 1
  | .lit _ => 1
  | .nil => 1
  | .ptr d => uptoBulk d + 1
  | .slice elems spare => uptoBulkAll elems + uptoBulkAll spare + 1
  | .agg parts => uptoBulkAll parts + 1
  | .iface _ d => uptoBulk d + 1
  | .map entries => uptoBulkEntries entries + 1
  | .held _ => 1
def uptoBulkAll {H : Type} : List (DataW H) → Nat
  | [] => 0
  | d :: r => uptoBulk d + uptoBulkAll r
def uptoBulkEntries {H : Type} : List (Lit × DataW H) → Nat
  | [] => 0
  | x :: r => uptoBulkEntry x + uptoBulkEntries r
def uptoBulkEntry {H : Type} : Lit × DataW H → Nat
  | (.string bytes, d) => bytes.length + uptoBulk d + 1
  | (_, d) => uptoBulk d + 1
 end
def uptoSmall : (H : Type) → List (DataW H) → Bool := fun _ ds => decide (uptoBulkAll ds ≤ 1048576)
def OpenSpec.upto (s : _root_.Go.ChangeSpec) : _root_.Go.OpenSpec := { _root_.Go.OpenSpec.ofChange s with cond := some uptoSmall }

/-- 'laws.FnExactUndoSize', WHERE WHAT IT READS IS OF BULK AT MOST 1048576: true; the input reads as it did. -/
def fnExactUndoSizeUptoRow : OpenClaim := { program := "ytdjenlnomibniaa", sum := "f0dace107c81b519d53c2120613b463a1737973cb3c55edec10008e374210978", func := "loop.example/backintime/laws.FnExactUndoSize", spec := "fnExactUndoSize", apart := false, narrowed := true }
def FnExactUndoSizeUptoSaid : Prop := fnExactUndoSizeUptoRow.holds Try.pinned (OpenSpec.upto fnExactUndoSizeSpec)

/-- 'laws.FnExactTakeBack', WHERE WHAT IT READS IS OF BULK AT MOST 1048576: true; the input reads as it did. -/
def fnExactTakeBackUptoRow : OpenClaim := { program := "ytdjenlnomibniaa", sum := "f0dace107c81b519d53c2120613b463a1737973cb3c55edec10008e374210978", func := "loop.example/backintime/laws.FnExactTakeBack", spec := "fnExactTakeBack", apart := false, narrowed := true }
def FnExactTakeBackUptoSaid : Prop := fnExactTakeBackUptoRow.holds Try.pinned (OpenSpec.upto fnExactTakeBackSpec)

/-- 'laws.FnExactTapeOk', WHERE WHAT IT READS IS OF BULK AT MOST 1048576: true; the input reads as it did. -/
def fnExactTapeOkUptoRow : OpenClaim := { program := "ytdjenlnomibniaa", sum := "f0dace107c81b519d53c2120613b463a1737973cb3c55edec10008e374210978", func := "loop.example/backintime/laws.FnExactTapeOk", spec := "fnExactTapeOk", apart := false, narrowed := true }
def FnExactTapeOkUptoSaid : Prop := fnExactTapeOkUptoRow.holds Try.pinned (OpenSpec.upto fnExactTapeOkSpec)

/-- 'laws.FnExactTapeMend', WHERE WHAT IT READS IS OF BULK AT MOST 1048576: true; the input reads as it did. -/
def fnExactTapeMendUptoRow : OpenClaim := { program := "ytdjenlnomibniaa", sum := "f0dace107c81b519d53c2120613b463a1737973cb3c55edec10008e374210978", func := "loop.example/backintime/laws.FnExactTapeMend", spec := "fnExactTapeMend", apart := false, narrowed := true }
def FnExactTapeMendUptoSaid : Prop := fnExactTapeMendUptoRow.holds Try.pinned (OpenSpec.upto fnExactTapeMendSpec)

/-- 'laws.FnExactRecordJoin', WHERE WHAT IT READS IS OF BULK AT MOST 1048576: true; the input reads as it did. -/
def fnExactRecordJoinUptoRow : OpenClaim := { program := "ytdjenlnomibniaa", sum := "f0dace107c81b519d53c2120613b463a1737973cb3c55edec10008e374210978", func := "loop.example/backintime/laws.FnExactRecordJoin", spec := "fnExactRecordJoin", apart := false, narrowed := true }
def FnExactRecordJoinUptoSaid : Prop := fnExactRecordJoinUptoRow.holds Try.pinned (OpenSpec.upto fnExactRecordJoinSpec)

/-- 'laws.FnExactMarksOk', WHERE WHAT IT READS IS OF BULK AT MOST 1048576: true; the input reads as it did. -/
def fnExactMarksOkUptoRow : OpenClaim := { program := "ytdjenlnomibniaa", sum := "f0dace107c81b519d53c2120613b463a1737973cb3c55edec10008e374210978", func := "loop.example/backintime/laws.FnExactMarksOk", spec := "fnExactMarksOk", apart := false, narrowed := true }
def FnExactMarksOkUptoSaid : Prop := fnExactMarksOkUptoRow.holds Try.pinned (OpenSpec.upto fnExactMarksOkSpec)

/-- 'laws.FnExactUndoOf', WHERE WHAT IT READS IS OF BULK AT MOST 1048576: true; the input reads as it did. -/
def fnExactUndoOfUptoRow : OpenClaim := { program := "ytdjenlnomibniaa", sum := "f0dace107c81b519d53c2120613b463a1737973cb3c55edec10008e374210978", func := "loop.example/backintime/laws.FnExactUndoOf", spec := "fnExactUndoOf", apart := false, narrowed := true }
def FnExactUndoOfUptoSaid : Prop := fnExactUndoOfUptoRow.holds Try.pinned (OpenSpec.upto fnExactUndoOfSpec)

/-- 'laws.FnExactUndosOf', WHERE WHAT IT READS IS OF BULK AT MOST 1048576: true; the input reads as it did. -/
def fnExactUndosOfUptoRow : OpenClaim := { program := "ytdjenlnomibniaa", sum := "f0dace107c81b519d53c2120613b463a1737973cb3c55edec10008e374210978", func := "loop.example/backintime/laws.FnExactUndosOf", spec := "fnExactUndosOf", apart := false, narrowed := true }
def FnExactUndosOfUptoSaid : Prop := fnExactUndosOfUptoRow.holds Try.pinned (OpenSpec.upto fnExactUndosOfSpec)

/-- 'laws.FnExactBackFrom', WHERE WHAT IT READS IS OF BULK AT MOST 1048576: true; the input reads as it did. -/
def fnExactBackFromUptoRow : OpenClaim := { program := "ytdjenlnomibniaa", sum := "f0dace107c81b519d53c2120613b463a1737973cb3c55edec10008e374210978", func := "loop.example/backintime/laws.FnExactBackFrom", spec := "fnExactBackFrom", apart := false, narrowed := true }
def FnExactBackFromUptoSaid : Prop := fnExactBackFromUptoRow.holds Try.pinned (OpenSpec.upto fnExactBackFromSpec)

/-- 'laws.FnExactMarksEvery', WHERE WHAT IT READS IS OF BULK AT MOST 1048576: true; the input reads as it did. -/
def fnExactMarksEveryUptoRow : OpenClaim := { program := "ytdjenlnomibniaa", sum := "f0dace107c81b519d53c2120613b463a1737973cb3c55edec10008e374210978", func := "loop.example/backintime/laws.FnExactMarksEvery", spec := "fnExactMarksEvery", apart := false, narrowed := true }
def FnExactMarksEveryUptoSaid : Prop := fnExactMarksEveryUptoRow.holds Try.pinned (OpenSpec.upto fnExactMarksEverySpec)

/-- 'laws.FnExactMarksThin', WHERE WHAT IT READS IS OF BULK AT MOST 1048576: true; the input reads as it did. -/
def fnExactMarksThinUptoRow : OpenClaim := { program := "ytdjenlnomibniaa", sum := "f0dace107c81b519d53c2120613b463a1737973cb3c55edec10008e374210978", func := "loop.example/backintime/laws.FnExactMarksThin", spec := "fnExactMarksThin", apart := false, narrowed := true }
def FnExactMarksThinUptoSaid : Prop := fnExactMarksThinUptoRow.holds Try.pinned (OpenSpec.upto fnExactMarksThinSpec)

end Rows
end Go.Proofs.Ytdjenlnomibniaa
