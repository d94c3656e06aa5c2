/-
  No cell of these rows narrows 'for every input' (looked for: loops, veiled, ifaces, maps, wideKeys, modest, calm, conditions, laid).
  DERIVED. THE GIVEN ROWS OF THIS SEAT. 9 by the template 'for every input the law returns true; each argument reads behind the call as it read before'; 0 by the template 'total and deterministic' (their statements: YtminfkedkkkhdaaTotals.lean).
  GIVEN WITH THE SEED: the statements are not yours to turn. If you find one false, say at which input.
  Laid BY PROGRAM, IN A SANDBOX (cutbox-rows.mjs): the forced cells as the released guide's own fill.sh prints them over the translation b33c12510bbfa02c… (all of the seat's roots in one cut). By AI agents, Wed Nov 11 2026. No macro, syntax, notation, axiom, sorry.
-/
import Derived.Test.YtminfkedkkkhdaaChecked
import GoSem.Claim
import GoSem.ClaimJoined
import GoSem.ClaimMapViews
import Derived.JoinedTies
import Derived.KernelRfl
namespace Go.Proofs.Ytminfkedkkkhdaa
/- THE CELL 'sum', in the pinned program and in every row, IS THE sha256 OF THE DUMP (.gsa) THAT YtminfkedkkkhdaaProg.lean LOADS. Nothing in Lean hashes anything: it is a label: what it is worth is what the hold of that sum in a sandbox is worth. -/
noncomputable def Try.pinned : Pinned := { name := "ytminfkedkkkhdaa", sum := "b33c12510bbfa02c62ecc36b526c67a2168619c697d6430ce14b2c36a9b86638", checked := Try.checked }
namespace Rows
def none {H : Type} : Left H := { results := [], args := [] }

/-- 'laws.FnExactMachineAt': WHATEVER THE INPUT: true; the input reads as it did. -/
def fnExactMachineAtSpec : ChangeSpec := { name := "fnExactMachineAt", fn := fun _ => fun
  | [d1, d2, d3] => { results := [.lit (.bool true)], args := [d1, d2, d3] }
  | _ => none }
def fnExactMachineAtRow : OpenClaim := { program := "ytminfkedkkkhdaa", sum := "b33c12510bbfa02c62ecc36b526c67a2168619c697d6430ce14b2c36a9b86638", func := "loop.example/backintime/laws.FnExactMachineAt", spec := "fnExactMachineAt", apart := false }
def FnExactMachineAtSaid : Prop := fnExactMachineAtRow.holds Try.pinned (OpenSpec.ofChange fnExactMachineAtSpec)

/-- ITS FALSE NEIGHBOUR: 'it returns false'. Refute it at one input. -/
def fnExactMachineAtWrong : ChangeSpec := { name := "fnExactMachineAt", fn := fun _ => fun
  | [d1, d2, d3] => { results := [.lit (.bool false)], args := [d1, d2, d3] }
  | _ => none }
def FnExactMachineAtWrongFalsely : Prop := fnExactMachineAtRow.holds Try.pinned (OpenSpec.ofChange fnExactMachineAtWrong)

/-- 'laws.FnExactMachines': WHATEVER THE INPUT: true; the input reads as it did. -/
def fnExactMachinesSpec : ChangeSpec := { name := "fnExactMachines", fn := fun _ => fun
  | [d1, d2] => { results := [.lit (.bool true)], args := [d1, d2] }
  | _ => none }
def fnExactMachinesRow : OpenClaim := { program := "ytminfkedkkkhdaa", sum := "b33c12510bbfa02c62ecc36b526c67a2168619c697d6430ce14b2c36a9b86638", func := "loop.example/backintime/laws.FnExactMachines", spec := "fnExactMachines", apart := false }
def FnExactMachinesSaid : Prop := fnExactMachinesRow.holds Try.pinned (OpenSpec.ofChange fnExactMachinesSpec)

/-- ITS FALSE NEIGHBOUR: 'it returns false'. Refute it at one input. -/
def fnExactMachinesWrong : ChangeSpec := { name := "fnExactMachines", fn := fun _ => fun
  | [d1, d2] => { results := [.lit (.bool false)], args := [d1, d2] }
  | _ => none }
def FnExactMachinesWrongFalsely : Prop := fnExactMachinesRow.holds Try.pinned (OpenSpec.ofChange fnExactMachinesWrong)

/-- 'laws.FnExactChoosing': WHATEVER THE INPUT: true; the input reads as it did. -/
def fnExactChoosingSpec : ChangeSpec := { name := "fnExactChoosing", fn := fun _ => fun
  | [d1, d2] => { results := [.lit (.bool true)], args := [d1, d2] }
  | _ => none }
def fnExactChoosingRow : OpenClaim := { program := "ytminfkedkkkhdaa", sum := "b33c12510bbfa02c62ecc36b526c67a2168619c697d6430ce14b2c36a9b86638", func := "loop.example/backintime/laws.FnExactChoosing", spec := "fnExactChoosing", apart := false }
def FnExactChoosingSaid : Prop := fnExactChoosingRow.holds Try.pinned (OpenSpec.ofChange fnExactChoosingSpec)

/-- ITS FALSE NEIGHBOUR: 'it returns false'. Refute it at one input. -/
def fnExactChoosingWrong : ChangeSpec := { name := "fnExactChoosing", fn := fun _ => fun
  | [d1, d2] => { results := [.lit (.bool false)], args := [d1, d2] }
  | _ => none }
def FnExactChoosingWrongFalsely : Prop := fnExactChoosingRow.holds Try.pinned (OpenSpec.ofChange fnExactChoosingWrong)

/-- 'laws.FnExactRunOfSeed': WHATEVER THE INPUT: true; the input reads as it did. -/
def fnExactRunOfSeedSpec : ChangeSpec := { name := "fnExactRunOfSeed", fn := fun _ => fun
  | [d1, d2, d3] => { results := [.lit (.bool true)], args := [d1, d2, d3] }
  | _ => none }
def fnExactRunOfSeedRow : OpenClaim := { program := "ytminfkedkkkhdaa", sum := "b33c12510bbfa02c62ecc36b526c67a2168619c697d6430ce14b2c36a9b86638", func := "loop.example/backintime/laws.FnExactRunOfSeed", spec := "fnExactRunOfSeed", apart := false }
def FnExactRunOfSeedSaid : Prop := fnExactRunOfSeedRow.holds Try.pinned (OpenSpec.ofChange fnExactRunOfSeedSpec)

/-- ITS FALSE NEIGHBOUR: 'it returns false'. Refute it at one input. -/
def fnExactRunOfSeedWrong : ChangeSpec := { name := "fnExactRunOfSeed", fn := fun _ => fun
  | [d1, d2, d3] => { results := [.lit (.bool false)], args := [d1, d2, d3] }
  | _ => none }
def FnExactRunOfSeedWrongFalsely : Prop := fnExactRunOfSeedRow.holds Try.pinned (OpenSpec.ofChange fnExactRunOfSeedWrong)

/-- 'laws.FnExactRecordOf': WHATEVER THE INPUT: true; the input reads as it did. -/
def fnExactRecordOfSpec : ChangeSpec := { name := "fnExactRecordOf", fn := fun _ => fun
  | [d1, d2] => { results := [.lit (.bool true)], args := [d1, d2] }
  | _ => none }
def fnExactRecordOfRow : OpenClaim := { program := "ytminfkedkkkhdaa", sum := "b33c12510bbfa02c62ecc36b526c67a2168619c697d6430ce14b2c36a9b86638", func := "loop.example/backintime/laws.FnExactRecordOf", spec := "fnExactRecordOf", apart := false }
def FnExactRecordOfSaid : Prop := fnExactRecordOfRow.holds Try.pinned (OpenSpec.ofChange fnExactRecordOfSpec)

/-- ITS FALSE NEIGHBOUR: 'it returns false'. Refute it at one input. -/
def fnExactRecordOfWrong : ChangeSpec := { name := "fnExactRecordOf", fn := fun _ => fun
  | [d1, d2] => { results := [.lit (.bool false)], args := [d1, d2] }
  | _ => none }
def FnExactRecordOfWrongFalsely : Prop := fnExactRecordOfRow.holds Try.pinned (OpenSpec.ofChange fnExactRecordOfWrong)

/-- 'laws.FnExactRecordOk': WHATEVER THE INPUT: true; the input reads as it did. -/
def fnExactRecordOkSpec : ChangeSpec := { name := "fnExactRecordOk", fn := fun _ => fun
  | [d1, d2] => { results := [.lit (.bool true)], args := [d1, d2] }
  | _ => none }
def fnExactRecordOkRow : OpenClaim := { program := "ytminfkedkkkhdaa", sum := "b33c12510bbfa02c62ecc36b526c67a2168619c697d6430ce14b2c36a9b86638", func := "loop.example/backintime/laws.FnExactRecordOk", spec := "fnExactRecordOk", apart := false }
def FnExactRecordOkSaid : Prop := fnExactRecordOkRow.holds Try.pinned (OpenSpec.ofChange fnExactRecordOkSpec)

/-- ITS FALSE NEIGHBOUR: 'it returns false'. Refute it at one input. -/
def fnExactRecordOkWrong : ChangeSpec := { name := "fnExactRecordOk", fn := fun _ => fun
  | [d1, d2] => { results := [.lit (.bool false)], args := [d1, d2] }
  | _ => none }
def FnExactRecordOkWrongFalsely : Prop := fnExactRecordOkRow.holds Try.pinned (OpenSpec.ofChange fnExactRecordOkWrong)

/-- 'laws.FnExactReplay': WHATEVER THE INPUT: true; the input reads as it did. -/
def fnExactReplaySpec : ChangeSpec := { name := "fnExactReplay", fn := fun _ => fun
  | [d1, d2] => { results := [.lit (.bool true)], args := [d1, d2] }
  | _ => none }
def fnExactReplayRow : OpenClaim := { program := "ytminfkedkkkhdaa", sum := "b33c12510bbfa02c62ecc36b526c67a2168619c697d6430ce14b2c36a9b86638", func := "loop.example/backintime/laws.FnExactReplay", spec := "fnExactReplay", apart := false }
def FnExactReplaySaid : Prop := fnExactReplayRow.holds Try.pinned (OpenSpec.ofChange fnExactReplaySpec)

/-- ITS FALSE NEIGHBOUR: 'it returns false'. Refute it at one input. -/
def fnExactReplayWrong : ChangeSpec := { name := "fnExactReplay", fn := fun _ => fun
  | [d1, d2] => { results := [.lit (.bool false)], args := [d1, d2] }
  | _ => none }
def FnExactReplayWrongFalsely : Prop := fnExactReplayRow.holds Try.pinned (OpenSpec.ofChange fnExactReplayWrong)

/-- 'laws.FnExactRecordSize': WHATEVER THE INPUT: true; the input reads as it did. -/
def fnExactRecordSizeSpec : ChangeSpec := { name := "fnExactRecordSize", fn := fun _ => fun
  | [d] => { results := [.lit (.bool true)], args := [d] }
  | _ => none }
def fnExactRecordSizeRow : OpenClaim := { program := "ytminfkedkkkhdaa", sum := "b33c12510bbfa02c62ecc36b526c67a2168619c697d6430ce14b2c36a9b86638", func := "loop.example/backintime/laws.FnExactRecordSize", spec := "fnExactRecordSize", apart := false }
def FnExactRecordSizeSaid : Prop := fnExactRecordSizeRow.holds Try.pinned (OpenSpec.ofChange fnExactRecordSizeSpec)

/-- ITS FALSE NEIGHBOUR: 'it returns false'. Refute it at one input. -/
def fnExactRecordSizeWrong : ChangeSpec := { name := "fnExactRecordSize", fn := fun _ => fun
  | [d] => { results := [.lit (.bool false)], args := [d] }
  | _ => none }
def FnExactRecordSizeWrongFalsely : Prop := fnExactRecordSizeRow.holds Try.pinned (OpenSpec.ofChange fnExactRecordSizeWrong)

/-- 'laws.FnExactRecordJoin': WHATEVER THE INPUT: true; the input reads as it did. -/
def fnExactRecordJoinSpec : ChangeSpec := { name := "fnExactRecordJoin", fn := fun _ => fun
  | [d1, d2, d3] => { results := [.lit (.bool true)], args := [d1, d2, d3] }
  | _ => none }
def fnExactRecordJoinRow : OpenClaim := { program := "ytminfkedkkkhdaa", sum := "b33c12510bbfa02c62ecc36b526c67a2168619c697d6430ce14b2c36a9b86638", func := "loop.example/backintime/laws.FnExactRecordJoin", spec := "fnExactRecordJoin", apart := false }
def FnExactRecordJoinSaid : Prop := fnExactRecordJoinRow.holds Try.pinned (OpenSpec.ofChange fnExactRecordJoinSpec)

/-- ITS FALSE NEIGHBOUR: 'it returns false'. Refute it at one input. -/
def fnExactRecordJoinWrong : ChangeSpec := { name := "fnExactRecordJoin", fn := fun _ => fun
  | [d1, d2, d3] => { results := [.lit (.bool false)], args := [d1, d2, d3] }
  | _ => none }
def FnExactRecordJoinWrongFalsely : Prop := fnExactRecordJoinRow.holds Try.pinned (OpenSpec.ofChange fnExactRecordJoinWrong)

/- THE SECOND FORM. 'bulk': how many values and letters a reading holds, each counted each time it is reached (what is shared counts as often as it is met; a slice's spare places count too). A statement '..UptoSaid' is the law's where the arguments, and the package variables that the reading takes, are together of bulk at most 1048576: NARROWER than '..Said'. Prove '..Said' where nothing that the law and all that it calls make is longer than what came in: it says more and counts as full. Else prove '..UptoSaid'. A law counts once. -/
mutual
def uptoBulk {H : Type} : DataW H → Nat
  | .lit (.string bytes) => bytes.length + 1
  | .lit _ => 1
  | .nil => 1
  | .ptr d => uptoBulk d + 1
  | .slice elems spare => uptoBulkAll elems + uptoBulkAll spare + 1
  | .agg parts => uptoBulkAll parts + 1
  | .iface _ d => uptoBulk d + 1
  | .map entries => uptoBulkEntries entries + 1
  | .held _ => 1
def uptoBulkAll {H : Type} : List (DataW H) → Nat
  | [] => 0
  | d :: r => uptoBulk d + uptoBulkAll r
def uptoBulkEntries {H : Type} : List (Lit × DataW H) → Nat
  | [] => 0
  | x :: r => uptoBulkEntry x + uptoBulkEntries r
def uptoBulkEntry {H : Type} : Lit × DataW H → Nat
  | (.string bytes, d) => bytes.length + uptoBulk d + 1
  | (_, d) => uptoBulk d + 1
 end
def uptoSmall : (H : Type) → List (DataW H) → Bool := fun _ ds => decide (uptoBulkAll ds ≤ 1048576)
def OpenSpec.upto (s : _root_.Go.ChangeSpec) : _root_.Go.OpenSpec := { _root_.Go.OpenSpec.ofChange s with cond := some uptoSmall }

/-- 'laws.FnExactMachineAt', WHERE WHAT IT READS IS OF BULK AT MOST 1048576: true; the input reads as it did. -/
def fnExactMachineAtUptoRow : OpenClaim := { program := "ytminfkedkkkhdaa", sum := "b33c12510bbfa02c62ecc36b526c67a2168619c697d6430ce14b2c36a9b86638", func := "loop.example/backintime/laws.FnExactMachineAt", spec := "fnExactMachineAt", apart := false, narrowed := true }
def FnExactMachineAtUptoSaid : Prop := fnExactMachineAtUptoRow.holds Try.pinned (OpenSpec.upto fnExactMachineAtSpec)

/-- 'laws.FnExactMachines', WHERE WHAT IT READS IS OF BULK AT MOST 1048576: true; the input reads as it did. -/
def fnExactMachinesUptoRow : OpenClaim := { program := "ytminfkedkkkhdaa", sum := "b33c12510bbfa02c62ecc36b526c67a2168619c697d6430ce14b2c36a9b86638", func := "loop.example/backintime/laws.FnExactMachines", spec := "fnExactMachines", apart := false, narrowed := true }
def FnExactMachinesUptoSaid : Prop := fnExactMachinesUptoRow.holds Try.pinned (OpenSpec.upto fnExactMachinesSpec)

/-- 'laws.FnExactChoosing', WHERE WHAT IT READS IS OF BULK AT MOST 1048576: true; the input reads as it did. -/
def fnExactChoosingUptoRow : OpenClaim := { program := "ytminfkedkkkhdaa", sum := "b33c12510bbfa02c62ecc36b526c67a2168619c697d6430ce14b2c36a9b86638", func := "loop.example/backintime/laws.FnExactChoosing", spec := "fnExactChoosing", apart := false, narrowed := true }
def FnExactChoosingUptoSaid : Prop := fnExactChoosingUptoRow.holds Try.pinned (OpenSpec.upto fnExactChoosingSpec)

/-- 'laws.FnExactRunOfSeed', WHERE WHAT IT READS IS OF BULK AT MOST 1048576: true; the input reads as it did. -/
def fnExactRunOfSeedUptoRow : OpenClaim := { program := "ytminfkedkkkhdaa", sum := "b33c12510bbfa02c62ecc36b526c67a2168619c697d6430ce14b2c36a9b86638", func := "loop.example/backintime/laws.FnExactRunOfSeed", spec := "fnExactRunOfSeed", apart := false, narrowed := true }
def FnExactRunOfSeedUptoSaid : Prop := fnExactRunOfSeedUptoRow.holds Try.pinned (OpenSpec.upto fnExactRunOfSeedSpec)

/-- 'laws.FnExactRecordOf', WHERE WHAT IT READS IS OF BULK AT MOST 1048576: true; the input reads as it did. -/
def fnExactRecordOfUptoRow : OpenClaim := { program := "ytminfkedkkkhdaa", sum := "b33c12510bbfa02c62ecc36b526c67a2168619c697d6430ce14b2c36a9b86638", func := "loop.example/backintime/laws.FnExactRecordOf", spec := "fnExactRecordOf", apart := false, narrowed := true }
def FnExactRecordOfUptoSaid : Prop := fnExactRecordOfUptoRow.holds Try.pinned (OpenSpec.upto fnExactRecordOfSpec)

/-- 'laws.FnExactRecordOk', WHERE WHAT IT READS IS OF BULK AT MOST 1048576: true; the input reads as it did. -/
def fnExactRecordOkUptoRow : OpenClaim := { program := "ytminfkedkkkhdaa", sum := "b33c12510bbfa02c62ecc36b526c67a2168619c697d6430ce14b2c36a9b86638", func := "loop.example/backintime/laws.FnExactRecordOk", spec := "fnExactRecordOk", apart := false, narrowed := true }
def FnExactRecordOkUptoSaid : Prop := fnExactRecordOkUptoRow.holds Try.pinned (OpenSpec.upto fnExactRecordOkSpec)

/-- 'laws.FnExactReplay', WHERE WHAT IT READS IS OF BULK AT MOST 1048576: true; the input reads as it did. -/
def fnExactReplayUptoRow : OpenClaim := { program := "ytminfkedkkkhdaa", sum := "b33c12510bbfa02c62ecc36b526c67a2168619c697d6430ce14b2c36a9b86638", func := "loop.example/backintime/laws.FnExactReplay", spec := "fnExactReplay", apart := false, narrowed := true }
def FnExactReplayUptoSaid : Prop := fnExactReplayUptoRow.holds Try.pinned (OpenSpec.upto fnExactReplaySpec)

/-- 'laws.FnExactRecordSize', WHERE WHAT IT READS IS OF BULK AT MOST 1048576: true; the input reads as it did. -/
def fnExactRecordSizeUptoRow : OpenClaim := { program := "ytminfkedkkkhdaa", sum := "b33c12510bbfa02c62ecc36b526c67a2168619c697d6430ce14b2c36a9b86638", func := "loop.example/backintime/laws.FnExactRecordSize", spec := "fnExactRecordSize", apart := false, narrowed := true }
def FnExactRecordSizeUptoSaid : Prop := fnExactRecordSizeUptoRow.holds Try.pinned (OpenSpec.upto fnExactRecordSizeSpec)

/-- 'laws.FnExactRecordJoin', WHERE WHAT IT READS IS OF BULK AT MOST 1048576: true; the input reads as it did. -/
def fnExactRecordJoinUptoRow : OpenClaim := { program := "ytminfkedkkkhdaa", sum := "b33c12510bbfa02c62ecc36b526c67a2168619c697d6430ce14b2c36a9b86638", func := "loop.example/backintime/laws.FnExactRecordJoin", spec := "fnExactRecordJoin", apart := false, narrowed := true }
def FnExactRecordJoinUptoSaid : Prop := fnExactRecordJoinUptoRow.holds Try.pinned (OpenSpec.upto fnExactRecordJoinSpec)

end Rows
end Go.Proofs.Ytminfkedkkkhdaa
