/-
  No cell of these rows narrows 'for every input' (looked for: loops, veiled, ifaces, maps, wideKeys, modest, calm, conditions, laid).
  DERIVED. THE GIVEN ROWS OF THIS SEAT. 9 by the template 'for every input the law returns true; each argument reads behind the call as it read before'; 0 by the template 'total and deterministic' (their statements: YtbfmhcegnffolaaTotals.lean).
  GIVEN WITH THE SEED: the statements are not yours to turn. If you find one false, say at which input.
  Laid BY PROGRAM, IN A SANDBOX (cutbox-rows.mjs): the forced cells as the released guide's own fill.sh prints them over the translation fee8be9a427dd3e3… (all of the seat's roots in one cut). By AI agents, Wed Nov 11 2026. No macro, syntax, notation, axiom, sorry.
-/
import Derived.Test.YtbfmhcegnffolaaChecked
import GoSem.Claim
import GoSem.ClaimJoined
import GoSem.ClaimMapViews
import Derived.JoinedTies
import Derived.KernelRfl
namespace Go.Proofs.Ytbfmhcegnffolaa
/- THE CELL 'sum', in the pinned program and in every row, IS THE sha256 OF THE DUMP (.gsa) THAT YtbfmhcegnffolaaProg.lean LOADS. Nothing in Lean hashes anything: it is a label: what it is worth is what the hold of that sum in a sandbox is worth. -/
noncomputable def Try.pinned : Pinned := { name := "ytbfmhcegnffolaa", sum := "fee8be9a427dd3e319499f44c94a8d743547f3954c9e1d0a00976095a0739b0b", checked := Try.checked }
namespace Rows
def none {H : Type} : Left H := { results := [], args := [] }

/-- 'laws.FnAnyDo': WHATEVER THE INPUT: true; the input reads as it did. -/
def fnAnyDoSpec : ChangeSpec := { name := "fnAnyDo", fn := fun _ => fun
  | [d1, d2, d3] => { results := [.lit (.bool true)], args := [d1, d2, d3] }
  | _ => none }
def fnAnyDoRow : OpenClaim := { program := "ytbfmhcegnffolaa", sum := "fee8be9a427dd3e319499f44c94a8d743547f3954c9e1d0a00976095a0739b0b", func := "loop.example/backintime/laws.FnAnyDo", spec := "fnAnyDo", apart := false }
def FnAnyDoSaid : Prop := fnAnyDoRow.holds Try.pinned (OpenSpec.ofChange fnAnyDoSpec)

/-- ITS FALSE NEIGHBOUR: 'it returns false'. Refute it at one input. -/
def fnAnyDoWrong : ChangeSpec := { name := "fnAnyDo", fn := fun _ => fun
  | [d1, d2, d3] => { results := [.lit (.bool false)], args := [d1, d2, d3] }
  | _ => none }
def FnAnyDoWrongFalsely : Prop := fnAnyDoRow.holds Try.pinned (OpenSpec.ofChange fnAnyDoWrong)

/-- 'laws.FnExactCanDo': WHATEVER THE INPUT: true; the input reads as it did. -/
def fnExactCanDoSpec : ChangeSpec := { name := "fnExactCanDo", fn := fun _ => fun
  | [d1, d2, d3] => { results := [.lit (.bool true)], args := [d1, d2, d3] }
  | _ => none }
def fnExactCanDoRow : OpenClaim := { program := "ytbfmhcegnffolaa", sum := "fee8be9a427dd3e319499f44c94a8d743547f3954c9e1d0a00976095a0739b0b", func := "loop.example/backintime/laws.FnExactCanDo", spec := "fnExactCanDo", apart := false }
def FnExactCanDoSaid : Prop := fnExactCanDoRow.holds Try.pinned (OpenSpec.ofChange fnExactCanDoSpec)

/-- ITS FALSE NEIGHBOUR: 'it returns false'. Refute it at one input. -/
def fnExactCanDoWrong : ChangeSpec := { name := "fnExactCanDo", fn := fun _ => fun
  | [d1, d2, d3] => { results := [.lit (.bool false)], args := [d1, d2, d3] }
  | _ => none }
def FnExactCanDoWrongFalsely : Prop := fnExactCanDoRow.holds Try.pinned (OpenSpec.ofChange fnExactCanDoWrong)

/-- 'laws.FnExactCellOf': WHATEVER THE INPUT: true; the input reads as it did. -/
def fnExactCellOfSpec : ChangeSpec := { name := "fnExactCellOf", fn := fun _ => fun
  | [d1, d2] => { results := [.lit (.bool true)], args := [d1, d2] }
  | _ => none }
def fnExactCellOfRow : OpenClaim := { program := "ytbfmhcegnffolaa", sum := "fee8be9a427dd3e319499f44c94a8d743547f3954c9e1d0a00976095a0739b0b", func := "loop.example/backintime/laws.FnExactCellOf", spec := "fnExactCellOf", apart := false }
def FnExactCellOfSaid : Prop := fnExactCellOfRow.holds Try.pinned (OpenSpec.ofChange fnExactCellOfSpec)

/-- ITS FALSE NEIGHBOUR: 'it returns false'. Refute it at one input. -/
def fnExactCellOfWrong : ChangeSpec := { name := "fnExactCellOf", fn := fun _ => fun
  | [d1, d2] => { results := [.lit (.bool false)], args := [d1, d2] }
  | _ => none }
def FnExactCellOfWrongFalsely : Prop := fnExactCellOfRow.holds Try.pinned (OpenSpec.ofChange fnExactCellOfWrong)

/-- 'laws.FnExactDo': WHATEVER THE INPUT: true; the input reads as it did. -/
def fnExactDoSpec : ChangeSpec := { name := "fnExactDo", fn := fun _ => fun
  | [d1, d2, d3] => { results := [.lit (.bool true)], args := [d1, d2, d3] }
  | _ => none }
def fnExactDoRow : OpenClaim := { program := "ytbfmhcegnffolaa", sum := "fee8be9a427dd3e319499f44c94a8d743547f3954c9e1d0a00976095a0739b0b", func := "loop.example/backintime/laws.FnExactDo", spec := "fnExactDo", apart := false }
def FnExactDoSaid : Prop := fnExactDoRow.holds Try.pinned (OpenSpec.ofChange fnExactDoSpec)

/-- ITS FALSE NEIGHBOUR: 'it returns false'. Refute it at one input. -/
def fnExactDoWrong : ChangeSpec := { name := "fnExactDo", fn := fun _ => fun
  | [d1, d2, d3] => { results := [.lit (.bool false)], args := [d1, d2, d3] }
  | _ => none }
def FnExactDoWrongFalsely : Prop := fnExactDoRow.holds Try.pinned (OpenSpec.ofChange fnExactDoWrong)

/-- 'laws.FnExactInstrOf': WHATEVER THE INPUT: true; the input reads as it did. -/
def fnExactInstrOfSpec : ChangeSpec := { name := "fnExactInstrOf", fn := fun _ => fun
  | [d1, d2, d3] => { results := [.lit (.bool true)], args := [d1, d2, d3] }
  | _ => none }
def fnExactInstrOfRow : OpenClaim := { program := "ytbfmhcegnffolaa", sum := "fee8be9a427dd3e319499f44c94a8d743547f3954c9e1d0a00976095a0739b0b", func := "loop.example/backintime/laws.FnExactInstrOf", spec := "fnExactInstrOf", apart := false }
def FnExactInstrOfSaid : Prop := fnExactInstrOfRow.holds Try.pinned (OpenSpec.ofChange fnExactInstrOfSpec)

/-- ITS FALSE NEIGHBOUR: 'it returns false'. Refute it at one input. -/
def fnExactInstrOfWrong : ChangeSpec := { name := "fnExactInstrOf", fn := fun _ => fun
  | [d1, d2, d3] => { results := [.lit (.bool false)], args := [d1, d2, d3] }
  | _ => none }
def FnExactInstrOfWrongFalsely : Prop := fnExactInstrOfRow.holds Try.pinned (OpenSpec.ofChange fnExactInstrOfWrong)

/-- 'laws.FnExactMachineNew': WHATEVER THE INPUT: true; the input reads as it did. -/
def fnExactMachineNewSpec : ChangeSpec := { name := "fnExactMachineNew", fn := fun _ => fun
  | [] => { results := [.lit (.bool true)], args := [] }
  | _ => none }
def fnExactMachineNewRow : OpenClaim := { program := "ytbfmhcegnffolaa", sum := "fee8be9a427dd3e319499f44c94a8d743547f3954c9e1d0a00976095a0739b0b", func := "loop.example/backintime/laws.FnExactMachineNew", spec := "fnExactMachineNew", apart := false }
def FnExactMachineNewSaid : Prop := fnExactMachineNewRow.holds Try.pinned (OpenSpec.ofChange fnExactMachineNewSpec)

/-- ITS FALSE NEIGHBOUR: 'it returns false'. Refute it at one input. -/
def fnExactMachineNewWrong : ChangeSpec := { name := "fnExactMachineNew", fn := fun _ => fun
  | [] => { results := [.lit (.bool false)], args := [] }
  | _ => none }
def FnExactMachineNewWrongFalsely : Prop := fnExactMachineNewRow.holds Try.pinned (OpenSpec.ofChange fnExactMachineNewWrong)

/-- 'laws.FnExactMachineOk': WHATEVER THE INPUT: true; the input reads as it did. -/
def fnExactMachineOkSpec : ChangeSpec := { name := "fnExactMachineOk", fn := fun _ => fun
  | [d1, d2] => { results := [.lit (.bool true)], args := [d1, d2] }
  | _ => none }
def fnExactMachineOkRow : OpenClaim := { program := "ytbfmhcegnffolaa", sum := "fee8be9a427dd3e319499f44c94a8d743547f3954c9e1d0a00976095a0739b0b", func := "loop.example/backintime/laws.FnExactMachineOk", spec := "fnExactMachineOk", apart := false }
def FnExactMachineOkSaid : Prop := fnExactMachineOkRow.holds Try.pinned (OpenSpec.ofChange fnExactMachineOkSpec)

/-- ITS FALSE NEIGHBOUR: 'it returns false'. Refute it at one input. -/
def fnExactMachineOkWrong : ChangeSpec := { name := "fnExactMachineOk", fn := fun _ => fun
  | [d1, d2] => { results := [.lit (.bool false)], args := [d1, d2] }
  | _ => none }
def FnExactMachineOkWrongFalsely : Prop := fnExactMachineOkRow.holds Try.pinned (OpenSpec.ofChange fnExactMachineOkWrong)

/-- 'laws.FnExactSameMachine': WHATEVER THE INPUT: true; the input reads as it did. -/
def fnExactSameMachineSpec : ChangeSpec := { name := "fnExactSameMachine", fn := fun _ => fun
  | [d1, d2] => { results := [.lit (.bool true)], args := [d1, d2] }
  | _ => none }
def fnExactSameMachineRow : OpenClaim := { program := "ytbfmhcegnffolaa", sum := "fee8be9a427dd3e319499f44c94a8d743547f3954c9e1d0a00976095a0739b0b", func := "loop.example/backintime/laws.FnExactSameMachine", spec := "fnExactSameMachine", apart := false }
def FnExactSameMachineSaid : Prop := fnExactSameMachineRow.holds Try.pinned (OpenSpec.ofChange fnExactSameMachineSpec)

/-- ITS FALSE NEIGHBOUR: 'it returns false'. Refute it at one input. -/
def fnExactSameMachineWrong : ChangeSpec := { name := "fnExactSameMachine", fn := fun _ => fun
  | [d1, d2] => { results := [.lit (.bool false)], args := [d1, d2] }
  | _ => none }
def FnExactSameMachineWrongFalsely : Prop := fnExactSameMachineRow.holds Try.pinned (OpenSpec.ofChange fnExactSameMachineWrong)

/-- 'laws.FnExactStuck': WHATEVER THE INPUT: true; the input reads as it did. -/
def fnExactStuckSpec : ChangeSpec := { name := "fnExactStuck", fn := fun _ => fun
  | [d1, d2] => { results := [.lit (.bool true)], args := [d1, d2] }
  | _ => none }
def fnExactStuckRow : OpenClaim := { program := "ytbfmhcegnffolaa", sum := "fee8be9a427dd3e319499f44c94a8d743547f3954c9e1d0a00976095a0739b0b", func := "loop.example/backintime/laws.FnExactStuck", spec := "fnExactStuck", apart := false }
def FnExactStuckSaid : Prop := fnExactStuckRow.holds Try.pinned (OpenSpec.ofChange fnExactStuckSpec)

/-- ITS FALSE NEIGHBOUR: 'it returns false'. Refute it at one input. -/
def fnExactStuckWrong : ChangeSpec := { name := "fnExactStuck", fn := fun _ => fun
  | [d1, d2] => { results := [.lit (.bool false)], args := [d1, d2] }
  | _ => none }
def FnExactStuckWrongFalsely : Prop := fnExactStuckRow.holds Try.pinned (OpenSpec.ofChange fnExactStuckWrong)

/- THE SECOND FORM. 'bulk': how many values and letters a reading holds, each counted each time it is reached (what is shared counts as often as it is met; a slice's spare places count too). A statement '..UptoSaid' is the law's where the arguments, and the package variables that the reading takes, are together of bulk at most 1048576: NARROWER than '..Said'. Prove '..Said' where nothing that the law and all that it calls make is longer than what came in: it says more and counts as full. Else prove '..UptoSaid'. A law counts once. -/
mutual
def uptoBulk {H : Type} : DataW H → Nat
  | .lit (.string bytes) => bytes.length + 1
  | .lit _ => 1
  | .nil => 1
  | .ptr d => uptoBulk d + 1
  | .slice elems spare => uptoBulkAll elems + uptoBulkAll spare + 1
  | .agg parts => uptoBulkAll parts + 1
  | .iface _ d => uptoBulk d + 1
  | .map entries => uptoBulkEntries entries + 1
  | .held _ => 1
def uptoBulkAll {H : Type} : List (DataW H) → Nat
  | [] => 0
  | d :: r => uptoBulk d + uptoBulkAll r
def uptoBulkEntries {H : Type} : List (Lit × DataW H) → Nat
  | [] => 0
  | x :: r => uptoBulkEntry x + uptoBulkEntries r
def uptoBulkEntry {H : Type} : Lit × DataW H → Nat
  | (.string bytes, d) => bytes.length + uptoBulk d + 1
  | (_, d) => uptoBulk d + 1
 end
def uptoSmall : (H : Type) → List (DataW H) → Bool := fun _ ds => decide (uptoBulkAll ds ≤ 1048576)
def OpenSpec.upto (s : _root_.Go.ChangeSpec) : _root_.Go.OpenSpec := { _root_.Go.OpenSpec.ofChange s with cond := some uptoSmall }

/-- 'laws.FnAnyDo', WHERE WHAT IT READS IS OF BULK AT MOST 1048576: true; the input reads as it did. -/
def fnAnyDoUptoRow : OpenClaim := { program := "ytbfmhcegnffolaa", sum := "fee8be9a427dd3e319499f44c94a8d743547f3954c9e1d0a00976095a0739b0b", func := "loop.example/backintime/laws.FnAnyDo", spec := "fnAnyDo", apart := false, narrowed := true }
def FnAnyDoUptoSaid : Prop := fnAnyDoUptoRow.holds Try.pinned (OpenSpec.upto fnAnyDoSpec)

/-- 'laws.FnExactCanDo', WHERE WHAT IT READS IS OF BULK AT MOST 1048576: true; the input reads as it did. -/
def fnExactCanDoUptoRow : OpenClaim := { program := "ytbfmhcegnffolaa", sum := "fee8be9a427dd3e319499f44c94a8d743547f3954c9e1d0a00976095a0739b0b", func := "loop.example/backintime/laws.FnExactCanDo", spec := "fnExactCanDo", apart := false, narrowed := true }
def FnExactCanDoUptoSaid : Prop := fnExactCanDoUptoRow.holds Try.pinned (OpenSpec.upto fnExactCanDoSpec)

/-- 'laws.FnExactCellOf', WHERE WHAT IT READS IS OF BULK AT MOST 1048576: true; the input reads as it did. -/
def fnExactCellOfUptoRow : OpenClaim := { program := "ytbfmhcegnffolaa", sum := "fee8be9a427dd3e319499f44c94a8d743547f3954c9e1d0a00976095a0739b0b", func := "loop.example/backintime/laws.FnExactCellOf", spec := "fnExactCellOf", apart := false, narrowed := true }
def FnExactCellOfUptoSaid : Prop := fnExactCellOfUptoRow.holds Try.pinned (OpenSpec.upto fnExactCellOfSpec)

/-- 'laws.FnExactDo', WHERE WHAT IT READS IS OF BULK AT MOST 1048576: true; the input reads as it did. -/
def fnExactDoUptoRow : OpenClaim := { program := "ytbfmhcegnffolaa", sum := "fee8be9a427dd3e319499f44c94a8d743547f3954c9e1d0a00976095a0739b0b", func := "loop.example/backintime/laws.FnExactDo", spec := "fnExactDo", apart := false, narrowed := true }
def FnExactDoUptoSaid : Prop := fnExactDoUptoRow.holds Try.pinned (OpenSpec.upto fnExactDoSpec)

/-- 'laws.FnExactInstrOf', WHERE WHAT IT READS IS OF BULK AT MOST 1048576: true; the input reads as it did. -/
def fnExactInstrOfUptoRow : OpenClaim := { program := "ytbfmhcegnffolaa", sum := "fee8be9a427dd3e319499f44c94a8d743547f3954c9e1d0a00976095a0739b0b", func := "loop.example/backintime/laws.FnExactInstrOf", spec := "fnExactInstrOf", apart := false, narrowed := true }
def FnExactInstrOfUptoSaid : Prop := fnExactInstrOfUptoRow.holds Try.pinned (OpenSpec.upto fnExactInstrOfSpec)

/-- 'laws.FnExactMachineNew', WHERE WHAT IT READS IS OF BULK AT MOST 1048576: true; the input reads as it did. -/
def fnExactMachineNewUptoRow : OpenClaim := { program := "ytbfmhcegnffolaa", sum := "fee8be9a427dd3e319499f44c94a8d743547f3954c9e1d0a00976095a0739b0b", func := "loop.example/backintime/laws.FnExactMachineNew", spec := "fnExactMachineNew", apart := false, narrowed := true }
def FnExactMachineNewUptoSaid : Prop := fnExactMachineNewUptoRow.holds Try.pinned (OpenSpec.upto fnExactMachineNewSpec)

/-- 'laws.FnExactMachineOk', WHERE WHAT IT READS IS OF BULK AT MOST 1048576: true; the input reads as it did. -/
def fnExactMachineOkUptoRow : OpenClaim := { program := "ytbfmhcegnffolaa", sum := "fee8be9a427dd3e319499f44c94a8d743547f3954c9e1d0a00976095a0739b0b", func := "loop.example/backintime/laws.FnExactMachineOk", spec := "fnExactMachineOk", apart := false, narrowed := true }
def FnExactMachineOkUptoSaid : Prop := fnExactMachineOkUptoRow.holds Try.pinned (OpenSpec.upto fnExactMachineOkSpec)

/-- 'laws.FnExactSameMachine', WHERE WHAT IT READS IS OF BULK AT MOST 1048576: true; the input reads as it did. -/
def fnExactSameMachineUptoRow : OpenClaim := { program := "ytbfmhcegnffolaa", sum := "fee8be9a427dd3e319499f44c94a8d743547f3954c9e1d0a00976095a0739b0b", func := "loop.example/backintime/laws.FnExactSameMachine", spec := "fnExactSameMachine", apart := false, narrowed := true }
def FnExactSameMachineUptoSaid : Prop := fnExactSameMachineUptoRow.holds Try.pinned (OpenSpec.upto fnExactSameMachineSpec)

/-- 'laws.FnExactStuck', WHERE WHAT IT READS IS OF BULK AT MOST 1048576: true; the input reads as it did. -/
def fnExactStuckUptoRow : OpenClaim := { program := "ytbfmhcegnffolaa", sum := "fee8be9a427dd3e319499f44c94a8d743547f3954c9e1d0a00976095a0739b0b", func := "loop.example/backintime/laws.FnExactStuck", spec := "fnExactStuck", apart := false, narrowed := true }
def FnExactStuckUptoSaid : Prop := fnExactStuckUptoRow.holds Try.pinned (OpenSpec.upto fnExactStuckSpec)

end Rows
end Go.Proofs.Ytbfmhcegnffolaa
