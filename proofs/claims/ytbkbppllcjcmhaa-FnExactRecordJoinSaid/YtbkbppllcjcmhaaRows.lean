/-
  No cell of these rows narrows 'for every input' (looked for: loops, veiled, ifaces, maps, wideKeys, modest, calm, conditions, laid).
  DERIVED. THE GIVEN ROWS OF THIS SEAT. 8 by the template 'for every input the law returns true; each argument reads behind the call as it read before'; 0 by the template 'total and deterministic' (their statements: YtbkbppllcjcmhaaTotals.lean).
  GIVEN WITH THE SEED: the statements are not yours to turn. If you find one false, say at which input.
  Laid BY PROGRAM, IN A SANDBOX (cutbox-rows.mjs): the forced cells as the released guide's own fill.sh prints them over the translation 2beda7fb3e0c3045… (all of the seat's roots in one cut). By AI agents, Wed Nov 11 2026. No macro, syntax, notation, axiom, sorry.
-/
import Derived.Test.YtbkbppllcjcmhaaChecked
import GoSem.Claim
import GoSem.ClaimJoined
import GoSem.ClaimMapViews
import Derived.JoinedTies
import Derived.KernelRfl
namespace Go.Proofs.Ytbkbppllcjcmhaa
/- THE CELL 'sum', in the pinned program and in every row, IS THE sha256 OF THE DUMP (.gsa) THAT YtbkbppllcjcmhaaProg.lean LOADS. Nothing in Lean hashes anything: it is a label: what it is worth is what the hold of that sum in a sandbox is worth. -/
noncomputable def Try.pinned : Pinned := { name := "ytbkbppllcjcmhaa", sum := "2beda7fb3e0c30458b6257f34aa82c61c7f5bb38d9462c828cedbe42f8789fcf", checked := Try.checked }
namespace Rows
def none {H : Type} : Left H := { results := [], args := [] }

/-- 'laws.FnExactWhenOk': WHATEVER THE INPUT: true; the input reads as it did. -/
def fnExactWhenOkSpec : ChangeSpec := { name := "fnExactWhenOk", fn := fun _ => fun
  | [d] => { results := [.lit (.bool true)], args := [d] }
  | _ => none }
def fnExactWhenOkRow : OpenClaim := { program := "ytbkbppllcjcmhaa", sum := "2beda7fb3e0c30458b6257f34aa82c61c7f5bb38d9462c828cedbe42f8789fcf", func := "loop.example/backintime/laws.FnExactWhenOk", spec := "fnExactWhenOk", apart := false }
def FnExactWhenOkSaid : Prop := fnExactWhenOkRow.holds Try.pinned (OpenSpec.ofChange fnExactWhenOkSpec)

/-- ITS FALSE NEIGHBOUR: 'it returns false'. Refute it at one input. -/
def fnExactWhenOkWrong : ChangeSpec := { name := "fnExactWhenOk", fn := fun _ => fun
  | [d] => { results := [.lit (.bool false)], args := [d] }
  | _ => none }
def FnExactWhenOkWrongFalsely : Prop := fnExactWhenOkRow.holds Try.pinned (OpenSpec.ofChange fnExactWhenOkWrong)

/-- 'laws.FnExactWhenNot': WHATEVER THE INPUT: true; the input reads as it did. -/
def fnExactWhenNotSpec : ChangeSpec := { name := "fnExactWhenNot", fn := fun _ => fun
  | [d] => { results := [.lit (.bool true)], args := [d] }
  | _ => none }
def fnExactWhenNotRow : OpenClaim := { program := "ytbkbppllcjcmhaa", sum := "2beda7fb3e0c30458b6257f34aa82c61c7f5bb38d9462c828cedbe42f8789fcf", func := "loop.example/backintime/laws.FnExactWhenNot", spec := "fnExactWhenNot", apart := false }
def FnExactWhenNotSaid : Prop := fnExactWhenNotRow.holds Try.pinned (OpenSpec.ofChange fnExactWhenNotSpec)

/-- ITS FALSE NEIGHBOUR: 'it returns false'. Refute it at one input. -/
def fnExactWhenNotWrong : ChangeSpec := { name := "fnExactWhenNot", fn := fun _ => fun
  | [d] => { results := [.lit (.bool false)], args := [d] }
  | _ => none }
def FnExactWhenNotWrongFalsely : Prop := fnExactWhenNotRow.holds Try.pinned (OpenSpec.ofChange fnExactWhenNotWrong)

/-- 'laws.FnExactWhenBoth': WHATEVER THE INPUT: true; the input reads as it did. -/
def fnExactWhenBothSpec : ChangeSpec := { name := "fnExactWhenBoth", fn := fun _ => fun
  | [d1, d2] => { results := [.lit (.bool true)], args := [d1, d2] }
  | _ => none }
def fnExactWhenBothRow : OpenClaim := { program := "ytbkbppllcjcmhaa", sum := "2beda7fb3e0c30458b6257f34aa82c61c7f5bb38d9462c828cedbe42f8789fcf", func := "loop.example/backintime/laws.FnExactWhenBoth", spec := "fnExactWhenBoth", apart := false }
def FnExactWhenBothSaid : Prop := fnExactWhenBothRow.holds Try.pinned (OpenSpec.ofChange fnExactWhenBothSpec)

/-- ITS FALSE NEIGHBOUR: 'it returns false'. Refute it at one input. -/
def fnExactWhenBothWrong : ChangeSpec := { name := "fnExactWhenBoth", fn := fun _ => fun
  | [d1, d2] => { results := [.lit (.bool false)], args := [d1, d2] }
  | _ => none }
def FnExactWhenBothWrongFalsely : Prop := fnExactWhenBothRow.holds Try.pinned (OpenSpec.ofChange fnExactWhenBothWrong)

/-- 'laws.FnExactWhenValue': WHATEVER THE INPUT: true; the input reads as it did. -/
def fnExactWhenValueSpec : ChangeSpec := { name := "fnExactWhenValue", fn := fun _ => fun
  | [d1, d2] => { results := [.lit (.bool true)], args := [d1, d2] }
  | _ => none }
def fnExactWhenValueRow : OpenClaim := { program := "ytbkbppllcjcmhaa", sum := "2beda7fb3e0c30458b6257f34aa82c61c7f5bb38d9462c828cedbe42f8789fcf", func := "loop.example/backintime/laws.FnExactWhenValue", spec := "fnExactWhenValue", apart := false }
def FnExactWhenValueSaid : Prop := fnExactWhenValueRow.holds Try.pinned (OpenSpec.ofChange fnExactWhenValueSpec)

/-- ITS FALSE NEIGHBOUR: 'it returns false'. Refute it at one input. -/
def fnExactWhenValueWrong : ChangeSpec := { name := "fnExactWhenValue", fn := fun _ => fun
  | [d1, d2] => { results := [.lit (.bool false)], args := [d1, d2] }
  | _ => none }
def FnExactWhenValueWrongFalsely : Prop := fnExactWhenValueRow.holds Try.pinned (OpenSpec.ofChange fnExactWhenValueWrong)

/-- 'laws.FnExactHolds': WHATEVER THE INPUT: true; the input reads as it did. -/
def fnExactHoldsSpec : ChangeSpec := { name := "fnExactHolds", fn := fun _ => fun
  | [d1, d2] => { results := [.lit (.bool true)], args := [d1, d2] }
  | _ => none }
def fnExactHoldsRow : OpenClaim := { program := "ytbkbppllcjcmhaa", sum := "2beda7fb3e0c30458b6257f34aa82c61c7f5bb38d9462c828cedbe42f8789fcf", func := "loop.example/backintime/laws.FnExactHolds", spec := "fnExactHolds", apart := false }
def FnExactHoldsSaid : Prop := fnExactHoldsRow.holds Try.pinned (OpenSpec.ofChange fnExactHoldsSpec)

/-- ITS FALSE NEIGHBOUR: 'it returns false'. Refute it at one input. -/
def fnExactHoldsWrong : ChangeSpec := { name := "fnExactHolds", fn := fun _ => fun
  | [d1, d2] => { results := [.lit (.bool false)], args := [d1, d2] }
  | _ => none }
def FnExactHoldsWrongFalsely : Prop := fnExactHoldsRow.holds Try.pinned (OpenSpec.ofChange fnExactHoldsWrong)

/-- 'laws.FnExactRecordJoin': WHATEVER THE INPUT: true; the input reads as it did. -/
def fnExactRecordJoinSpec : ChangeSpec := { name := "fnExactRecordJoin", fn := fun _ => fun
  | [d1, d2, d3] => { results := [.lit (.bool true)], args := [d1, d2, d3] }
  | _ => none }
def fnExactRecordJoinRow : OpenClaim := { program := "ytbkbppllcjcmhaa", sum := "2beda7fb3e0c30458b6257f34aa82c61c7f5bb38d9462c828cedbe42f8789fcf", func := "loop.example/backintime/laws.FnExactRecordJoin", spec := "fnExactRecordJoin", apart := false }
def FnExactRecordJoinSaid : Prop := fnExactRecordJoinRow.holds Try.pinned (OpenSpec.ofChange fnExactRecordJoinSpec)

/-- ITS FALSE NEIGHBOUR: 'it returns false'. Refute it at one input. -/
def fnExactRecordJoinWrong : ChangeSpec := { name := "fnExactRecordJoin", fn := fun _ => fun
  | [d1, d2, d3] => { results := [.lit (.bool false)], args := [d1, d2, d3] }
  | _ => none }
def FnExactRecordJoinWrongFalsely : Prop := fnExactRecordJoinRow.holds Try.pinned (OpenSpec.ofChange fnExactRecordJoinWrong)

/-- 'laws.FnExactMarksEvery': WHATEVER THE INPUT: true; the input reads as it did. -/
def fnExactMarksEverySpec : ChangeSpec := { name := "fnExactMarksEvery", fn := fun _ => fun
  | [d1, d2, d3] => { results := [.lit (.bool true)], args := [d1, d2, d3] }
  | _ => none }
def fnExactMarksEveryRow : OpenClaim := { program := "ytbkbppllcjcmhaa", sum := "2beda7fb3e0c30458b6257f34aa82c61c7f5bb38d9462c828cedbe42f8789fcf", func := "loop.example/backintime/laws.FnExactMarksEvery", spec := "fnExactMarksEvery", apart := false }
def FnExactMarksEverySaid : Prop := fnExactMarksEveryRow.holds Try.pinned (OpenSpec.ofChange fnExactMarksEverySpec)

/-- ITS FALSE NEIGHBOUR: 'it returns false'. Refute it at one input. -/
def fnExactMarksEveryWrong : ChangeSpec := { name := "fnExactMarksEvery", fn := fun _ => fun
  | [d1, d2, d3] => { results := [.lit (.bool false)], args := [d1, d2, d3] }
  | _ => none }
def FnExactMarksEveryWrongFalsely : Prop := fnExactMarksEveryRow.holds Try.pinned (OpenSpec.ofChange fnExactMarksEveryWrong)

/-- 'laws.FnExactMarksThin': WHATEVER THE INPUT: true; the input reads as it did. -/
def fnExactMarksThinSpec : ChangeSpec := { name := "fnExactMarksThin", fn := fun _ => fun
  | [d1, d2] => { results := [.lit (.bool true)], args := [d1, d2] }
  | _ => none }
def fnExactMarksThinRow : OpenClaim := { program := "ytbkbppllcjcmhaa", sum := "2beda7fb3e0c30458b6257f34aa82c61c7f5bb38d9462c828cedbe42f8789fcf", func := "loop.example/backintime/laws.FnExactMarksThin", spec := "fnExactMarksThin", apart := false }
def FnExactMarksThinSaid : Prop := fnExactMarksThinRow.holds Try.pinned (OpenSpec.ofChange fnExactMarksThinSpec)

/-- ITS FALSE NEIGHBOUR: 'it returns false'. Refute it at one input. -/
def fnExactMarksThinWrong : ChangeSpec := { name := "fnExactMarksThin", fn := fun _ => fun
  | [d1, d2] => { results := [.lit (.bool false)], args := [d1, d2] }
  | _ => none }
def FnExactMarksThinWrongFalsely : Prop := fnExactMarksThinRow.holds Try.pinned (OpenSpec.ofChange fnExactMarksThinWrong)

/- THE SECOND FORM. 'bulk': how many values and letters a reading holds, each counted each time it is reached (what is shared counts as often as it is met; a slice's spare places count too). A statement '..UptoSaid' is the law's where the arguments, and the package variables that the reading takes, are together of bulk at most 1048576: NARROWER than '..Said'. Prove '..Said' where nothing that the law and all that it calls make is longer than what came in: it says more and counts as full. Else prove '..UptoSaid'. A law counts once. -/
mutual
def uptoBulk {H : Type} : DataW H → Nat
  | .lit (.string bytes) => bytes.length + 1
  | .lit _ => 1
  | .nil => 1
  | .ptr d => uptoBulk d + 1
  | .slice elems spare => uptoBulkAll elems + uptoBulkAll spare + 1
  | .agg parts => uptoBulkAll parts + 1
  | .iface _ d => uptoBulk d + 1
  | .map entries => uptoBulkEntries entries + 1
  | .held _ => 1
def uptoBulkAll {H : Type} : List (DataW H) → Nat
  | [] => 0
  | d :: r => uptoBulk d + uptoBulkAll r
def uptoBulkEntries {H : Type} : List (Lit × DataW H) → Nat
  | [] => 0
  | x :: r => uptoBulkEntry x + uptoBulkEntries r
def uptoBulkEntry {H : Type} : Lit × DataW H → Nat
  | (.string bytes, d) => bytes.length + uptoBulk d + 1
  | (_, d) => uptoBulk d + 1
 end
def uptoSmall : (H : Type) → List (DataW H) → Bool := fun _ ds => decide (uptoBulkAll ds ≤ 1048576)
def OpenSpec.upto (s : _root_.Go.ChangeSpec) : _root_.Go.OpenSpec := { _root_.Go.OpenSpec.ofChange s with cond := some uptoSmall }

/-- 'laws.FnExactWhenOk', WHERE WHAT IT READS IS OF BULK AT MOST 1048576: true; the input reads as it did. -/
def fnExactWhenOkUptoRow : OpenClaim := { program := "ytbkbppllcjcmhaa", sum := "2beda7fb3e0c30458b6257f34aa82c61c7f5bb38d9462c828cedbe42f8789fcf", func := "loop.example/backintime/laws.FnExactWhenOk", spec := "fnExactWhenOk", apart := false, narrowed := true }
def FnExactWhenOkUptoSaid : Prop := fnExactWhenOkUptoRow.holds Try.pinned (OpenSpec.upto fnExactWhenOkSpec)

/-- 'laws.FnExactWhenNot', WHERE WHAT IT READS IS OF BULK AT MOST 1048576: true; the input reads as it did. -/
def fnExactWhenNotUptoRow : OpenClaim := { program := "ytbkbppllcjcmhaa", sum := "2beda7fb3e0c30458b6257f34aa82c61c7f5bb38d9462c828cedbe42f8789fcf", func := "loop.example/backintime/laws.FnExactWhenNot", spec := "fnExactWhenNot", apart := false, narrowed := true }
def FnExactWhenNotUptoSaid : Prop := fnExactWhenNotUptoRow.holds Try.pinned (OpenSpec.upto fnExactWhenNotSpec)

/-- 'laws.FnExactWhenBoth', WHERE WHAT IT READS IS OF BULK AT MOST 1048576: true; the input reads as it did. -/
def fnExactWhenBothUptoRow : OpenClaim := { program := "ytbkbppllcjcmhaa", sum := "2beda7fb3e0c30458b6257f34aa82c61c7f5bb38d9462c828cedbe42f8789fcf", func := "loop.example/backintime/laws.FnExactWhenBoth", spec := "fnExactWhenBoth", apart := false, narrowed := true }
def FnExactWhenBothUptoSaid : Prop := fnExactWhenBothUptoRow.holds Try.pinned (OpenSpec.upto fnExactWhenBothSpec)

/-- 'laws.FnExactWhenValue', WHERE WHAT IT READS IS OF BULK AT MOST 1048576: true; the input reads as it did. -/
def fnExactWhenValueUptoRow : OpenClaim := { program := "ytbkbppllcjcmhaa", sum := "2beda7fb3e0c30458b6257f34aa82c61c7f5bb38d9462c828cedbe42f8789fcf", func := "loop.example/backintime/laws.FnExactWhenValue", spec := "fnExactWhenValue", apart := false, narrowed := true }
def FnExactWhenValueUptoSaid : Prop := fnExactWhenValueUptoRow.holds Try.pinned (OpenSpec.upto fnExactWhenValueSpec)

/-- 'laws.FnExactHolds', WHERE WHAT IT READS IS OF BULK AT MOST 1048576: true; the input reads as it did. -/
def fnExactHoldsUptoRow : OpenClaim := { program := "ytbkbppllcjcmhaa", sum := "2beda7fb3e0c30458b6257f34aa82c61c7f5bb38d9462c828cedbe42f8789fcf", func := "loop.example/backintime/laws.FnExactHolds", spec := "fnExactHolds", apart := false, narrowed := true }
def FnExactHoldsUptoSaid : Prop := fnExactHoldsUptoRow.holds Try.pinned (OpenSpec.upto fnExactHoldsSpec)

/-- 'laws.FnExactRecordJoin', WHERE WHAT IT READS IS OF BULK AT MOST 1048576: true; the input reads as it did. -/
def fnExactRecordJoinUptoRow : OpenClaim := { program := "ytbkbppllcjcmhaa", sum := "2beda7fb3e0c30458b6257f34aa82c61c7f5bb38d9462c828cedbe42f8789fcf", func := "loop.example/backintime/laws.FnExactRecordJoin", spec := "fnExactRecordJoin", apart := false, narrowed := true }
def FnExactRecordJoinUptoSaid : Prop := fnExactRecordJoinUptoRow.holds Try.pinned (OpenSpec.upto fnExactRecordJoinSpec)

/-- 'laws.FnExactMarksEvery', WHERE WHAT IT READS IS OF BULK AT MOST 1048576: true; the input reads as it did. -/
def fnExactMarksEveryUptoRow : OpenClaim := { program := "ytbkbppllcjcmhaa", sum := "2beda7fb3e0c30458b6257f34aa82c61c7f5bb38d9462c828cedbe42f8789fcf", func := "loop.example/backintime/laws.FnExactMarksEvery", spec := "fnExactMarksEvery", apart := false, narrowed := true }
def FnExactMarksEveryUptoSaid : Prop := fnExactMarksEveryUptoRow.holds Try.pinned (OpenSpec.upto fnExactMarksEverySpec)

/-- 'laws.FnExactMarksThin', WHERE WHAT IT READS IS OF BULK AT MOST 1048576: true; the input reads as it did. -/
def fnExactMarksThinUptoRow : OpenClaim := { program := "ytbkbppllcjcmhaa", sum := "2beda7fb3e0c30458b6257f34aa82c61c7f5bb38d9462c828cedbe42f8789fcf", func := "loop.example/backintime/laws.FnExactMarksThin", spec := "fnExactMarksThin", apart := false, narrowed := true }
def FnExactMarksThinUptoSaid : Prop := fnExactMarksThinUptoRow.holds Try.pinned (OpenSpec.upto fnExactMarksThinSpec)

end Rows
end Go.Proofs.Ytbkbppllcjcmhaa
