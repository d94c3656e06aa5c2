/-
  No cell of these rows narrows 'for every input' (looked for: loops, veiled, ifaces, maps, wideKeys, modest, calm, conditions, laid).
  DERIVED. THE GIVEN ROWS OF THIS SEAT. 2 by the template 'for every input the law returns true; each argument reads behind the call as it read before'; 0 by the template 'total and deterministic' (their statements: YtbkbppllcjcmhaaGreatTotals.lean).
  GIVEN WITH THE SEED: the statements are not yours to turn. If you find one false, say at which input.
  Laid BY PROGRAM, IN A SANDBOX (cutbox-rows.mjs): the forced cells as the released guide's own fill.sh prints them over the translation dff7d41f01cbb975… (all of the seat's roots in one cut). By AI agents, Wed Nov 11 2026. No macro, syntax, notation, axiom, sorry.
-/
import Derived.Test.YtbkbppllcjcmhaaGreatChecked
import GoSem.Claim
import GoSem.ClaimJoined
import GoSem.ClaimMapViews
import Derived.JoinedTies
import Derived.KernelRfl
namespace Go.Proofs.YtbkbppllcjcmhaaGreat
/- THE CELL 'sum', in the pinned program and in every row, IS THE sha256 OF THE DUMP (.gsa) THAT YtbkbppllcjcmhaaGreatProg.lean LOADS. Nothing in Lean hashes anything: it is a label: what it is worth is what the hold of that sum in a sandbox is worth. -/
noncomputable def Tryz.pinned : Pinned := { name := "ytbkbppllcjcmhaagreat", sum := "dff7d41f01cbb9757575a022ad85efbb794eecc2009a36a5195b6f3c31f6679e", checked := Tryz.checked }
namespace Rows
def none {H : Type} : Left H := { results := [], args := [] }

/-- 'laws.FnExactTruths': WHATEVER THE INPUT: true; the input reads as it did. -/
def fnExactTruthsSpec : ChangeSpec := { name := "fnExactTruths", fn := fun _ => fun
  | [d1, d2, d3] => { results := [.lit (.bool true)], args := [d1, d2, d3] }
  | _ => none }
def fnExactTruthsRow : OpenClaim := { program := "ytbkbppllcjcmhaagreat", sum := "dff7d41f01cbb9757575a022ad85efbb794eecc2009a36a5195b6f3c31f6679e", func := "loop.example/backintime/laws.FnExactTruths", spec := "fnExactTruths", apart := false }
def FnExactTruthsSaid : Prop := fnExactTruthsRow.holds Tryz.pinned (OpenSpec.ofChange fnExactTruthsSpec)

/-- ITS FALSE NEIGHBOUR: 'it returns false'. Refute it at one input. -/
def fnExactTruthsWrong : ChangeSpec := { name := "fnExactTruths", fn := fun _ => fun
  | [d1, d2, d3] => { results := [.lit (.bool false)], args := [d1, d2, d3] }
  | _ => none }
def FnExactTruthsWrongFalsely : Prop := fnExactTruthsRow.holds Tryz.pinned (OpenSpec.ofChange fnExactTruthsWrong)

/-- 'laws.FnExactArrive': WHATEVER THE INPUT: true; the input reads as it did. -/
def fnExactArriveSpec : ChangeSpec := { name := "fnExactArrive", fn := fun _ => fun
  | [d1, d2, d3, d4] => { results := [.lit (.bool true)], args := [d1, d2, d3, d4] }
  | _ => none }
def fnExactArriveRow : OpenClaim := { program := "ytbkbppllcjcmhaagreat", sum := "dff7d41f01cbb9757575a022ad85efbb794eecc2009a36a5195b6f3c31f6679e", func := "loop.example/backintime/laws.FnExactArrive", spec := "fnExactArrive", apart := false }
def FnExactArriveSaid : Prop := fnExactArriveRow.holds Tryz.pinned (OpenSpec.ofChange fnExactArriveSpec)

/-- ITS FALSE NEIGHBOUR: 'it returns false'. Refute it at one input. -/
def fnExactArriveWrong : ChangeSpec := { name := "fnExactArrive", fn := fun _ => fun
  | [d1, d2, d3, d4] => { results := [.lit (.bool false)], args := [d1, d2, d3, d4] }
  | _ => none }
def FnExactArriveWrongFalsely : Prop := fnExactArriveRow.holds Tryz.pinned (OpenSpec.ofChange fnExactArriveWrong)

/- THE SECOND FORM. 'bulk': how many values and letters a reading holds, each counted each time it is reached (what is shared counts as often as it is met; a slice's spare places count too). A statement '..UptoSaid' is the law's where the arguments, and the package variables that the reading takes, are together of bulk at most 1048576: NARROWER than '..Said'. Prove '..Said' where nothing that the law and all that it calls make is longer than what came in: it says more and counts as full. Else prove '..UptoSaid'. A law counts once. -/
mutual
def uptoBulk {H : Type} : DataW H → Nat
  | .lit (.string bytes) => bytes.length + 1
  | .lit _ => 1
  | .nil => 1
  | .ptr d => uptoBulk d + 1
  | .slice elems spare => uptoBulkAll elems + uptoBulkAll spare + 1
  | .agg parts => uptoBulkAll parts + 1
  | .iface _ d => uptoBulk d + 1
  | .map entries => uptoBulkEntries entries + 1
  | .held _ => 1
def uptoBulkAll {H : Type} : List (DataW H) → Nat
  | [] => 0
  | d :: r => uptoBulk d + uptoBulkAll r
def uptoBulkEntries {H : Type} : List (Lit × DataW H) → Nat
  | [] => 0
  | x :: r => uptoBulkEntry x + uptoBulkEntries r
def uptoBulkEntry {H : Type} : Lit × DataW H → Nat
  | (.string bytes, d) => bytes.length + uptoBulk d + 1
  | (_, d) => uptoBulk d + 1
 end
def uptoSmall : (H : Type) → List (DataW H) → Bool := fun _ ds => decide (uptoBulkAll ds ≤ 1048576)
def OpenSpec.upto (s : _root_.Go.ChangeSpec) : _root_.Go.OpenSpec := { _root_.Go.OpenSpec.ofChange s with cond := some uptoSmall }

/-- 'laws.FnExactTruths', WHERE WHAT IT READS IS OF BULK AT MOST 1048576: true; the input reads as it did. -/
def fnExactTruthsUptoRow : OpenClaim := { program := "ytbkbppllcjcmhaagreat", sum := "dff7d41f01cbb9757575a022ad85efbb794eecc2009a36a5195b6f3c31f6679e", func := "loop.example/backintime/laws.FnExactTruths", spec := "fnExactTruths", apart := false, narrowed := true }
def FnExactTruthsUptoSaid : Prop := fnExactTruthsUptoRow.holds Tryz.pinned (OpenSpec.upto fnExactTruthsSpec)

/-- 'laws.FnExactArrive', WHERE WHAT IT READS IS OF BULK AT MOST 1048576: true; the input reads as it did. -/
def fnExactArriveUptoRow : OpenClaim := { program := "ytbkbppllcjcmhaagreat", sum := "dff7d41f01cbb9757575a022ad85efbb794eecc2009a36a5195b6f3c31f6679e", func := "loop.example/backintime/laws.FnExactArrive", spec := "fnExactArrive", apart := false, narrowed := true }
def FnExactArriveUptoSaid : Prop := fnExactArriveUptoRow.holds Tryz.pinned (OpenSpec.upto fnExactArriveSpec)

end Rows
end Go.Proofs.YtbkbppllcjcmhaaGreat
