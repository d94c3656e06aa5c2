/-
  No cell of these rows narrows 'for every input' (looked for: loops, veiled, ifaces, maps, wideKeys, modest, calm, conditions, laid).
  DERIVED. THE GIVEN ROWS OF THIS SEAT. 3 by the template 'for every input the law returns true; each argument reads behind the call as it read before'; 0 by the template 'total and deterministic' (their statements: YtdjenlnomibniaaGreatTotals.lean).
  GIVEN WITH THE SEED: the statements are not yours to turn. If you find one false, say at which input.
  Laid BY PROGRAM, IN A SANDBOX (cutbox-rows.mjs): the forced cells as the released guide's own fill.sh prints them over the translation 98f2fbec36e4a47b… (all of the seat's roots in one cut). By AI agents, Wed Nov 11 2026. No macro, syntax, notation, axiom, sorry.
-/
import Derived.Test.YtdjenlnomibniaaGreatChecked
import GoSem.Claim
import GoSem.ClaimJoined
import GoSem.ClaimMapViews
import Derived.JoinedTies
import Derived.KernelRfl
namespace Go.Proofs.YtdjenlnomibniaaGreat
/- THE CELL 'sum', in the pinned program and in every row, IS THE sha256 OF THE DUMP (.gsa) THAT YtdjenlnomibniaaGreatProg.lean LOADS. Nothing in Lean hashes anything: it is a label: what it is worth is what the hold of that sum in a sandbox is worth. -/
noncomputable def Tryz.pinned : Pinned := { name := "ytdjenlnomibniaagreat", sum := "98f2fbec36e4a47b1f1dff612715d9b9a1235faf8a4e52a02081daae57a47ab2", checked := Tryz.checked }
namespace Rows
def none {H : Type} : Left H := { results := [], args := [] }

/-- 'laws.FnExactRecordCut': WHATEVER THE INPUT: true; the input reads as it did. -/
def fnExactRecordCutSpec : ChangeSpec := { name := "fnExactRecordCut", fn := fun _ => fun
  | [d1, d2, d3] => { results := [.lit (.bool true)], args := [d1, d2, d3] }
  | _ => none }
def fnExactRecordCutRow : OpenClaim := { program := "ytdjenlnomibniaagreat", sum := "98f2fbec36e4a47b1f1dff612715d9b9a1235faf8a4e52a02081daae57a47ab2", func := "loop.example/backintime/laws.FnExactRecordCut", spec := "fnExactRecordCut", apart := false }
def FnExactRecordCutSaid : Prop := fnExactRecordCutRow.holds Tryz.pinned (OpenSpec.ofChange fnExactRecordCutSpec)

/-- ITS FALSE NEIGHBOUR: 'it returns false'. Refute it at one input. -/
def fnExactRecordCutWrong : ChangeSpec := { name := "fnExactRecordCut", fn := fun _ => fun
  | [d1, d2, d3] => { results := [.lit (.bool false)], args := [d1, d2, d3] }
  | _ => none }
def FnExactRecordCutWrongFalsely : Prop := fnExactRecordCutRow.holds Tryz.pinned (OpenSpec.ofChange fnExactRecordCutWrong)

/-- 'laws.FnExactTapeRecord': WHATEVER THE INPUT: true; the input reads as it did. -/
def fnExactTapeRecordSpec : ChangeSpec := { name := "fnExactTapeRecord", fn := fun _ => fun
  | [d1, d2] => { results := [.lit (.bool true)], args := [d1, d2] }
  | _ => none }
def fnExactTapeRecordRow : OpenClaim := { program := "ytdjenlnomibniaagreat", sum := "98f2fbec36e4a47b1f1dff612715d9b9a1235faf8a4e52a02081daae57a47ab2", func := "loop.example/backintime/laws.FnExactTapeRecord", spec := "fnExactTapeRecord", apart := false }
def FnExactTapeRecordSaid : Prop := fnExactTapeRecordRow.holds Tryz.pinned (OpenSpec.ofChange fnExactTapeRecordSpec)

/-- ITS FALSE NEIGHBOUR: 'it returns false'. Refute it at one input. -/
def fnExactTapeRecordWrong : ChangeSpec := { name := "fnExactTapeRecord", fn := fun _ => fun
  | [d1, d2] => { results := [.lit (.bool false)], args := [d1, d2] }
  | _ => none }
def FnExactTapeRecordWrongFalsely : Prop := fnExactTapeRecordRow.holds Tryz.pinned (OpenSpec.ofChange fnExactTapeRecordWrong)

/-- 'laws.FnExactArrive': WHATEVER THE INPUT: true; the input reads as it did. -/
def fnExactArriveSpec : ChangeSpec := { name := "fnExactArrive", fn := fun _ => fun
  | [d1, d2, d3, d4] => { results := [.lit (.bool true)], args := [d1, d2, d3, d4] }
  | _ => none }
def fnExactArriveRow : OpenClaim := { program := "ytdjenlnomibniaagreat", sum := "98f2fbec36e4a47b1f1dff612715d9b9a1235faf8a4e52a02081daae57a47ab2", func := "loop.example/backintime/laws.FnExactArrive", spec := "fnExactArrive", apart := false }
def FnExactArriveSaid : Prop := fnExactArriveRow.holds Tryz.pinned (OpenSpec.ofChange fnExactArriveSpec)

/-- ITS FALSE NEIGHBOUR: 'it returns false'. Refute it at one input. -/
def fnExactArriveWrong : ChangeSpec := { name := "fnExactArrive", fn := fun _ => fun
  | [d1, d2, d3, d4] => { results := [.lit (.bool false)], args := [d1, d2, d3, d4] }
  | _ => none }
def FnExactArriveWrongFalsely : Prop := fnExactArriveRow.holds Tryz.pinned (OpenSpec.ofChange fnExactArriveWrong)

/- THE SECOND FORM. 'bulk': how many values and letters a reading holds, each counted each time it is reached (what is shared counts as often as it is met; a slice's spare places count too). A statement '..UptoSaid' is the law's where the arguments, and the package variables that the reading takes, are together of bulk at most 1048576: NARROWER than '..Said'. Prove '..Said' where nothing that the law and all that it calls make is longer than what came in: it says more and counts as full. Else prove '..UptoSaid'. A law counts once. -/
mutual
def uptoBulk {H : Type} : DataW H → Nat
  | .lit (.string bytes) => bytes.length + 1
  | .lit _ => 1
  | .nil => 1
  | .ptr d => uptoBulk d + 1
  | .slice elems spare => uptoBulkAll elems + uptoBulkAll spare + 1
  | .agg parts => uptoBulkAll parts + 1
  | .iface _ d => uptoBulk d + 1
  | .map entries => uptoBulkEntries entries + 1
  | .held _ => 1
def uptoBulkAll {H : Type} : List (DataW H) → Nat
  | [] => 0
  | d :: r => uptoBulk d + uptoBulkAll r
def uptoBulkEntries {H : Type} : List (Lit × DataW H) → Nat
  | [] => 0
  | x :: r => uptoBulkEntry x + uptoBulkEntries r
def uptoBulkEntry {H : Type} : Lit × DataW H → Nat
  | (.string bytes, d) => bytes.length + uptoBulk d + 1
  | (_, d) => uptoBulk d + 1
 end
def uptoSmall : (H : Type) → List (DataW H) → Bool := fun _ ds => decide (uptoBulkAll ds ≤ 1048576)
def OpenSpec.upto (s : _root_.Go.ChangeSpec) : _root_.Go.OpenSpec := { _root_.Go.OpenSpec.ofChange s with cond := some uptoSmall }

/-- 'laws.FnExactRecordCut', WHERE WHAT IT READS IS OF BULK AT MOST 1048576: true; the input reads as it did. -/
def fnExactRecordCutUptoRow : OpenClaim := { program := "ytdjenlnomibniaagreat", sum := "98f2fbec36e4a47b1f1dff612715d9b9a1235faf8a4e52a02081daae57a47ab2", func := "loop.example/backintime/laws.FnExactRecordCut", spec := "fnExactRecordCut", apart := false, narrowed := true }
def FnExactRecordCutUptoSaid : Prop := fnExactRecordCutUptoRow.holds Tryz.pinned (OpenSpec.upto fnExactRecordCutSpec)

/-- 'laws.FnExactTapeRecord', WHERE WHAT IT READS IS OF BULK AT MOST 1048576: true; the input reads as it did. -/
def fnExactTapeRecordUptoRow : OpenClaim := { program := "ytdjenlnomibniaagreat", sum := "98f2fbec36e4a47b1f1dff612715d9b9a1235faf8a4e52a02081daae57a47ab2", func := "loop.example/backintime/laws.FnExactTapeRecord", spec := "fnExactTapeRecord", apart := false, narrowed := true }
def FnExactTapeRecordUptoSaid : Prop := fnExactTapeRecordUptoRow.holds Tryz.pinned (OpenSpec.upto fnExactTapeRecordSpec)

/-- 'laws.FnExactArrive', WHERE WHAT IT READS IS OF BULK AT MOST 1048576: true; the input reads as it did. -/
def fnExactArriveUptoRow : OpenClaim := { program := "ytdjenlnomibniaagreat", sum := "98f2fbec36e4a47b1f1dff612715d9b9a1235faf8a4e52a02081daae57a47ab2", func := "loop.example/backintime/laws.FnExactArrive", spec := "fnExactArrive", apart := false, narrowed := true }
def FnExactArriveUptoSaid : Prop := fnExactArriveUptoRow.holds Tryz.pinned (OpenSpec.upto fnExactArriveSpec)

end Rows
end Go.Proofs.YtdjenlnomibniaaGreat
