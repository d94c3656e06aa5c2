/-
  The exact law of Kept.
-/
import Derived.Test.YtemogjmghgfdfaaTyE
import Derived.Test.YtemogjmghgfdfaaTyH
import Derived.Test.YtemogjmghgfdfaaTyT
set_option linter.unusedSimpArgs false
set_option linter.unusedVariables false
namespace Go.Proofs.Ytemogjmghgfdfaa
open Go.RowKit
namespace Av
/-- what both packages answer -/
def exactKept_both (n0 : Int) (n1 : Int) : Prop := ∃ (v0 : Bool), FnOk E.P 54 [pI n0, pI n1] (.bool v0) false ∧ FnOk E.P 55 [pI n0, pI n1] (.bool v0) true
set_option maxRecDepth 100000 in
set_option maxHeartbeats 40000000 in
theorem exactKept_law (n0 : Int) (n1 : Int) 
    (H : exactKept_both n0 n1) : FnOk E.P 13 [pI n0, pI n1] (.bool true) true := by
  obtain ⟨v0, HS, HI⟩ := H
  refine fn_ok (E := EL) mixedL Try.func13 rfl (by kernel_rfl) _ Try.results13 _ Try.ntmps13 (by simp) (by kernel_rfl) ?_
  simp (config := { maxSteps := 4000000 }) only [pI, el_tb, freezeT, plainT, treeU, putT, putL, snapT, snapTs, snapTA, snapTAs, AV.ownArg, AV.ownLeaf, bne_self_eq_false, vcs, reduceIte, reduceCtorEq, Nat.reduceEqDiff, Nat.reduceAdd, Nat.reduceMul, Nat.reduceLeDiff, Nat.reduceLT, Int.reduceEq, Int.reduceLT, Int.reduceLE, Int.reduceAdd, Int.reduceSub, Int.reduceMul, Int.reduceNeg, Int.reduceToNat, Int.reduceNe, Nat.reduceBEq, tbs]
  repeat (first | (refine ⟨(by kernel_rfl : footOk _ _ _ _ = true), ?_⟩) | (refine ⟨(by omega : (_ : Prop)), ?_⟩))
  refine aopsL_rd (E := EL) (HS) rfl ?_
  simp (config := { maxSteps := 4000000 }) only [pI, el_tb, freezeT, plainT, treeU, putT, putL, snapT, snapTs, snapTA, snapTAs, AV.ownArg, AV.ownLeaf, bne_self_eq_false, vcs, reduceIte, reduceCtorEq, Nat.reduceEqDiff, Nat.reduceAdd, Nat.reduceMul, Nat.reduceLeDiff, Nat.reduceLT, Int.reduceEq, Int.reduceLT, Int.reduceLE, Int.reduceAdd, Int.reduceSub, Int.reduceMul, Int.reduceNeg, Int.reduceToNat, Int.reduceNe, Nat.reduceBEq, tbs]
  repeat (first | (refine ⟨(by kernel_rfl : footOk _ _ _ _ = true), ?_⟩) | (refine ⟨(by omega : (_ : Prop)), ?_⟩))
  refine aopsL_fn (E := EL) (HI) rfl (by first | exact Nat.le_add_right _ _ | (simp only [introT, intro1, introL, intros, pI]; omega)) rfl ?_
  simp (config := { maxSteps := 4000000 }) only [pI, el_tb, freezeT, plainT, treeU, putT, putL, snapT, snapTs, snapTA, snapTAs, AV.ownArg, AV.ownLeaf, bne_self_eq_false, vcs, reduceIte, reduceCtorEq, Nat.reduceEqDiff, Nat.reduceAdd, Nat.reduceMul, Nat.reduceLeDiff, Nat.reduceLT, Int.reduceEq, Int.reduceLT, Int.reduceLE, Int.reduceAdd, Int.reduceSub, Int.reduceMul, Int.reduceNeg, Int.reduceToNat, Int.reduceNe, Nat.reduceBEq, tbs]
  repeat (first | (refine ⟨(by kernel_rfl : footOk _ _ _ _ = true), ?_⟩) | (refine ⟨(by omega : (_ : Prop)), ?_⟩))
  all_goals (first | rfl | trivial | skip)
end Av
end Go.Proofs.Ytemogjmghgfdfaa
