/-
  The exact law of TakeNum.
-/
import Derived.Test.YtemogjmghgfdfaaTyE
import Derived.Test.YtemogjmghgfdfaaTyH
import Derived.Test.YtemogjmghgfdfaaTyT
set_option linter.unusedSimpArgs false
set_option linter.unusedVariables false
namespace Go.Proofs.Ytemogjmghgfdfaa
open Go.RowKit
namespace Av
/-- what both packages answer -/
def exactTakeNum_both (s0 : ByteArray) (n1 : Int) : Prop := ∃ (v0 : Int) (v1 : Int) (v2 : Bool), FnOk E.P 33 [.str s0, pI n1] (.tup [pI v0, pI v1, .bool v2]) false ∧ FnOk E.P 34 [.str s0, pI n1] (.tup [pI v0, pI v1, .bool v2]) true
set_option maxRecDepth 100000 in
set_option maxHeartbeats 40000000 in
theorem exactTakeNum_law (s0 : ByteArray) (n1 : Int) 
    (H : s0.size ≤ 1048576 → exactTakeNum_both s0 n1) : FnOk E.P 6 [.str s0, pI n1] (.bool true) true := by
  by_cases c_s0 : (s0.size : Int) > 1048576
  · have d_s0 : decide ((s0.size : Int) > 1048576) = true := by rw [decide_eq_true_eq]; omega
    refine fn_ok (E := EL) mixedL Try.func6 rfl (by kernel_rfl) _ Try.results6 _ Try.ntmps6 (by simp) (by kernel_rfl) ?_
    simp (config := { maxSteps := 4000000 }) only [d_s0, pI, el_tb, freezeT, plainT, treeU, putT, putL, snapT, snapTs, snapTA, snapTAs, AV.ownArg, AV.ownLeaf, bne_self_eq_false, vcs, reduceIte, reduceCtorEq, Nat.reduceEqDiff, Nat.reduceAdd, Nat.reduceMul, Nat.reduceLeDiff, Nat.reduceLT, Int.reduceEq, Int.reduceLT, Int.reduceLE, Int.reduceAdd, Int.reduceSub, Int.reduceMul, Int.reduceNeg, Int.reduceToNat, Int.reduceNe, Nat.reduceBEq, tbs]
    repeat (first | (refine ⟨(by kernel_rfl : footOk _ _ _ _ = true), ?_⟩) | (refine ⟨(by omega : (_ : Prop)), ?_⟩))
    all_goals (first | rfl | trivial | skip)
  · have d_s0 : decide ((s0.size : Int) > 1048576) = false := by rw [decide_eq_false_iff_not]; omega
    obtain ⟨v0, v1, v2, HS, HI⟩ := H (by omega)
    refine fn_ok (E := EL) mixedL Try.func6 rfl (by kernel_rfl) _ Try.results6 _ Try.ntmps6 (by simp) (by kernel_rfl) ?_
    simp (config := { maxSteps := 4000000 }) only [d_s0, pI, el_tb, freezeT, plainT, treeU, putT, putL, snapT, snapTs, snapTA, snapTAs, AV.ownArg, AV.ownLeaf, bne_self_eq_false, vcs, reduceIte, reduceCtorEq, Nat.reduceEqDiff, Nat.reduceAdd, Nat.reduceMul, Nat.reduceLeDiff, Nat.reduceLT, Int.reduceEq, Int.reduceLT, Int.reduceLE, Int.reduceAdd, Int.reduceSub, Int.reduceMul, Int.reduceNeg, Int.reduceToNat, Int.reduceNe, Nat.reduceBEq, tbs]
    repeat (first | (refine ⟨(by kernel_rfl : footOk _ _ _ _ = true), ?_⟩) | (refine ⟨(by omega : (_ : Prop)), ?_⟩))
    refine aopsL_rd (E := EL) (HS) rfl ?_
    simp (config := { maxSteps := 4000000 }) only [d_s0, pI, el_tb, freezeT, plainT, treeU, putT, putL, snapT, snapTs, snapTA, snapTAs, AV.ownArg, AV.ownLeaf, bne_self_eq_false, vcs, reduceIte, reduceCtorEq, Nat.reduceEqDiff, Nat.reduceAdd, Nat.reduceMul, Nat.reduceLeDiff, Nat.reduceLT, Int.reduceEq, Int.reduceLT, Int.reduceLE, Int.reduceAdd, Int.reduceSub, Int.reduceMul, Int.reduceNeg, Int.reduceToNat, Int.reduceNe, Nat.reduceBEq, tbs]
    repeat (first | (refine ⟨(by kernel_rfl : footOk _ _ _ _ = true), ?_⟩) | (refine ⟨(by omega : (_ : Prop)), ?_⟩))
    refine aopsL_fn (E := EL) (HI) rfl (by first | exact Nat.le_add_right _ _ | (simp only [introT, intro1, introL, intros, pI]; omega)) rfl ?_
    simp (config := { maxSteps := 4000000 }) only [d_s0, pI, el_tb, freezeT, plainT, treeU, putT, putL, snapT, snapTs, snapTA, snapTAs, AV.ownArg, AV.ownLeaf, bne_self_eq_false, vcs, reduceIte, reduceCtorEq, Nat.reduceEqDiff, Nat.reduceAdd, Nat.reduceMul, Nat.reduceLeDiff, Nat.reduceLT, Int.reduceEq, Int.reduceLT, Int.reduceLE, Int.reduceAdd, Int.reduceSub, Int.reduceMul, Int.reduceNeg, Int.reduceToNat, Int.reduceNe, Nat.reduceBEq, tbs]
    repeat (first | (refine ⟨(by kernel_rfl : footOk _ _ _ _ = true), ?_⟩) | (refine ⟨(by omega : (_ : Prop)), ?_⟩))
    all_goals (first | rfl | trivial | skip)
end Av
end Go.Proofs.Ytemogjmghgfdfaa
