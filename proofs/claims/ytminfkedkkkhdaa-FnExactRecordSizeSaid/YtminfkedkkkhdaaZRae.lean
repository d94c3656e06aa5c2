/-
  Part of a proof: ExactRecordSize, BothE. No condition.
-/
import Derived.Test.YtminfkedkkkhdaaZRac
import Derived.Test.YtminfkedkkkhdaaZRad
section
set_option linter.unusedSimpArgs false
set_option linter.unusedVariables false
namespace Go.Proofs.Ytminfkedkkkhdaa
open Go.RowKit
namespace Av
def exactRecordSize_both (R0_0 : List (List PV)) (R0_1 : List (List PV)) : Prop := ∃ (v0 : Int), FnOk E.P 46 [.agg [.lst 102 R0_0, .lst 3 R0_1]] (pI v0) false ∧ FnOk E.P 47 [.agg [.lst 102 R0_0, .lst 3 R0_1]] (pI v0) true
set_option maxRecDepth 100000 in
set_option maxHeartbeats 40000000 in
theorem exactRecordSize_law (R0_0 : List (List PV)) (R0_1 : List (List PV)) (hlR0_0 : R0_0.length ≤ 9223372036854775807) (hsR0_0 : ∀ r ∈ R0_0, ShSlice r) (hlR0_1 : R0_1.length ≤ 9223372036854775807) (hsR0_1 : ∀ r ∈ R0_1, ShInt r)
  (H : R0_0.length + R0_1.length ≤ 1048576 → exactRecordSize_both R0_0 R0_1) : FnOk E.P 10 [.agg [.lst 144 R0_0, .lst 3 R0_1]] (.bool true) true := by
 by_cases g0 : ((1048576 : Int) : Int) < R0_0.length
 ·have r0 : restI ((1048576 : Int)) R0_0.length = -1 := if_pos g0
  have t0 : restI (-1) R0_1.length = -1 := if_pos (by omega)
  refine fn_ok (E := EL) mixedL Try.func10 rfl (by kernel_rfl) _ Try.results10 _ Try.ntmps10 (by simp) (by kernel_rfl) ?_
  simp (config := { maxSteps := 4000000 }) only [r0, t0, pI, el_tb, freezeT, plainT, treeU, putT, putL, snapT, snapTs, snapTA, snapTAs, AV.ownArg, AV.ownLeaf, bne_self_eq_false, vcs, reduceIte, reduceCtorEq, Nat.reduceEqDiff, Nat.reduceAdd, Nat.reduceMul, Nat.reduceLeDiff, Nat.reduceLT, Int.reduceEq, Int.reduceLT, Int.reduceLE, Int.reduceAdd, Int.reduceSub, Int.reduceMul, Int.reduceNeg, Int.reduceToNat, Int.reduceNe, Nat.reduceBEq, tbs]
  repeat (first | (refine ⟨(by kernel_rfl : footOk _ _ _ _ = true), ?_⟩) | (refine ⟨(by omega : (_ : Prop)), ?_⟩))
  refine aopsL_fn (E := EL) (szRecord_ok R0_0 R0_1 ((1048576 : Int)) hlR0_0 hlR0_1 (by omega) (by omega)) rfl (by first | exact Nat.le_add_right _ _ | (simp only [introT, intro1, introL, intros, pI]; omega)) rfl ?_
  simp (config := { maxSteps := 4000000 }) only [r0, t0, pI, el_tb, freezeT, plainT, treeU, putT, putL, snapT, snapTs, snapTA, snapTAs, AV.ownArg, AV.ownLeaf, bne_self_eq_false, vcs, reduceIte, reduceCtorEq, Nat.reduceEqDiff, Nat.reduceAdd, Nat.reduceMul, Nat.reduceLeDiff, Nat.reduceLT, Int.reduceEq, Int.reduceLT, Int.reduceLE, Int.reduceAdd, Int.reduceSub, Int.reduceMul, Int.reduceNeg, Int.reduceToNat, Int.reduceNe, Nat.reduceBEq, tbs]
  repeat (first | (refine ⟨(by kernel_rfl : footOk _ _ _ _ = true), ?_⟩) | (refine ⟨(by omega : (_ : Prop)), ?_⟩))
  all_goals (first | rfl | trivial | skip)
 ·have r0 : restI ((1048576 : Int)) R0_0.length = (1048576 : Int) - R0_0.length := if_neg g0
  by_cases g1 : ((1048576 : Int) - R0_0.length : Int) < R0_1.length
  ·have r1 : restI ((1048576 : Int) - R0_0.length) R0_1.length = -1 := if_pos g1
   refine fn_ok (E := EL) mixedL Try.func10 rfl (by kernel_rfl) _ Try.results10 _ Try.ntmps10 (by simp) (by kernel_rfl) ?_
   simp (config := { maxSteps := 4000000 }) only [r0, r1, pI, el_tb, freezeT, plainT, treeU, putT, putL, snapT, snapTs, snapTA, snapTAs, AV.ownArg, AV.ownLeaf, bne_self_eq_false, vcs, reduceIte, reduceCtorEq, Nat.reduceEqDiff, Nat.reduceAdd, Nat.reduceMul, Nat.reduceLeDiff, Nat.reduceLT, Int.reduceEq, Int.reduceLT, Int.reduceLE, Int.reduceAdd, Int.reduceSub, Int.reduceMul, Int.reduceNeg, Int.reduceToNat, Int.reduceNe, Nat.reduceBEq, tbs]
   repeat (first | (refine ⟨(by kernel_rfl : footOk _ _ _ _ = true), ?_⟩) | (refine ⟨(by omega : (_ : Prop)), ?_⟩))
   refine aopsL_fn (E := EL) (szRecord_ok R0_0 R0_1 ((1048576 : Int)) hlR0_0 hlR0_1 (by omega) (by omega)) rfl (by first | exact Nat.le_add_right _ _ | (simp only [introT, intro1, introL, intros, pI]; omega)) rfl ?_
   simp (config := { maxSteps := 4000000 }) only [r0, r1, pI, el_tb, freezeT, plainT, treeU, putT, putL, snapT, snapTs, snapTA, snapTAs, AV.ownArg, AV.ownLeaf, bne_self_eq_false, vcs, reduceIte, reduceCtorEq, Nat.reduceEqDiff, Nat.reduceAdd, Nat.reduceMul, Nat.reduceLeDiff, Nat.reduceLT, Int.reduceEq, Int.reduceLT, Int.reduceLE, Int.reduceAdd, Int.reduceSub, Int.reduceMul, Int.reduceNeg, Int.reduceToNat, Int.reduceNe, Nat.reduceBEq, tbs]
   repeat (first | (refine ⟨(by kernel_rfl : footOk _ _ _ _ = true), ?_⟩) | (refine ⟨(by omega : (_ : Prop)), ?_⟩))
   all_goals (first | rfl | trivial | skip)
  ·have r1 : restI ((1048576 : Int) - R0_0.length) R0_1.length = (1048576 : Int) - R0_0.length - R0_1.length := if_neg g1
   have d1 : decide ((1048576 : Int) - R0_0.length - R0_1.length < 0) = false := by simp; omega
   have shR0_0 : ShSliceS R0_0 := ⟨by omega, hsR0_0⟩
   have shR0_1 : ShIntS R0_1 := ⟨by omega, hsR0_1⟩
   obtain ⟨v0, HS, HI⟩ := H (by omega)
   have cR0_0 : cntR R0_0 ≤ 3145728 := by
    have h1 := cntR_le (B := 3) R0_0 (fun r hr => by obtain ⟨a0, a1, a2, rfl⟩ := hsR0_0 r hr; simp [cntL, cntP, pI])
    omega
   have cR0_1 : cntR R0_1 ≤ 1048576 := by
    have h1 := cntR_le (B := 1) R0_1 (fun r hr => by obtain ⟨a0, rfl⟩ := hsR0_1 r hr; simp [cntL, cntP, pI])
    omega
   have M0 := mkRecord_ok R0_0 R0_1 shR0_0 shR0_1 1 (by omega) (by simp only [mkR_cnt]; omega)
   simp only [mkR_cnt] at M0
   obtain ⟨k1, f1⟩ : ∃ z, 1 + (cntR R0_0 : Int) + (cntR R0_1 : Int) = z := ⟨_, rfl⟩
   rw [f1] at M0
   have b1 : 1 ≤ k1 ∧ k1 ≤ 100000000 := by omega
   have dk : decide (k1 < 0) = false := by simp; omega
   refine fn_ok (E := EL) mixedL Try.func10 rfl (by kernel_rfl) _ Try.results10 _ Try.ntmps10 (by simp) (by kernel_rfl) ?_
   simp (config := { maxSteps := 4000000 }) only [r0, r1, d1, dk, pI, el_tb, freezeT, plainT, treeU, putT, putL, snapT, snapTs, snapTA, snapTAs, AV.ownArg, AV.ownLeaf, bne_self_eq_false, vcs, reduceIte, reduceCtorEq, Nat.reduceEqDiff, Nat.reduceAdd, Nat.reduceMul, Nat.reduceLeDiff, Nat.reduceLT, Int.reduceEq, Int.reduceLT, Int.reduceLE, Int.reduceAdd, Int.reduceSub, Int.reduceMul, Int.reduceNeg, Int.reduceToNat, Int.reduceNe, Nat.reduceBEq, tbs]
   repeat (first | (refine ⟨(by kernel_rfl : footOk _ _ _ _ = true), ?_⟩) | (refine ⟨(by omega : (_ : Prop)), ?_⟩))
   refine aopsL_fn (E := EL) (szRecord_ok R0_0 R0_1 ((1048576 : Int)) hlR0_0 hlR0_1 (by omega) (by omega)) rfl (by first | exact Nat.le_add_right _ _ | (simp only [introT, intro1, introL, intros, pI]; omega)) rfl ?_
   simp (config := { maxSteps := 4000000 }) only [r0, r1, d1, dk, pI, el_tb, freezeT, plainT, treeU, putT, putL, snapT, snapTs, snapTA, snapTAs, AV.ownArg, AV.ownLeaf, bne_self_eq_false, vcs, reduceIte, reduceCtorEq, Nat.reduceEqDiff, Nat.reduceAdd, Nat.reduceMul, Nat.reduceLeDiff, Nat.reduceLT, Int.reduceEq, Int.reduceLT, Int.reduceLE, Int.reduceAdd, Int.reduceSub, Int.reduceMul, Int.reduceNeg, Int.reduceToNat, Int.reduceNe, Nat.reduceBEq, tbs]
   repeat (first | (refine ⟨(by kernel_rfl : footOk _ _ _ _ = true), ?_⟩) | (refine ⟨(by omega : (_ : Prop)), ?_⟩))
   refine aopsL_fn (E := EL) (toRecord_ok R0_0 R0_1 shR0_0 shR0_1) rfl (by first | exact Nat.le_add_right _ _ | (simp only [introT, intro1, introL, intros, pI]; omega)) rfl ?_
   simp (config := { maxSteps := 4000000 }) only [r0, r1, d1, dk, pI, el_tb, freezeT, plainT, treeU, putT, putL, snapT, snapTs, snapTA, snapTAs, AV.ownArg, AV.ownLeaf, bne_self_eq_false, vcs, reduceIte, reduceCtorEq, Nat.reduceEqDiff, Nat.reduceAdd, Nat.reduceMul, Nat.reduceLeDiff, Nat.reduceLT, Int.reduceEq, Int.reduceLT, Int.reduceLE, Int.reduceAdd, Int.reduceSub, Int.reduceMul, Int.reduceNeg, Int.reduceToNat, Int.reduceNe, Nat.reduceBEq, tbs]
   repeat (first | (refine ⟨(by kernel_rfl : footOk _ _ _ _ = true), ?_⟩) | (refine ⟨(by omega : (_ : Prop)), ?_⟩))
   refine aopsL_rd (E := EL) (HS) rfl ?_
   simp (config := { maxSteps := 4000000 }) only [r0, r1, d1, dk, pI, el_tb, freezeT, plainT, treeU, putT, putL, snapT, snapTs, snapTA, snapTAs, AV.ownArg, AV.ownLeaf, bne_self_eq_false, vcs, reduceIte, reduceCtorEq, Nat.reduceEqDiff, Nat.reduceAdd, Nat.reduceMul, Nat.reduceLeDiff, Nat.reduceLT, Int.reduceEq, Int.reduceLT, Int.reduceLE, Int.reduceAdd, Int.reduceSub, Int.reduceMul, Int.reduceNeg, Int.reduceToNat, Int.reduceNe, Nat.reduceBEq, tbs]
   repeat (first | (refine ⟨(by kernel_rfl : footOk _ _ _ _ = true), ?_⟩) | (refine ⟨(by omega : (_ : Prop)), ?_⟩))
   refine aopsL_fn (E := EL) (toRecord_ok R0_0 R0_1 shR0_0 shR0_1) rfl (by first | exact Nat.le_add_right _ _ | (simp only [introT, intro1, introL, intros, pI]; omega)) rfl ?_
   simp (config := { maxSteps := 4000000 }) only [r0, r1, d1, dk, pI, el_tb, freezeT, plainT, treeU, putT, putL, snapT, snapTs, snapTA, snapTAs, AV.ownArg, AV.ownLeaf, bne_self_eq_false, vcs, reduceIte, reduceCtorEq, Nat.reduceEqDiff, Nat.reduceAdd, Nat.reduceMul, Nat.reduceLeDiff, Nat.reduceLT, Int.reduceEq, Int.reduceLT, Int.reduceLE, Int.reduceAdd, Int.reduceSub, Int.reduceMul, Int.reduceNeg, Int.reduceToNat, Int.reduceNe, Nat.reduceBEq, tbs]
   repeat (first | (refine ⟨(by kernel_rfl : footOk _ _ _ _ = true), ?_⟩) | (refine ⟨(by omega : (_ : Prop)), ?_⟩))
   refine aopsL_fn (E := EL) (HI) rfl (by first | exact Nat.le_add_right _ _ | (simp only [introT, intro1, introL, intros, pI]; omega)) rfl ?_
   simp (config := { maxSteps := 4000000 }) only [r0, r1, d1, dk, pI, el_tb, freezeT, plainT, treeU, putT, putL, snapT, snapTs, snapTA, snapTAs, AV.ownArg, AV.ownLeaf, bne_self_eq_false, vcs, reduceIte, reduceCtorEq, Nat.reduceEqDiff, Nat.reduceAdd, Nat.reduceMul, Nat.reduceLeDiff, Nat.reduceLT, Int.reduceEq, Int.reduceLT, Int.reduceLE, Int.reduceAdd, Int.reduceSub, Int.reduceMul, Int.reduceNeg, Int.reduceToNat, Int.reduceNe, Nat.reduceBEq, tbs]
   repeat (first | (refine ⟨(by kernel_rfl : footOk _ _ _ _ = true), ?_⟩) | (refine ⟨(by omega : (_ : Prop)), ?_⟩))
   refine aopsL_fn (E := EL) (toRecord_ok R0_0 R0_1 shR0_0 shR0_1) rfl (by first | exact Nat.le_add_right _ _ | (simp only [introT, intro1, introL, intros, pI]; omega)) rfl ?_
   simp (config := { maxSteps := 4000000 }) only [r0, r1, d1, dk, pI, el_tb, freezeT, plainT, treeU, putT, putL, snapT, snapTs, snapTA, snapTAs, AV.ownArg, AV.ownLeaf, bne_self_eq_false, vcs, reduceIte, reduceCtorEq, Nat.reduceEqDiff, Nat.reduceAdd, Nat.reduceMul, Nat.reduceLeDiff, Nat.reduceLT, Int.reduceEq, Int.reduceLT, Int.reduceLE, Int.reduceAdd, Int.reduceSub, Int.reduceMul, Int.reduceNeg, Int.reduceToNat, Int.reduceNe, Nat.reduceBEq, tbs]
   repeat (first | (refine ⟨(by kernel_rfl : footOk _ _ _ _ = true), ?_⟩) | (refine ⟨(by omega : (_ : Prop)), ?_⟩))
   refine aopsL_fn (E := EL) (eqRecord_ok [.lst 102 R0_0, .lst 3 R0_1] ⟨R0_0, R0_1, rfl, shR0_0, shR0_1⟩) rfl (by first | exact Nat.le_add_right _ _ | (simp only [introT, intro1, introL, intros, pI]; omega)) rfl ?_
   simp (config := { maxSteps := 4000000 }) only [r0, r1, d1, dk, pI, el_tb, freezeT, plainT, treeU, putT, putL, snapT, snapTs, snapTA, snapTAs, AV.ownArg, AV.ownLeaf, bne_self_eq_false, vcs, reduceIte, reduceCtorEq, Nat.reduceEqDiff, Nat.reduceAdd, Nat.reduceMul, Nat.reduceLeDiff, Nat.reduceLT, Int.reduceEq, Int.reduceLT, Int.reduceLE, Int.reduceAdd, Int.reduceSub, Int.reduceMul, Int.reduceNeg, Int.reduceToNat, Int.reduceNe, Nat.reduceBEq, tbs]
   repeat (first | (refine ⟨(by kernel_rfl : footOk _ _ _ _ = true), ?_⟩) | (refine ⟨(by omega : (_ : Prop)), ?_⟩))
   all_goals (first | rfl | trivial | skip)
end Av
end Go.Proofs.Ytminfkedkkkhdaa
end
section
set_option linter.unusedSimpArgs false
set_option linter.unusedVariables false
namespace Go.Proofs.Ytminfkedkkkhdaa
open Go.RowKit
namespace Av
theorem iRecordSize_ok (S Q : List (List PV)) (h1 : S.length ≤ 1048576) (h2 : Q.length ≤ 1048576) : FnOk E.P 47 [.agg [.lst 102 S, .lst 3 Q]] (pI (3 * S.length + Q.length)) true := by
 refine fn_ok mixed Try.func47 rfl (by kernel_rfl) _ Try.results47 _ Try.ntmps47 (by simp) (by kernel_rfl) ?_
 simp (config := { maxSteps := 4000000 }) only [pI, plainT, bne_self_eq_false, vcs, reduceIte, reduceCtorEq, Nat.reduceEqDiff, Nat.reduceAdd, Nat.reduceMul, Nat.reduceLeDiff, Nat.reduceLT, Int.reduceEq, Int.reduceLT, Int.reduceLE, Int.reduceAdd, Int.reduceSub, Int.reduceMul, Int.reduceNeg, Int.reduceToNat, Int.reduceNe, Nat.reduceBEq, tbs]
 repeat (first | (refine ⟨(by kernel_rfl : footOk _ _ _ _ = true), ?_⟩) | (refine ⟨(by omega : (_ : Prop)), ?_⟩))
 all_goals (first | rfl | trivial | skip)
theorem sRecordSize_ok (S Q : List (List PV)) (h1 : S.length ≤ 1048576) (h2 : Q.length ≤ 1048576) : FnOk E.P 46 [.agg [.lst 102 S, .lst 3 Q]] (pI (3 * S.length + Q.length)) true := by
 refine fn_ok mixed Try.func46 rfl (by kernel_rfl) _ Try.results46 _ Try.ntmps46 (by simp) (by kernel_rfl) ?_
 simp (config := { maxSteps := 4000000 }) only [pI, plainT, bne_self_eq_false, vcs, reduceIte, reduceCtorEq, Nat.reduceEqDiff, Nat.reduceAdd, Nat.reduceMul, Nat.reduceLeDiff, Nat.reduceLT, Int.reduceEq, Int.reduceLT, Int.reduceLE, Int.reduceAdd, Int.reduceSub, Int.reduceMul, Int.reduceNeg, Int.reduceToNat, Int.reduceNe, Nat.reduceBEq, tbs]
 repeat (first | (refine ⟨(by kernel_rfl : footOk _ _ _ _ = true), ?_⟩) | (refine ⟨(by omega : (_ : Prop)), ?_⟩))
 all_goals (first | rfl | trivial | skip)
theorem both_RecordSize (S Q : List (List PV)) (t0 : ∀ r ∈ S, ShSlice r) (t1 : ∀ r ∈ Q, ShInt r) (hh : S.length + Q.length ≤ 1048576) : exactRecordSize_both S Q :=
 ⟨_, (sRecordSize_ok S Q (by omega) (by omega)).read, iRecordSize_ok S Q (by omega) (by omega)⟩
end Av
end Go.Proofs.Ytminfkedkkkhdaa
end
