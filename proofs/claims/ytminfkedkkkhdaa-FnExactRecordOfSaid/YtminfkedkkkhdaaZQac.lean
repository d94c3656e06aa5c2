/-
  Part of a proof: TyE. No condition.
-/
import Derived.Test.YtminfkedkkkhdaaZQab
set_option linter.unusedSimpArgs false
set_option linter.unusedVariables false
namespace Go.Proofs.Ytminfkedkkkhdaa
open Go.RowKit
namespace Av
def ShProgram (r : List PV) : Prop := ∃ (a0 : List (List PV)) (a1 : Int), r = [.lst 96 a0, pI a1] ∧ ShCodeS a0
def ShRecord (r : List PV) : Prop := ∃ (a0 : List (List PV)) (a1 : List (List PV)), r = [.lst 102 a0, .lst 3 a1] ∧ ShSliceS a0 ∧ ShIntS a1
set_option maxRecDepth 10000 in
set_option maxHeartbeats 4000000 in
theorem eqIntS_ok (R : List (List PV)) (hs : ShIntS R) : FnOk E.P 56 [.lst 3 R, .lst 3 R] (.bool true) true := by
 obtain ⟨hn, hs⟩ := hs
 refine fn_ok mixed Try.func56 rfl (by kernel_rfl) _ Try.results56 _ Try.ntmps56 (by simp) (by kernel_rfl) ?_
 simp (config := { maxSteps := 2000000 }) only [pI, bne_self_eq_false, vcs, reduceIte, reduceCtorEq, Nat.reduceEqDiff, Nat.reduceAdd, Nat.reduceMul, Nat.reduceLeDiff, Nat.reduceLT, Int.reduceEq, Int.reduceLT, Int.reduceLE, Int.reduceAdd, Int.reduceSub, Int.reduceMul, Int.reduceNeg, Int.reduceToNat, Int.reduceNe, Nat.reduceBEq, tbs]
 repeat (first | (refine ⟨(by kernel_rfl : footOk _ _ _ _ = true), ?_⟩) | (refine ⟨(by omega : (_ : Prop)), ?_⟩))
 refine awp_loop (X := Nat) (fun k => [(0, .pv (.lst 3 R)), (1, .pv (.lst 3 R)), (5, .pv (.int .i64 k))]) (fun k => []) (fun k => k ≤ R.length) (fun k => R.length - k) 100 0 (Nat.zero_le _) (by simp (config := { maxSteps := 2000000 }) only [pI, bne_self_eq_false, vcs, reduceIte, reduceCtorEq, Nat.reduceEqDiff, Nat.reduceAdd, Nat.reduceMul, Nat.reduceLeDiff, Nat.reduceLT, Int.reduceEq, Int.reduceLT, Int.reduceLE, Int.reduceAdd, Int.reduceSub, Int.reduceMul, Int.reduceNeg, Int.reduceToNat, Int.reduceNe, Nat.reduceBEq, tbs]; try rfl) (fun k hk => ?_)
 by_cases hlt : k < R.length
 ·have d1 : decide ((k : Int) < (R.length : Int)) = true := by simpa using hlt
  have e1 : R[k]? = some R[k] := List.getElem?_eq_getElem hlt
  have hr := hs R[k] (List.getElem_mem hlt)
  generalize R[k] = r at e1 hr
  obtain ⟨a0, rfl⟩ := hr
  simp (config := { maxSteps := 2000000 }) only [d1, e1, pI, bne_self_eq_false, vcs, reduceIte, reduceCtorEq, Nat.reduceEqDiff, Nat.reduceAdd, Nat.reduceMul, Nat.reduceLeDiff, Nat.reduceLT, Int.reduceEq, Int.reduceLT, Int.reduceLE, Int.reduceAdd, Int.reduceSub, Int.reduceMul, Int.reduceNeg, Int.reduceToNat, Int.reduceNe, Nat.reduceBEq, tbs]
  repeat (first | (refine ⟨(by kernel_rfl : footOk _ _ _ _ = true), ?_⟩) | (refine ⟨(by omega : (_ : Prop)), ?_⟩))
  refine ⟨k + 1, ?_, ?_, ?_⟩
  ·omega
  ·omega
  ·first | omega | (simp; done)
 ·have d1 : decide ((k : Int) < (R.length : Int)) = false := by simpa using hlt
  simp (config := { maxSteps := 2000000 }) only [d1, pI, bne_self_eq_false, vcs, reduceIte, reduceCtorEq, Nat.reduceEqDiff, Nat.reduceAdd, Nat.reduceMul, Nat.reduceLeDiff, Nat.reduceLT, Int.reduceEq, Int.reduceLT, Int.reduceLE, Int.reduceAdd, Int.reduceSub, Int.reduceMul, Int.reduceNeg, Int.reduceToNat, Int.reduceNe, Nat.reduceBEq, tbs]
  repeat (first | (refine ⟨(by kernel_rfl : footOk _ _ _ _ = true), ?_⟩) | (refine ⟨(by omega : (_ : Prop)), ?_⟩))
  all_goals (first | rfl | trivial | skip)
set_option maxRecDepth 10000 in
set_option maxHeartbeats 4000000 in
theorem eqCode_ok (r : List PV) (hs : ShCode r) : FnOk E.P 97 [.agg r, .agg r] (.bool true) true := by
 obtain ⟨a0, a1, a2, a3, rfl⟩ := hs
 refine fn_ok mixed Try.func97 rfl (by kernel_rfl) _ Try.results97 _ Try.ntmps97 (by simp) (by kernel_rfl) ?_
 simp (config := { maxSteps := 2000000 }) only [pI, bne_self_eq_false, vcs, reduceIte, reduceCtorEq, Nat.reduceEqDiff, Nat.reduceAdd, Nat.reduceMul, Nat.reduceLeDiff, Nat.reduceLT, Int.reduceEq, Int.reduceLT, Int.reduceLE, Int.reduceAdd, Int.reduceSub, Int.reduceMul, Int.reduceNeg, Int.reduceToNat, Int.reduceNe, Nat.reduceBEq, tbs]
 repeat (first | (refine ⟨(by kernel_rfl : footOk _ _ _ _ = true), ?_⟩) | (refine ⟨(by omega : (_ : Prop)), ?_⟩))
 all_goals (first | rfl | trivial | skip)
set_option maxRecDepth 10000 in
set_option maxHeartbeats 4000000 in
theorem eqCodeS_ok (R : List (List PV)) (hs : ShCodeS R) : FnOk E.P 57 [.lst 96 R, .lst 96 R] (.bool true) true := by
 obtain ⟨hn, hs⟩ := hs
 refine fn_ok mixed Try.func57 rfl (by kernel_rfl) _ Try.results57 _ Try.ntmps57 (by simp) (by kernel_rfl) ?_
 simp (config := { maxSteps := 2000000 }) only [pI, bne_self_eq_false, vcs, reduceIte, reduceCtorEq, Nat.reduceEqDiff, Nat.reduceAdd, Nat.reduceMul, Nat.reduceLeDiff, Nat.reduceLT, Int.reduceEq, Int.reduceLT, Int.reduceLE, Int.reduceAdd, Int.reduceSub, Int.reduceMul, Int.reduceNeg, Int.reduceToNat, Int.reduceNe, Nat.reduceBEq, tbs]
 repeat (first | (refine ⟨(by kernel_rfl : footOk _ _ _ _ = true), ?_⟩) | (refine ⟨(by omega : (_ : Prop)), ?_⟩))
 refine awp_loop (X := Nat) (fun k => [(0, .pv (.lst 96 R)), (1, .pv (.lst 96 R)), (5, .pv (.int .i64 k))]) (fun k => []) (fun k => k ≤ R.length) (fun k => R.length - k) 100 0 (Nat.zero_le _) (by simp (config := { maxSteps := 2000000 }) only [pI, bne_self_eq_false, vcs, reduceIte, reduceCtorEq, Nat.reduceEqDiff, Nat.reduceAdd, Nat.reduceMul, Nat.reduceLeDiff, Nat.reduceLT, Int.reduceEq, Int.reduceLT, Int.reduceLE, Int.reduceAdd, Int.reduceSub, Int.reduceMul, Int.reduceNeg, Int.reduceToNat, Int.reduceNe, Nat.reduceBEq, tbs]; try rfl) (fun k hk => ?_)
 by_cases hlt : k < R.length
 ·have d1 : decide ((k : Int) < (R.length : Int)) = true := by simpa using hlt
  have e1 : R[k]? = some R[k] := List.getElem?_eq_getElem hlt
  have hr := hs R[k] (List.getElem_mem hlt)
  generalize R[k] = r at e1 hr
  have hc := eqCode_ok r hr
  obtain ⟨a0, a1, a2, a3, rfl⟩ := hr
  simp (config := { maxSteps := 2000000 }) only [d1, e1, pI, bne_self_eq_false, vcs, reduceIte, reduceCtorEq, Nat.reduceEqDiff, Nat.reduceAdd, Nat.reduceMul, Nat.reduceLeDiff, Nat.reduceLT, Int.reduceEq, Int.reduceLT, Int.reduceLE, Int.reduceAdd, Int.reduceSub, Int.reduceMul, Int.reduceNeg, Int.reduceToNat, Int.reduceNe, Nat.reduceBEq, tbs]
  repeat (first | (refine ⟨(by kernel_rfl : footOk _ _ _ _ = true), ?_⟩) | (refine ⟨(by omega : (_ : Prop)), ?_⟩))
  refine aops_fn (hc) (by first | exact Nat.le_add_right _ _ | (simp only [introT, intro1, introL, intros, pI]; omega)) rfl ?_
  simp (config := { maxSteps := 2000000 }) only [d1, e1, pI, bne_self_eq_false, vcs, reduceIte, reduceCtorEq, Nat.reduceEqDiff, Nat.reduceAdd, Nat.reduceMul, Nat.reduceLeDiff, Nat.reduceLT, Int.reduceEq, Int.reduceLT, Int.reduceLE, Int.reduceAdd, Int.reduceSub, Int.reduceMul, Int.reduceNeg, Int.reduceToNat, Int.reduceNe, Nat.reduceBEq, tbs]
  repeat (first | (refine ⟨(by kernel_rfl : footOk _ _ _ _ = true), ?_⟩) | (refine ⟨(by omega : (_ : Prop)), ?_⟩))
  refine ⟨k + 1, ?_, ?_, ?_⟩
  ·omega
  ·omega
  ·first | omega | (simp; done)
 ·have d1 : decide ((k : Int) < (R.length : Int)) = false := by simpa using hlt
  simp (config := { maxSteps := 2000000 }) only [d1, pI, bne_self_eq_false, vcs, reduceIte, reduceCtorEq, Nat.reduceEqDiff, Nat.reduceAdd, Nat.reduceMul, Nat.reduceLeDiff, Nat.reduceLT, Int.reduceEq, Int.reduceLT, Int.reduceLE, Int.reduceAdd, Int.reduceSub, Int.reduceMul, Int.reduceNeg, Int.reduceToNat, Int.reduceNe, Nat.reduceBEq, tbs]
  repeat (first | (refine ⟨(by kernel_rfl : footOk _ _ _ _ = true), ?_⟩) | (refine ⟨(by omega : (_ : Prop)), ?_⟩))
  all_goals (first | rfl | trivial | skip)
set_option maxRecDepth 10000 in
set_option maxHeartbeats 4000000 in
theorem eqChoice_ok (r : List PV) (hs : ShChoice r) : FnOk E.P 58 [.agg r, .agg r] (.bool true) true := by
 obtain ⟨a0, a1, a2, rfl⟩ := hs
 refine fn_ok mixed Try.func58 rfl (by kernel_rfl) _ Try.results58 _ Try.ntmps58 (by simp) (by kernel_rfl) ?_
 simp (config := { maxSteps := 2000000 }) only [pI, bne_self_eq_false, vcs, reduceIte, reduceCtorEq, Nat.reduceEqDiff, Nat.reduceAdd, Nat.reduceMul, Nat.reduceLeDiff, Nat.reduceLT, Int.reduceEq, Int.reduceLT, Int.reduceLE, Int.reduceAdd, Int.reduceSub, Int.reduceMul, Int.reduceNeg, Int.reduceToNat, Int.reduceNe, Nat.reduceBEq, tbs]
 repeat (first | (refine ⟨(by kernel_rfl : footOk _ _ _ _ = true), ?_⟩) | (refine ⟨(by omega : (_ : Prop)), ?_⟩))
 all_goals (first | rfl | trivial | skip)
set_option maxRecDepth 10000 in
set_option maxHeartbeats 4000000 in
theorem eqChoiceS_ok (R : List (List PV)) (hs : ShChoiceS R) : FnOk E.P 20 [.lst 80 R, .lst 80 R] (.bool true) true := by
 obtain ⟨hn, hs⟩ := hs
 refine fn_ok mixed Try.func20 rfl (by kernel_rfl) _ Try.results20 _ Try.ntmps20 (by simp) (by kernel_rfl) ?_
 simp (config := { maxSteps := 2000000 }) only [pI, bne_self_eq_false, vcs, reduceIte, reduceCtorEq, Nat.reduceEqDiff, Nat.reduceAdd, Nat.reduceMul, Nat.reduceLeDiff, Nat.reduceLT, Int.reduceEq, Int.reduceLT, Int.reduceLE, Int.reduceAdd, Int.reduceSub, Int.reduceMul, Int.reduceNeg, Int.reduceToNat, Int.reduceNe, Nat.reduceBEq, tbs]
 repeat (first | (refine ⟨(by kernel_rfl : footOk _ _ _ _ = true), ?_⟩) | (refine ⟨(by omega : (_ : Prop)), ?_⟩))
 refine awp_loop (X := Nat) (fun k => [(0, .pv (.lst 80 R)), (1, .pv (.lst 80 R)), (5, .pv (.int .i64 k))]) (fun k => []) (fun k => k ≤ R.length) (fun k => R.length - k) 100 0 (Nat.zero_le _) (by simp (config := { maxSteps := 2000000 }) only [pI, bne_self_eq_false, vcs, reduceIte, reduceCtorEq, Nat.reduceEqDiff, Nat.reduceAdd, Nat.reduceMul, Nat.reduceLeDiff, Nat.reduceLT, Int.reduceEq, Int.reduceLT, Int.reduceLE, Int.reduceAdd, Int.reduceSub, Int.reduceMul, Int.reduceNeg, Int.reduceToNat, Int.reduceNe, Nat.reduceBEq, tbs]; try rfl) (fun k hk => ?_)
 by_cases hlt : k < R.length
 ·have d1 : decide ((k : Int) < (R.length : Int)) = true := by simpa using hlt
  have e1 : R[k]? = some R[k] := List.getElem?_eq_getElem hlt
  have hr := hs R[k] (List.getElem_mem hlt)
  generalize R[k] = r at e1 hr
  have hc := eqChoice_ok r hr
  obtain ⟨a0, a1, a2, rfl⟩ := hr
  simp (config := { maxSteps := 2000000 }) only [d1, e1, pI, bne_self_eq_false, vcs, reduceIte, reduceCtorEq, Nat.reduceEqDiff, Nat.reduceAdd, Nat.reduceMul, Nat.reduceLeDiff, Nat.reduceLT, Int.reduceEq, Int.reduceLT, Int.reduceLE, Int.reduceAdd, Int.reduceSub, Int.reduceMul, Int.reduceNeg, Int.reduceToNat, Int.reduceNe, Nat.reduceBEq, tbs]
  repeat (first | (refine ⟨(by kernel_rfl : footOk _ _ _ _ = true), ?_⟩) | (refine ⟨(by omega : (_ : Prop)), ?_⟩))
  refine aops_fn (hc) (by first | exact Nat.le_add_right _ _ | (simp only [introT, intro1, introL, intros, pI]; omega)) rfl ?_
  simp (config := { maxSteps := 2000000 }) only [d1, e1, pI, bne_self_eq_false, vcs, reduceIte, reduceCtorEq, Nat.reduceEqDiff, Nat.reduceAdd, Nat.reduceMul, Nat.reduceLeDiff, Nat.reduceLT, Int.reduceEq, Int.reduceLT, Int.reduceLE, Int.reduceAdd, Int.reduceSub, Int.reduceMul, Int.reduceNeg, Int.reduceToNat, Int.reduceNe, Nat.reduceBEq, tbs]
  repeat (first | (refine ⟨(by kernel_rfl : footOk _ _ _ _ = true), ?_⟩) | (refine ⟨(by omega : (_ : Prop)), ?_⟩))
  refine ⟨k + 1, ?_, ?_, ?_⟩
  ·omega
  ·omega
  ·first | omega | (simp; done)
 ·have d1 : decide ((k : Int) < (R.length : Int)) = false := by simpa using hlt
  simp (config := { maxSteps := 2000000 }) only [d1, pI, bne_self_eq_false, vcs, reduceIte, reduceCtorEq, Nat.reduceEqDiff, Nat.reduceAdd, Nat.reduceMul, Nat.reduceLeDiff, Nat.reduceLT, Int.reduceEq, Int.reduceLT, Int.reduceLE, Int.reduceAdd, Int.reduceSub, Int.reduceMul, Int.reduceNeg, Int.reduceToNat, Int.reduceNe, Nat.reduceBEq, tbs]
  repeat (first | (refine ⟨(by kernel_rfl : footOk _ _ _ _ = true), ?_⟩) | (refine ⟨(by omega : (_ : Prop)), ?_⟩))
  all_goals (first | rfl | trivial | skip)
set_option maxRecDepth 10000 in
set_option maxHeartbeats 4000000 in
theorem eqSlice_ok (r : List PV) (hs : ShSlice r) : FnOk E.P 117 [.agg r, .agg r] (.bool true) true := by
 obtain ⟨a0, a1, a2, rfl⟩ := hs
 refine fn_ok mixed Try.func117 rfl (by kernel_rfl) _ Try.results117 _ Try.ntmps117 (by simp) (by kernel_rfl) ?_
 simp (config := { maxSteps := 2000000 }) only [pI, bne_self_eq_false, vcs, reduceIte, reduceCtorEq, Nat.reduceEqDiff, Nat.reduceAdd, Nat.reduceMul, Nat.reduceLeDiff, Nat.reduceLT, Int.reduceEq, Int.reduceLT, Int.reduceLE, Int.reduceAdd, Int.reduceSub, Int.reduceMul, Int.reduceNeg, Int.reduceToNat, Int.reduceNe, Nat.reduceBEq, tbs]
 repeat (first | (refine ⟨(by kernel_rfl : footOk _ _ _ _ = true), ?_⟩) | (refine ⟨(by omega : (_ : Prop)), ?_⟩))
 all_goals (first | rfl | trivial | skip)
set_option maxRecDepth 10000 in
set_option maxHeartbeats 4000000 in
theorem eqSliceS_ok (R : List (List PV)) (hs : ShSliceS R) : FnOk E.P 79 [.lst 102 R, .lst 102 R] (.bool true) true := by
 obtain ⟨hn, hs⟩ := hs
 refine fn_ok mixed Try.func79 rfl (by kernel_rfl) _ Try.results79 _ Try.ntmps79 (by simp) (by kernel_rfl) ?_
 simp (config := { maxSteps := 2000000 }) only [pI, bne_self_eq_false, vcs, reduceIte, reduceCtorEq, Nat.reduceEqDiff, Nat.reduceAdd, Nat.reduceMul, Nat.reduceLeDiff, Nat.reduceLT, Int.reduceEq, Int.reduceLT, Int.reduceLE, Int.reduceAdd, Int.reduceSub, Int.reduceMul, Int.reduceNeg, Int.reduceToNat, Int.reduceNe, Nat.reduceBEq, tbs]
 repeat (first | (refine ⟨(by kernel_rfl : footOk _ _ _ _ = true), ?_⟩) | (refine ⟨(by omega : (_ : Prop)), ?_⟩))
 refine awp_loop (X := Nat) (fun k => [(0, .pv (.lst 102 R)), (1, .pv (.lst 102 R)), (5, .pv (.int .i64 k))]) (fun k => []) (fun k => k ≤ R.length) (fun k => R.length - k) 100 0 (Nat.zero_le _) (by simp (config := { maxSteps := 2000000 }) only [pI, bne_self_eq_false, vcs, reduceIte, reduceCtorEq, Nat.reduceEqDiff, Nat.reduceAdd, Nat.reduceMul, Nat.reduceLeDiff, Nat.reduceLT, Int.reduceEq, Int.reduceLT, Int.reduceLE, Int.reduceAdd, Int.reduceSub, Int.reduceMul, Int.reduceNeg, Int.reduceToNat, Int.reduceNe, Nat.reduceBEq, tbs]; try rfl) (fun k hk => ?_)
 by_cases hlt : k < R.length
 ·have d1 : decide ((k : Int) < (R.length : Int)) = true := by simpa using hlt
  have e1 : R[k]? = some R[k] := List.getElem?_eq_getElem hlt
  have hr := hs R[k] (List.getElem_mem hlt)
  generalize R[k] = r at e1 hr
  have hc := eqSlice_ok r hr
  obtain ⟨a0, a1, a2, rfl⟩ := hr
  simp (config := { maxSteps := 2000000 }) only [d1, e1, pI, bne_self_eq_false, vcs, reduceIte, reduceCtorEq, Nat.reduceEqDiff, Nat.reduceAdd, Nat.reduceMul, Nat.reduceLeDiff, Nat.reduceLT, Int.reduceEq, Int.reduceLT, Int.reduceLE, Int.reduceAdd, Int.reduceSub, Int.reduceMul, Int.reduceNeg, Int.reduceToNat, Int.reduceNe, Nat.reduceBEq, tbs]
  repeat (first | (refine ⟨(by kernel_rfl : footOk _ _ _ _ = true), ?_⟩) | (refine ⟨(by omega : (_ : Prop)), ?_⟩))
  refine aops_fn (hc) (by first | exact Nat.le_add_right _ _ | (simp only [introT, intro1, introL, intros, pI]; omega)) rfl ?_
  simp (config := { maxSteps := 2000000 }) only [d1, e1, pI, bne_self_eq_false, vcs, reduceIte, reduceCtorEq, Nat.reduceEqDiff, Nat.reduceAdd, Nat.reduceMul, Nat.reduceLeDiff, Nat.reduceLT, Int.reduceEq, Int.reduceLT, Int.reduceLE, Int.reduceAdd, Int.reduceSub, Int.reduceMul, Int.reduceNeg, Int.reduceToNat, Int.reduceNe, Nat.reduceBEq, tbs]
  repeat (first | (refine ⟨(by kernel_rfl : footOk _ _ _ _ = true), ?_⟩) | (refine ⟨(by omega : (_ : Prop)), ?_⟩))
  refine ⟨k + 1, ?_, ?_, ?_⟩
  ·omega
  ·omega
  ·first | omega | (simp; done)
 ·have d1 : decide ((k : Int) < (R.length : Int)) = false := by simpa using hlt
  simp (config := { maxSteps := 2000000 }) only [d1, pI, bne_self_eq_false, vcs, reduceIte, reduceCtorEq, Nat.reduceEqDiff, Nat.reduceAdd, Nat.reduceMul, Nat.reduceLeDiff, Nat.reduceLT, Int.reduceEq, Int.reduceLT, Int.reduceLE, Int.reduceAdd, Int.reduceSub, Int.reduceMul, Int.reduceNeg, Int.reduceToNat, Int.reduceNe, Nat.reduceBEq, tbs]
  repeat (first | (refine ⟨(by kernel_rfl : footOk _ _ _ _ = true), ?_⟩) | (refine ⟨(by omega : (_ : Prop)), ?_⟩))
  all_goals (first | rfl | trivial | skip)
set_option maxRecDepth 10000 in
set_option maxHeartbeats 4000000 in
theorem eqProgram_ok (r : List PV) (hs : ShProgram r) : FnOk E.P 19 [.agg r, .agg r] (.bool true) true := by
 obtain ⟨a0, a1, rfl, s0⟩ := hs
 refine fn_ok mixed Try.func19 rfl (by kernel_rfl) _ Try.results19 _ Try.ntmps19 (by simp) (by kernel_rfl) ?_
 simp (config := { maxSteps := 2000000 }) only [pI, bne_self_eq_false, vcs, reduceIte, reduceCtorEq, Nat.reduceEqDiff, Nat.reduceAdd, Nat.reduceMul, Nat.reduceLeDiff, Nat.reduceLT, Int.reduceEq, Int.reduceLT, Int.reduceLE, Int.reduceAdd, Int.reduceSub, Int.reduceMul, Int.reduceNeg, Int.reduceToNat, Int.reduceNe, Nat.reduceBEq, tbs]
 repeat (first | (refine ⟨(by kernel_rfl : footOk _ _ _ _ = true), ?_⟩) | (refine ⟨(by omega : (_ : Prop)), ?_⟩))
 refine aops_fn (eqCodeS_ok a0 s0) (by first | exact Nat.le_add_right _ _ | (simp only [introT, intro1, introL, intros, pI]; omega)) rfl ?_
 simp (config := { maxSteps := 2000000 }) only [pI, bne_self_eq_false, vcs, reduceIte, reduceCtorEq, Nat.reduceEqDiff, Nat.reduceAdd, Nat.reduceMul, Nat.reduceLeDiff, Nat.reduceLT, Int.reduceEq, Int.reduceLT, Int.reduceLE, Int.reduceAdd, Int.reduceSub, Int.reduceMul, Int.reduceNeg, Int.reduceToNat, Int.reduceNe, Nat.reduceBEq, tbs]
 repeat (first | (refine ⟨(by kernel_rfl : footOk _ _ _ _ = true), ?_⟩) | (refine ⟨(by omega : (_ : Prop)), ?_⟩))
 all_goals (first | rfl | trivial | skip)
set_option maxRecDepth 10000 in
set_option maxHeartbeats 4000000 in
theorem eqRecord_ok (r : List PV) (hs : ShRecord r) : FnOk E.P 37 [.agg r, .agg r] (.bool true) true := by
 obtain ⟨a0, a1, rfl, s0, s1⟩ := hs
 refine fn_ok mixed Try.func37 rfl (by kernel_rfl) _ Try.results37 _ Try.ntmps37 (by simp) (by kernel_rfl) ?_
 simp (config := { maxSteps := 2000000 }) only [pI, bne_self_eq_false, vcs, reduceIte, reduceCtorEq, Nat.reduceEqDiff, Nat.reduceAdd, Nat.reduceMul, Nat.reduceLeDiff, Nat.reduceLT, Int.reduceEq, Int.reduceLT, Int.reduceLE, Int.reduceAdd, Int.reduceSub, Int.reduceMul, Int.reduceNeg, Int.reduceToNat, Int.reduceNe, Nat.reduceBEq, tbs]
 repeat (first | (refine ⟨(by kernel_rfl : footOk _ _ _ _ = true), ?_⟩) | (refine ⟨(by omega : (_ : Prop)), ?_⟩))
 refine aops_fn (eqSliceS_ok a0 s0) (by first | exact Nat.le_add_right _ _ | (simp only [introT, intro1, introL, intros, pI]; omega)) rfl ?_
 simp (config := { maxSteps := 2000000 }) only [pI, bne_self_eq_false, vcs, reduceIte, reduceCtorEq, Nat.reduceEqDiff, Nat.reduceAdd, Nat.reduceMul, Nat.reduceLeDiff, Nat.reduceLT, Int.reduceEq, Int.reduceLT, Int.reduceLE, Int.reduceAdd, Int.reduceSub, Int.reduceMul, Int.reduceNeg, Int.reduceToNat, Int.reduceNe, Nat.reduceBEq, tbs]
 repeat (first | (refine ⟨(by kernel_rfl : footOk _ _ _ _ = true), ?_⟩) | (refine ⟨(by omega : (_ : Prop)), ?_⟩))
 refine aops_fn (eqIntS_ok a1 s1) (by first | exact Nat.le_add_right _ _ | (simp only [introT, intro1, introL, intros, pI]; omega)) rfl ?_
 simp (config := { maxSteps := 2000000 }) only [pI, bne_self_eq_false, vcs, reduceIte, reduceCtorEq, Nat.reduceEqDiff, Nat.reduceAdd, Nat.reduceMul, Nat.reduceLeDiff, Nat.reduceLT, Int.reduceEq, Int.reduceLT, Int.reduceLE, Int.reduceAdd, Int.reduceSub, Int.reduceMul, Int.reduceNeg, Int.reduceToNat, Int.reduceNe, Nat.reduceBEq, tbs]
 repeat (first | (refine ⟨(by kernel_rfl : footOk _ _ _ _ = true), ?_⟩) | (refine ⟨(by omega : (_ : Prop)), ?_⟩))
 all_goals (first | rfl | trivial | skip)
end Av
end Go.Proofs.Ytminfkedkkkhdaa
