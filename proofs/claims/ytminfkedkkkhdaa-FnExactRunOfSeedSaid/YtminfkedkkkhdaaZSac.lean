/-
  Part of a proof: TyE, TyH. No condition.
-/
import Derived.Test.YtminfkedkkkhdaaZSab
section
set_option linter.unusedSimpArgs false
set_option linter.unusedVariables false
namespace Go.Proofs.Ytminfkedkkkhdaa
open Go.RowKit
namespace Av
def ShProgram (r : List PV) : Prop := ∃ (a0 : List (List PV)) (a1 : Int), r = [.lst 96 a0, pI a1] ∧ ShCodeS a0
set_option maxRecDepth 10000 in
set_option maxHeartbeats 4000000 in
theorem eqIntS_ok (R : List (List PV)) (hs : ShIntS R) : FnOk E.P 56 [.lst 3 R, .lst 3 R] (.bool true) true := by
 obtain ⟨hn, hs⟩ := hs
 refine fn_ok mixed Try.func56 rfl (by kernel_rfl) _ Try.results56 _ Try.ntmps56 (by simp) (by kernel_rfl) ?_
 simp (config := { maxSteps := 2000000 }) only [pI, bne_self_eq_false, vcs, reduceIte, reduceCtorEq, Nat.reduceEqDiff, Nat.reduceAdd, Nat.reduceMul, Nat.reduceLeDiff, Nat.reduceLT, Int.reduceEq, Int.reduceLT, Int.reduceLE, Int.reduceAdd, Int.reduceSub, Int.reduceMul, Int.reduceNeg, Int.reduceToNat, Int.reduceNe, Nat.reduceBEq, tbs]
 repeat (first | (refine ⟨(by kernel_rfl : footOk _ _ _ _ = true), ?_⟩) | (refine ⟨(by omega : (_ : Prop)), ?_⟩))
 refine awp_loop (X := Nat) (fun k => [(0, .pv (.lst 3 R)), (1, .pv (.lst 3 R)), (5, .pv (.int .i64 k))]) (fun k => []) (fun k => k ≤ R.length) (fun k => R.length - k) 100 0 (Nat.zero_le _) (by simp (config := { maxSteps := 2000000 }) only [pI, bne_self_eq_false, vcs, reduceIte, reduceCtorEq, Nat.reduceEqDiff, Nat.reduceAdd, Nat.reduceMul, Nat.reduceLeDiff, Nat.reduceLT, Int.reduceEq, Int.reduceLT, Int.reduceLE, Int.reduceAdd, Int.reduceSub, Int.reduceMul, Int.reduceNeg, Int.reduceToNat, Int.reduceNe, Nat.reduceBEq, tbs]; try rfl) (fun k hk => ?_)
 by_cases hlt : k < R.length
 ·have d1 : decide ((k : Int) < (R.length : Int)) = true := by simpa using hlt
  have e1 : R[k]? = some R[k] := List.getElem?_eq_getElem hlt
  have hr := hs R[k] (List.getElem_mem hlt)
  generalize R[k] = r at e1 hr
  obtain ⟨a0, rfl⟩ := hr
  simp (config := { maxSteps := 2000000 }) only [d1, e1, pI, bne_self_eq_false, vcs, reduceIte, reduceCtorEq, Nat.reduceEqDiff, Nat.reduceAdd, Nat.reduceMul, Nat.reduceLeDiff, Nat.reduceLT, Int.reduceEq, Int.reduceLT, Int.reduceLE, Int.reduceAdd, Int.reduceSub, Int.reduceMul, Int.reduceNeg, Int.reduceToNat, Int.reduceNe, Nat.reduceBEq, tbs]
  repeat (first | (refine ⟨(by kernel_rfl : footOk _ _ _ _ = true), ?_⟩) | (refine ⟨(by omega : (_ : Prop)), ?_⟩))
  refine ⟨k + 1, ?_, ?_, ?_⟩
  ·omega
  ·omega
  ·first | omega | (simp; done)
 ·have d1 : decide ((k : Int) < (R.length : Int)) = false := by simpa using hlt
  simp (config := { maxSteps := 2000000 }) only [d1, pI, bne_self_eq_false, vcs, reduceIte, reduceCtorEq, Nat.reduceEqDiff, Nat.reduceAdd, Nat.reduceMul, Nat.reduceLeDiff, Nat.reduceLT, Int.reduceEq, Int.reduceLT, Int.reduceLE, Int.reduceAdd, Int.reduceSub, Int.reduceMul, Int.reduceNeg, Int.reduceToNat, Int.reduceNe, Nat.reduceBEq, tbs]
  repeat (first | (refine ⟨(by kernel_rfl : footOk _ _ _ _ = true), ?_⟩) | (refine ⟨(by omega : (_ : Prop)), ?_⟩))
  all_goals (first | rfl | trivial | skip)
set_option maxRecDepth 10000 in
set_option maxHeartbeats 4000000 in
theorem eqCode_ok (r : List PV) (hs : ShCode r) : FnOk E.P 97 [.agg r, .agg r] (.bool true) true := by
 obtain ⟨a0, a1, a2, a3, rfl⟩ := hs
 refine fn_ok mixed Try.func97 rfl (by kernel_rfl) _ Try.results97 _ Try.ntmps97 (by simp) (by kernel_rfl) ?_
 simp (config := { maxSteps := 2000000 }) only [pI, bne_self_eq_false, vcs, reduceIte, reduceCtorEq, Nat.reduceEqDiff, Nat.reduceAdd, Nat.reduceMul, Nat.reduceLeDiff, Nat.reduceLT, Int.reduceEq, Int.reduceLT, Int.reduceLE, Int.reduceAdd, Int.reduceSub, Int.reduceMul, Int.reduceNeg, Int.reduceToNat, Int.reduceNe, Nat.reduceBEq, tbs]
 repeat (first | (refine ⟨(by kernel_rfl : footOk _ _ _ _ = true), ?_⟩) | (refine ⟨(by omega : (_ : Prop)), ?_⟩))
 all_goals (first | rfl | trivial | skip)
set_option maxRecDepth 10000 in
set_option maxHeartbeats 4000000 in
theorem eqCodeS_ok (R : List (List PV)) (hs : ShCodeS R) : FnOk E.P 57 [.lst 96 R, .lst 96 R] (.bool true) true := by
 obtain ⟨hn, hs⟩ := hs
 refine fn_ok mixed Try.func57 rfl (by kernel_rfl) _ Try.results57 _ Try.ntmps57 (by simp) (by kernel_rfl) ?_
 simp (config := { maxSteps := 2000000 }) only [pI, bne_self_eq_false, vcs, reduceIte, reduceCtorEq, Nat.reduceEqDiff, Nat.reduceAdd, Nat.reduceMul, Nat.reduceLeDiff, Nat.reduceLT, Int.reduceEq, Int.reduceLT, Int.reduceLE, Int.reduceAdd, Int.reduceSub, Int.reduceMul, Int.reduceNeg, Int.reduceToNat, Int.reduceNe, Nat.reduceBEq, tbs]
 repeat (first | (refine ⟨(by kernel_rfl : footOk _ _ _ _ = true), ?_⟩) | (refine ⟨(by omega : (_ : Prop)), ?_⟩))
 refine awp_loop (X := Nat) (fun k => [(0, .pv (.lst 96 R)), (1, .pv (.lst 96 R)), (5, .pv (.int .i64 k))]) (fun k => []) (fun k => k ≤ R.length) (fun k => R.length - k) 100 0 (Nat.zero_le _) (by simp (config := { maxSteps := 2000000 }) only [pI, bne_self_eq_false, vcs, reduceIte, reduceCtorEq, Nat.reduceEqDiff, Nat.reduceAdd, Nat.reduceMul, Nat.reduceLeDiff, Nat.reduceLT, Int.reduceEq, Int.reduceLT, Int.reduceLE, Int.reduceAdd, Int.reduceSub, Int.reduceMul, Int.reduceNeg, Int.reduceToNat, Int.reduceNe, Nat.reduceBEq, tbs]; try rfl) (fun k hk => ?_)
 by_cases hlt : k < R.length
 ·have d1 : decide ((k : Int) < (R.length : Int)) = true := by simpa using hlt
  have e1 : R[k]? = some R[k] := List.getElem?_eq_getElem hlt
  have hr := hs R[k] (List.getElem_mem hlt)
  generalize R[k] = r at e1 hr
  have hc := eqCode_ok r hr
  obtain ⟨a0, a1, a2, a3, rfl⟩ := hr
  simp (config := { maxSteps := 2000000 }) only [d1, e1, pI, bne_self_eq_false, vcs, reduceIte, reduceCtorEq, Nat.reduceEqDiff, Nat.reduceAdd, Nat.reduceMul, Nat.reduceLeDiff, Nat.reduceLT, Int.reduceEq, Int.reduceLT, Int.reduceLE, Int.reduceAdd, Int.reduceSub, Int.reduceMul, Int.reduceNeg, Int.reduceToNat, Int.reduceNe, Nat.reduceBEq, tbs]
  repeat (first | (refine ⟨(by kernel_rfl : footOk _ _ _ _ = true), ?_⟩) | (refine ⟨(by omega : (_ : Prop)), ?_⟩))
  refine aops_fn (hc) (by first | exact Nat.le_add_right _ _ | (simp only [introT, intro1, introL, intros, pI]; omega)) rfl ?_
  simp (config := { maxSteps := 2000000 }) only [d1, e1, pI, bne_self_eq_false, vcs, reduceIte, reduceCtorEq, Nat.reduceEqDiff, Nat.reduceAdd, Nat.reduceMul, Nat.reduceLeDiff, Nat.reduceLT, Int.reduceEq, Int.reduceLT, Int.reduceLE, Int.reduceAdd, Int.reduceSub, Int.reduceMul, Int.reduceNeg, Int.reduceToNat, Int.reduceNe, Nat.reduceBEq, tbs]
  repeat (first | (refine ⟨(by kernel_rfl : footOk _ _ _ _ = true), ?_⟩) | (refine ⟨(by omega : (_ : Prop)), ?_⟩))
  refine ⟨k + 1, ?_, ?_, ?_⟩
  ·omega
  ·omega
  ·first | omega | (simp; done)
 ·have d1 : decide ((k : Int) < (R.length : Int)) = false := by simpa using hlt
  simp (config := { maxSteps := 2000000 }) only [d1, pI, bne_self_eq_false, vcs, reduceIte, reduceCtorEq, Nat.reduceEqDiff, Nat.reduceAdd, Nat.reduceMul, Nat.reduceLeDiff, Nat.reduceLT, Int.reduceEq, Int.reduceLT, Int.reduceLE, Int.reduceAdd, Int.reduceSub, Int.reduceMul, Int.reduceNeg, Int.reduceToNat, Int.reduceNe, Nat.reduceBEq, tbs]
  repeat (first | (refine ⟨(by kernel_rfl : footOk _ _ _ _ = true), ?_⟩) | (refine ⟨(by omega : (_ : Prop)), ?_⟩))
  all_goals (first | rfl | trivial | skip)
set_option maxRecDepth 10000 in
set_option maxHeartbeats 4000000 in
theorem eqChoice_ok (r : List PV) (hs : ShChoice r) : FnOk E.P 58 [.agg r, .agg r] (.bool true) true := by
 obtain ⟨a0, a1, a2, rfl⟩ := hs
 refine fn_ok mixed Try.func58 rfl (by kernel_rfl) _ Try.results58 _ Try.ntmps58 (by simp) (by kernel_rfl) ?_
 simp (config := { maxSteps := 2000000 }) only [pI, bne_self_eq_false, vcs, reduceIte, reduceCtorEq, Nat.reduceEqDiff, Nat.reduceAdd, Nat.reduceMul, Nat.reduceLeDiff, Nat.reduceLT, Int.reduceEq, Int.reduceLT, Int.reduceLE, Int.reduceAdd, Int.reduceSub, Int.reduceMul, Int.reduceNeg, Int.reduceToNat, Int.reduceNe, Nat.reduceBEq, tbs]
 repeat (first | (refine ⟨(by kernel_rfl : footOk _ _ _ _ = true), ?_⟩) | (refine ⟨(by omega : (_ : Prop)), ?_⟩))
 all_goals (first | rfl | trivial | skip)
set_option maxRecDepth 10000 in
set_option maxHeartbeats 4000000 in
theorem eqChoiceS_ok (R : List (List PV)) (hs : ShChoiceS R) : FnOk E.P 20 [.lst 80 R, .lst 80 R] (.bool true) true := by
 obtain ⟨hn, hs⟩ := hs
 refine fn_ok mixed Try.func20 rfl (by kernel_rfl) _ Try.results20 _ Try.ntmps20 (by simp) (by kernel_rfl) ?_
 simp (config := { maxSteps := 2000000 }) only [pI, bne_self_eq_false, vcs, reduceIte, reduceCtorEq, Nat.reduceEqDiff, Nat.reduceAdd, Nat.reduceMul, Nat.reduceLeDiff, Nat.reduceLT, Int.reduceEq, Int.reduceLT, Int.reduceLE, Int.reduceAdd, Int.reduceSub, Int.reduceMul, Int.reduceNeg, Int.reduceToNat, Int.reduceNe, Nat.reduceBEq, tbs]
 repeat (first | (refine ⟨(by kernel_rfl : footOk _ _ _ _ = true), ?_⟩) | (refine ⟨(by omega : (_ : Prop)), ?_⟩))
 refine awp_loop (X := Nat) (fun k => [(0, .pv (.lst 80 R)), (1, .pv (.lst 80 R)), (5, .pv (.int .i64 k))]) (fun k => []) (fun k => k ≤ R.length) (fun k => R.length - k) 100 0 (Nat.zero_le _) (by simp (config := { maxSteps := 2000000 }) only [pI, bne_self_eq_false, vcs, reduceIte, reduceCtorEq, Nat.reduceEqDiff, Nat.reduceAdd, Nat.reduceMul, Nat.reduceLeDiff, Nat.reduceLT, Int.reduceEq, Int.reduceLT, Int.reduceLE, Int.reduceAdd, Int.reduceSub, Int.reduceMul, Int.reduceNeg, Int.reduceToNat, Int.reduceNe, Nat.reduceBEq, tbs]; try rfl) (fun k hk => ?_)
 by_cases hlt : k < R.length
 ·have d1 : decide ((k : Int) < (R.length : Int)) = true := by simpa using hlt
  have e1 : R[k]? = some R[k] := List.getElem?_eq_getElem hlt
  have hr := hs R[k] (List.getElem_mem hlt)
  generalize R[k] = r at e1 hr
  have hc := eqChoice_ok r hr
  obtain ⟨a0, a1, a2, rfl⟩ := hr
  simp (config := { maxSteps := 2000000 }) only [d1, e1, pI, bne_self_eq_false, vcs, reduceIte, reduceCtorEq, Nat.reduceEqDiff, Nat.reduceAdd, Nat.reduceMul, Nat.reduceLeDiff, Nat.reduceLT, Int.reduceEq, Int.reduceLT, Int.reduceLE, Int.reduceAdd, Int.reduceSub, Int.reduceMul, Int.reduceNeg, Int.reduceToNat, Int.reduceNe, Nat.reduceBEq, tbs]
  repeat (first | (refine ⟨(by kernel_rfl : footOk _ _ _ _ = true), ?_⟩) | (refine ⟨(by omega : (_ : Prop)), ?_⟩))
  refine aops_fn (hc) (by first | exact Nat.le_add_right _ _ | (simp only [introT, intro1, introL, intros, pI]; omega)) rfl ?_
  simp (config := { maxSteps := 2000000 }) only [d1, e1, pI, bne_self_eq_false, vcs, reduceIte, reduceCtorEq, Nat.reduceEqDiff, Nat.reduceAdd, Nat.reduceMul, Nat.reduceLeDiff, Nat.reduceLT, Int.reduceEq, Int.reduceLT, Int.reduceLE, Int.reduceAdd, Int.reduceSub, Int.reduceMul, Int.reduceNeg, Int.reduceToNat, Int.reduceNe, Nat.reduceBEq, tbs]
  repeat (first | (refine ⟨(by kernel_rfl : footOk _ _ _ _ = true), ?_⟩) | (refine ⟨(by omega : (_ : Prop)), ?_⟩))
  refine ⟨k + 1, ?_, ?_, ?_⟩
  ·omega
  ·omega
  ·first | omega | (simp; done)
 ·have d1 : decide ((k : Int) < (R.length : Int)) = false := by simpa using hlt
  simp (config := { maxSteps := 2000000 }) only [d1, pI, bne_self_eq_false, vcs, reduceIte, reduceCtorEq, Nat.reduceEqDiff, Nat.reduceAdd, Nat.reduceMul, Nat.reduceLeDiff, Nat.reduceLT, Int.reduceEq, Int.reduceLT, Int.reduceLE, Int.reduceAdd, Int.reduceSub, Int.reduceMul, Int.reduceNeg, Int.reduceToNat, Int.reduceNe, Nat.reduceBEq, tbs]
  repeat (first | (refine ⟨(by kernel_rfl : footOk _ _ _ _ = true), ?_⟩) | (refine ⟨(by omega : (_ : Prop)), ?_⟩))
  all_goals (first | rfl | trivial | skip)
set_option maxRecDepth 10000 in
set_option maxHeartbeats 4000000 in
theorem eqProgram_ok (r : List PV) (hs : ShProgram r) : FnOk E.P 19 [.agg r, .agg r] (.bool true) true := by
 obtain ⟨a0, a1, rfl, s0⟩ := hs
 refine fn_ok mixed Try.func19 rfl (by kernel_rfl) _ Try.results19 _ Try.ntmps19 (by simp) (by kernel_rfl) ?_
 simp (config := { maxSteps := 2000000 }) only [pI, bne_self_eq_false, vcs, reduceIte, reduceCtorEq, Nat.reduceEqDiff, Nat.reduceAdd, Nat.reduceMul, Nat.reduceLeDiff, Nat.reduceLT, Int.reduceEq, Int.reduceLT, Int.reduceLE, Int.reduceAdd, Int.reduceSub, Int.reduceMul, Int.reduceNeg, Int.reduceToNat, Int.reduceNe, Nat.reduceBEq, tbs]
 repeat (first | (refine ⟨(by kernel_rfl : footOk _ _ _ _ = true), ?_⟩) | (refine ⟨(by omega : (_ : Prop)), ?_⟩))
 refine aops_fn (eqCodeS_ok a0 s0) (by first | exact Nat.le_add_right _ _ | (simp only [introT, intro1, introL, intros, pI]; omega)) rfl ?_
 simp (config := { maxSteps := 2000000 }) only [pI, bne_self_eq_false, vcs, reduceIte, reduceCtorEq, Nat.reduceEqDiff, Nat.reduceAdd, Nat.reduceMul, Nat.reduceLeDiff, Nat.reduceLT, Int.reduceEq, Int.reduceLT, Int.reduceLE, Int.reduceAdd, Int.reduceSub, Int.reduceMul, Int.reduceNeg, Int.reduceToNat, Int.reduceNe, Nat.reduceBEq, tbs]
 repeat (first | (refine ⟨(by kernel_rfl : footOk _ _ _ _ = true), ?_⟩) | (refine ⟨(by omega : (_ : Prop)), ?_⟩))
 all_goals (first | rfl | trivial | skip)
end Av
end Go.Proofs.Ytminfkedkkkhdaa
end
section
set_option linter.unusedSimpArgs false
set_option linter.unusedVariables false
namespace Go.Proofs.Ytminfkedkkkhdaa
open Go.RowKit
namespace Av
set_option maxRecDepth 10000 in
set_option maxHeartbeats 4000000 in
theorem heldIntS_ok (R : List (List PV)) (hs : ShIntS R) (k : Int) (h0 : 0 ≤ k) (h1 : (mkR R k).2 ≤ 4611686018427387904) : FnOk E.P 63 [.lst 3 (mkR R k).1, pI k] (pI (mkR R k).2) true := by
 obtain ⟨hn, hs⟩ := hs
 have hl := mkR_len R k
 refine fn_ok mixed Try.func63 rfl (by kernel_rfl) _ Try.results63 _ Try.ntmps63 (by simp) (by kernel_rfl) ?_
 simp (config := { maxSteps := 2000000 }) only [hl, pI, bne_self_eq_false, vcs, reduceIte, reduceCtorEq, Nat.reduceEqDiff, Nat.reduceAdd, Nat.reduceMul, Nat.reduceLeDiff, Nat.reduceLT, Int.reduceEq, Int.reduceLT, Int.reduceLE, Int.reduceAdd, Int.reduceSub, Int.reduceMul, Int.reduceNeg, Int.reduceToNat, Int.reduceNe, Nat.reduceBEq, tbs]
 repeat (first | (refine ⟨(by kernel_rfl : footOk _ _ _ _ = true), ?_⟩) | (refine ⟨(by omega : (_ : Prop)), ?_⟩))
 refine awp_loop (X := Nat) (fun m => [(0, .pv (.lst 3 (mkR R k).1)), (1, .pv (.int .i64 (mkR (R.take m) k).2)), (5, .pv (.int .i64 m))]) (fun m => []) (fun m => m ≤ R.length) (fun m => R.length - m) 100 0 (Nat.zero_le _) (by simp (config := { maxSteps := 2000000 }) only [List.take_zero, mkR, pI, bne_self_eq_false, vcs, reduceIte, reduceCtorEq, Nat.reduceEqDiff, Nat.reduceAdd, Nat.reduceMul, Nat.reduceLeDiff, Nat.reduceLT, Int.reduceEq, Int.reduceLT, Int.reduceLE, Int.reduceAdd, Int.reduceSub, Int.reduceMul, Int.reduceNeg, Int.reduceToNat, Int.reduceNe, Nat.reduceBEq, tbs]; try rfl) (fun m hm => ?_)
 obtain ⟨q, hq⟩ : ∃ q, q = (mkR (R.take m) k).2 := ⟨_, rfl⟩
 have hq0 : 0 ≤ q := by rw [hq]; exact Int.le_trans h0 (mkR_le _ _)
 by_cases hlt : m < R.length
 ·have d1 : decide ((m : Int) < (R.length : Int)) = true := by simpa using hlt
  have e0 : R[m]? = some R[m] := List.getElem?_eq_getElem hlt
  have hr := hs R[m] (List.getElem_mem hlt)
  generalize R[m] = r at e0 hr
  have e1 := mkR_at (k := k) e0
  have e2 : (mkR (R.take (m + 1)) k).2 = (mkL r q).2 := by rw [mkR_take e0, hq]
  have h3 := mkR_mono R (m + 1) k
  rw [← hq] at e1
  rw [e2] at h3
  obtain ⟨a0, rfl⟩ := hr
  simp only [mkL, mkP, pI] at e1 e2 h3
  simp (config := { maxSteps := 2000000 }) only [d1, e1, hl, ← hq, pI, bne_self_eq_false, vcs, reduceIte, reduceCtorEq, Nat.reduceEqDiff, Nat.reduceAdd, Nat.reduceMul, Nat.reduceLeDiff, Nat.reduceLT, Int.reduceEq, Int.reduceLT, Int.reduceLE, Int.reduceAdd, Int.reduceSub, Int.reduceMul, Int.reduceNeg, Int.reduceToNat, Int.reduceNe, Nat.reduceBEq, tbs]
  repeat (first | (refine ⟨(by kernel_rfl : footOk _ _ _ _ = true), ?_⟩) | (refine ⟨(by omega : (_ : Prop)), ?_⟩))
  refine ⟨m + 1, ?_, ?_, ?_⟩
  ·omega
  ·omega
  ·try simp only [e2, true_and, and_true]
   first | omega | (refine ⟨?_, ?_⟩ <;> omega)
 ·have d1 : decide ((m : Int) < (R.length : Int)) = false := by simpa using hlt
  have e1 : R.take m = R := List.take_of_length_le (by omega)
  rw [e1]
  simp (config := { maxSteps := 2000000 }) only [d1, hl, pI, bne_self_eq_false, vcs, reduceIte, reduceCtorEq, Nat.reduceEqDiff, Nat.reduceAdd, Nat.reduceMul, Nat.reduceLeDiff, Nat.reduceLT, Int.reduceEq, Int.reduceLT, Int.reduceLE, Int.reduceAdd, Int.reduceSub, Int.reduceMul, Int.reduceNeg, Int.reduceToNat, Int.reduceNe, Nat.reduceBEq, tbs]
  repeat (first | (refine ⟨(by kernel_rfl : footOk _ _ _ _ = true), ?_⟩) | (refine ⟨(by omega : (_ : Prop)), ?_⟩))
  all_goals (first | rfl | trivial | skip)
set_option maxRecDepth 10000 in
set_option maxHeartbeats 4000000 in
theorem heldChoiceS_ok (R : List (List PV)) (hs : ShChoiceS R) (k : Int) (h0 : 0 ≤ k) (h1 : (mkR R k).2 ≤ 4611686018427387904) : FnOk E.P 32 [.lst 80 (mkR R k).1, pI k] (pI (mkR R k).2) true := by
 obtain ⟨hn, hs⟩ := hs
 have hl := mkR_len R k
 refine fn_ok mixed Try.func32 rfl (by kernel_rfl) _ Try.results32 _ Try.ntmps32 (by simp) (by kernel_rfl) ?_
 simp (config := { maxSteps := 2000000 }) only [hl, pI, bne_self_eq_false, vcs, reduceIte, reduceCtorEq, Nat.reduceEqDiff, Nat.reduceAdd, Nat.reduceMul, Nat.reduceLeDiff, Nat.reduceLT, Int.reduceEq, Int.reduceLT, Int.reduceLE, Int.reduceAdd, Int.reduceSub, Int.reduceMul, Int.reduceNeg, Int.reduceToNat, Int.reduceNe, Nat.reduceBEq, tbs]
 repeat (first | (refine ⟨(by kernel_rfl : footOk _ _ _ _ = true), ?_⟩) | (refine ⟨(by omega : (_ : Prop)), ?_⟩))
 refine awp_loop (X := Nat) (fun m => [(0, .pv (.lst 80 (mkR R k).1)), (1, .pv (.int .i64 (mkR (R.take m) k).2)), (5, .pv (.int .i64 m))]) (fun m => []) (fun m => m ≤ R.length) (fun m => R.length - m) 100 0 (Nat.zero_le _) (by simp (config := { maxSteps := 2000000 }) only [List.take_zero, mkR, pI, bne_self_eq_false, vcs, reduceIte, reduceCtorEq, Nat.reduceEqDiff, Nat.reduceAdd, Nat.reduceMul, Nat.reduceLeDiff, Nat.reduceLT, Int.reduceEq, Int.reduceLT, Int.reduceLE, Int.reduceAdd, Int.reduceSub, Int.reduceMul, Int.reduceNeg, Int.reduceToNat, Int.reduceNe, Nat.reduceBEq, tbs]; try rfl) (fun m hm => ?_)
 obtain ⟨q, hq⟩ : ∃ q, q = (mkR (R.take m) k).2 := ⟨_, rfl⟩
 have hq0 : 0 ≤ q := by rw [hq]; exact Int.le_trans h0 (mkR_le _ _)
 by_cases hlt : m < R.length
 ·have d1 : decide ((m : Int) < (R.length : Int)) = true := by simpa using hlt
  have e0 : R[m]? = some R[m] := List.getElem?_eq_getElem hlt
  have hr := hs R[m] (List.getElem_mem hlt)
  generalize R[m] = r at e0 hr
  have e1 := mkR_at (k := k) e0
  have e2 : (mkR (R.take (m + 1)) k).2 = (mkL r q).2 := by rw [mkR_take e0, hq]
  have h3 := mkR_mono R (m + 1) k
  rw [← hq] at e1
  rw [e2] at h3
  obtain ⟨a0, a1, a2, rfl⟩ := hr
  simp only [mkL, mkP, pI] at e1 e2 h3
  simp (config := { maxSteps := 2000000 }) only [d1, e1, hl, ← hq, pI, bne_self_eq_false, vcs, reduceIte, reduceCtorEq, Nat.reduceEqDiff, Nat.reduceAdd, Nat.reduceMul, Nat.reduceLeDiff, Nat.reduceLT, Int.reduceEq, Int.reduceLT, Int.reduceLE, Int.reduceAdd, Int.reduceSub, Int.reduceMul, Int.reduceNeg, Int.reduceToNat, Int.reduceNe, Nat.reduceBEq, tbs]
  repeat (first | (refine ⟨(by kernel_rfl : footOk _ _ _ _ = true), ?_⟩) | (refine ⟨(by omega : (_ : Prop)), ?_⟩))
  refine ⟨m + 1, ?_, ?_, ?_⟩
  ·omega
  ·omega
  ·try simp only [e2, true_and, and_true]
   first | omega | (refine ⟨?_, ?_⟩ <;> omega)
 ·have d1 : decide ((m : Int) < (R.length : Int)) = false := by simpa using hlt
  have e1 : R.take m = R := List.take_of_length_le (by omega)
  rw [e1]
  simp (config := { maxSteps := 2000000 }) only [d1, hl, pI, bne_self_eq_false, vcs, reduceIte, reduceCtorEq, Nat.reduceEqDiff, Nat.reduceAdd, Nat.reduceMul, Nat.reduceLeDiff, Nat.reduceLT, Int.reduceEq, Int.reduceLT, Int.reduceLE, Int.reduceAdd, Int.reduceSub, Int.reduceMul, Int.reduceNeg, Int.reduceToNat, Int.reduceNe, Nat.reduceBEq, tbs]
  repeat (first | (refine ⟨(by kernel_rfl : footOk _ _ _ _ = true), ?_⟩) | (refine ⟨(by omega : (_ : Prop)), ?_⟩))
  all_goals (first | rfl | trivial | skip)
end Av
end Go.Proofs.Ytminfkedkkkhdaa
end
