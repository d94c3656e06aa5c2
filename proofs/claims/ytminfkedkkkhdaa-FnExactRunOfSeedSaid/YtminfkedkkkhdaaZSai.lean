/-
  Part of a proof: ISeed. No condition.
-/
import Derived.Test.YtminfkedkkkhdaaZSah
set_option linter.unusedSimpArgs false
set_option linter.unusedVariables false
namespace Go.Proofs.Ytminfkedkkkhdaa
open Go.RowKit
namespace Av
theorem iprog_ok {rs : List Bt.C4} {h : Int} (hn : rs.length ≤ 1048576) : FnOk E.P 71 [pProg rs h] (.bool (Bt.progOk rs h)) true := by
 by_cases e : rs = []
 ·subst e
  exact prog0_ok
 ·exact progN_ok e hn
theorem seedBehind_ok {s : Int} (h0 : 0 ≤ s) (h1 : s ≤ 2147483646) : FnOk E.P 73 [pI s] (pI (s * 16807 % 2147483647)) true := by
 have e : (s * 16807).tmod 2147483647 = s * 16807 % 2147483647 := Int.tmod_eq_emod_of_nonneg (by omega)
 refine fn_ok mixed Try.func73 rfl (by kernel_rfl) _ Try.results73 _ Try.ntmps73 (by simp) (by kernel_rfl) ?_
 simp (config := { maxSteps := 4000000 }) only [e, pI, plainT, bne_self_eq_false, vcs, reduceIte, reduceCtorEq, Nat.reduceEqDiff, Nat.reduceAdd, Nat.reduceMul, Nat.reduceLeDiff, Nat.reduceLT, Int.reduceEq, Int.reduceLT, Int.reduceLE, Int.reduceAdd, Int.reduceSub, Int.reduceMul, Int.reduceNeg, Int.reduceToNat, Int.reduceNe, Nat.reduceBEq, tbs]
 repeat (first | (refine ⟨(by kernel_rfl : footOk _ _ _ _ = true), ?_⟩) | (refine ⟨(by omega : (_ : Prop)), ?_⟩))
 all_goals (first | rfl | trivial | skip)
set_option maxHeartbeats 4000000 in
theorem answeredBy_ok {rs : List Bt.C4} {h s who kind rep : Int} {m : Bt.Mc} (hne : rs ≠ []) (hn : rs.length ≤ 1048576) (hm : Small m) (h0 : 0 ≤ s) : FnOk E.P 74 [pProg rs h, .agg (pMc m), .agg (pCh ⟨who, kind, rep⟩), pI s] (.agg (pCh (Bt.seedPick rs h m s ⟨who, kind, rep⟩))) true := by
 have hI := (instr_ok (rs := rs) (h := h) (m := m) (who := who) hne hn hm).read
 have e : s.tmod 10000 = s % 10000 := Int.tmod_eq_emod_of_nonneg h0
 unfold Bt.seedPick
 simp only
 generalize Bt.instrOf rs h m who = X at *
 cases X with
 | none =>
  refine fn_ok mixed Try.func74 rfl (by kernel_rfl) _ Try.results74 _ Try.ntmps74 (by simp) (by kernel_rfl) ?_
  simp (config := { maxSteps := 4000000 }) only [pProg, pMc, pCh, pInts, pI, plainT, bne_self_eq_false, vcs, reduceIte, reduceCtorEq, Nat.reduceEqDiff, Nat.reduceAdd, Nat.reduceMul, Nat.reduceLeDiff, Nat.reduceLT, Int.reduceEq, Int.reduceLT, Int.reduceLE, Int.reduceAdd, Int.reduceSub, Int.reduceMul, Int.reduceNeg, Int.reduceToNat, Int.reduceNe, Nat.reduceBEq, tbs]
  repeat (first | (refine ⟨(by kernel_rfl : footOk _ _ _ _ = true), ?_⟩) | (refine ⟨(by omega : (_ : Prop)), ?_⟩))
  refine aops_callF (hI) (by first | exact Nat.le_add_right _ _ | (simp only [introT, intro1, introL, intros, pI, pProg, pMc, pCh, pChs, pInts]; omega)) rfl ?_
  simp (config := { maxSteps := 4000000 }) only [Option.getD_none, Option.isSome_none, pProg, pMc, pCh, pCode, pInts, pI, plainT, bne_self_eq_false, vcs, reduceIte, reduceCtorEq, Nat.reduceEqDiff, Nat.reduceAdd, Nat.reduceMul, Nat.reduceLeDiff, Nat.reduceLT, Int.reduceEq, Int.reduceLT, Int.reduceLE, Int.reduceAdd, Int.reduceSub, Int.reduceMul, Int.reduceNeg, Int.reduceToNat, Int.reduceNe, Nat.reduceBEq, tbs]
  repeat (first | (refine ⟨(by kernel_rfl : footOk _ _ _ _ = true), ?_⟩) | (refine ⟨(by omega : (_ : Prop)), ?_⟩))
  all_goals (first | rfl | trivial | skip)
 | some x =>
  obtain ⟨op, xa, xb, xc⟩ := x
  refine fn_ok mixed Try.func74 rfl (by kernel_rfl) _ Try.results74 _ Try.ntmps74 (by simp) (by kernel_rfl) ?_
  simp (config := { maxSteps := 4000000 }) only [pProg, pMc, pCh, pInts, pI, plainT, bne_self_eq_false, vcs, reduceIte, reduceCtorEq, Nat.reduceEqDiff, Nat.reduceAdd, Nat.reduceMul, Nat.reduceLeDiff, Nat.reduceLT, Int.reduceEq, Int.reduceLT, Int.reduceLE, Int.reduceAdd, Int.reduceSub, Int.reduceMul, Int.reduceNeg, Int.reduceToNat, Int.reduceNe, Nat.reduceBEq, tbs]
  repeat (first | (refine ⟨(by kernel_rfl : footOk _ _ _ _ = true), ?_⟩) | (refine ⟨(by omega : (_ : Prop)), ?_⟩))
  refine aops_callF (hI) (by first | exact Nat.le_add_right _ _ | (simp only [introT, intro1, introL, intros, pI, pProg, pMc, pCh, pChs, pInts]; omega)) rfl ?_
  by_cases c1 : op = 13
  ·subst c1
   by_cases c2 : kind = 0
   ·subst c2
    simp (config := { maxSteps := 4000000 }) only [e, Option.getD_some, Option.isSome_some, pProg, pMc, pCh, pCode, pInts, pI, plainT, bne_self_eq_false, vcs, reduceIte, reduceCtorEq, Nat.reduceEqDiff, Nat.reduceAdd, Nat.reduceMul, Nat.reduceLeDiff, Nat.reduceLT, Int.reduceEq, Int.reduceLT, Int.reduceLE, Int.reduceAdd, Int.reduceSub, Int.reduceMul, Int.reduceNeg, Int.reduceToNat, Int.reduceNe, Nat.reduceBEq, tbs]
    repeat (first | (refine ⟨(by kernel_rfl : footOk _ _ _ _ = true), ?_⟩) | (refine ⟨(by omega : (_ : Prop)), ?_⟩))
    all_goals (first | rfl | trivial | skip)
   ·have d2 : (kind != 0) = true := by simpa using c2
    simp (config := { maxSteps := 4000000 }) only [e, c2, d2, and_false, if_false, Option.getD_some, Option.isSome_some, pProg, pMc, pCh, pCode, pInts, pI, plainT, bne_self_eq_false, vcs, reduceIte, reduceCtorEq, Nat.reduceEqDiff, Nat.reduceAdd, Nat.reduceMul, Nat.reduceLeDiff, Nat.reduceLT, Int.reduceEq, Int.reduceLT, Int.reduceLE, Int.reduceAdd, Int.reduceSub, Int.reduceMul, Int.reduceNeg, Int.reduceToNat, Int.reduceNe, Nat.reduceBEq, tbs]
    repeat (first | (refine ⟨(by kernel_rfl : footOk _ _ _ _ = true), ?_⟩) | (refine ⟨(by omega : (_ : Prop)), ?_⟩))
    all_goals (first | rfl | trivial | skip)
  ·have d1 : (op != 13) = true := by simpa using c1
   simp (config := { maxSteps := 4000000 }) only [e, c1, d1, false_and, if_false, Option.getD_some, Option.isSome_some, pProg, pMc, pCh, pCode, pInts, pI, plainT, bne_self_eq_false, vcs, reduceIte, reduceCtorEq, Nat.reduceEqDiff, Nat.reduceAdd, Nat.reduceMul, Nat.reduceLeDiff, Nat.reduceLT, Int.reduceEq, Int.reduceLT, Int.reduceLE, Int.reduceAdd, Int.reduceSub, Int.reduceMul, Int.reduceNeg, Int.reduceToNat, Int.reduceNe, Nat.reduceBEq, tbs]
   repeat (first | (refine ⟨(by kernel_rfl : footOk _ _ _ _ = true), ?_⟩) | (refine ⟨(by omega : (_ : Prop)), ?_⟩))
   all_goals (first | rfl | trivial | skip)
def SeedInv (rs : List Bt.C4) (h : Int) (N : Nat) (s0 : Int) (x : Nat × Int × Bt.Mc × List Bt.Ch) : Prop :=
 x.1 ≤ N ∧ 0 ≤ x.2.1 ∧ x.2.1 ≤ 2147483646 ∧ Bt.mcSz x.2.2.1 ≤ 1048576 ∧ x.2.2.1.ths.length ≤ 5 ∧ x.2.2.2.length = x.1 ∧ x.2.2.2 ++ Bt.seedRun rs h (N - x.1) x.2.1 x.2.2.1 = Bt.seedRun rs h N s0 Bt.mcNew
theorem seed_start {rs : List Bt.C4} {h s0 : Int} {N : Nat} (h0 : 0 ≤ s0) (h1 : s0 ≤ 2147483646) : SeedInv rs h N s0 (0, s0, Bt.mcNew, []) := ⟨Nat.zero_le _, h0, h1, by show Bt.mcSz Bt.mcNew ≤ 1048576; decide, by show Bt.mcNew.ths.length ≤ 5; decide, rfl, by simp⟩
theorem seed_step {rs : List Bt.C4} {h s0 s : Int} {N i k : Nat} {m : Bt.Mc} {out : List Bt.Ch} (H : SeedInv rs h N s0 (i, s, m, out)) (hi : i < N) (ei : s * 16807 % 2147483647 % ((Bt.chooseAll rs h m).length : Int) = k) (hk : k < (Bt.chooseAll rs h m).length) :
  SeedInv rs h N s0 (i + 1, s * 16807 % 2147483647, (Bt.doM rs h m (Bt.seedPick rs h m (s * 16807 % 2147483647) (Bt.chooseAll rs h m)[k])).getD Bt.mcNil, out ++ [Bt.seedPick rs h m (s * 16807 % 2147483647) (Bt.chooseAll rs h m)[k]]) := by
 obtain ⟨h1, h2, h3, h4, h5, h6, h7⟩ := H
 simp only at h1 h2 h3 h4 h5 h6 h7
 refine ⟨hi, by simp only; omega, by simp only; omega, Bt.made_sz rs h m _, Bt.made_few rs h m _, by simp [h6], ?_⟩
 have e : N - i = (N - (i + 1)) + 1 := by omega
 rw [e, Bt.seedRun_some rfl rfl ei hk rfl] at h7
 simpa using h7
theorem seed_stop {rs : List Bt.C4} {h s0 s : Int} {N i : Nat} {m : Bt.Mc} {out : List Bt.Ch} (H : SeedInv rs h N s0 (i, s, m, out)) (hs : Bt.chooseAll rs h m = [] ∨ i = N) : Bt.seedRun rs h N s0 Bt.mcNew = out := by
 obtain ⟨h1, h2, h3, h4, h5, h6, h7⟩ := H
 simp only at h1 h2 h3 h4 h5 h6 h7
 rcases hs with e | e
 ·rw [Bt.seedRun_none e] at h7
  simpa using h7.symm
 ·subst e
  rw [Nat.sub_self] at h7
  simpa [Bt.seedRun] using h7.symm
set_option maxRecDepth 10000 in
set_option maxHeartbeats 16000000 in
theorem iRunOfSeed_ok {rs : List Bt.C4} {h s n : Int} (hn : rs.length ≤ 1048576) : FnOk E.P 34 [pProg rs h, pI s, pI n] (pChs (Bt.runOfSeed rs h s n)) true := by
 refine fn_ok mixed Try.func34 rfl (by kernel_rfl) _ Try.results34 _ Try.ntmps34 (by simp) (by kernel_rfl) ?_
 simp (config := { maxSteps := 4000000 }) only [pProg, pChs, pI, plainT, bne_self_eq_false, vcs, reduceIte, reduceCtorEq, Nat.reduceEqDiff, Nat.reduceAdd, Nat.reduceMul, Nat.reduceLeDiff, Nat.reduceLT, Int.reduceEq, Int.reduceLT, Int.reduceLE, Int.reduceAdd, Int.reduceSub, Int.reduceMul, Int.reduceNeg, Int.reduceToNat, Int.reduceNe, Nat.reduceBEq, tbs]
 repeat (first | (refine ⟨(by kernel_rfl : footOk _ _ _ _ = true), ?_⟩) | (refine ⟨(by omega : (_ : Prop)), ?_⟩))
 refine aops_fn (iprog_ok (rs := rs) (h := h) hn) (by first | exact Nat.le_add_right _ _ | (simp only [introT, intro1, introL, intros, pI, pProg, pMc, pCh, pChs, pInts]; omega)) rfl ?_
 cases hpo : Bt.progOk rs h
 ·have hr : Bt.runOfSeed rs h s n = [] := by simp [Bt.runOfSeed, hpo]
  simp (config := { maxSteps := 4000000 }) only [hr, List.map_nil, pProg, pChs, pI, plainT, bne_self_eq_false, vcs, reduceIte, reduceCtorEq, Nat.reduceEqDiff, Nat.reduceAdd, Nat.reduceMul, Nat.reduceLeDiff, Nat.reduceLT, Int.reduceEq, Int.reduceLT, Int.reduceLE, Int.reduceAdd, Int.reduceSub, Int.reduceMul, Int.reduceNeg, Int.reduceToNat, Int.reduceNe, Nat.reduceBEq, tbs]
  repeat (first | (refine ⟨(by kernel_rfl : footOk _ _ _ _ = true), ?_⟩) | (refine ⟨(by omega : (_ : Prop)), ?_⟩))
  all_goals (first | rfl | trivial | skip)
 by_cases c1 : s < 0
 ·have hr : Bt.runOfSeed rs h s n = [] := by simp [Bt.runOfSeed]; omega
  have d1 : decide (s < 0) = true := by simpa using c1
  simp (config := { maxSteps := 4000000 }) only [hr, d1, List.map_nil, pProg, pChs, pI, plainT, bne_self_eq_false, vcs, reduceIte, reduceCtorEq, Nat.reduceEqDiff, Nat.reduceAdd, Nat.reduceMul, Nat.reduceLeDiff, Nat.reduceLT, Int.reduceEq, Int.reduceLT, Int.reduceLE, Int.reduceAdd, Int.reduceSub, Int.reduceMul, Int.reduceNeg, Int.reduceToNat, Int.reduceNe, Nat.reduceBEq, tbs]
  repeat (first | (refine ⟨(by kernel_rfl : footOk _ _ _ _ = true), ?_⟩) | (refine ⟨(by omega : (_ : Prop)), ?_⟩))
  all_goals (first | rfl | trivial | skip)
 have d1 : decide (s < 0) = false := by simpa using c1
 by_cases c2 : s ≥ 2147483647
 ·have hr : Bt.runOfSeed rs h s n = [] := by simp [Bt.runOfSeed]; omega
  have d2 : decide (s ≥ 2147483647) = true := by simpa using c2
  simp (config := { maxSteps := 4000000 }) only [hr, d1, d2, List.map_nil, pProg, pChs, pI, plainT, bne_self_eq_false, vcs, reduceIte, reduceCtorEq, Nat.reduceEqDiff, Nat.reduceAdd, Nat.reduceMul, Nat.reduceLeDiff, Nat.reduceLT, Int.reduceEq, Int.reduceLT, Int.reduceLE, Int.reduceAdd, Int.reduceSub, Int.reduceMul, Int.reduceNeg, Int.reduceToNat, Int.reduceNe, Nat.reduceBEq, tbs]
  repeat (first | (refine ⟨(by kernel_rfl : footOk _ _ _ _ = true), ?_⟩) | (refine ⟨(by omega : (_ : Prop)), ?_⟩))
  all_goals (first | rfl | trivial | skip)
 have d2 : decide (s ≥ 2147483647) = false := by simpa using c2
 by_cases c3 : n < 0
 ·have hr : Bt.runOfSeed rs h s n = [] := by simp [Bt.runOfSeed]; omega
  have d3 : decide (n < 0) = true := by simpa using c3
  simp (config := { maxSteps := 4000000 }) only [hr, d1, d2, d3, List.map_nil, pProg, pChs, pI, plainT, bne_self_eq_false, vcs, reduceIte, reduceCtorEq, Nat.reduceEqDiff, Nat.reduceAdd, Nat.reduceMul, Nat.reduceLeDiff, Nat.reduceLT, Int.reduceEq, Int.reduceLT, Int.reduceLE, Int.reduceAdd, Int.reduceSub, Int.reduceMul, Int.reduceNeg, Int.reduceToNat, Int.reduceNe, Nat.reduceBEq, tbs]
  repeat (first | (refine ⟨(by kernel_rfl : footOk _ _ _ _ = true), ?_⟩) | (refine ⟨(by omega : (_ : Prop)), ?_⟩))
  all_goals (first | rfl | trivial | skip)
 have d3 : decide (n < 0) = false := by simpa using c3
 by_cases c4 : n > 300
 ·have hr : Bt.runOfSeed rs h s n = [] := by simp [Bt.runOfSeed]; omega
  have d4 : decide (n > 300) = true := by simpa using c4
  simp (config := { maxSteps := 4000000 }) only [hr, d1, d2, d3, d4, List.map_nil, pProg, pChs, pI, plainT, bne_self_eq_false, vcs, reduceIte, reduceCtorEq, Nat.reduceEqDiff, Nat.reduceAdd, Nat.reduceMul, Nat.reduceLeDiff, Nat.reduceLT, Int.reduceEq, Int.reduceLT, Int.reduceLE, Int.reduceAdd, Int.reduceSub, Int.reduceMul, Int.reduceNeg, Int.reduceToNat, Int.reduceNe, Nat.reduceBEq, tbs]
  repeat (first | (refine ⟨(by kernel_rfl : footOk _ _ _ _ = true), ?_⟩) | (refine ⟨(by omega : (_ : Prop)), ?_⟩))
  all_goals (first | rfl | trivial | skip)
 have d4 : decide (n > 300) = false := by simpa using c4
 have hne := progOk_ne hpo
 obtain ⟨N, rfl⟩ : ∃ N : Nat, n = N := ⟨n.toNat, by omega⟩
 have hrun : Bt.runOfSeed rs h s (N : Int) = Bt.seedRun rs h N s Bt.mcNew := by
  unfold Bt.runOfSeed
  rw [if_pos ⟨hpo, by omega, by omega, by omega, by omega⟩, Int.toNat_natCast]
 simp (config := { maxSteps := 4000000 }) only [d1, d2, d3, d4, pProg, pChs, pI, plainT, bne_self_eq_false, vcs, reduceIte, reduceCtorEq, Nat.reduceEqDiff, Nat.reduceAdd, Nat.reduceMul, Nat.reduceLeDiff, Nat.reduceLT, Int.reduceEq, Int.reduceLT, Int.reduceLE, Int.reduceAdd, Int.reduceSub, Int.reduceMul, Int.reduceNeg, Int.reduceToNat, Int.reduceNe, Nat.reduceBEq, tbs]
 repeat (first | (refine ⟨(by kernel_rfl : footOk _ _ _ _ = true), ?_⟩) | (refine ⟨(by omega : (_ : Prop)), ?_⟩))
 refine aops_callF (new_ok.read) (by first | exact Nat.le_add_right _ _ | (simp only [introT, intro1, introL, intros, pI, pProg, pMc, pCh, pChs, pInts]; omega)) rfl ?_
 simp (config := { maxSteps := 4000000 }) only [pMc, pInts, plainT, bne_self_eq_false, vcs, reduceIte, reduceCtorEq, Nat.reduceEqDiff, Nat.reduceAdd, Nat.reduceMul, Nat.reduceLeDiff, Nat.reduceLT, Int.reduceEq, Int.reduceLT, Int.reduceLE, Int.reduceAdd, Int.reduceSub, Int.reduceMul, Int.reduceNeg, Int.reduceToNat, Int.reduceNe, Nat.reduceBEq, tbs]
 repeat (first | (refine ⟨(by kernel_rfl : footOk _ _ _ _ = true), ?_⟩) | (refine ⟨(by omega : (_ : Prop)), ?_⟩))
 refine awp_loop (X := Nat × Int × Bt.Mc × List Bt.Ch) (fun x => [(2, .pv (.int .i64 N)), (3, .ptr 0 0), (7, .sl 1), (8, .ptr 2 0), (9, .pv (.int .i64 x.2.1)), (10, .pv (.int .i64 x.1))])
  (fun x => [(0, .box [.pv (.lst 96 (rs.map pCode)), .pv (.int .i64 h)]), (1, .row true 80 (x.2.2.2.map pCh)), (2, .box (bMc x.2.2.1))])
  (SeedInv rs h N s) (fun x => N - x.1) 100 (0, s, Bt.mcNew, []) (seed_start (by omega) (by omega)) (by simp (config := { maxSteps := 4000000 }) only [bMc, pMc, pInts, vcs, reduceIte, reduceCtorEq, Nat.reduceEqDiff, Nat.reduceAdd, Nat.reduceMul, Nat.reduceLeDiff, Nat.reduceLT, Int.reduceEq, Int.reduceLT, Int.reduceLE, Int.reduceAdd, Int.reduceSub, Int.reduceMul, Int.reduceNeg, Int.reduceToNat, Int.reduceNe, Nat.reduceBEq, tbs]) (fun x H => ?_)
 obtain ⟨i, s', m, out⟩ := x
 have HH := H
 obtain ⟨h1, h2, h3, h4, h5, h6, h7⟩ := H
 simp only at h1 h2 h3 h4 h5 h6
 clear h7
 by_cases c5 : i < N
 ·have d5 : decide ((i : Int) < (N : Int)) = true := by simpa using c5
  have hCh := (choosingB_ok (rs := rs) (h := h) (m := m) hne hn (Small.of h4) h5).read
  simp (config := { maxSteps := 4000000 }) only [d5, bMc, pMc, pInts, pI, plainT, bne_self_eq_false, vcs, reduceIte, reduceCtorEq, Nat.reduceEqDiff, Nat.reduceAdd, Nat.reduceMul, Nat.reduceLeDiff, Nat.reduceLT, Int.reduceEq, Int.reduceLT, Int.reduceLE, Int.reduceAdd, Int.reduceSub, Int.reduceMul, Int.reduceNeg, Int.reduceToNat, Int.reduceNe, Nat.reduceBEq, tbs]
  repeat (first | (refine ⟨(by kernel_rfl : footOk _ _ _ _ = true), ?_⟩) | (refine ⟨(by omega : (_ : Prop)), ?_⟩))
  refine aops_callF (hCh) (by first | exact Nat.le_add_right _ _ | (simp only [introT, intro1, introL, intros, pI, pProg, pMc, pCh, pChs, pInts]; omega)) rfl ?_
  clear hCh
  by_cases c6 : Bt.chooseAll rs h m = []
  ·have hr : Bt.runOfSeed rs h s N = out := by rw [hrun]; exact seed_stop HH (.inl c6)
   simp (config := { maxSteps := 4000000 }) only [hr, c6, List.map_nil, List.length_nil, pProg, pChs, pMc, pInts, pI, plainT, bne_self_eq_false, vcs, reduceIte, reduceCtorEq, Nat.reduceEqDiff, Nat.reduceAdd, Nat.reduceMul, Nat.reduceLeDiff, Nat.reduceLT, Int.reduceEq, Int.reduceLT, Int.reduceLE, Int.reduceAdd, Int.reduceSub, Int.reduceMul, Int.reduceNeg, Int.reduceToNat, Int.reduceNe, Nat.reduceBEq, tbs]
   repeat (first | (refine ⟨(by kernel_rfl : footOk _ _ _ _ = true), ?_⟩) | (refine ⟨(by omega : (_ : Prop)), ?_⟩))
   all_goals (first | rfl | trivial | skip)
  ·have hpos : 0 < (Bt.chooseAll rs h m).length := List.length_pos_iff.2 c6
   have d6 : (((Bt.chooseAll rs h m).length : Int) == 0) = false := by simpa using c6
   have hS := (seedBehind_ok h2 h3).read
   simp (config := { maxSteps := 4000000 }) only [d6, List.length_map, pProg, pChs, pMc, pInts, pI, plainT, bne_self_eq_false, vcs, reduceIte, reduceCtorEq, Nat.reduceEqDiff, Nat.reduceAdd, Nat.reduceMul, Nat.reduceLeDiff, Nat.reduceLT, Int.reduceEq, Int.reduceLT, Int.reduceLE, Int.reduceAdd, Int.reduceSub, Int.reduceMul, Int.reduceNeg, Int.reduceToNat, Int.reduceNe, Nat.reduceBEq, tbs]
   repeat (first | (refine ⟨(by kernel_rfl : footOk _ _ _ _ = true), ?_⟩) | (refine ⟨(by omega : (_ : Prop)), ?_⟩))
   refine aops_callF (hS) (by first | exact Nat.le_add_right _ _ | (simp only [introT, intro1, introL, intros, pI, pProg, pMc, pCh, pChs, pInts]; omega)) rfl ?_
   clear hS
   have ht : (s' * 16807 % 2147483647).tmod ((Bt.chooseAll rs h m).length : Int) = (s' * 16807 % 2147483647) % ((Bt.chooseAll rs h m).length : Int) := Int.tmod_eq_emod_of_nonneg (by omega)
   obtain ⟨k, hk⟩ : ∃ k : Nat, s' * 16807 % 2147483647 % ((Bt.chooseAll rs h m).length : Int) = k := ⟨_, (Int.toNat_of_nonneg (Int.emod_nonneg _ (by omega))).symm⟩
   have hkl : k < (Bt.chooseAll rs h m).length := by
    have := Int.emod_lt_of_pos (s' * 16807 % 2147483647) (show (0 : Int) < ((Bt.chooseAll rs h m).length : Int) by omega)
    omega
   have hst := seed_step HH c5 hk hkl
   have e5 : ((Bt.chooseAll rs h m).map pCh)[k]? = some (pCh (Bt.chooseAll rs h m)[k]) := by simp [hkl]
   have s1b : 0 ≤ s' * 16807 % 2147483647 := by omega
   rw [hk] at ht
   clear hk
   generalize s' * 16807 % 2147483647 = s1 at *
   generalize (Bt.chooseAll rs h m)[k] = c at *
   generalize Bt.chooseAll rs h m = all at *
   have hA := (answeredBy_ok (rs := rs) (h := h) (m := m) (s := s1) (who := c.who) (kind := c.kind) (rep := c.reply) hne hn (Small.of h4) s1b).read
   have hD := (do_ok (rs := rs) (h := h) (m := m) (c := Bt.seedPick rs h m s1 c) hne hn (Small.of h4)).read
   generalize Bt.seedPick rs h m s1 c = c' at *
   simp (config := { maxSteps := 4000000 }) only [ht, e5, List.length_map, pProg, pChs, pMc, pCh, pInts, pI, plainT, bne_self_eq_false, vcs, reduceIte, reduceCtorEq, Nat.reduceEqDiff, Nat.reduceAdd, Nat.reduceMul, Nat.reduceLeDiff, Nat.reduceLT, Int.reduceEq, Int.reduceLT, Int.reduceLE, Int.reduceAdd, Int.reduceSub, Int.reduceMul, Int.reduceNeg, Int.reduceToNat, Int.reduceNe, Nat.reduceBEq, tbs]
   repeat (first | (refine ⟨(by kernel_rfl : footOk _ _ _ _ = true), ?_⟩) | (refine ⟨(by omega : (_ : Prop)), ?_⟩))
   refine aops_callF (hA) (by first | exact Nat.le_add_right _ _ | (simp only [introT, intro1, introL, intros, pI, pProg, pMc, pCh, pChs, pInts]; omega)) rfl ?_
   clear hA
   simp (config := { maxSteps := 4000000 }) only [List.length_map, pProg, pChs, pMc, pCh, pInts, pI, plainT, bne_self_eq_false, vcs, reduceIte, reduceCtorEq, Nat.reduceEqDiff, Nat.reduceAdd, Nat.reduceMul, Nat.reduceLeDiff, Nat.reduceLT, Int.reduceEq, Int.reduceLT, Int.reduceLE, Int.reduceAdd, Int.reduceSub, Int.reduceMul, Int.reduceNeg, Int.reduceToNat, Int.reduceNe, Nat.reduceBEq, tbs]
   repeat (first | (refine ⟨(by kernel_rfl : footOk _ _ _ _ = true), ?_⟩) | (refine ⟨(by omega : (_ : Prop)), ?_⟩))
   refine aops_callF (hD) (by first | exact Nat.le_add_right _ _ | (simp only [introT, intro1, introL, intros, pI, pProg, pMc, pCh, pChs, pInts]; omega)) rfl ?_
   simp (config := { maxSteps := 4000000 }) only [List.length_map, pProg, pChs, pMc, pCh, pInts, pI, plainT, bne_self_eq_false, vcs, reduceIte, reduceCtorEq, Nat.reduceEqDiff, Nat.reduceAdd, Nat.reduceMul, Nat.reduceLeDiff, Nat.reduceLT, Int.reduceEq, Int.reduceLT, Int.reduceLE, Int.reduceAdd, Int.reduceSub, Int.reduceMul, Int.reduceNeg, Int.reduceToNat, Int.reduceNe, Nat.reduceBEq, tbs]
   repeat (first | (refine ⟨(by kernel_rfl : footOk _ _ _ _ = true), ?_⟩) | (refine ⟨(by omega : (_ : Prop)), ?_⟩))
   refine ⟨(i + 1, s1, (Bt.doM rs h m c').getD Bt.mcNil, out ++ [c']), hst, by simp only; omega, ?_⟩
   simp [bMc, pMc, pInts, pCh, pI]
 ·have d5 : decide ((i : Int) < (N : Int)) = false := by simpa using c5
  have hr : Bt.runOfSeed rs h s N = out := by rw [hrun]; exact seed_stop HH (.inr (by omega))
  simp (config := { maxSteps := 4000000 }) only [d5, hr, bMc, pMc, pInts, pI, plainT, bne_self_eq_false, vcs, reduceIte, reduceCtorEq, Nat.reduceEqDiff, Nat.reduceAdd, Nat.reduceMul, Nat.reduceLeDiff, Nat.reduceLT, Int.reduceEq, Int.reduceLT, Int.reduceLE, Int.reduceAdd, Int.reduceSub, Int.reduceMul, Int.reduceNeg, Int.reduceToNat, Int.reduceNe, Nat.reduceBEq, tbs]
  repeat (first | (refine ⟨(by kernel_rfl : footOk _ _ _ _ = true), ?_⟩) | (refine ⟨(by omega : (_ : Prop)), ?_⟩))
  all_goals (first | rfl | trivial | skip)
end Av
end Go.Proofs.Ytminfkedkkkhdaa
