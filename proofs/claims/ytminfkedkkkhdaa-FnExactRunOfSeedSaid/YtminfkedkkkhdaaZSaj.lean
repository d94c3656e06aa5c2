/-
  Part of a proof: SSeed. No condition.
-/
import Derived.Test.YtminfkedkkkhdaaZSai
set_option linter.unusedSimpArgs false
set_option linter.unusedVariables false
namespace Go.Proofs.Ytminfkedkkkhdaa
open Go.RowKit
namespace Av
set_option maxRecDepth 10000 in
set_option maxHeartbeats 32000000 in
theorem sRunOfSeed_ok {rs : List Bt.C4} {h s n : Int} (hn : rs.length ≤ 1048576) : FnOk E.P 33 [pProg rs h, pI s, pI n] (pChs (Bt.runOfSeed rs h s n)) true := by
 refine fn_ok mixed Try.func33 rfl (by kernel_rfl) _ Try.results33 _ Try.ntmps33 (by simp) (by kernel_rfl) ?_
 simp (config := { maxSteps := 4000000 }) only [pProg, pChs, pI, plainT, bne_self_eq_false, vcs, reduceIte, reduceCtorEq, Nat.reduceEqDiff, Nat.reduceAdd, Nat.reduceMul, Nat.reduceLeDiff, Nat.reduceLT, Int.reduceEq, Int.reduceLT, Int.reduceLE, Int.reduceAdd, Int.reduceSub, Int.reduceMul, Int.reduceNeg, Int.reduceToNat, Int.reduceNe, Nat.reduceBEq, tbs]
 repeat (first | (refine ⟨(by kernel_rfl : footOk _ _ _ _ = true), ?_⟩) | (refine ⟨(by omega : (_ : Prop)), ?_⟩))
 refine aops_fn (sprog_ok (rs := rs) (h := h) hn) (by first | exact Nat.le_add_right _ _ | (simp only [introT, intro1, introL, intros, pI, pProg, pMc, pCh, pChs, pInts]; omega)) rfl ?_
 cases hpo : Bt.progOk rs h
 ·have hr : Bt.runOfSeed rs h s n = [] := by simp [Bt.runOfSeed, hpo]
  simp (config := { maxSteps := 4000000 }) only [hr, List.map_nil, pProg, pChs, pI, plainT, bne_self_eq_false, vcs, reduceIte, reduceCtorEq, Nat.reduceEqDiff, Nat.reduceAdd, Nat.reduceMul, Nat.reduceLeDiff, Nat.reduceLT, Int.reduceEq, Int.reduceLT, Int.reduceLE, Int.reduceAdd, Int.reduceSub, Int.reduceMul, Int.reduceNeg, Int.reduceToNat, Int.reduceNe, Nat.reduceBEq, tbs]
  repeat (first | (refine ⟨(by kernel_rfl : footOk _ _ _ _ = true), ?_⟩) | (refine ⟨(by omega : (_ : Prop)), ?_⟩))
  all_goals (first | rfl | trivial | skip)
 by_cases c1 : s < 0
 ·have hr : Bt.runOfSeed rs h s n = [] := by simp [Bt.runOfSeed]; omega
  have d1 : decide (s < 0) = true := by simpa using c1
  simp (config := { maxSteps := 4000000 }) only [hr, d1, List.map_nil, pProg, pChs, pI, plainT, bne_self_eq_false, vcs, reduceIte, reduceCtorEq, Nat.reduceEqDiff, Nat.reduceAdd, Nat.reduceMul, Nat.reduceLeDiff, Nat.reduceLT, Int.reduceEq, Int.reduceLT, Int.reduceLE, Int.reduceAdd, Int.reduceSub, Int.reduceMul, Int.reduceNeg, Int.reduceToNat, Int.reduceNe, Nat.reduceBEq, tbs]
  repeat (first | (refine ⟨(by kernel_rfl : footOk _ _ _ _ = true), ?_⟩) | (refine ⟨(by omega : (_ : Prop)), ?_⟩))
  all_goals (first | rfl | trivial | skip)
 have d1 : decide (s < 0) = false := by simpa using c1
 by_cases c2 : s > 2147483646
 ·have hr : Bt.runOfSeed rs h s n = [] := by simp [Bt.runOfSeed]; omega
  have d2 : decide (s > 2147483646) = true := by simpa using c2
  simp (config := { maxSteps := 4000000 }) only [hr, d1, d2, List.map_nil, pProg, pChs, pI, plainT, bne_self_eq_false, vcs, reduceIte, reduceCtorEq, Nat.reduceEqDiff, Nat.reduceAdd, Nat.reduceMul, Nat.reduceLeDiff, Nat.reduceLT, Int.reduceEq, Int.reduceLT, Int.reduceLE, Int.reduceAdd, Int.reduceSub, Int.reduceMul, Int.reduceNeg, Int.reduceToNat, Int.reduceNe, Nat.reduceBEq, tbs]
  repeat (first | (refine ⟨(by kernel_rfl : footOk _ _ _ _ = true), ?_⟩) | (refine ⟨(by omega : (_ : Prop)), ?_⟩))
  all_goals (first | rfl | trivial | skip)
 have d2 : decide (s > 2147483646) = false := by simpa using c2
 by_cases c3 : n < 0
 ·have hr : Bt.runOfSeed rs h s n = [] := by simp [Bt.runOfSeed]; omega
  have d3 : decide (n < 0) = true := by simpa using c3
  simp (config := { maxSteps := 4000000 }) only [hr, d1, d2, d3, List.map_nil, pProg, pChs, pI, plainT, bne_self_eq_false, vcs, reduceIte, reduceCtorEq, Nat.reduceEqDiff, Nat.reduceAdd, Nat.reduceMul, Nat.reduceLeDiff, Nat.reduceLT, Int.reduceEq, Int.reduceLT, Int.reduceLE, Int.reduceAdd, Int.reduceSub, Int.reduceMul, Int.reduceNeg, Int.reduceToNat, Int.reduceNe, Nat.reduceBEq, tbs]
  repeat (first | (refine ⟨(by kernel_rfl : footOk _ _ _ _ = true), ?_⟩) | (refine ⟨(by omega : (_ : Prop)), ?_⟩))
  all_goals (first | rfl | trivial | skip)
 have d3 : decide (n < 0) = false := by simpa using c3
 by_cases c4 : n > 300
 ·have hr : Bt.runOfSeed rs h s n = [] := by simp [Bt.runOfSeed]; omega
  have d4 : decide (n > 300) = true := by simpa using c4
  simp (config := { maxSteps := 4000000 }) only [hr, d1, d2, d3, d4, List.map_nil, pProg, pChs, pI, plainT, bne_self_eq_false, vcs, reduceIte, reduceCtorEq, Nat.reduceEqDiff, Nat.reduceAdd, Nat.reduceMul, Nat.reduceLeDiff, Nat.reduceLT, Int.reduceEq, Int.reduceLT, Int.reduceLE, Int.reduceAdd, Int.reduceSub, Int.reduceMul, Int.reduceNeg, Int.reduceToNat, Int.reduceNe, Nat.reduceBEq, tbs]
  repeat (first | (refine ⟨(by kernel_rfl : footOk _ _ _ _ = true), ?_⟩) | (refine ⟨(by omega : (_ : Prop)), ?_⟩))
  all_goals (first | rfl | trivial | skip)
 have d4 : decide (n > 300) = false := by simpa using c4
 have hne := progOk_ne hpo
 obtain ⟨N, rfl⟩ : ∃ N : Nat, n = N := ⟨n.toNat, by omega⟩
 have hrun : Bt.runOfSeed rs h s (N : Int) = Bt.seedRun rs h N s Bt.mcNew := by
  unfold Bt.runOfSeed
  rw [if_pos ⟨hpo, by omega, by omega, by omega, by omega⟩, Int.toNat_natCast]
 simp (config := { maxSteps := 4000000 }) only [d1, d2, d3, d4, pProg, pChs, pI, plainT, bne_self_eq_false, vcs, reduceIte, reduceCtorEq, Nat.reduceEqDiff, Nat.reduceAdd, Nat.reduceMul, Nat.reduceLeDiff, Nat.reduceLT, Int.reduceEq, Int.reduceLT, Int.reduceLE, Int.reduceAdd, Int.reduceSub, Int.reduceMul, Int.reduceNeg, Int.reduceToNat, Int.reduceNe, Nat.reduceBEq, tbs]
 repeat (first | (refine ⟨(by kernel_rfl : footOk _ _ _ _ = true), ?_⟩) | (refine ⟨(by omega : (_ : Prop)), ?_⟩))
 refine aops_callF (snew_ok.read) (by first | exact Nat.le_add_right _ _ | (simp only [introT, intro1, introL, intros, pI, pProg, pMc, pCh, pChs, pInts]; omega)) rfl ?_
 simp (config := { maxSteps := 4000000 }) only [pMc, pInts, plainT, bne_self_eq_false, vcs, reduceIte, reduceCtorEq, Nat.reduceEqDiff, Nat.reduceAdd, Nat.reduceMul, Nat.reduceLeDiff, Nat.reduceLT, Int.reduceEq, Int.reduceLT, Int.reduceLE, Int.reduceAdd, Int.reduceSub, Int.reduceMul, Int.reduceNeg, Int.reduceToNat, Int.reduceNe, Nat.reduceBEq, tbs]
 repeat (first | (refine ⟨(by kernel_rfl : footOk _ _ _ _ = true), ?_⟩) | (refine ⟨(by omega : (_ : Prop)), ?_⟩))
 refine awp_loop (X := Nat × Int × Bt.Mc × List Bt.Ch) (fun x => [(1, .pv (.int .i64 x.2.1)), (2, .pv (.int .i64 N)), (3, .ptr 0 0), (7, .sl 1), (8, .ptr 2 0), (9, .pv (.int .i64 x.1))])
  (fun x => [(0, .box [.pv (.lst 96 (rs.map pCode)), .pv (.int .i64 h)]), (1, .row true 80 (x.2.2.2.map pCh)), (2, .box (bMc x.2.2.1))])
  (SeedInv rs h N s) (fun x => N - x.1) 100 (0, s, Bt.mcNew, []) (seed_start (by omega) (by omega)) (by simp (config := { maxSteps := 4000000 }) only [bMc, pMc, pInts, vcs, reduceIte, reduceCtorEq, Nat.reduceEqDiff, Nat.reduceAdd, Nat.reduceMul, Nat.reduceLeDiff, Nat.reduceLT, Int.reduceEq, Int.reduceLT, Int.reduceLE, Int.reduceAdd, Int.reduceSub, Int.reduceMul, Int.reduceNeg, Int.reduceToNat, Int.reduceNe, Nat.reduceBEq, tbs]; try simp [pI]) (fun x H => ?_)
 obtain ⟨i, s', m, out⟩ := x
 have HH := H
 obtain ⟨h1, h2, h3, h4, h5, h6, h7⟩ := H
 simp only at h1 h2 h3 h4 h5 h6
 clear h7
 by_cases c5 : i < N
 ·have d5 : decide ((i : Int) < (N : Int)) = true := by simpa using c5
  have hsm := Small.of h4
  simp (config := { maxSteps := 4000000 }) only [d5, bMc, pMc, pInts, pI, plainT, bne_self_eq_false, vcs, reduceIte, reduceCtorEq, Nat.reduceEqDiff, Nat.reduceAdd, Nat.reduceMul, Nat.reduceLeDiff, Nat.reduceLT, Int.reduceEq, Int.reduceLT, Int.reduceLE, Int.reduceAdd, Int.reduceSub, Int.reduceMul, Int.reduceNeg, Int.reduceToNat, Int.reduceNe, Nat.reduceBEq, tbs]
  repeat (first | (refine ⟨(by kernel_rfl : footOk _ _ _ _ = true), ?_⟩) | (refine ⟨(by omega : (_ : Prop)), ?_⟩))
  refine awp_loop (X := Nat) (fun j => [(1, .pv (.int .i64 s')), (2, .pv (.int .i64 N)), (3, .ptr 0 0), (7, .sl 1), (8, .ptr 2 0), (9, .pv (.int .i64 i)), (10, .sl 3), (11, .pv (.int .i64 j))])
   (fun j => [(0, .box [.pv (.lst 96 (rs.map pCode)), .pv (.int .i64 h)]), (1, .row true 80 (out.map pCh)), (2, .box (bMc m)), (3, .row true 80 (((List.range j).flatMap (Bt.chooseOf rs h m)).map pCh))])
   (fun j => j ≤ m.ths.length) (fun j => m.ths.length - j) 100 0 (Nat.zero_le _) (by simp (config := { maxSteps := 4000000 }) only [bMc, pMc, pInts, vcs, reduceIte, reduceCtorEq, Nat.reduceEqDiff, Nat.reduceAdd, Nat.reduceMul, Nat.reduceLeDiff, Nat.reduceLT, Int.reduceEq, Int.reduceLT, Int.reduceLE, Int.reduceAdd, Int.reduceSub, Int.reduceMul, Int.reduceNeg, Int.reduceToNat, Int.reduceNe, Nat.reduceBEq, tbs]; try simp [pI]) (fun j hj => ?_)
  by_cases c6 : j < m.ths.length
  ·have d6 : decide ((j : Int) < (m.ths.length : Int)) = true := by simpa using c6
   simp (config := { maxSteps := 4000000 }) only [List.length_map, d6, bMc, pMc, pInts, pI, plainT, bne_self_eq_false, vcs, reduceIte, reduceCtorEq, Nat.reduceEqDiff, Nat.reduceAdd, Nat.reduceMul, Nat.reduceLeDiff, Nat.reduceLT, Int.reduceEq, Int.reduceLT, Int.reduceLE, Int.reduceAdd, Int.reduceSub, Int.reduceMul, Int.reduceNeg, Int.reduceToNat, Int.reduceNe, Nat.reduceBEq, tbs]
   repeat (first | (refine ⟨(by kernel_rfl : footOk _ _ _ _ = true), ?_⟩) | (refine ⟨(by omega : (_ : Prop)), ?_⟩))
   refine awp_loop (X := Nat) (fun q => [(1, .pv (.int .i64 s')), (2, .pv (.int .i64 N)), (3, .ptr 0 0), (7, .sl 1), (8, .ptr 2 0), (9, .pv (.int .i64 i)), (10, .sl 3), (11, .pv (.int .i64 j)), (12, .pv (.int .i64 q))])
    (fun q => [(0, .box [.pv (.lst 96 (rs.map pCode)), .pv (.int .i64 h)]), (1, .row true 80 (out.map pCh)), (2, .box (bMc m)), (3, .row true 80 (((List.range j).flatMap (Bt.chooseOf rs h m) ++ Bt.choosePart rs h m j q).map pCh))])
    (fun q => q ≤ 2) (fun q => 2 - q) 100 0 (Nat.zero_le _) (by simp (config := { maxSteps := 4000000 }) only [bMc, pMc, pInts, vcs, reduceIte, reduceCtorEq, Nat.reduceEqDiff, Nat.reduceAdd, Nat.reduceMul, Nat.reduceLeDiff, Nat.reduceLT, Int.reduceEq, Int.reduceLT, Int.reduceLE, Int.reduceAdd, Int.reduceSub, Int.reduceMul, Int.reduceNeg, Int.reduceToNat, Int.reduceNe, Nat.reduceBEq, tbs]; simp [Bt.choosePart, pI]) (fun q hq => ?_)
   have hA := Bt.choose_len rs h m j
   have hB := Bt.choosePart_len rs h m j q
   by_cases c7 : q < 2
   ·have d7 : decide ((q : Int) ≤ 1) = true := by simp; omega
    have hcan := scan_ok (rs := rs) (h := h) (m := m) (c := ⟨j, q, 0⟩) hne hn hsm
    simp (config := { maxSteps := 4000000 }) only [List.length_map, d6, d7, bMc, pMc, pInts, pI, plainT, bne_self_eq_false, vcs, reduceIte, reduceCtorEq, Nat.reduceEqDiff, Nat.reduceAdd, Nat.reduceMul, Nat.reduceLeDiff, Nat.reduceLT, Int.reduceEq, Int.reduceLT, Int.reduceLE, Int.reduceAdd, Int.reduceSub, Int.reduceMul, Int.reduceNeg, Int.reduceToNat, Int.reduceNe, Nat.reduceBEq, tbs]
    repeat (first | (refine ⟨(by kernel_rfl : footOk _ _ _ _ = true), ?_⟩) | (refine ⟨(by omega : (_ : Prop)), ?_⟩))
    refine aops_fn (hcan) (by first | exact Nat.le_add_right _ _ | (simp only [introT, intro1, introL, intros, pI, pProg, pMc, pCh, pChs, pInts]; omega)) rfl ?_
    cases hc : Bt.canDo rs h m ⟨j, q, 0⟩
    ·simp (config := { maxSteps := 4000000 }) only [List.length_map, hc, d7, pProg, pMc, pCh, pInts, pI, plainT, bne_self_eq_false, vcs, reduceIte, reduceCtorEq, Nat.reduceEqDiff, Nat.reduceAdd, Nat.reduceMul, Nat.reduceLeDiff, Nat.reduceLT, Int.reduceEq, Int.reduceLT, Int.reduceLE, Int.reduceAdd, Int.reduceSub, Int.reduceMul, Int.reduceNeg, Int.reduceToNat, Int.reduceNe, Nat.reduceBEq, tbs]
     repeat (first | (refine ⟨(by kernel_rfl : footOk _ _ _ _ = true), ?_⟩) | (refine ⟨(by omega : (_ : Prop)), ?_⟩))
     refine ⟨q + 1, by omega, by omega, ?_⟩
     simp [Bt.choosePart_succ, hc, bMc, pMc, pInts, pI]
    ·simp (config := { maxSteps := 4000000 }) only [List.length_map, List.length_append, hc, d7, pProg, pMc, pCh, pInts, pI, plainT, bne_self_eq_false, vcs, reduceIte, reduceCtorEq, Nat.reduceEqDiff, Nat.reduceAdd, Nat.reduceMul, Nat.reduceLeDiff, Nat.reduceLT, Int.reduceEq, Int.reduceLT, Int.reduceLE, Int.reduceAdd, Int.reduceSub, Int.reduceMul, Int.reduceNeg, Int.reduceToNat, Int.reduceNe, Nat.reduceBEq, tbs]
     repeat (first | (refine ⟨(by kernel_rfl : footOk _ _ _ _ = true), ?_⟩) | (refine ⟨(by omega : (_ : Prop)), ?_⟩))
     refine ⟨q + 1, by omega, by omega, ?_⟩
     simp [Bt.choosePart_succ, hc, bMc, pMc, pInts, pCh, pI]
   ·have d7 : decide ((q : Int) ≤ 1) = false := by simp; omega
    obtain rfl : q = 2 := by omega
    simp (config := { maxSteps := 4000000 }) only [List.length_map, d6, d7, bMc, pMc, pInts, pI, plainT, bne_self_eq_false, vcs, reduceIte, reduceCtorEq, Nat.reduceEqDiff, Nat.reduceAdd, Nat.reduceMul, Nat.reduceLeDiff, Nat.reduceLT, Int.reduceEq, Int.reduceLT, Int.reduceLE, Int.reduceAdd, Int.reduceSub, Int.reduceMul, Int.reduceNeg, Int.reduceToNat, Int.reduceNe, Nat.reduceBEq, tbs]
    repeat (first | (refine ⟨(by kernel_rfl : footOk _ _ _ _ = true), ?_⟩) | (refine ⟨(by omega : (_ : Prop)), ?_⟩))
    refine ⟨j + 1, by omega, by omega, ?_⟩
    simp [Bt.choose_succ, Bt.choosePart_two, bMc, pMc, pInts, pI]
  ·have d6 : decide ((j : Int) < (m.ths.length : Int)) = false := by simpa using c6
   obtain rfl : j = m.ths.length := by omega
   have hall : (List.range m.ths.length).flatMap (Bt.chooseOf rs h m) = Bt.chooseAll rs h m := rfl
   rw [hall]
   clear hall
   by_cases c8 : Bt.chooseAll rs h m = []
   ·have hr : Bt.runOfSeed rs h s N = out := by rw [hrun]; exact seed_stop HH (.inl c8)
    simp (config := { maxSteps := 4000000 }) only [List.length_map, d6, hr, c8, List.map_nil, List.length_nil, pProg, pChs, bMc, pMc, pInts, pI, plainT, bne_self_eq_false, vcs, reduceIte, reduceCtorEq, Nat.reduceEqDiff, Nat.reduceAdd, Nat.reduceMul, Nat.reduceLeDiff, Nat.reduceLT, Int.reduceEq, Int.reduceLT, Int.reduceLE, Int.reduceAdd, Int.reduceSub, Int.reduceMul, Int.reduceNeg, Int.reduceToNat, Int.reduceNe, Nat.reduceBEq, tbs]
    repeat (first | (refine ⟨(by kernel_rfl : footOk _ _ _ _ = true), ?_⟩) | (refine ⟨(by omega : (_ : Prop)), ?_⟩))
    all_goals (first | rfl | trivial | skip)
   have hpos : 0 < (Bt.chooseAll rs h m).length := List.length_pos_iff.2 c8
   have d8 : (((Bt.chooseAll rs h m).length : Int) == 0) = false := by simpa using c8
   have ht0 : (s' * 16807).tmod 2147483647 = s' * 16807 % 2147483647 := Int.tmod_eq_emod_of_nonneg (by omega)
   have ht : (s' * 16807 % 2147483647).tmod ((Bt.chooseAll rs h m).length : Int) = (s' * 16807 % 2147483647) % ((Bt.chooseAll rs h m).length : Int) := Int.tmod_eq_emod_of_nonneg (by omega)
   obtain ⟨k, hk⟩ : ∃ k : Nat, s' * 16807 % 2147483647 % ((Bt.chooseAll rs h m).length : Int) = k := ⟨_, (Int.toNat_of_nonneg (Int.emod_nonneg _ (by omega))).symm⟩
   have hkl : k < (Bt.chooseAll rs h m).length := by
    have := Int.emod_lt_of_pos (s' * 16807 % 2147483647) (show (0 : Int) < ((Bt.chooseAll rs h m).length : Int) by omega)
    omega
   have hst := seed_step HH c5 hk hkl
   have e5 : ((Bt.chooseAll rs h m).map pCh)[k]? = some (pCh (Bt.chooseAll rs h m)[k]) := by simp [hkl]
   have s1b : 0 ≤ s' * 16807 % 2147483647 := by omega
   have s1t : (s' * 16807 % 2147483647).tmod 10000 = s' * 16807 % 2147483647 % 10000 := Int.tmod_eq_emod_of_nonneg s1b
   rw [hk] at ht
   clear hk
   generalize s' * 16807 % 2147483647 = s1 at *
   generalize (Bt.chooseAll rs h m)[k] = c at *
   generalize Bt.chooseAll rs h m = all at *
   obtain ⟨who, kind, rep⟩ := c
   have hI := (sinstr_ok (rs := rs) (h := h) (m := m) (who := who) hne hn hsm).read
   have hD := sdo_ok (rs := rs) (h := h) (m := m) (c := Bt.seedPick rs h m s1 ⟨who, kind, rep⟩) hne hn hsm
   simp (config := { maxSteps := 4000000 }) only [List.length_map, d6, d8, ht0, ht, e5, pProg, pChs, bMc, pMc, pCh, pInts, pI, plainT, bne_self_eq_false, vcs, reduceIte, reduceCtorEq, Nat.reduceEqDiff, Nat.reduceAdd, Nat.reduceMul, Nat.reduceLeDiff, Nat.reduceLT, Int.reduceEq, Int.reduceLT, Int.reduceLE, Int.reduceAdd, Int.reduceSub, Int.reduceMul, Int.reduceNeg, Int.reduceToNat, Int.reduceNe, Nat.reduceBEq, tbs]
   repeat (first | (refine ⟨(by kernel_rfl : footOk _ _ _ _ = true), ?_⟩) | (refine ⟨(by omega : (_ : Prop)), ?_⟩))
   refine aops_callF (hI) (by first | exact Nat.le_add_right _ _ | (simp only [introT, intro1, introL, intros, pI, pProg, pMc, pCh, pChs, pInts]; omega)) rfl ?_
   unfold Bt.seedPick at hD hst
   simp only at hD hst
   clear hI
   generalize Bt.instrOf rs h m who = X at *
   cases X with
   | none =>
    simp only at hD hst
    simp (config := { maxSteps := 4000000 }) only [Option.getD_none, Option.isSome_none, List.length_map, pProg, pChs, pMc, pCh, pCode, pInts, pI, plainT, bne_self_eq_false, vcs, reduceIte, reduceCtorEq, Nat.reduceEqDiff, Nat.reduceAdd, Nat.reduceMul, Nat.reduceLeDiff, Nat.reduceLT, Int.reduceEq, Int.reduceLT, Int.reduceLE, Int.reduceAdd, Int.reduceSub, Int.reduceMul, Int.reduceNeg, Int.reduceToNat, Int.reduceNe, Nat.reduceBEq, tbs]
    repeat (first | (refine ⟨(by kernel_rfl : footOk _ _ _ _ = true), ?_⟩) | (refine ⟨(by omega : (_ : Prop)), ?_⟩))
    refine aops_callF (hD) (by first | exact Nat.le_add_right _ _ | (simp only [introT, intro1, introL, intros, pI, pProg, pMc, pCh, pChs, pInts]; omega)) rfl ?_
    simp (config := { maxSteps := 4000000 }) only [List.length_map, pProg, pChs, pMc, pCh, pInts, pI, plainT, bne_self_eq_false, vcs, reduceIte, reduceCtorEq, Nat.reduceEqDiff, Nat.reduceAdd, Nat.reduceMul, Nat.reduceLeDiff, Nat.reduceLT, Int.reduceEq, Int.reduceLT, Int.reduceLE, Int.reduceAdd, Int.reduceSub, Int.reduceMul, Int.reduceNeg, Int.reduceToNat, Int.reduceNe, Nat.reduceBEq, tbs]
    repeat (first | (refine ⟨(by kernel_rfl : footOk _ _ _ _ = true), ?_⟩) | (refine ⟨(by omega : (_ : Prop)), ?_⟩))
    refine ⟨_, hst, by simp only; omega, ?_⟩
    simp [bMc, pMc, pInts, pCh, pI]
   | some x =>
    obtain ⟨op, xa, xb, xc⟩ := x
    by_cases c9 : op = 13
    ·subst c9
     by_cases c10 : kind = 0
     ·subst c10
      simp only [and_self, if_true] at hD hst
      simp (config := { maxSteps := 4000000 }) only [s1t, Option.getD_some, Option.isSome_some, List.length_map, pProg, pChs, pMc, pCh, pCode, pInts, pI, plainT, bne_self_eq_false, vcs, reduceIte, reduceCtorEq, Nat.reduceEqDiff, Nat.reduceAdd, Nat.reduceMul, Nat.reduceLeDiff, Nat.reduceLT, Int.reduceEq, Int.reduceLT, Int.reduceLE, Int.reduceAdd, Int.reduceSub, Int.reduceMul, Int.reduceNeg, Int.reduceToNat, Int.reduceNe, Nat.reduceBEq, tbs]
      repeat (first | (refine ⟨(by kernel_rfl : footOk _ _ _ _ = true), ?_⟩) | (refine ⟨(by omega : (_ : Prop)), ?_⟩))
      refine aops_callF (hD) (by first | exact Nat.le_add_right _ _ | (simp only [introT, intro1, introL, intros, pI, pProg, pMc, pCh, pChs, pInts]; omega)) rfl ?_
      simp (config := { maxSteps := 4000000 }) only [List.length_map, pProg, pChs, pMc, pCh, pInts, pI, plainT, bne_self_eq_false, vcs, reduceIte, reduceCtorEq, Nat.reduceEqDiff, Nat.reduceAdd, Nat.reduceMul, Nat.reduceLeDiff, Nat.reduceLT, Int.reduceEq, Int.reduceLT, Int.reduceLE, Int.reduceAdd, Int.reduceSub, Int.reduceMul, Int.reduceNeg, Int.reduceToNat, Int.reduceNe, Nat.reduceBEq, tbs]
      repeat (first | (refine ⟨(by kernel_rfl : footOk _ _ _ _ = true), ?_⟩) | (refine ⟨(by omega : (_ : Prop)), ?_⟩))
      refine ⟨_, hst, by simp only; omega, ?_⟩
      simp [bMc, pMc, pInts, pCh, pI]
     ·have d10 : (kind == 0) = false := by simpa using c10
      simp only [c10, and_false, if_false] at hD hst
      simp (config := { maxSteps := 4000000 }) only [d10, Option.getD_some, Option.isSome_some, List.length_map, pProg, pChs, pMc, pCh, pCode, pInts, pI, plainT, bne_self_eq_false, vcs, reduceIte, reduceCtorEq, Nat.reduceEqDiff, Nat.reduceAdd, Nat.reduceMul, Nat.reduceLeDiff, Nat.reduceLT, Int.reduceEq, Int.reduceLT, Int.reduceLE, Int.reduceAdd, Int.reduceSub, Int.reduceMul, Int.reduceNeg, Int.reduceToNat, Int.reduceNe, Nat.reduceBEq, tbs]
      repeat (first | (refine ⟨(by kernel_rfl : footOk _ _ _ _ = true), ?_⟩) | (refine ⟨(by omega : (_ : Prop)), ?_⟩))
      refine aops_callF (hD) (by first | exact Nat.le_add_right _ _ | (simp only [introT, intro1, introL, intros, pI, pProg, pMc, pCh, pChs, pInts]; omega)) rfl ?_
      simp (config := { maxSteps := 4000000 }) only [List.length_map, pProg, pChs, pMc, pCh, pInts, pI, plainT, bne_self_eq_false, vcs, reduceIte, reduceCtorEq, Nat.reduceEqDiff, Nat.reduceAdd, Nat.reduceMul, Nat.reduceLeDiff, Nat.reduceLT, Int.reduceEq, Int.reduceLT, Int.reduceLE, Int.reduceAdd, Int.reduceSub, Int.reduceMul, Int.reduceNeg, Int.reduceToNat, Int.reduceNe, Nat.reduceBEq, tbs]
      repeat (first | (refine ⟨(by kernel_rfl : footOk _ _ _ _ = true), ?_⟩) | (refine ⟨(by omega : (_ : Prop)), ?_⟩))
      refine ⟨_, hst, by simp only; omega, ?_⟩
      simp [bMc, pMc, pInts, pCh, pI]
    ·have d9 : (op == 13) = false := by simpa using c9
     simp only [c9, false_and, if_false] at hD hst
     simp (config := { maxSteps := 4000000 }) only [d9, Option.getD_some, Option.isSome_some, List.length_map, pProg, pChs, pMc, pCh, pCode, pInts, pI, plainT, bne_self_eq_false, vcs, reduceIte, reduceCtorEq, Nat.reduceEqDiff, Nat.reduceAdd, Nat.reduceMul, Nat.reduceLeDiff, Nat.reduceLT, Int.reduceEq, Int.reduceLT, Int.reduceLE, Int.reduceAdd, Int.reduceSub, Int.reduceMul, Int.reduceNeg, Int.reduceToNat, Int.reduceNe, Nat.reduceBEq, tbs]
     repeat (first | (refine ⟨(by kernel_rfl : footOk _ _ _ _ = true), ?_⟩) | (refine ⟨(by omega : (_ : Prop)), ?_⟩))
     refine aops_callF (hD) (by first | exact Nat.le_add_right _ _ | (simp only [introT, intro1, introL, intros, pI, pProg, pMc, pCh, pChs, pInts]; omega)) rfl ?_
     simp (config := { maxSteps := 4000000 }) only [List.length_map, pProg, pChs, pMc, pCh, pInts, pI, plainT, bne_self_eq_false, vcs, reduceIte, reduceCtorEq, Nat.reduceEqDiff, Nat.reduceAdd, Nat.reduceMul, Nat.reduceLeDiff, Nat.reduceLT, Int.reduceEq, Int.reduceLT, Int.reduceLE, Int.reduceAdd, Int.reduceSub, Int.reduceMul, Int.reduceNeg, Int.reduceToNat, Int.reduceNe, Nat.reduceBEq, tbs]
     repeat (first | (refine ⟨(by kernel_rfl : footOk _ _ _ _ = true), ?_⟩) | (refine ⟨(by omega : (_ : Prop)), ?_⟩))
     refine ⟨_, hst, by simp only; omega, ?_⟩
     simp [bMc, pMc, pInts, pCh, pI]
 ·have d5 : decide ((i : Int) < (N : Int)) = false := by simpa using c5
  have hr : Bt.runOfSeed rs h s N = out := by rw [hrun]; exact seed_stop HH (.inr (by omega))
  simp (config := { maxSteps := 4000000 }) only [d5, hr, bMc, pMc, pInts, pI, plainT, bne_self_eq_false, vcs, reduceIte, reduceCtorEq, Nat.reduceEqDiff, Nat.reduceAdd, Nat.reduceMul, Nat.reduceLeDiff, Nat.reduceLT, Int.reduceEq, Int.reduceLT, Int.reduceLE, Int.reduceAdd, Int.reduceSub, Int.reduceMul, Int.reduceNeg, Int.reduceToNat, Int.reduceNe, Nat.reduceBEq, tbs]
  repeat (first | (refine ⟨(by kernel_rfl : footOk _ _ _ _ = true), ?_⟩) | (refine ⟨(by omega : (_ : Prop)), ?_⟩))
  all_goals (first | rfl | trivial | skip)
end Av
end Go.Proofs.Ytminfkedkkkhdaa
