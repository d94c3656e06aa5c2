/-
  Part of a proof: IRecB. No condition.
-/
import Derived.Test.YtminfkedkkkhdaaZQah
set_option linter.unusedSimpArgs false
set_option linter.unusedVariables false
namespace Go.Proofs.Ytminfkedkkkhdaa
open Go.RowKit
namespace Av
set_option maxRecDepth 10000 in
set_option maxHeartbeats 8000000 in
theorem answersOf_ok {rs : List Bt.C4} {h : Int} {l : List Bt.Ch} (hne : rs ≠ []) (hn : rs.length ≤ 1048576) (hl : l.length ≤ 1048576) : FnOk E.P 78 [pProg rs h, .lst 31 (alongTo rs h l l.length), pChs l] (pInts (Bt.answersTo rs h l l.length)) true := by
 have hml : (alongTo rs h l l.length).length = l.length + 1 := by simp [alongTo]
 have hma : ∀ k, k ≤ l.length → (alongTo rs h l l.length)[k]? = some (pMc (Bt.after rs h Bt.mcNew (l.take k))) := fun k hk => by
  simp [alongTo, List.getElem?_range (show k < l.length + 1 by omega)]
 generalize alongTo rs h l l.length = ms at *
 refine fn_ok mixed Try.func78 rfl (by kernel_rfl) _ Try.results78 _ Try.ntmps78 (by simp) (by kernel_rfl) ?_
 simp (config := { maxSteps := 4000000 }) only [pProg, pChs, pI, plainT, bne_self_eq_false, vcs, reduceIte, reduceCtorEq, Nat.reduceEqDiff, Nat.reduceAdd, Nat.reduceMul, Nat.reduceLeDiff, Nat.reduceLT, Int.reduceEq, Int.reduceLT, Int.reduceLE, Int.reduceAdd, Int.reduceSub, Int.reduceMul, Int.reduceNeg, Int.reduceToNat, Int.reduceNe, Nat.reduceBEq, tbs]
 repeat (first | (refine ⟨(by kernel_rfl : footOk _ _ _ _ = true), ?_⟩) | (refine ⟨(by omega : (_ : Prop)), ?_⟩))
 refine awp_loop (X := Nat) (fun k => [(1, .pv (.lst 31 ms)), (3, .ptr 0 0), (7, .sl 1), (11, .pv (.lst 80 (l.map pCh))), (12, .pv (.int .i64 l.length)), (13, .pv (.int .i64 k))])
  (fun k => [(0, .box [.pv (.lst 96 (rs.map pCode)), .pv (.int .i64 h)]), (1, .row true 3 ((Bt.answersTo rs h l k).map fun x => [pI x]))])
  (fun k => k ≤ l.length) (fun k => l.length - k) 100 0 (Nat.zero_le _) (by simp (config := { maxSteps := 4000000 }) only [List.length_map, vcs, reduceIte, reduceCtorEq, Nat.reduceEqDiff, Nat.reduceAdd, Nat.reduceMul, Nat.reduceLeDiff, Nat.reduceLT, Int.reduceEq, Int.reduceLT, Int.reduceLE, Int.reduceAdd, Int.reduceSub, Int.reduceMul, Int.reduceNeg, Int.reduceToNat, Int.reduceNe, Nat.reduceBEq, tbs]; try simp [Bt.answersTo]) (fun k hk => ?_)
 by_cases c1 : k < l.length
 ·have d1 : decide ((k : Int) < (l.length : Int)) = true := by simpa using c1
  have e5 : (l.map pCh)[k]? = some (pCh l[k]) := by simp [c1]
  have e6 := hma k hk
  have o1 := Bt.answers_len rs h l k
  have hs := Bt.answersTo_snoc (rs := rs) (h := h) c1
  have hA := asksFor_ok (rs := rs) (h := h) (who := l[k].who) (kind := l[k].kind) (rep := l[k].reply) (m := Bt.after rs h Bt.mcNew (l.take k)) hne hn (Small.of (Bt.after_sz rs h _))
  simp (config := { maxSteps := 4000000 }) only [List.length_map, hml, d1, e5, e6, pCh, pMc, pInts, pI, plainT, bne_self_eq_false, vcs, reduceIte, reduceCtorEq, Nat.reduceEqDiff, Nat.reduceAdd, Nat.reduceMul, Nat.reduceLeDiff, Nat.reduceLT, Int.reduceEq, Int.reduceLT, Int.reduceLE, Int.reduceAdd, Int.reduceSub, Int.reduceMul, Int.reduceNeg, Int.reduceToNat, Int.reduceNe, Nat.reduceBEq, tbs]
  repeat (first | (refine ⟨(by kernel_rfl : footOk _ _ _ _ = true), ?_⟩) | (refine ⟨(by omega : (_ : Prop)), ?_⟩))
  refine aops_fn (hA) (by first | exact Nat.le_add_right _ _ | (simp only [introT, intro1, introL, intros, pI, pProg, pMc, pCh, pChs, pInts]; omega)) rfl ?_
  cases ht : Bt.asks rs h (Bt.after rs h Bt.mcNew (l.take k)) l[k]
  ·simp (config := { maxSteps := 4000000 }) only [List.length_map, ht, hml, d1, pProg, pCh, pMc, pInts, pI, plainT, bne_self_eq_false, vcs, reduceIte, reduceCtorEq, Nat.reduceEqDiff, Nat.reduceAdd, Nat.reduceMul, Nat.reduceLeDiff, Nat.reduceLT, Int.reduceEq, Int.reduceLT, Int.reduceLE, Int.reduceAdd, Int.reduceSub, Int.reduceMul, Int.reduceNeg, Int.reduceToNat, Int.reduceNe, Nat.reduceBEq, tbs]
   repeat (first | (refine ⟨(by kernel_rfl : footOk _ _ _ _ = true), ?_⟩) | (refine ⟨(by omega : (_ : Prop)), ?_⟩))
   refine ⟨k + 1, by omega, by omega, ?_⟩
   simp [hs, ht, pI]
  ·simp (config := { maxSteps := 4000000 }) only [List.length_map, ht, hml, d1, pProg, pCh, pMc, pInts, pI, plainT, bne_self_eq_false, vcs, reduceIte, reduceCtorEq, Nat.reduceEqDiff, Nat.reduceAdd, Nat.reduceMul, Nat.reduceLeDiff, Nat.reduceLT, Int.reduceEq, Int.reduceLT, Int.reduceLE, Int.reduceAdd, Int.reduceSub, Int.reduceMul, Int.reduceNeg, Int.reduceToNat, Int.reduceNe, Nat.reduceBEq, tbs]
   repeat (first | (refine ⟨(by kernel_rfl : footOk _ _ _ _ = true), ?_⟩) | (refine ⟨(by omega : (_ : Prop)), ?_⟩))
   refine ⟨k + 1, by omega, by omega, ?_⟩
   simp [hs, ht, pI]
 ·have d1 : decide ((k : Int) < (l.length : Int)) = false := by simpa using c1
  obtain rfl : k = l.length := by omega
  simp (config := { maxSteps := 4000000 }) only [List.length_map, d1, pInts, pI, plainT, bne_self_eq_false, vcs, reduceIte, reduceCtorEq, Nat.reduceEqDiff, Nat.reduceAdd, Nat.reduceMul, Nat.reduceLeDiff, Nat.reduceLT, Int.reduceEq, Int.reduceLT, Int.reduceLE, Int.reduceAdd, Int.reduceSub, Int.reduceMul, Int.reduceNeg, Int.reduceToNat, Int.reduceNe, Nat.reduceBEq, tbs]
  repeat (first | (refine ⟨(by kernel_rfl : footOk _ _ _ _ = true), ?_⟩) | (refine ⟨(by omega : (_ : Prop)), ?_⟩))
  all_goals (first | rfl | trivial | skip)
set_option maxRecDepth 10000 in
set_option maxHeartbeats 8000000 in
theorem iRecordOf_ok {rs : List Bt.C4} {h : Int} {l : List Bt.Ch} (hn : rs.length ≤ 1048576) (hl : l.length ≤ 1048576) : FnOk E.P 36 [pProg rs h, pChs l] (.tup [pRec (Bt.recOf rs h l), .bool (Bt.runOk rs h l)]) true := by
 have hM := (iMachines_ok (rs := rs) (h := h) (l := l) hn hl).read
 unfold machs at hM
 unfold Bt.recOf
 cases ho : Bt.runOk rs h l
 ·simp only [ho, Bool.false_eq_true, if_false] at hM
  refine fn_ok mixed Try.func36 rfl (by kernel_rfl) _ Try.results36 _ Try.ntmps36 (by simp) (by kernel_rfl) ?_
  simp (config := { maxSteps := 4000000 }) only [pProg, pChs, pI, plainT, bne_self_eq_false, vcs, reduceIte, reduceCtorEq, Nat.reduceEqDiff, Nat.reduceAdd, Nat.reduceMul, Nat.reduceLeDiff, Nat.reduceLT, Int.reduceEq, Int.reduceLT, Int.reduceLE, Int.reduceAdd, Int.reduceSub, Int.reduceMul, Int.reduceNeg, Int.reduceToNat, Int.reduceNe, Nat.reduceBEq, tbs]
  repeat (first | (refine ⟨(by kernel_rfl : footOk _ _ _ _ = true), ?_⟩) | (refine ⟨(by omega : (_ : Prop)), ?_⟩))
  refine aops_callF (hM) (by first | exact Nat.le_add_right _ _ | (simp only [introT, intro1, introL, intros, pI, pProg, pMc, pCh, pChs, pInts]; omega)) rfl ?_
  simp (config := { maxSteps := 4000000 }) only [Bool.false_eq_true, if_false, List.map_nil, List.length_nil, pRec, pProg, pChs, pInts, pI, plainT, bne_self_eq_false, vcs, reduceIte, reduceCtorEq, Nat.reduceEqDiff, Nat.reduceAdd, Nat.reduceMul, Nat.reduceLeDiff, Nat.reduceLT, Int.reduceEq, Int.reduceLT, Int.reduceLE, Int.reduceAdd, Int.reduceSub, Int.reduceMul, Int.reduceNeg, Int.reduceToNat, Int.reduceNe, Nat.reduceBEq, tbs]
  repeat (first | (refine ⟨(by kernel_rfl : footOk _ _ _ _ = true), ?_⟩) | (refine ⟨(by omega : (_ : Prop)), ?_⟩))
  all_goals (first | rfl | trivial | skip)
 ·simp only [ho, if_true] at hM
  have hne := progOk_ne (Bt.runOk_facts ho).1
  have hml : (alongTo rs h l l.length).length = l.length + 1 := by simp [alongTo]
  have d1 : (((l.length + 1 : Nat) : Int) == 0) = false := by simp; omega
  have hS := slicesOf_ok (l := l) hl
  have hA := answersOf_ok (rs := rs) (h := h) (l := l) hne hn hl
  refine fn_ok mixed Try.func36 rfl (by kernel_rfl) _ Try.results36 _ Try.ntmps36 (by simp) (by kernel_rfl) ?_
  simp (config := { maxSteps := 4000000 }) only [pProg, pChs, pI, plainT, bne_self_eq_false, vcs, reduceIte, reduceCtorEq, Nat.reduceEqDiff, Nat.reduceAdd, Nat.reduceMul, Nat.reduceLeDiff, Nat.reduceLT, Int.reduceEq, Int.reduceLT, Int.reduceLE, Int.reduceAdd, Int.reduceSub, Int.reduceMul, Int.reduceNeg, Int.reduceToNat, Int.reduceNe, Nat.reduceBEq, tbs]
  repeat (first | (refine ⟨(by kernel_rfl : footOk _ _ _ _ = true), ?_⟩) | (refine ⟨(by omega : (_ : Prop)), ?_⟩))
  refine aops_callF (hM) (by first | exact Nat.le_add_right _ _ | (simp only [introT, intro1, introL, intros, pI, pProg, pMc, pCh, pChs, pInts]; omega)) rfl ?_
  simp (config := { maxSteps := 4000000 }) only [hml, d1, if_true, pRec, pProg, pChs, pInts, pI, plainT, bne_self_eq_false, vcs, reduceIte, reduceCtorEq, Nat.reduceEqDiff, Nat.reduceAdd, Nat.reduceMul, Nat.reduceLeDiff, Nat.reduceLT, Int.reduceEq, Int.reduceLT, Int.reduceLE, Int.reduceAdd, Int.reduceSub, Int.reduceMul, Int.reduceNeg, Int.reduceToNat, Int.reduceNe, Nat.reduceBEq, tbs]
  repeat (first | (refine ⟨(by kernel_rfl : footOk _ _ _ _ = true), ?_⟩) | (refine ⟨(by omega : (_ : Prop)), ?_⟩))
  refine aops_fn (hS) (by first | exact Nat.le_add_right _ _ | (simp only [introT, intro1, introL, intros, pI, pProg, pMc, pCh, pChs, pInts]; omega)) rfl ?_
  simp (config := { maxSteps := 4000000 }) only [hml, d1, if_true, pRec, pProg, pChs, pInts, pI, plainT, bne_self_eq_false, vcs, reduceIte, reduceCtorEq, Nat.reduceEqDiff, Nat.reduceAdd, Nat.reduceMul, Nat.reduceLeDiff, Nat.reduceLT, Int.reduceEq, Int.reduceLT, Int.reduceLE, Int.reduceAdd, Int.reduceSub, Int.reduceMul, Int.reduceNeg, Int.reduceToNat, Int.reduceNe, Nat.reduceBEq, tbs]
  repeat (first | (refine ⟨(by kernel_rfl : footOk _ _ _ _ = true), ?_⟩) | (refine ⟨(by omega : (_ : Prop)), ?_⟩))
  refine aops_fn (hA) (by first | exact Nat.le_add_right _ _ | (simp only [introT, intro1, introL, intros, pI, pProg, pMc, pCh, pChs, pInts]; omega)) rfl ?_
  simp (config := { maxSteps := 4000000 }) only [hml, d1, if_true, pRec, pProg, pChs, pInts, pI, plainT, bne_self_eq_false, vcs, reduceIte, reduceCtorEq, Nat.reduceEqDiff, Nat.reduceAdd, Nat.reduceMul, Nat.reduceLeDiff, Nat.reduceLT, Int.reduceEq, Int.reduceLT, Int.reduceLE, Int.reduceAdd, Int.reduceSub, Int.reduceMul, Int.reduceNeg, Int.reduceToNat, Int.reduceNe, Nat.reduceBEq, tbs]
  repeat (first | (refine ⟨(by kernel_rfl : footOk _ _ _ _ = true), ?_⟩) | (refine ⟨(by omega : (_ : Prop)), ?_⟩))
  all_goals (first | rfl | trivial | skip)
end Av
end Go.Proofs.Ytminfkedkkkhdaa
