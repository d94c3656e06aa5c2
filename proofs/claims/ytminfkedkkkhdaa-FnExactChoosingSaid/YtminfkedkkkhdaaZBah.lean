/-
  Part of a proof: SThs. No condition.
-/
import Derived.Test.YtminfkedkkkhdaaZBag
set_option linter.unusedSimpArgs false
set_option linter.unusedVariables false
namespace Go.Proofs.Ytminfkedkkkhdaa
open Go.RowKit
namespace Av
def machs (rs : List Bt.C4) (h : Int) (l : List Bt.Ch) : List (List PV) := if Bt.runOk rs h l then alongTo rs h l l.length else []
set_option maxRecDepth 10000 in
set_option maxHeartbeats 4000000 in
theorem sMachines_ok {rs : List Bt.C4} {h : Int} {l : List Bt.Ch} (hn : rs.length ≤ 1048576) (hl : l.length ≤ 1048576) : FnOk E.P 25 [pProg rs h, pChs l] (.lst 31 (machs rs h l)) false := by
 cases ho : Bt.runOk rs h l
 ·refine fn_ok mixed Try.func25 rfl (by kernel_rfl) _ Try.results25 _ Try.ntmps25 (by simp) (by kernel_rfl) ?_
  simp (config := { maxSteps := 4000000 }) only [pProg, pChs, pI, plainT, bne_self_eq_false, vcs, reduceIte, reduceCtorEq, Nat.reduceEqDiff, Nat.reduceAdd, Nat.reduceMul, Nat.reduceLeDiff, Nat.reduceLT, Int.reduceEq, Int.reduceLT, Int.reduceLE, Int.reduceAdd, Int.reduceSub, Int.reduceMul, Int.reduceNeg, Int.reduceToNat, Int.reduceNe, Nat.reduceBEq, tbs]
  repeat (first | (refine ⟨(by kernel_rfl : footOk _ _ _ _ = true), ?_⟩) | (refine ⟨(by omega : (_ : Prop)), ?_⟩))
  refine aops_fn (sok_ok (rs := rs) (h := h) (l := l) hn hl) (by first | exact Nat.le_add_right _ _ | (simp only [introT, intro1, introL, intros, pI, pProg, pMc, pCh, pChs, pInts]; omega)) rfl ?_
  simp (config := { maxSteps := 4000000 }) only [ho, machs, pProg, pChs, pI, plainT, bne_self_eq_false, vcs, reduceIte, reduceCtorEq, Nat.reduceEqDiff, Nat.reduceAdd, Nat.reduceMul, Nat.reduceLeDiff, Nat.reduceLT, Int.reduceEq, Int.reduceLT, Int.reduceLE, Int.reduceAdd, Int.reduceSub, Int.reduceMul, Int.reduceNeg, Int.reduceToNat, Int.reduceNe, Nat.reduceBEq, tbs]
  repeat (first | (refine ⟨(by kernel_rfl : footOk _ _ _ _ = true), ?_⟩) | (refine ⟨(by omega : (_ : Prop)), ?_⟩))
  all_goals (first | rfl | trivial | skip)
 ·obtain ⟨hpo, h3, _⟩ := Bt.runOk_facts ho
  have hne := progOk_ne hpo
  refine fn_ok mixed Try.func25 rfl (by kernel_rfl) _ Try.results25 _ Try.ntmps25 (by simp) (by kernel_rfl) ?_
  simp (config := { maxSteps := 4000000 }) only [pProg, pChs, pI, plainT, bne_self_eq_false, vcs, reduceIte, reduceCtorEq, Nat.reduceEqDiff, Nat.reduceAdd, Nat.reduceMul, Nat.reduceLeDiff, Nat.reduceLT, Int.reduceEq, Int.reduceLT, Int.reduceLE, Int.reduceAdd, Int.reduceSub, Int.reduceMul, Int.reduceNeg, Int.reduceToNat, Int.reduceNe, Nat.reduceBEq, tbs]
  repeat (first | (refine ⟨(by kernel_rfl : footOk _ _ _ _ = true), ?_⟩) | (refine ⟨(by omega : (_ : Prop)), ?_⟩))
  refine aops_fn (sok_ok (rs := rs) (h := h) (l := l) hn hl) (by first | exact Nat.le_add_right _ _ | (simp only [introT, intro1, introL, intros, pI, pProg, pMc, pCh, pChs, pInts]; omega)) rfl ?_
  simp (config := { maxSteps := 4000000 }) only [ho, pProg, pChs, pI, plainT, bne_self_eq_false, vcs, reduceIte, reduceCtorEq, Nat.reduceEqDiff, Nat.reduceAdd, Nat.reduceMul, Nat.reduceLeDiff, Nat.reduceLT, Int.reduceEq, Int.reduceLT, Int.reduceLE, Int.reduceAdd, Int.reduceSub, Int.reduceMul, Int.reduceNeg, Int.reduceToNat, Int.reduceNe, Nat.reduceBEq, tbs]
  repeat (first | (refine ⟨(by kernel_rfl : footOk _ _ _ _ = true), ?_⟩) | (refine ⟨(by omega : (_ : Prop)), ?_⟩))
  refine aops_callF (snew_ok.read) (by first | exact Nat.le_add_right _ _ | (simp only [introT, intro1, introL, intros, pI, pProg, pMc, pCh, pChs, pInts]; omega)) rfl ?_
  simp (config := { maxSteps := 4000000 }) only [pMc, pInts, plainT, bne_self_eq_false, vcs, reduceIte, reduceCtorEq, Nat.reduceEqDiff, Nat.reduceAdd, Nat.reduceMul, Nat.reduceLeDiff, Nat.reduceLT, Int.reduceEq, Int.reduceLT, Int.reduceLE, Int.reduceAdd, Int.reduceSub, Int.reduceMul, Int.reduceNeg, Int.reduceToNat, Int.reduceNe, Nat.reduceBEq, tbs]
  repeat (first | (refine ⟨(by kernel_rfl : footOk _ _ _ _ = true), ?_⟩) | (refine ⟨(by omega : (_ : Prop)), ?_⟩))
  refine awp_loop (X := Nat) (fun k => [(1, .pv (.lst 80 (l.map pCh))), (2, .ptr 0 0), (5, .sl 2), (6, .ptr 1 0), (7, .pv (.int .i64 k))])
   (fun k => [(0, .box [.pv (.lst 96 (rs.map pCode)), .pv (.int .i64 h)]), (1, .box (bMc (Bt.after rs h Bt.mcNew (l.take k)))), (2, .row false 31 (alongTo rs h l k))])
   (fun k => k ≤ l.length) (fun k => l.length - k) 100 0 (Nat.zero_le _) (by simp (config := { maxSteps := 4000000 }) only [bMc, pMc, pInts, vcs, reduceIte, reduceCtorEq, Nat.reduceEqDiff, Nat.reduceAdd, Nat.reduceMul, Nat.reduceLeDiff, Nat.reduceLT, Int.reduceEq, Int.reduceLT, Int.reduceLE, Int.reduceAdd, Int.reduceSub, Int.reduceMul, Int.reduceNeg, Int.reduceToNat, Int.reduceNe, Nat.reduceBEq, tbs]; simp [Bt.after, alongTo, pMc, pInts]) (fun k hk => ?_)
  by_cases c1 : k < l.length
  ·have d1 : decide ((k : Int) < (l.length : Int)) = true := by simpa using c1
   have e5 : (l.map pCh)[k]? = some (pCh l[k]) := by simp [c1]
   have hdo := sdo_ok (rs := rs) (h := h) (m := Bt.after rs h Bt.mcNew (l.take k)) (c := l[k]) hne hn (Small.of (Bt.after_sz rs h _))
   have e6 := Bt.after_take (rs := rs) (h := h) (m := Bt.mcNew) c1
   have e7 : (alongTo rs h l k).length = k + 1 := by simp [alongTo]
   rw [← e6] at hdo
   simp (config := { maxSteps := 4000000 }) only [List.length_map, d1, e5, bMc, pMc, pCh, pInts, pI, plainT, bne_self_eq_false, vcs, reduceIte, reduceCtorEq, Nat.reduceEqDiff, Nat.reduceAdd, Nat.reduceMul, Nat.reduceLeDiff, Nat.reduceLT, Int.reduceEq, Int.reduceLT, Int.reduceLE, Int.reduceAdd, Int.reduceSub, Int.reduceMul, Int.reduceNeg, Int.reduceToNat, Int.reduceNe, Nat.reduceBEq, tbs]
   repeat (first | (refine ⟨(by kernel_rfl : footOk _ _ _ _ = true), ?_⟩) | (refine ⟨(by omega : (_ : Prop)), ?_⟩))
   refine aops_callF (hdo) (by first | exact Nat.le_add_right _ _ | (simp only [introT, intro1, introL, intros, pI, pProg, pMc, pCh, pChs, pInts]; omega)) rfl ?_
   simp (config := { maxSteps := 4000000 }) only [List.length_map, d1, e7, pProg, pMc, pCh, pInts, pI, plainT, bne_self_eq_false, vcs, reduceIte, reduceCtorEq, Nat.reduceEqDiff, Nat.reduceAdd, Nat.reduceMul, Nat.reduceLeDiff, Nat.reduceLT, Int.reduceEq, Int.reduceLT, Int.reduceLE, Int.reduceAdd, Int.reduceSub, Int.reduceMul, Int.reduceNeg, Int.reduceToNat, Int.reduceNe, Nat.reduceBEq, tbs]
   repeat (first | (refine ⟨(by kernel_rfl : footOk _ _ _ _ = true), ?_⟩) | (refine ⟨(by omega : (_ : Prop)), ?_⟩))
   refine ⟨k + 1, by omega, by omega, ?_⟩
   simp [alongTo, List.range_succ, bMc, pMc, pInts, pI]
  ·have d1 : decide ((k : Int) < (l.length : Int)) = false := by simpa using c1
   obtain rfl : k = l.length := by omega
   simp (config := { maxSteps := 4000000 }) only [List.length_map, d1, machs, ho, pMc, pInts, pI, plainT, bne_self_eq_false, vcs, reduceIte, reduceCtorEq, Nat.reduceEqDiff, Nat.reduceAdd, Nat.reduceMul, Nat.reduceLeDiff, Nat.reduceLT, Int.reduceEq, Int.reduceLT, Int.reduceLE, Int.reduceAdd, Int.reduceSub, Int.reduceMul, Int.reduceNeg, Int.reduceToNat, Int.reduceNe, Nat.reduceBEq, tbs]
   repeat (first | (refine ⟨(by kernel_rfl : footOk _ _ _ _ = true), ?_⟩) | (refine ⟨(by omega : (_ : Prop)), ?_⟩))
   all_goals (first | rfl | trivial | skip)
theorem machAt_run {rs : List Bt.C4} {h n : Int} {l : List Bt.Ch} (e : (Bt.machAt rs h l n).isSome = true) : rs ≠ [] := by
 unfold Bt.machAt at e
 split at e
 ·rename_i hh
  exact progOk_ne (Bt.runOk_facts hh.1).1
 ·cases e
set_option maxRecDepth 10000 in
set_option maxHeartbeats 8000000 in
theorem sChoosing_ok {rs : List Bt.C4} {h : Int} {l : List Bt.Ch} (hn : rs.length ≤ 1048576) (hl : l.length ≤ 1048576) : FnOk E.P 30 [pProg rs h, pChs l] (pChs (Bt.choosing rs h l)) true := by
 have hAt := sMachineAt_ok (rs := rs) (h := h) (n := l.length) (l := l) hn hl
 have hsm := Small.of (Bt.machAt_sz rs h l l.length)
 have hfew := Bt.machAt_few rs h l l.length
 have hne0 := machAt_run (rs := rs) (h := h) (n := l.length) (l := l)
 have hz : (Bt.machAt rs h l l.length).isSome = false → ((Bt.machAt rs h l l.length).getD Bt.mcNil).ths = [] := fun e => by
  cases hh : Bt.machAt rs h l l.length with
  | none => rfl
  | some m => rw [hh] at e; cases e
 unfold Bt.choosing
 generalize (Bt.machAt rs h l l.length).getD Bt.mcNil = m at *
 generalize (Bt.machAt rs h l l.length).isSome = ok at *
 refine fn_ok mixed Try.func30 rfl (by kernel_rfl) _ Try.results30 _ Try.ntmps30 (by simp) (by kernel_rfl) ?_
 simp (config := { maxSteps := 4000000 }) only [List.length_map, pProg, pChs, pI, plainT, bne_self_eq_false, vcs, reduceIte, reduceCtorEq, Nat.reduceEqDiff, Nat.reduceAdd, Nat.reduceMul, Nat.reduceLeDiff, Nat.reduceLT, Int.reduceEq, Int.reduceLT, Int.reduceLE, Int.reduceAdd, Int.reduceSub, Int.reduceMul, Int.reduceNeg, Int.reduceToNat, Int.reduceNe, Nat.reduceBEq, tbs]
 repeat (first | (refine ⟨(by kernel_rfl : footOk _ _ _ _ = true), ?_⟩) | (refine ⟨(by omega : (_ : Prop)), ?_⟩))
 refine aops_callF (hAt) (by first | exact Nat.le_add_right _ _ | (simp only [introT, intro1, introL, intros, pI, pProg, pMc, pCh, pChs, pInts]; omega)) rfl ?_
 simp (config := { maxSteps := 4000000 }) only [List.length_map, pProg, pChs, pMc, pInts, pI, plainT, bne_self_eq_false, vcs, reduceIte, reduceCtorEq, Nat.reduceEqDiff, Nat.reduceAdd, Nat.reduceMul, Nat.reduceLeDiff, Nat.reduceLT, Int.reduceEq, Int.reduceLT, Int.reduceLE, Int.reduceAdd, Int.reduceSub, Int.reduceMul, Int.reduceNeg, Int.reduceToNat, Int.reduceNe, Nat.reduceBEq, tbs]
 repeat (first | (refine ⟨(by kernel_rfl : footOk _ _ _ _ = true), ?_⟩) | (refine ⟨(by omega : (_ : Prop)), ?_⟩))
 refine awp_loop (X := Nat) (fun j => [(2, .ptr 0 0), (5, .sl 2), (6, .ptr 1 0), (7, .pv (.bool ok)), (8, .pv (.int .i64 j))])
  (fun j => [(0, .box [.pv (.lst 96 (rs.map pCode)), .pv (.int .i64 h)]), (1, .box (bMc m)), (2, .row true 80 (((List.range j).flatMap (Bt.chooseOf rs h m)).map pCh))])
  (fun j => j ≤ m.ths.length) (fun j => m.ths.length - j) 100 0 (Nat.zero_le _) (by simp (config := { maxSteps := 4000000 }) only [bMc, pMc, pInts, vcs, reduceIte, reduceCtorEq, Nat.reduceEqDiff, Nat.reduceAdd, Nat.reduceMul, Nat.reduceLeDiff, Nat.reduceLT, Int.reduceEq, Int.reduceLT, Int.reduceLE, Int.reduceAdd, Int.reduceSub, Int.reduceMul, Int.reduceNeg, Int.reduceToNat, Int.reduceNe, Nat.reduceBEq, tbs]; simp [pI]) (fun j hj => ?_)
 by_cases c1 : j < m.ths.length
 ·have d1 : decide ((j : Int) < (m.ths.length : Int)) = true := by simpa using c1
  obtain rfl : ok = true := by
   cases ok with
   | true => rfl
   | false => rw [hz rfl] at c1; simp at c1
  have hne := hne0 rfl
  simp (config := { maxSteps := 4000000 }) only [List.length_map, d1, bMc, pMc, pInts, pI, plainT, bne_self_eq_false, vcs, reduceIte, reduceCtorEq, Nat.reduceEqDiff, Nat.reduceAdd, Nat.reduceMul, Nat.reduceLeDiff, Nat.reduceLT, Int.reduceEq, Int.reduceLT, Int.reduceLE, Int.reduceAdd, Int.reduceSub, Int.reduceMul, Int.reduceNeg, Int.reduceToNat, Int.reduceNe, Nat.reduceBEq, tbs]
  repeat (first | (refine ⟨(by kernel_rfl : footOk _ _ _ _ = true), ?_⟩) | (refine ⟨(by omega : (_ : Prop)), ?_⟩))
  refine awp_loop (X := Nat) (fun q => [(2, .ptr 0 0), (5, .sl 2), (6, .ptr 1 0), (7, .pv (.bool true)), (8, .pv (.int .i64 j)), (9, .pv (.int .i64 q))])
   (fun q => [(0, .box [.pv (.lst 96 (rs.map pCode)), .pv (.int .i64 h)]), (1, .box (bMc m)), (2, .row true 80 (((List.range j).flatMap (Bt.chooseOf rs h m) ++ Bt.choosePart rs h m j q).map pCh))])
   (fun q => q ≤ 2) (fun q => 2 - q) 100 0 (Nat.zero_le _) (by simp (config := { maxSteps := 4000000 }) only [bMc, pMc, pInts, vcs, reduceIte, reduceCtorEq, Nat.reduceEqDiff, Nat.reduceAdd, Nat.reduceMul, Nat.reduceLeDiff, Nat.reduceLT, Int.reduceEq, Int.reduceLT, Int.reduceLE, Int.reduceAdd, Int.reduceSub, Int.reduceMul, Int.reduceNeg, Int.reduceToNat, Int.reduceNe, Nat.reduceBEq, tbs]; simp [Bt.choosePart, pI]) (fun q hq => ?_)
  have hA := Bt.choose_len rs h m j
  have hB := Bt.choosePart_len rs h m j q
  by_cases c2 : q < 2
  ·have d2 : decide ((q : Int) ≤ 1) = true := by simp; omega
   have hcan := scan_ok (rs := rs) (h := h) (m := m) (c := ⟨j, q, 0⟩) hne hn hsm
   simp (config := { maxSteps := 4000000 }) only [List.length_map, d1, d2, bMc, pMc, pInts, pI, plainT, bne_self_eq_false, vcs, reduceIte, reduceCtorEq, Nat.reduceEqDiff, Nat.reduceAdd, Nat.reduceMul, Nat.reduceLeDiff, Nat.reduceLT, Int.reduceEq, Int.reduceLT, Int.reduceLE, Int.reduceAdd, Int.reduceSub, Int.reduceMul, Int.reduceNeg, Int.reduceToNat, Int.reduceNe, Nat.reduceBEq, tbs]
   repeat (first | (refine ⟨(by kernel_rfl : footOk _ _ _ _ = true), ?_⟩) | (refine ⟨(by omega : (_ : Prop)), ?_⟩))
   refine aops_fn (hcan) (by first | exact Nat.le_add_right _ _ | (simp only [introT, intro1, introL, intros, pI, pProg, pMc, pCh, pChs, pInts]; omega)) rfl ?_
   cases hc : Bt.canDo rs h m ⟨j, q, 0⟩
   ·simp (config := { maxSteps := 4000000 }) only [List.length_map, hc, d2, pProg, pMc, pCh, pInts, pI, plainT, bne_self_eq_false, vcs, reduceIte, reduceCtorEq, Nat.reduceEqDiff, Nat.reduceAdd, Nat.reduceMul, Nat.reduceLeDiff, Nat.reduceLT, Int.reduceEq, Int.reduceLT, Int.reduceLE, Int.reduceAdd, Int.reduceSub, Int.reduceMul, Int.reduceNeg, Int.reduceToNat, Int.reduceNe, Nat.reduceBEq, tbs]
    repeat (first | (refine ⟨(by kernel_rfl : footOk _ _ _ _ = true), ?_⟩) | (refine ⟨(by omega : (_ : Prop)), ?_⟩))
    refine ⟨q + 1, by omega, by omega, ?_⟩
    simp [Bt.choosePart_succ, hc, bMc, pMc, pInts, pI]
   ·simp (config := { maxSteps := 4000000 }) only [List.length_map, List.length_append, hc, d2, pProg, pMc, pCh, pInts, pI, plainT, bne_self_eq_false, vcs, reduceIte, reduceCtorEq, Nat.reduceEqDiff, Nat.reduceAdd, Nat.reduceMul, Nat.reduceLeDiff, Nat.reduceLT, Int.reduceEq, Int.reduceLT, Int.reduceLE, Int.reduceAdd, Int.reduceSub, Int.reduceMul, Int.reduceNeg, Int.reduceToNat, Int.reduceNe, Nat.reduceBEq, tbs]
    repeat (first | (refine ⟨(by kernel_rfl : footOk _ _ _ _ = true), ?_⟩) | (refine ⟨(by omega : (_ : Prop)), ?_⟩))
    refine ⟨q + 1, by omega, by omega, ?_⟩
    simp [Bt.choosePart_succ, hc, bMc, pMc, pInts, pCh, pI]
  ·have d2 : decide ((q : Int) ≤ 1) = false := by simp; omega
   obtain rfl : q = 2 := by omega
   simp (config := { maxSteps := 4000000 }) only [List.length_map, d1, d2, bMc, pMc, pInts, pI, plainT, bne_self_eq_false, vcs, reduceIte, reduceCtorEq, Nat.reduceEqDiff, Nat.reduceAdd, Nat.reduceMul, Nat.reduceLeDiff, Nat.reduceLT, Int.reduceEq, Int.reduceLT, Int.reduceLE, Int.reduceAdd, Int.reduceSub, Int.reduceMul, Int.reduceNeg, Int.reduceToNat, Int.reduceNe, Nat.reduceBEq, tbs]
   repeat (first | (refine ⟨(by kernel_rfl : footOk _ _ _ _ = true), ?_⟩) | (refine ⟨(by omega : (_ : Prop)), ?_⟩))
   refine ⟨j + 1, by omega, by omega, ?_⟩
   simp [Bt.choose_succ, Bt.choosePart_two, bMc, pMc, pInts, pI]
 ·have d1 : decide ((j : Int) < (m.ths.length : Int)) = false := by simpa using c1
  obtain rfl : j = m.ths.length := by omega
  cases ok
  ·simp (config := { maxSteps := 4000000 }) only [List.length_map, d1, Bt.chooseAll, pChs, bMc, pMc, pInts, pI, plainT, bne_self_eq_false, vcs, reduceIte, reduceCtorEq, Nat.reduceEqDiff, Nat.reduceAdd, Nat.reduceMul, Nat.reduceLeDiff, Nat.reduceLT, Int.reduceEq, Int.reduceLT, Int.reduceLE, Int.reduceAdd, Int.reduceSub, Int.reduceMul, Int.reduceNeg, Int.reduceToNat, Int.reduceNe, Nat.reduceBEq, tbs]
   repeat (first | (refine ⟨(by kernel_rfl : footOk _ _ _ _ = true), ?_⟩) | (refine ⟨(by omega : (_ : Prop)), ?_⟩))
   all_goals (first | rfl | trivial | skip)
  ·simp (config := { maxSteps := 4000000 }) only [List.length_map, d1, Bt.chooseAll, pChs, bMc, pMc, pInts, pI, plainT, bne_self_eq_false, vcs, reduceIte, reduceCtorEq, Nat.reduceEqDiff, Nat.reduceAdd, Nat.reduceMul, Nat.reduceLeDiff, Nat.reduceLT, Int.reduceEq, Int.reduceLT, Int.reduceLE, Int.reduceAdd, Int.reduceSub, Int.reduceMul, Int.reduceNeg, Int.reduceToNat, Int.reduceNe, Nat.reduceBEq, tbs]
   repeat (first | (refine ⟨(by kernel_rfl : footOk _ _ _ _ = true), ?_⟩) | (refine ⟨(by omega : (_ : Prop)), ?_⟩))
   all_goals (first | rfl | trivial | skip)
end Av
end Go.Proofs.Ytminfkedkkkhdaa
