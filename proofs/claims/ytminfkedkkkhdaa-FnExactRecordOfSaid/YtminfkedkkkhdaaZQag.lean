/-
  Part of a proof: SThr, SThs, IThr, Shp. No condition.
-/
import Derived.Test.YtminfkedkkkhdaaZAag
import Derived.Test.YtminfkedkkkhdaaZQaf
import Derived.Test.YtminfkedkkkhdaaZQac
section
set_option linter.unusedSimpArgs false
set_option linter.unusedVariables false
namespace Go.Proofs.Ytminfkedkkkhdaa
open Go.RowKit
namespace Av
theorem sprog_ok {rs : List Bt.C4} {h : Int} (hn : rs.length ≤ 1048576) : FnOk E.P 69 [pProg rs h] (.bool (Bt.progOk rs h)) true := by
 cases rs with
 | nil => exact sprog0_ok
 | cons a b => exact sprogN_ok (by simp) hn
theorem progOk_ne {rs : List Bt.C4} {h : Int} (e : Bt.progOk rs h = true) : rs ≠ [] := by
 intro e0
 rw [e0] at e
 simp [Bt.progOk] at e
def bMc (m : Bt.Mc) : List AV := (pMc m).map .pv
set_option maxRecDepth 10000 in
set_option maxHeartbeats 4000000 in
theorem slong_ok {rs : List Bt.C4} {h : Int} {l : List Bt.Ch} (hn : rs.length ≤ 1048576) (hl : l.length ≤ 1048576) : FnOk E.P 94 [pProg rs h, pChs l] (pI (Bt.runLong rs h l)) true := by
 refine fn_ok mixed Try.func94 rfl (by kernel_rfl) _ Try.results94 _ Try.ntmps94 (by simp) (by kernel_rfl) ?_
 simp (config := { maxSteps := 4000000 }) only [pProg, pChs, pI, plainT, bne_self_eq_false, vcs, reduceIte, reduceCtorEq, Nat.reduceEqDiff, Nat.reduceAdd, Nat.reduceMul, Nat.reduceLeDiff, Nat.reduceLT, Int.reduceEq, Int.reduceLT, Int.reduceLE, Int.reduceAdd, Int.reduceSub, Int.reduceMul, Int.reduceNeg, Int.reduceToNat, Int.reduceNe, Nat.reduceBEq, tbs]
 repeat (first | (refine ⟨(by kernel_rfl : footOk _ _ _ _ = true), ?_⟩) | (refine ⟨(by omega : (_ : Prop)), ?_⟩))
 refine aops_fn (sprog_ok (rs := rs) (h := h) hn) (by first | exact Nat.le_add_right _ _ | (simp only [introT, intro1, introL, intros, pI, pProg, pMc, pCh, pChs, pInts]; omega)) rfl ?_
 cases hpo : Bt.progOk rs h
 ·simp (config := { maxSteps := 4000000 }) only [pProg, pChs, pI, plainT, bne_self_eq_false, vcs, reduceIte, reduceCtorEq, Nat.reduceEqDiff, Nat.reduceAdd, Nat.reduceMul, Nat.reduceLeDiff, Nat.reduceLT, Int.reduceEq, Int.reduceLT, Int.reduceLE, Int.reduceAdd, Int.reduceSub, Int.reduceMul, Int.reduceNeg, Int.reduceToNat, Int.reduceNe, Nat.reduceBEq, tbs]
  repeat (first | (refine ⟨(by kernel_rfl : footOk _ _ _ _ = true), ?_⟩) | (refine ⟨(by omega : (_ : Prop)), ?_⟩))
  all_goals (simp [Bt.runLong, hpo]; done)
 ·have hne := progOk_ne hpo
  simp (config := { maxSteps := 4000000 }) only [pProg, pChs, pI, plainT, bne_self_eq_false, vcs, reduceIte, reduceCtorEq, Nat.reduceEqDiff, Nat.reduceAdd, Nat.reduceMul, Nat.reduceLeDiff, Nat.reduceLT, Int.reduceEq, Int.reduceLT, Int.reduceLE, Int.reduceAdd, Int.reduceSub, Int.reduceMul, Int.reduceNeg, Int.reduceToNat, Int.reduceNe, Nat.reduceBEq, tbs]
  repeat (first | (refine ⟨(by kernel_rfl : footOk _ _ _ _ = true), ?_⟩) | (refine ⟨(by omega : (_ : Prop)), ?_⟩))
  refine aops_callF (snew_ok.read) (by first | exact Nat.le_add_right _ _ | (simp only [introT, intro1, introL, intros, pI, pProg, pMc, pCh, pChs, pInts]; omega)) rfl ?_
  simp (config := { maxSteps := 4000000 }) only [pMc, pInts, plainT, bne_self_eq_false, vcs, reduceIte, reduceCtorEq, Nat.reduceEqDiff, Nat.reduceAdd, Nat.reduceMul, Nat.reduceLeDiff, Nat.reduceLT, Int.reduceEq, Int.reduceLT, Int.reduceLE, Int.reduceAdd, Int.reduceSub, Int.reduceMul, Int.reduceNeg, Int.reduceToNat, Int.reduceNe, Nat.reduceBEq, tbs]
  repeat (first | (refine ⟨(by kernel_rfl : footOk _ _ _ _ = true), ?_⟩) | (refine ⟨(by omega : (_ : Prop)), ?_⟩))
  refine awp_loop (X := Nat) (fun k => [(1, .pv (.lst 80 (l.map pCh))), (2, .ptr 0 0), (5, .ptr 1 0), (6, .pv (.int .i64 k))])
   (fun k => [(0, .box [.pv (.lst 96 (rs.map pCode)), .pv (.int .i64 h)]), (1, .box (bMc (Bt.after rs h Bt.mcNew (l.take k))))])
   (fun k => k ≤ l.length ∧ k ≤ 300 ∧ ∀ j (hj : j < l.length), j < k → (Bt.doM rs h (Bt.after rs h Bt.mcNew (l.take j)) l[j]).isSome = true) (fun k => 300 - k) 100 0 ⟨Nat.zero_le _, Nat.zero_le _, fun _ _ h => absurd h (Nat.not_lt_zero _)⟩ (by simp (config := { maxSteps := 4000000 }) only [bMc, pMc, pInts, vcs, reduceIte, reduceCtorEq, Nat.reduceEqDiff, Nat.reduceAdd, Nat.reduceMul, Nat.reduceLeDiff, Nat.reduceLT, Int.reduceEq, Int.reduceLT, Int.reduceLE, Int.reduceAdd, Int.reduceSub, Int.reduceMul, Int.reduceNeg, Int.reduceToNat, Int.reduceNe, Nat.reduceBEq, tbs]; simp [Bt.after]) (fun k hk => ?_)
  obtain ⟨hk1, hk2, hk3⟩ := hk
  by_cases c1 : k < l.length
  ·have d1 : decide ((k : Int) < (l.length : Int)) = true := by simpa using c1
   by_cases c2 : k < 300
   ·have d2 : decide ((k : Int) < 300) = true := by simp; omega
    have e5 : (l.map pCh)[k]? = some (pCh l[k]) := by simp [c1]
    have hdo := sdo_ok (rs := rs) (h := h) (m := Bt.after rs h Bt.mcNew (l.take k)) (c := l[k]) hne hn (Small.of (Bt.after_sz rs h _))
    simp (config := { maxSteps := 4000000 }) only [List.length_map, d1, d2, e5, bMc, pMc, pCh, pInts, pI, plainT, bne_self_eq_false, vcs, reduceIte, reduceCtorEq, Nat.reduceEqDiff, Nat.reduceAdd, Nat.reduceMul, Nat.reduceLeDiff, Nat.reduceLT, Int.reduceEq, Int.reduceLT, Int.reduceLE, Int.reduceAdd, Int.reduceSub, Int.reduceMul, Int.reduceNeg, Int.reduceToNat, Int.reduceNe, Nat.reduceBEq, tbs]
    repeat (first | (refine ⟨(by kernel_rfl : footOk _ _ _ _ = true), ?_⟩) | (refine ⟨(by omega : (_ : Prop)), ?_⟩))
    refine aops_callF (hdo) (by first | exact Nat.le_add_right _ _ | (simp only [introT, intro1, introL, intros, pI, pProg, pMc, pCh, pChs, pInts]; omega)) rfl ?_
    clear hdo
    cases hd : Bt.doM rs h (Bt.after rs h Bt.mcNew (l.take k)) l[k] with
    | none =>
     simp (config := { maxSteps := 4000000 }) only [List.length_map, d1, d2, Option.getD_none, Option.isSome_none, pProg, pMc, pCh, pInts, pI, plainT, bne_self_eq_false, vcs, reduceIte, reduceCtorEq, Nat.reduceEqDiff, Nat.reduceAdd, Nat.reduceMul, Nat.reduceLeDiff, Nat.reduceLT, Int.reduceEq, Int.reduceLT, Int.reduceLE, Int.reduceAdd, Int.reduceSub, Int.reduceMul, Int.reduceNeg, Int.reduceToNat, Int.reduceNe, Nat.reduceBEq, tbs]
     repeat (first | (refine ⟨(by kernel_rfl : footOk _ _ _ _ = true), ?_⟩) | (refine ⟨(by omega : (_ : Prop)), ?_⟩))
     have := go_is (rs := rs) (h := h) hk1 hk2 hk3 (fun _ _ => hd)
     simp [Bt.runLong, hpo, this]
    | some m' =>
     simp (config := { maxSteps := 4000000 }) only [List.length_map, d1, d2, Option.getD_some, Option.isSome_some, pProg, pMc, pCh, pInts, pI, plainT, bne_self_eq_false, vcs, reduceIte, reduceCtorEq, Nat.reduceEqDiff, Nat.reduceAdd, Nat.reduceMul, Nat.reduceLeDiff, Nat.reduceLT, Int.reduceEq, Int.reduceLT, Int.reduceLE, Int.reduceAdd, Int.reduceSub, Int.reduceMul, Int.reduceNeg, Int.reduceToNat, Int.reduceNe, Nat.reduceBEq, tbs]
     repeat (first | (refine ⟨(by kernel_rfl : footOk _ _ _ _ = true), ?_⟩) | (refine ⟨(by omega : (_ : Prop)), ?_⟩))
     refine ⟨k + 1, ⟨by omega, by omega, fun j hj hji => ?_⟩, by omega, ?_⟩
     ·by_cases e : j = k
      ·subst e
       rw [hd]; rfl
      ·exact hk3 j hj (by omega)
     ·have e6 := Bt.after_take (rs := rs) (h := h) (m := Bt.mcNew) c1
      rw [hd] at e6
      simp only [Option.getD_some] at e6
      rw [e6]
      simp [bMc, pMc, pInts, pI]
   ·have d2 : decide ((k : Int) < 300) = false := by simp; omega
    simp (config := { maxSteps := 4000000 }) only [List.length_map, d1, d2, pI, plainT, bne_self_eq_false, vcs, reduceIte, reduceCtorEq, Nat.reduceEqDiff, Nat.reduceAdd, Nat.reduceMul, Nat.reduceLeDiff, Nat.reduceLT, Int.reduceEq, Int.reduceLT, Int.reduceLE, Int.reduceAdd, Int.reduceSub, Int.reduceMul, Int.reduceNeg, Int.reduceToNat, Int.reduceNe, Nat.reduceBEq, tbs]
    repeat (first | (refine ⟨(by kernel_rfl : footOk _ _ _ _ = true), ?_⟩) | (refine ⟨(by omega : (_ : Prop)), ?_⟩))
    have e0 := go_is (rs := rs) (h := h) hk1 hk2 hk3 (fun _ h => absurd h c2)
    have : ¬ (300 : Int) > l.length := by omega
    simp [Bt.runLong, hpo, e0]
    omega
  ·have d1 : decide ((k : Int) < (l.length : Int)) = false := by simpa using c1
   simp (config := { maxSteps := 4000000 }) only [List.length_map, d1, pI, plainT, bne_self_eq_false, vcs, reduceIte, reduceCtorEq, Nat.reduceEqDiff, Nat.reduceAdd, Nat.reduceMul, Nat.reduceLeDiff, Nat.reduceLT, Int.reduceEq, Int.reduceLT, Int.reduceLE, Int.reduceAdd, Int.reduceSub, Int.reduceMul, Int.reduceNeg, Int.reduceToNat, Int.reduceNe, Nat.reduceBEq, tbs]
   repeat (first | (refine ⟨(by kernel_rfl : footOk _ _ _ _ = true), ?_⟩) | (refine ⟨(by omega : (_ : Prop)), ?_⟩))
   have e0 := go_is (rs := rs) (h := h) hk1 hk2 hk3 (fun h => absurd h c1)
   simp [Bt.runLong, hpo, e0]
   omega
set_option maxRecDepth 10000 in
set_option maxHeartbeats 4000000 in
theorem sok_ok {rs : List Bt.C4} {h : Int} {l : List Bt.Ch} (hn : rs.length ≤ 1048576) (hl : l.length ≤ 1048576) : FnOk E.P 51 [pProg rs h, pChs l] (.bool (Bt.runOk rs h l)) true := by
 by_cases c : l.length ≤ 300
 ·have d : decide ((l.length : Int) ≤ 300) = true := by simp; omega
  refine fn_ok mixed Try.func51 rfl (by kernel_rfl) _ Try.results51 _ Try.ntmps51 (by simp) (by kernel_rfl) ?_
  simp (config := { maxSteps := 4000000 }) only [List.length_map, d, pProg, pChs, pI, plainT, bne_self_eq_false, vcs, reduceIte, reduceCtorEq, Nat.reduceEqDiff, Nat.reduceAdd, Nat.reduceMul, Nat.reduceLeDiff, Nat.reduceLT, Int.reduceEq, Int.reduceLT, Int.reduceLE, Int.reduceAdd, Int.reduceSub, Int.reduceMul, Int.reduceNeg, Int.reduceToNat, Int.reduceNe, Nat.reduceBEq, tbs]
  repeat (first | (refine ⟨(by kernel_rfl : footOk _ _ _ _ = true), ?_⟩) | (refine ⟨(by omega : (_ : Prop)), ?_⟩))
  refine aops_fnG (slong_ok (rs := rs) (h := h) (l := l) hn hl) (by first | exact Nat.le_add_right _ _ | (simp only [introT, intro1, introL, intros, pI, pProg, pMc, pCh, pChs, pInts]; omega)) rfl rfl (by simp (config := { maxSteps := 4000000 }) only [List.length_map, d, pProg, pChs, pI, plainT, bne_self_eq_false, vcs, reduceIte, reduceCtorEq, Nat.reduceEqDiff, Nat.reduceAdd, Nat.reduceMul, Nat.reduceLeDiff, Nat.reduceLT, Int.reduceEq, Int.reduceLT, Int.reduceLE, Int.reduceAdd, Int.reduceSub, Int.reduceMul, Int.reduceNeg, Int.reduceToNat, Int.reduceNe, Nat.reduceBEq, tbs]) ?_
  simp (config := { maxSteps := 4000000 }) only [List.length_map, d, pProg, pChs, pI, plainT, bne_self_eq_false, vcs, reduceIte, reduceCtorEq, Nat.reduceEqDiff, Nat.reduceAdd, Nat.reduceMul, Nat.reduceLeDiff, Nat.reduceLT, Int.reduceEq, Int.reduceLT, Int.reduceLE, Int.reduceAdd, Int.reduceSub, Int.reduceMul, Int.reduceNeg, Int.reduceToNat, Int.reduceNe, Nat.reduceBEq, tbs]
  repeat (first | (refine ⟨(by kernel_rfl : footOk _ _ _ _ = true), ?_⟩) | (refine ⟨(by omega : (_ : Prop)), ?_⟩))
  all_goals (simp [Bt.runOk, c]; done)
 ·have d : decide ((l.length : Int) ≤ 300) = false := by simp; omega
  refine fn_ok mixed Try.func51 rfl (by kernel_rfl) _ Try.results51 _ Try.ntmps51 (by simp) (by kernel_rfl) ?_
  simp (config := { maxSteps := 4000000 }) only [List.length_map, d, pProg, pChs, pI, plainT, bne_self_eq_false, vcs, reduceIte, reduceCtorEq, Nat.reduceEqDiff, Nat.reduceAdd, Nat.reduceMul, Nat.reduceLeDiff, Nat.reduceLT, Int.reduceEq, Int.reduceLT, Int.reduceLE, Int.reduceAdd, Int.reduceSub, Int.reduceMul, Int.reduceNeg, Int.reduceToNat, Int.reduceNe, Nat.reduceBEq, tbs]
  repeat (first | (refine ⟨(by kernel_rfl : footOk _ _ _ _ = true), ?_⟩) | (refine ⟨(by omega : (_ : Prop)), ?_⟩))
  refine aops_fnN rfl (by simp (config := { maxSteps := 4000000 }) only [List.length_map, d, pProg, pChs, pI, plainT, bne_self_eq_false, vcs, reduceIte, reduceCtorEq, Nat.reduceEqDiff, Nat.reduceAdd, Nat.reduceMul, Nat.reduceLeDiff, Nat.reduceLT, Int.reduceEq, Int.reduceLT, Int.reduceLE, Int.reduceAdd, Int.reduceSub, Int.reduceMul, Int.reduceNeg, Int.reduceToNat, Int.reduceNe, Nat.reduceBEq, tbs]) ?_
  simp (config := { maxSteps := 4000000 }) only [List.length_map, d, pProg, pChs, pI, plainT, bne_self_eq_false, vcs, reduceIte, reduceCtorEq, Nat.reduceEqDiff, Nat.reduceAdd, Nat.reduceMul, Nat.reduceLeDiff, Nat.reduceLT, Int.reduceEq, Int.reduceLT, Int.reduceLE, Int.reduceAdd, Int.reduceSub, Int.reduceMul, Int.reduceNeg, Int.reduceToNat, Int.reduceNe, Nat.reduceBEq, tbs]
  repeat (first | (refine ⟨(by kernel_rfl : footOk _ _ _ _ = true), ?_⟩) | (refine ⟨(by omega : (_ : Prop)), ?_⟩))
  all_goals (simp [Bt.runOk, c]; done)
end Av
end Go.Proofs.Ytminfkedkkkhdaa
end
section
set_option linter.unusedSimpArgs false
set_option linter.unusedVariables false
namespace Go.Proofs.Ytminfkedkkkhdaa
open Go.RowKit
namespace Av
def machs (rs : List Bt.C4) (h : Int) (l : List Bt.Ch) : List (List PV) := if Bt.runOk rs h l then alongTo rs h l l.length else []
end Av
end Go.Proofs.Ytminfkedkkkhdaa
end
section
set_option linter.unusedSimpArgs false
set_option linter.unusedVariables false
namespace Go.Proofs.Ytminfkedkkkhdaa
open Go.RowKit
namespace Av
theorem along_run {rs : List Bt.C4} {h : Int} {l : List Bt.Ch} : ((along rs h l).length = l.length + 1 → Bt.runOk rs h l = true) ∧ (Bt.runOk rs h l = true → along rs h l = alongTo rs h l l.length) := by
 refine ⟨fun e => ?_, fun e => ?_⟩
 ·rw [← runOk_is]
  have := along_len (rs := rs) (h := h) (l := l)
  rw [beq_iff_eq]
  omega
 ·obtain ⟨hpo, h3, hg⟩ := Bt.runOk_facts e
  unfold along
  rw [if_pos hpo, List.take_of_length_le h3, hg]
set_option maxRecDepth 10000 in
set_option maxHeartbeats 4000000 in
theorem iMachines_ok {rs : List Bt.C4} {h : Int} {l : List Bt.Ch} (hn : rs.length ≤ 1048576) (hl : l.length ≤ 1048576) : FnOk E.P 26 [pProg rs h, pChs l] (.lst 31 (machs rs h l)) true := by
 have hle := along_le (rs := rs) (h := h) (l := l)
 by_cases c : (along rs h l).length = l.length + 1
 ·have ho := along_run.1 c
  have e1 := along_run.2 ho
  have d : (((along rs h l).length : Int) != (l.length : Int) + 1) = false := by rw [c]; simp
  refine fn_ok mixed Try.func26 rfl (by kernel_rfl) _ Try.results26 _ Try.ntmps26 (by simp) (by kernel_rfl) ?_
  simp (config := { maxSteps := 4000000 }) only [pProg, pChs, pI, plainT, bne_self_eq_false, vcs, reduceIte, reduceCtorEq, Nat.reduceEqDiff, Nat.reduceAdd, Nat.reduceMul, Nat.reduceLeDiff, Nat.reduceLT, Int.reduceEq, Int.reduceLT, Int.reduceLE, Int.reduceAdd, Int.reduceSub, Int.reduceMul, Int.reduceNeg, Int.reduceToNat, Int.reduceNe, Nat.reduceBEq, tbs]
  repeat (first | (refine ⟨(by kernel_rfl : footOk _ _ _ _ = true), ?_⟩) | (refine ⟨(by omega : (_ : Prop)), ?_⟩))
  refine aops_fn (along_ok (rs := rs) (h := h) (l := l) hn hl) (by first | exact Nat.le_add_right _ _ | (simp only [introT, intro1, introL, intros, pI, pProg, pMc, pCh, pChs, pInts]; omega)) rfl ?_
  simp (config := { maxSteps := 4000000 }) only [List.length_map, d, pProg, pChs, pI, plainT, bne_self_eq_false, vcs, reduceIte, reduceCtorEq, Nat.reduceEqDiff, Nat.reduceAdd, Nat.reduceMul, Nat.reduceLeDiff, Nat.reduceLT, Int.reduceEq, Int.reduceLT, Int.reduceLE, Int.reduceAdd, Int.reduceSub, Int.reduceMul, Int.reduceNeg, Int.reduceToNat, Int.reduceNe, Nat.reduceBEq, tbs]
  repeat (first | (refine ⟨(by kernel_rfl : footOk _ _ _ _ = true), ?_⟩) | (refine ⟨(by omega : (_ : Prop)), ?_⟩))
  all_goals (simp [machs, ho, e1]; done)
 ·have ho : Bt.runOk rs h l = false := by
   cases ho : Bt.runOk rs h l with
   | false => rfl
   | true => rw [along_run.2 ho] at c; simp [alongTo] at c
  have d : (((along rs h l).length : Int) != (l.length : Int) + 1) = true := by simp; omega
  refine fn_ok mixed Try.func26 rfl (by kernel_rfl) _ Try.results26 _ Try.ntmps26 (by simp) (by kernel_rfl) ?_
  simp (config := { maxSteps := 4000000 }) only [pProg, pChs, pI, plainT, bne_self_eq_false, vcs, reduceIte, reduceCtorEq, Nat.reduceEqDiff, Nat.reduceAdd, Nat.reduceMul, Nat.reduceLeDiff, Nat.reduceLT, Int.reduceEq, Int.reduceLT, Int.reduceLE, Int.reduceAdd, Int.reduceSub, Int.reduceMul, Int.reduceNeg, Int.reduceToNat, Int.reduceNe, Nat.reduceBEq, tbs]
  repeat (first | (refine ⟨(by kernel_rfl : footOk _ _ _ _ = true), ?_⟩) | (refine ⟨(by omega : (_ : Prop)), ?_⟩))
  refine aops_fn (along_ok (rs := rs) (h := h) (l := l) hn hl) (by first | exact Nat.le_add_right _ _ | (simp only [introT, intro1, introL, intros, pI, pProg, pMc, pCh, pChs, pInts]; omega)) rfl ?_
  simp (config := { maxSteps := 4000000 }) only [List.length_map, d, machs, ho, pProg, pChs, pI, plainT, bne_self_eq_false, vcs, reduceIte, reduceCtorEq, Nat.reduceEqDiff, Nat.reduceAdd, Nat.reduceMul, Nat.reduceLeDiff, Nat.reduceLT, Int.reduceEq, Int.reduceLT, Int.reduceLE, Int.reduceAdd, Int.reduceSub, Int.reduceMul, Int.reduceNeg, Int.reduceToNat, Int.reduceNe, Nat.reduceBEq, tbs]
  repeat (first | (refine ⟨(by kernel_rfl : footOk _ _ _ _ = true), ?_⟩) | (refine ⟨(by omega : (_ : Prop)), ?_⟩))
  all_goals (first | rfl | trivial | skip)
end Av
end Go.Proofs.Ytminfkedkkkhdaa
end
section
set_option linter.unusedSimpArgs false
set_option linter.unusedVariables false
namespace Go.Proofs.Ytminfkedkkkhdaa
open Go.RowKit
namespace Av
theorem codes_of : ∀ (R : List (List PV)) (_ : ∀ r ∈ R, ShCode r), ∃ rs : List Bt.C4, R = rs.map pCode
 | [], _ => ⟨[], rfl⟩
 | r :: R, h => by
  obtain ⟨a, b, c, d, rfl⟩ := h r (List.mem_cons_self ..)
  obtain ⟨rs, rfl⟩ := codes_of R (fun x hx => h x (List.mem_cons_of_mem _ hx))
  exact ⟨⟨a, b, c, d⟩ :: rs, rfl⟩
theorem chs_of : ∀ (R : List (List PV)) (_ : ∀ r ∈ R, ShChoice r), ∃ l : List Bt.Ch, R = l.map pCh
 | [], _ => ⟨[], rfl⟩
 | r :: R, h => by
  obtain ⟨a, b, c, rfl⟩ := h r (List.mem_cons_self ..)
  obtain ⟨l, rfl⟩ := chs_of R (fun x hx => h x (List.mem_cons_of_mem _ hx))
  exact ⟨⟨a, b, c⟩ :: l, rfl⟩
theorem sh_ints {xs : List Int} (h : xs.length ≤ 1048576) : ShIntS (xs.map fun x => [pI x]) := ⟨by simpa using h, fun r hr => by
 obtain ⟨x, _, rfl⟩ := List.mem_map.1 hr
 exact ⟨x, rfl⟩⟩
theorem cnt_ints : ∀ (xs : List Int), cntR (xs.map fun x => [pI x]) = xs.length
 | [] => rfl
 | x :: xs => by
  have := cnt_ints xs
  simp only [pI] at this
  simp [cntR, cntL, cntP, pI, this]; omega
end Av
end Go.Proofs.Ytminfkedkkkhdaa
end
