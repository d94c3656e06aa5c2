/-
  Part of a proof: ChsI. No condition.
-/
import Derived.Test.YtminfkedkkkhdaaZAai
set_option linter.unusedSimpArgs false
set_option linter.unusedVariables false
namespace Go.Proofs.Ytminfkedkkkhdaa
open Go.RowKit
namespace Av
def chRow (a b : Int) : List PV := [.int .i64 a, .int .i64 b, .int .i64 0]
def part1 (can : Int → Int → Bool) (i : Nat) (j : Nat) : List (List PV) := (if 0 < j ∧ can i 0 = true then [chRow i 0] else []) ++ if 1 < j ∧ can i 1 = true then [chRow i 1] else []
def allC (can : Int → Int → Bool) (k : Nat) : List (List PV) := (List.range k).flatMap fun i => part1 can i 2
theorem part1_len (can : Int → Int → Bool) (i j : Nat) : (part1 can i j).length ≤ 2 := by
 unfold part1
 split <;> split <;> simp
theorem allC_len (can : Int → Int → Bool) : ∀ k, (allC can k).length ≤ 2 * k
 | 0 => by simp [allC]
 | k + 1 => by
  have := allC_len can k
  have := part1_len can k 2
  simp only [allC, List.range_succ, List.flatMap_append, List.length_append, List.flatMap_cons, List.flatMap_nil, List.append_nil] at *
  omega
set_option maxRecDepth 10000 in
set_option maxHeartbeats 1000000 in
theorem choosingIn_ok (prs : List (List PV)) (h : Int) (n : Nat) (ths : List (List PV)) (hn : ths.length = n) (hn4 : n ≤ 1000) (cells locks told : List (List PV)) (can : Int → Int → Bool)
  (hcan : ∀ a b : Int, FnOk E.P 102 [.agg [.lst 96 prs, .int .i64 h], .agg [.lst 123 ths, .lst 3 cells, .lst 3 locks, .lst 3 told], .agg [.int .i64 a, .int .i64 b, .int .i64 0]] (.bool (can a b)) true) :
  FnOk E.P 68 [.agg [.lst 96 prs, .int .i64 h], .agg [.lst 123 ths, .lst 3 cells, .lst 3 locks, .lst 3 told]] (.lst 80 (allC can n)) true := by
 refine fn_ok mixed Try.func68 rfl (by kernel_rfl) _ Try.results68 _ Try.ntmps68 (by simp) (by kernel_rfl) ?_
 simp only [condGo_bool, vcs, reduceIte, reduceCtorEq, Nat.reduceEqDiff, Nat.reduceAdd, Nat.reduceMul, Nat.reduceLeDiff, Nat.reduceLT, Int.reduceEq, Int.reduceLT, Int.reduceLE, Int.reduceAdd, Int.reduceSub, Int.reduceMul, Int.reduceNeg, Int.reduceToNat, Int.reduceNe, Nat.reduceBEq, tbs, hn]
 refine ⟨by kernel_rfl, by kernel_rfl, by kernel_rfl, ?_⟩
 refine awp_loop (X := Nat) (fun k => [(2, .ptr 0 0), (3, .ptr 1 0), (5, .sl 2), (13, .pv (.int .i64 n)), (14, .pv (.int .i64 k))])
  (fun k => [(0, .box [.pv (.lst 96 prs), .pv (.int .i64 h)]), (1, .box [.pv (.lst 123 ths), .pv (.lst 3 cells), .pv (.lst 3 locks), .pv (.lst 3 told)]), (2, .row true 80 (allC can k))])
  (fun k => k ≤ n) (fun k => n - k) 100 0 (Nat.zero_le _) (by simp only [condGo_bool, vcs, reduceIte, reduceCtorEq, Nat.reduceEqDiff, Nat.reduceAdd, Nat.reduceMul, Nat.reduceLeDiff, Nat.reduceLT, Int.reduceEq, Int.reduceLT, Int.reduceLE, Int.reduceAdd, Int.reduceSub, Int.reduceMul, Int.reduceNeg, Int.reduceToNat, Int.reduceNe, Nat.reduceBEq, tbs]; simp [allC]) (fun k hk => ?_)
 simp only [condGo_bool, vcs, reduceIte, reduceCtorEq, Nat.reduceEqDiff, Nat.reduceAdd, Nat.reduceMul, Nat.reduceLeDiff, Nat.reduceLT, Int.reduceEq, Int.reduceLT, Int.reduceLE, Int.reduceAdd, Int.reduceSub, Int.reduceMul, Int.reduceNeg, Int.reduceToNat, Int.reduceNe, Nat.reduceBEq, tbs]
 refine ⟨by kernel_rfl, fun hlt => ⟨by kernel_rfl, by kernel_rfl, ?_⟩, fun hge => ⟨by kernel_rfl, ?_⟩⟩
 ·have hlt := of_decide_eq_true hlt
  refine awp_loop (X := Nat) (fun j => [(2, .ptr 0 0), (3, .ptr 1 0), (5, .sl 2), (6, .pv (.int .i64 k)), (13, .pv (.int .i64 n)), (14, .pv (.int .i64 k)), (17, .sl 3), (18, .pv (.int .i64 2)), (19, .pv (.int .i64 j))])
   (fun j => [(0, .box [.pv (.lst 96 prs), .pv (.int .i64 h)]), (1, .box [.pv (.lst 123 ths), .pv (.lst 3 cells), .pv (.lst 3 locks), .pv (.lst 3 told)]), (2, .row true 80 (allC can k ++ part1 can k j)), (3, .row true 3 [[.int .i64 0], [.int .i64 1]])])
   (fun j => j ≤ 2) (fun j => 2 - j) 100 0 (Nat.zero_le _) (by simp only [condGo_bool, vcs, reduceIte, reduceCtorEq, Nat.reduceEqDiff, Nat.reduceAdd, Nat.reduceMul, Nat.reduceLeDiff, Nat.reduceLT, Int.reduceEq, Int.reduceLT, Int.reduceLE, Int.reduceAdd, Int.reduceSub, Int.reduceMul, Int.reduceNeg, Int.reduceToNat, Int.reduceNe, Nat.reduceBEq, tbs]; simp [part1]) (fun j hj => ?_)
  obtain rfl | rfl | rfl : j = 0 ∨ j = 1 ∨ j = 2 := by omega
  ·simp only [condGo_bool, vcs, reduceIte, reduceCtorEq, Nat.reduceEqDiff, Nat.reduceAdd, Nat.reduceMul, Nat.reduceLeDiff, Nat.reduceLT, Int.reduceEq, Int.reduceLT, Int.reduceLE, Int.reduceAdd, Int.reduceSub, Int.reduceMul, Int.reduceNeg, Int.reduceToNat, Int.reduceNe, Nat.reduceBEq, tbs]
   repeat (refine ⟨(by kernel_rfl : footOk _ _ _ _ = true), ?_⟩)
   refine aops_call (sn := _) (by simp only [condGo_bool, vcs, reduceIte, reduceCtorEq, Nat.reduceEqDiff, Nat.reduceAdd, Nat.reduceMul, Nat.reduceLeDiff, Nat.reduceLT, Int.reduceEq, Int.reduceLT, Int.reduceLE, Int.reduceAdd, Int.reduceSub, Int.reduceMul, Int.reduceNeg, Int.reduceToNat, Int.reduceNe, Nat.reduceBEq, tbs]; exact rfl) (hcan k 0) (by simp only [condGo_bool, vcs, reduceIte, reduceCtorEq, Nat.reduceEqDiff, Nat.reduceAdd, Nat.reduceMul, Nat.reduceLeDiff, Nat.reduceLT, Int.reduceEq, Int.reduceLT, Int.reduceLE, Int.reduceAdd, Int.reduceSub, Int.reduceMul, Int.reduceNeg, Int.reduceToNat, Int.reduceNe, Nat.reduceBEq, tbs]) rfl ?_
   simp only [condGo_bool, vcs, reduceIte, reduceCtorEq, Nat.reduceEqDiff, Nat.reduceAdd, Nat.reduceMul, Nat.reduceLeDiff, Nat.reduceLT, Int.reduceEq, Int.reduceLT, Int.reduceLE, Int.reduceAdd, Int.reduceSub, Int.reduceMul, Int.reduceNeg, Int.reduceToNat, Int.reduceNe, Nat.reduceBEq, tbs]
   refine ⟨(by kernel_rfl : footOk _ _ _ _ = true), fun hc => ?_, fun hc => ?_⟩
   ·refine ⟨?_, by kernel_rfl, by kernel_rfl, 1, by omega, by omega, rfl, ?_⟩
    ·have := allC_len can k
     have := part1_len can k 0
     simp only [List.length_append]
     omega
    ·simp [part1, hc, chRow]
   ·refine ⟨by kernel_rfl, 1, by omega, by omega, rfl, ?_⟩
    simp [part1, hc]
  ·simp only [condGo_bool, vcs, reduceIte, reduceCtorEq, Nat.reduceEqDiff, Nat.reduceAdd, Nat.reduceMul, Nat.reduceLeDiff, Nat.reduceLT, Int.reduceEq, Int.reduceLT, Int.reduceLE, Int.reduceAdd, Int.reduceSub, Int.reduceMul, Int.reduceNeg, Int.reduceToNat, Int.reduceNe, Nat.reduceBEq, tbs]
   repeat (refine ⟨(by kernel_rfl : footOk _ _ _ _ = true), ?_⟩)
   refine aops_call (sn := _) (by simp only [condGo_bool, vcs, reduceIte, reduceCtorEq, Nat.reduceEqDiff, Nat.reduceAdd, Nat.reduceMul, Nat.reduceLeDiff, Nat.reduceLT, Int.reduceEq, Int.reduceLT, Int.reduceLE, Int.reduceAdd, Int.reduceSub, Int.reduceMul, Int.reduceNeg, Int.reduceToNat, Int.reduceNe, Nat.reduceBEq, tbs]; exact rfl) (hcan k 1) (by simp only [condGo_bool, vcs, reduceIte, reduceCtorEq, Nat.reduceEqDiff, Nat.reduceAdd, Nat.reduceMul, Nat.reduceLeDiff, Nat.reduceLT, Int.reduceEq, Int.reduceLT, Int.reduceLE, Int.reduceAdd, Int.reduceSub, Int.reduceMul, Int.reduceNeg, Int.reduceToNat, Int.reduceNe, Nat.reduceBEq, tbs]) rfl ?_
   simp only [condGo_bool, vcs, reduceIte, reduceCtorEq, Nat.reduceEqDiff, Nat.reduceAdd, Nat.reduceMul, Nat.reduceLeDiff, Nat.reduceLT, Int.reduceEq, Int.reduceLT, Int.reduceLE, Int.reduceAdd, Int.reduceSub, Int.reduceMul, Int.reduceNeg, Int.reduceToNat, Int.reduceNe, Nat.reduceBEq, tbs]
   refine ⟨(by kernel_rfl : footOk _ _ _ _ = true), fun hc => ?_, fun hc => ?_⟩
   ·refine ⟨?_, by kernel_rfl, by kernel_rfl, 2, by omega, by omega, rfl, ?_⟩
    ·have := allC_len can k
     have := part1_len can k 1
     simp only [List.length_append]
     omega
    ·simp [part1, hc, chRow]
   ·refine ⟨by kernel_rfl, 2, by omega, by omega, rfl, ?_⟩
    simp [part1, hc]
  ·simp only [condGo_bool, vcs, reduceIte, reduceCtorEq, Nat.reduceEqDiff, Nat.reduceAdd, Nat.reduceMul, Nat.reduceLeDiff, Nat.reduceLT, Int.reduceEq, Int.reduceLT, Int.reduceLE, Int.reduceAdd, Int.reduceSub, Int.reduceMul, Int.reduceNeg, Int.reduceToNat, Int.reduceNe, Nat.reduceBEq, tbs]
   refine ⟨by kernel_rfl, by omega, by kernel_rfl, k + 1, by omega, by omega, by omega, ?_⟩
   simp [allC, List.range_succ]
 ·have hge := of_decide_eq_false hge
  obtain rfl : k = n := by omega
  rfl
end Av
end Go.Proofs.Ytminfkedkkkhdaa
