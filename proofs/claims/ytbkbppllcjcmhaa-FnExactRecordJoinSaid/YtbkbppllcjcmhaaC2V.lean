/-
  Chapter 2: machines that are copied, steps that fail: the model's.
-/
import Derived.Test.YtbkbppllcjcmhaaC1
import Derived.Test.YtbkbppllcjcmhaaAvD
set_option linter.unusedSimpArgs false
set_option linter.unusedVariables false
namespace Go.Proofs.Ytbkbppllcjcmhaa
open Go.RowKit
namespace Av
theorem flat_ints (xs : List Int) : ((xs.map fun x => [PV.int .i64 x]).all fun r => r.all PV.flat) = true := by simp [PV.flat]
theorem leaf_ints (xs : List Int) : ((xs.map fun x => [PV.int .i64 x]).all fun r => r.all PV.leaf) = true := by simp [PV.leaf]
set_option maxHeartbeats 4000000 in
theorem sthread_ok {t : Bt.Th} (h1 : t.regs.length ≤ 1048576) (h2 : t.stack.length ≤ 1048576) : FnOk E.P 110 [.agg (pTh t)] (.agg (pTh t)) true := by
  refine fn_ok mixed Try.func110 rfl (by kernel_rfl) _ Try.results110 _ Try.ntmps110 (by simp) (by kernel_rfl) ?_
  repeat (first | (refine aops_fnX rfl ?_ ?_; focus (simp (maxSteps := 4000000) only [sks, List.nil_append, flat_ints, leaf_ints, pTh, pInts, pI, tvl, simprocAttr]; done)) | (simp (maxSteps := 4000000) only [List.nil_append, flat_ints, leaf_ints, pTh, pInts, pI, tvl, simprocAttr]) | refine ftS (by kernel_rfl) ?_ | refine And.intro (by omega) ?_)
  all_goals (first | rfl | trivial | skip)
set_option maxRecDepth 10000 in
set_option maxHeartbeats 8000000 in
theorem scopy_ok {m : Bt.Mc} (hm : Small m) : FnOk E.P 84 [.agg (pMc m)] (.agg (pMc m)) true := by
  obtain ⟨ths, cells, locks, told⟩ := m
  obtain ⟨m1, m2, m3, m4, m5, m6⟩ := hm
  simp only at m1 m2 m3 m4 m5 m6
  refine fn_ok mixed Try.func84 rfl (by kernel_rfl) _ Try.results84 _ Try.ntmps84 (by simp) (by kernel_rfl) ?_
  repeat (first | (refine aops_fnX rfl ?_ ?_; focus (simp (maxSteps := 4000000) only [sks, List.nil_append, flat_ints, leaf_ints, pMc, pInts, pI, tvl, simprocAttr]; done)) | (simp (maxSteps := 4000000) only [List.nil_append, flat_ints, leaf_ints, pMc, pInts, pI, tvl, simprocAttr]) | refine ftS (by kernel_rfl) ?_ | refine And.intro (by omega) ?_)
  refine awp_loop (X := Nat) (fun k => [(1, .ptr 0 0), (2, .ptr 1 0), (3, .ptr 2 0), (4, .pv (.int .i64 k))])
    (fun k => [(0, .box [.pv (.lst 134 (ths.map pTh)), .pv (.lst 3 (cells.map fun x => [.int .i64 x])), .pv (.lst 3 (locks.map fun x => [.int .i64 x])), .pv (.lst 3 (told.map fun x => [.int .i64 x]))]),
      (1, .box [.nil 134, .nil 3, .nil 3, .nil 3]), (2, .box [.sl 3, .sl 4, .sl 5, .sl 6]), (3, .row true 134 ((ths.take k).map pTh)), (4, .row true 3 (cells.map fun x => [.int .i64 x])), (5, .row true 3 (locks.map fun x => [.int .i64 x])), (6, .row true 3 (told.map fun x => [.int .i64 x]))])
    (fun k => k ≤ ths.length) (fun k => ths.length - k) 100 0 (Nat.zero_le _) (by simp (maxSteps := 4000000) only [List.take_zero, List.map_nil, pI, tvl, simprocAttr]; try simp [pI]) (fun k hk => ?_)
  by_cases c1 : k < ths.length
  · have d1 : decide ((k : Int) < (ths.length : Int)) = true := by simpa using c1
    have e6 : (ths.map pTh)[k]? = some (pTh ths[k]) := by simp [c1]
    have hlen : ((ths.take k).map pTh).length = k := by simp; omega
    have hT := sthread_ok (t := ths[k]) (m5 k c1) (m6 k c1)
    have hnx : (ths.take (k + 1)).map pTh = (ths.take k).map pTh ++ [pTh ths[k]] := by rw [List.take_succ_eq_append_getElem c1, List.map_append]; rfl
    generalize ths[k] = t at *
    repeat (first | (refine aops_fnX rfl ?_ ?_; focus (simp (maxSteps := 4000000) only [sks, d1, e6, pTh, pInts, pI, tvl, simprocAttr]; done)) | (simp (maxSteps := 4000000) only [d1, e6, pTh, pInts, pI, tvl, simprocAttr]) | refine ftS (by kernel_rfl) ?_ | refine And.intro (by omega) ?_)
    refine aops_fn (hT) (hidB rfl) rfl ?_
    repeat (first | (refine aops_fnX rfl ?_ ?_; focus (simp (maxSteps := 4000000) only [sks, hlen, pTh, pInts, pI, tvl, simprocAttr]; done)) | (simp (maxSteps := 4000000) only [hlen, pTh, pInts, pI, tvl, simprocAttr]) | refine ftS (by kernel_rfl) ?_ | refine And.intro (by omega) ?_)
    refine ⟨k + 1, by omega, by omega, ?_⟩
    simp [hnx, pTh, pInts, pI]
  · have d1 : decide ((k : Int) < (ths.length : Int)) = false := by simpa using c1
    obtain rfl : k = ths.length := by omega
    repeat (first | (refine aops_fnX rfl ?_ ?_; focus (simp (maxSteps := 4000000) only [sks, List.take_length, d1, pMc, pInts, pI, tvl, simprocAttr]; done)) | (simp (maxSteps := 4000000) only [List.take_length, d1, pMc, pInts, pI, tvl, simprocAttr]) | refine ftS (by kernel_rfl) ?_ | refine And.intro (by omega) ?_)
    all_goals (first | rfl | trivial | skip)
set_option maxRecDepth 10000 in
set_option maxHeartbeats 8000000 in
theorem sfaults_ok {m : Bt.Mc} {k : Nat} {t : Bt.Th} {x : Bt.C4} (hk : m.ths[k]? = some t) (hx : Bt.codeOk x.op x.a x.b x.c = true) (hl : m.locks.length = 2) (hf : m.ths.length ≤ 4) (hs6 : t.stack.length ≤ 6) :
    FnOk E.P 113 [.agg (pMc m), pI k, .agg (pCode x)] (.bool (Bt.faultsI m k t x)) true := by
  have e6 : (m.ths.map pTh)[k]? = some (pTh t) := by rw [List.getElem?_map, hk]; rfl
  have hkl := (List.getElem?_eq_some_iff.1 hk).1
  obtain ⟨op, a, b, c⟩ := x
  obtain ⟨pl, regs, stack, st⟩ := t
  simp only at hx hs6
  unfold Bt.faultsI
  simp only
  refine fn_ok mixed Try.func113 rfl (by kernel_rfl) _ Try.results113 _ Try.ntmps113 (by simp) (by kernel_rfl) ?_
  by_cases g11 : op = 11
  · subst g11
    have e : decide (6 ≤ stack.length) = ((stack.length : Int) == 6) := by rw [Bool.eq_iff_iff, decide_eq_true_eq, beq_iff_eq]; omega
    rw [if_pos rfl, e]
    repeat (first | (refine aops_fnX rfl ?_ ?_; focus (simp (maxSteps := 4000000) only [sks, e6, Int.reduceBEq, pTh, pMc, pCode, pInts, pI, tvl, simprocAttr]; done)) | (simp (maxSteps := 4000000) only [e6, Int.reduceBEq, pTh, pMc, pCode, pInts, pI, tvl, simprocAttr]) | refine ftS (by kernel_rfl) ?_ | refine And.intro (by omega) ?_)
    all_goals (first | rfl | trivial | skip)
  have f11 : (op == 11) = false := by simpa using g11
  rw [if_neg g11]
  by_cases g12 : op = 12
  · subst g12
    have e : decide (stack.length = 0) = ((stack.length : Int) == 0) := by rw [Bool.eq_iff_iff, decide_eq_true_eq, beq_iff_eq]; omega
    rw [if_pos rfl, e]
    repeat (first | (refine aops_fnX rfl ?_ ?_; focus (simp (maxSteps := 4000000) only [sks, e6, f11, Int.reduceBEq, pTh, pMc, pCode, pInts, pI, tvl, simprocAttr]; done)) | (simp (maxSteps := 4000000) only [e6, f11, Int.reduceBEq, pTh, pMc, pCode, pInts, pI, tvl, simprocAttr]) | refine ftS (by kernel_rfl) ?_ | refine And.intro (by omega) ?_)
    all_goals (first | rfl | trivial | skip)
  have f12 : (op == 12) = false := by simpa using g12
  rw [if_neg g12]
  by_cases g16 : op = 16
  · subst g16
    obtain ⟨c0, c1'⟩ := Bt.lock_bounds hx (.inr rfl)
    obtain ⟨q, rfl⟩ : ∃ q : Nat, c = q := ⟨c.toNat, by omega⟩
    have hq : q < m.locks.length := by omega
    have e8 : (m.locks.map fun x => [PV.int .i64 x])[q]? = some [.int .i64 m.locks[q]] := by simp [hq]
    have e9 : m.locks.getD q (-1) = m.locks[q] := by simp [hq]
    rw [if_pos rfl, Int.toNat_natCast, e9]
    generalize m.locks[q] = l at *
    repeat (first | (refine aops_fnX rfl ?_ ?_; focus (simp (maxSteps := 4000000) only [sks, e6, e8, f11, f12, Int.reduceBEq, pTh, pMc, pCode, pInts, pI, tvl, simprocAttr]; done)) | (simp (maxSteps := 4000000) only [e6, e8, f11, f12, Int.reduceBEq, pTh, pMc, pCode, pInts, pI, tvl, simprocAttr]) | refine ftS (by kernel_rfl) ?_ | refine And.intro (by omega) ?_)
    all_goals (first | rfl | trivial | skip)
  have f16 : (op == 16) = false := by simpa using g16
  rw [if_neg g16]
  by_cases g17 : op = 17
  · subst g17
    have e : decide (4 ≤ m.ths.length) = ((m.ths.length : Int) == 4) := by rw [Bool.eq_iff_iff, decide_eq_true_eq, beq_iff_eq]; omega
    rw [if_pos rfl, e]
    repeat (first | (refine aops_fnX rfl ?_ ?_; focus (simp (maxSteps := 4000000) only [sks, e6, f11, f12, f16, Int.reduceBEq, pTh, pMc, pCode, pInts, pI, tvl, simprocAttr]; done)) | (simp (maxSteps := 4000000) only [e6, f11, f12, f16, Int.reduceBEq, pTh, pMc, pCode, pInts, pI, tvl, simprocAttr]) | refine ftS (by kernel_rfl) ?_ | refine And.intro (by omega) ?_)
    all_goals (first | rfl | trivial | skip)
  have f17 : (op == 17) = false := by simpa using g17
  rw [if_neg g17]
  repeat (first | (refine aops_fnX rfl ?_ ?_; focus (simp (maxSteps := 4000000) only [sks, e6, f11, f12, f16, f17, pTh, pMc, pCode, pInts, pI, tvl, simprocAttr]; done)) | (simp (maxSteps := 4000000) only [e6, f11, f12, f16, f17, pTh, pMc, pCode, pInts, pI, tvl, simprocAttr]) | refine ftS (by kernel_rfl) ?_ | refine And.intro (by omega) ?_)
  all_goals (first | rfl | trivial | skip)
end Av
end Go.Proofs.Ytbkbppllcjcmhaa
