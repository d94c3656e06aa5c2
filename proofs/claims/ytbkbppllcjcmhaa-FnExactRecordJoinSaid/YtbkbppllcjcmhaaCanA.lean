/-
  Chapter 2: what can be chosen, a step: the model's.
  Chapter 2: what can be chosen, a step: the model's.
-/
import Derived.Test.YtbkbppllcjcmhaaC2S
set_option linter.unusedSimpArgs false
set_option linter.unusedVariables false
namespace Go.Proofs.Ytbkbppllcjcmhaa
open Go.RowKit
namespace Av
set_option maxRecDepth 10000 in
set_option maxHeartbeats 16000000 in
theorem scan_none {rs : List Bt.C4} {h : Int} {m : Bt.Mc} {k : Nat} {rep : Int} (hn : rs.length ≤ 1048576) (hm : Small m) (h1 : Bt.machOk rs h m = true) (hk : k < m.ths.length) (hst : m.ths[k].st = 0) (hx : Bt.instrOf rs h m k = none) : FnOk E.P 111 [pProg rs h, .agg (pMc m), .agg (pCh ⟨k, 0, rep⟩)] (.bool (rep == 0)) true := by
  have hM := smach_ok (rs := rs) (h := h) (m := m) hn hm
  have hI := sinstrA_ok (rs := rs) (h := h) (m := m) (who := k) hn hm
  rw [h1] at hM
  rw [hx] at hI
  have d1 : decide ((k : Int) < 0) = false := by rw [decide_eq_false_iff_not]; omega
  have d2 : decide ((k : Int) ≥ (m.ths.length : Int)) = false := by rw [decide_eq_false_iff_not]; omega
  have d4 : ((0 : Int) == 1) = false := by decide
  have d5 : ((0 : Int) != 0) = false := by decide
  have hlk := (Bt.machOk_facts h1).locks
  have hli := (Bt.machOk_facts h1).locksIn
  have htl := (Bt.machOk_facts h1).told
  have e6 : (m.ths.map pTh)[k]? = some (pTh m.ths[k]) := by simp [hk]
  have c3 : (m.ths[k].st != 0) = false := by rw [hst]; rfl
  clear hst hx
  generalize m.ths[k] = t at *
  refine fn_ok mixed Try.func111 rfl (by kernel_rfl) _ Try.results111 _ Try.ntmps111 (by simp) (by kernel_rfl) ?_
  simp (maxSteps := 4000000) only [pProg, pMc, pCh, pInts, pI, tvl, simprocAttr]
  repeat (first | refine ftS (by kernel_rfl) ?_ | refine And.intro (by omega) ?_)
  refine aops_fn (hM) (hidB rfl) rfl ?_
  simp (maxSteps := 4000000) only [d1, d2, c3, e6, d4, pTh, pProg, pMc, pInts, pI, tvl, simprocAttr]
  repeat (first | refine ftS (by kernel_rfl) ?_ | refine And.intro (by omega) ?_)
  refine aops_fn (hI) (hidB rfl) rfl ?_
  simp (maxSteps := 4000000) only [d5, d4, lsb, pTh, pCode, pProg, pMc, pInts, pI, tvl, simprocAttr]
  repeat (first | refine ftS (by kernel_rfl) ?_ | refine And.intro (by omega) ?_)
  all_goals (first | rfl | trivial | skip)
set_option maxRecDepth 10000 in
set_option maxHeartbeats 16000000 in
theorem scan_else {rs : List Bt.C4} {h : Int} {m : Bt.Mc} {k : Nat} {rep : Int} {op a b c : Int} (hn : rs.length ≤ 1048576) (hm : Small m) (h1 : Bt.machOk rs h m = true) (hk : k < m.ths.length) (hst : m.ths[k].st = 0) (hx : Bt.instrOf rs h m k = some ⟨op, a, b, c⟩) (f1 : (op == 15) = false) (f2 : (op == 14) = false) (f3 : (op == 13) = false) : FnOk E.P 111 [pProg rs h, .agg (pMc m), .agg (pCh ⟨k, 0, rep⟩)] (.bool (rep == 0)) true := by
  have hM := smach_ok (rs := rs) (h := h) (m := m) hn hm
  have hI := sinstrA_ok (rs := rs) (h := h) (m := m) (who := k) hn hm
  rw [h1] at hM
  rw [hx] at hI
  have d1 : decide ((k : Int) < 0) = false := by rw [decide_eq_false_iff_not]; omega
  have d2 : decide ((k : Int) ≥ (m.ths.length : Int)) = false := by rw [decide_eq_false_iff_not]; omega
  have d4 : ((0 : Int) == 1) = false := by decide
  have d5 : ((0 : Int) != 0) = false := by decide
  have hlk := (Bt.machOk_facts h1).locks
  have hli := (Bt.machOk_facts h1).locksIn
  have htl := (Bt.machOk_facts h1).told
  have e6 : (m.ths.map pTh)[k]? = some (pTh m.ths[k]) := by simp [hk]
  have c3 : (m.ths[k].st != 0) = false := by rw [hst]; rfl
  clear hst hx
  generalize m.ths[k] = t at *
  refine fn_ok mixed Try.func111 rfl (by kernel_rfl) _ Try.results111 _ Try.ntmps111 (by simp) (by kernel_rfl) ?_
  simp (maxSteps := 4000000) only [pProg, pMc, pCh, pInts, pI, tvl, simprocAttr]
  repeat (first | refine ftS (by kernel_rfl) ?_ | refine And.intro (by omega) ?_)
  refine aops_fn (hM) (hidB rfl) rfl ?_
  simp (maxSteps := 4000000) only [d1, d2, c3, e6, d4, pTh, pProg, pMc, pInts, pI, tvl, simprocAttr]
  repeat (first | refine ftS (by kernel_rfl) ?_ | refine And.intro (by omega) ?_)
  refine aops_fn (hI) (hidB rfl) rfl ?_
  simp (maxSteps := 4000000) only [d5, f1, f2, f3, lsb, pTh, pCode, pProg, pMc, pInts, pI, tvl, simprocAttr]
  repeat (first | refine ftS (by kernel_rfl) ?_ | refine And.intro (by omega) ?_)
  all_goals (first | rfl | trivial | skip)
end Av
end Go.Proofs.Ytbkbppllcjcmhaa

set_option linter.unusedSimpArgs false
set_option linter.unusedVariables false
namespace Go.Proofs.Ytbkbppllcjcmhaa
open Go.RowKit
namespace Av
set_option maxRecDepth 10000 in
set_option maxHeartbeats 16000000 in
theorem scan_lockT {rs : List Bt.C4} {h : Int} {m : Bt.Mc} {k : Nat} {rep : Int} {a b l : Int} {q : Nat} (hn : rs.length ≤ 1048576) (hm : Small m) (h1 : Bt.machOk rs h m = true) (hk : k < m.ths.length) (hst : m.ths[k].st = 0) (hx : Bt.instrOf rs h m k = some ⟨15, a, b, q⟩) (hq : q < m.locks.length) (hl : m.locks[q] = l) (f2 : decide (l ≥ 0) = true) : FnOk E.P 111 [pProg rs h, .agg (pMc m), .agg (pCh ⟨k, 0, rep⟩)] (.bool false) true := by
  have hM := smach_ok (rs := rs) (h := h) (m := m) hn hm
  have hI := sinstrA_ok (rs := rs) (h := h) (m := m) (who := k) hn hm
  rw [h1] at hM
  rw [hx] at hI
  have d1 : decide ((k : Int) < 0) = false := by rw [decide_eq_false_iff_not]; omega
  have d2 : decide ((k : Int) ≥ (m.ths.length : Int)) = false := by rw [decide_eq_false_iff_not]; omega
  have d4 : ((0 : Int) == 1) = false := by decide
  have d5 : ((0 : Int) != 0) = false := by decide
  have hlk := (Bt.machOk_facts h1).locks
  have hli := (Bt.machOk_facts h1).locksIn
  have htl := (Bt.machOk_facts h1).told
  have e6 : (m.ths.map pTh)[k]? = some (pTh m.ths[k]) := by simp [hk]
  have c3 : (m.ths[k].st != 0) = false := by rw [hst]; rfl
  clear hst hx
  generalize m.ths[k] = t at *
  refine fn_ok mixed Try.func111 rfl (by kernel_rfl) _ Try.results111 _ Try.ntmps111 (by simp) (by kernel_rfl) ?_
  simp (maxSteps := 4000000) only [pProg, pMc, pCh, pInts, pI, tvl, simprocAttr]
  repeat (first | refine ftS (by kernel_rfl) ?_ | refine And.intro (by omega) ?_)
  refine aops_fn (hM) (hidB rfl) rfl ?_
  simp (maxSteps := 4000000) only [d1, d2, c3, e6, d4, pTh, pProg, pMc, pInts, pI, tvl, simprocAttr]
  repeat (first | refine ftS (by kernel_rfl) ?_ | refine And.intro (by omega) ?_)
  refine aops_fn (hI) (hidB rfl) rfl ?_
  have e7 : (m.locks.map fun x => [PV.int .i64 x])[q]? = some [.int .i64 l] := by simp [hq, hl]
  simp (maxSteps := 4000000) only [d5, e7, f2, Int.reduceBEq, lsb, pTh, pCode, pProg, pMc, pInts, pI, tvl, simprocAttr]
  repeat (first | refine ftS (by kernel_rfl) ?_ | refine And.intro (by omega) ?_)
  all_goals (first | rfl | trivial | skip)
set_option maxRecDepth 10000 in
set_option maxHeartbeats 16000000 in
theorem scan_lockF {rs : List Bt.C4} {h : Int} {m : Bt.Mc} {k : Nat} {rep : Int} {a b l : Int} {q : Nat} (hn : rs.length ≤ 1048576) (hm : Small m) (h1 : Bt.machOk rs h m = true) (hk : k < m.ths.length) (hst : m.ths[k].st = 0) (hx : Bt.instrOf rs h m k = some ⟨15, a, b, q⟩) (hq : q < m.locks.length) (hl : m.locks[q] = l) (f2 : decide (l ≥ 0) = false) : FnOk E.P 111 [pProg rs h, .agg (pMc m), .agg (pCh ⟨k, 0, rep⟩)] (.bool (rep == 0)) true := by
  have hM := smach_ok (rs := rs) (h := h) (m := m) hn hm
  have hI := sinstrA_ok (rs := rs) (h := h) (m := m) (who := k) hn hm
  rw [h1] at hM
  rw [hx] at hI
  have d1 : decide ((k : Int) < 0) = false := by rw [decide_eq_false_iff_not]; omega
  have d2 : decide ((k : Int) ≥ (m.ths.length : Int)) = false := by rw [decide_eq_false_iff_not]; omega
  have d4 : ((0 : Int) == 1) = false := by decide
  have d5 : ((0 : Int) != 0) = false := by decide
  have hlk := (Bt.machOk_facts h1).locks
  have hli := (Bt.machOk_facts h1).locksIn
  have htl := (Bt.machOk_facts h1).told
  have e6 : (m.ths.map pTh)[k]? = some (pTh m.ths[k]) := by simp [hk]
  have c3 : (m.ths[k].st != 0) = false := by rw [hst]; rfl
  clear hst hx
  generalize m.ths[k] = t at *
  refine fn_ok mixed Try.func111 rfl (by kernel_rfl) _ Try.results111 _ Try.ntmps111 (by simp) (by kernel_rfl) ?_
  simp (maxSteps := 4000000) only [pProg, pMc, pCh, pInts, pI, tvl, simprocAttr]
  repeat (first | refine ftS (by kernel_rfl) ?_ | refine And.intro (by omega) ?_)
  refine aops_fn (hM) (hidB rfl) rfl ?_
  simp (maxSteps := 4000000) only [d1, d2, c3, e6, d4, pTh, pProg, pMc, pInts, pI, tvl, simprocAttr]
  repeat (first | refine ftS (by kernel_rfl) ?_ | refine And.intro (by omega) ?_)
  refine aops_fn (hI) (hidB rfl) rfl ?_
  have e7 : (m.locks.map fun x => [PV.int .i64 x])[q]? = some [.int .i64 l] := by simp [hq, hl]
  simp (maxSteps := 4000000) only [d5, e7, f2, Int.reduceBEq, lsb, pTh, pCode, pProg, pMc, pInts, pI, tvl, simprocAttr]
  repeat (first | refine ftS (by kernel_rfl) ?_ | refine And.intro (by omega) ?_)
  all_goals (first | rfl | trivial | skip)
end Av
end Go.Proofs.Ytbkbppllcjcmhaa
