/-
  Chapter 2: what can be chosen, a step: the model's.
-/
import Derived.Test.YtbkbppllcjcmhaaCanA
import Derived.Test.YtbkbppllcjcmhaaCanC
set_option linter.unusedSimpArgs false
set_option linter.unusedVariables false
namespace Go.Proofs.Ytbkbppllcjcmhaa
open Go.RowKit
namespace Av
set_option maxRecDepth 10000 in
set_option maxHeartbeats 16000000 in
theorem scanA_ok {rs : List Bt.C4} {h : Int} {m : Bt.Mc} {c : Bt.Ch} (hn : rs.length ≤ 1048576) (hm : Small m) : FnOk E.P 111 [pProg rs h, .agg (pMc m), .agg (pCh c)] (.bool (Bt.canDo rs h m c)) true := by
  obtain ⟨who, kd, rep⟩ := c
  have hM := smach_ok (rs := rs) (h := h) (m := m) hn hm
  have hI := sinstrA_ok (rs := rs) (h := h) (m := m) (who := who) hn hm
  have no := @Bt.canDo_no rs h m ⟨who, kd, rep⟩
  simp only at no
  by_cases hz : kd = 0 ∧ Bt.machOk rs h m = true ∧ Bt.runs m who = true
  · obtain ⟨rfl, h1, h2⟩ := hz
    obtain ⟨w0, w1⟩ := Bt.runs_lt h2
    obtain ⟨k, rfl⟩ : ∃ k : Nat, who = k := ⟨who.toNat, by omega⟩
    have hk : k < m.ths.length := by omega
    have hst : m.ths[k].st = 0 := by rw [Bt.runs_in hk, beq_iff_eq] at h2; exact h2
    have hlk := (Bt.machOk_facts h1).locks
    have hli := (Bt.machOk_facts h1).locksIn
    have htl := (Bt.machOk_facts h1).told
    have hco := fun x => @Bt.instrOf_code rs h m k x
    cases hx : Bt.instrOf rs h m k with
    | none =>
      rw [Bt.canDo_end (rep := rep) h1 hk hst hx]
      exact scan_none hn hm h1 hk hst hx
    | some x =>
      rw [Bt.canDo_at (rep := rep) h1 hk hst hx]
      have hcd := hco x hx
      obtain ⟨op, a, b, c⟩ := x
      simp only at hcd
      by_cases g1 : op = 15
      · subst g1
        obtain ⟨c0, c1'⟩ := Bt.lock_bounds hcd (.inl rfl)
        obtain ⟨q, rfl⟩ : ∃ q : Nat, c = q := ⟨c.toNat, by omega⟩
        have hq : q < m.locks.length := by omega
        rw [Bt.canDoI_lock (x := ⟨15, a, b, q⟩) rfl hq rfl]
        have hb := Bt.inR_at hli hq
        by_cases g2 : m.locks[q] ≥ 0
        · have e : ((m.locks[q] == -1) && rep == 0) = false := by rw [show (m.locks[q] == -1) = false by rw [beq_eq_false_iff_ne]; omega]; rfl
          rw [e]
          exact scan_lockT hn hm h1 hk hst hx hq rfl (by simpa using g2)
        · have e : ((m.locks[q] == -1) && rep == 0) = (rep == 0) := by rw [show (m.locks[q] == -1) = true by rw [beq_iff_eq]; omega]; rfl
          rw [e]
          exact scan_lockF hn hm h1 hk hst hx hq rfl (by simpa using g2)
      have f1 : (op == 15) = false := by simpa using g1
      by_cases g2 : op = 14
      · subst g2
        rw [Bt.canDoI_tell (x := ⟨14, a, b, c⟩) rfl]
        by_cases g3 : m.told.length = 1000
        · rw [show decide (m.told.length < 1000) = false by rw [decide_eq_false_iff_not]; omega, Bool.false_and]
          exact scan_tellT hn hm h1 hk hst hx (by rw [beq_iff_eq]; omega)
        · rw [show decide (m.told.length < 1000) = true by rw [decide_eq_true_eq]; omega, Bool.true_and]
          exact scan_tellF hn hm h1 hk hst hx (by rw [beq_eq_false_iff_ne]; omega)
      have f2 : (op == 14) = false := by simpa using g2
      by_cases g3 : op = 13
      · subst g3
        rw [Bt.canDoI_ask (x := ⟨13, a, b, c⟩) rfl]
        by_cases g4 : 0 ≤ rep
        · rw [show decide (0 ≤ rep) = true by simpa using g4, Bool.true_and]
          exact scan_askT hn hm h1 hk hst hx (by simpa using g4)
        · rw [show decide (0 ≤ rep) = false by simpa using g4, Bool.false_and]
          exact scan_askF hn hm h1 hk hst hx (by simpa using g4)
      have f3 : (op == 13) = false := by simpa using g3
      rw [Bt.canDoI_else g1 g2 g3]
      exact scan_else hn hm h1 hk hst hx f1 f2 f3
  refine fn_ok mixed Try.func111 rfl (by kernel_rfl) _ Try.results111 _ Try.ntmps111 (by simp) (by kernel_rfl) ?_
  simp (maxSteps := 4000000) only [pProg, pMc, pCh, pInts, pI, tvl, simprocAttr]
  repeat (first | refine ftS (by kernel_rfl) ?_ | refine And.intro (by omega) ?_)
  refine aops_fn (hM) (hidB rfl) rfl ?_
  cases h1 : Bt.machOk rs h m
  · have e := no (.inl h1)
    repeat (first | (refine aops_fnX rfl ?_ ?_; focus (simp (maxSteps := 4000000) only [sks, e, pProg, pMc, pInts, pI, tvl, simprocAttr]; done)) | (simp (maxSteps := 4000000) only [e, pProg, pMc, pInts, pI, tvl, simprocAttr]) | refine ftS (by kernel_rfl) ?_ | refine And.intro (by omega) ?_)
    all_goals (first | rfl | trivial | skip)
  by_cases c1 : who < 0
  · have d1 : decide (who < 0) = true := by simpa using c1
    have e := no (.inr (Bt.runs_none (Bt.thAt_neg c1)))
    repeat (first | (refine aops_fnX rfl ?_ ?_; focus (simp (maxSteps := 4000000) only [sks, d1, e, pProg, pMc, pInts, pI, tvl, simprocAttr]; done)) | (simp (maxSteps := 4000000) only [d1, e, pProg, pMc, pInts, pI, tvl, simprocAttr]) | refine ftS (by kernel_rfl) ?_ | refine And.intro (by omega) ?_)
    all_goals (first | rfl | trivial | skip)
  have d1 : decide (who < 0) = false := by simpa using c1
  by_cases c2 : who ≥ (m.ths.length : Int)
  · have d2 : decide (who ≥ (m.ths.length : Int)) = true := by simpa using c2
    have e := no (.inr (Bt.runs_none (Bt.thAt_out c2)))
    repeat (first | (refine aops_fnX rfl ?_ ?_; focus (simp (maxSteps := 4000000) only [sks, d1, d2, e, pProg, pMc, pInts, pI, tvl, simprocAttr]; done)) | (simp (maxSteps := 4000000) only [d1, d2, e, pProg, pMc, pInts, pI, tvl, simprocAttr]) | refine ftS (by kernel_rfl) ?_ | refine And.intro (by omega) ?_)
    all_goals (first | rfl | trivial | skip)
  have d2 : decide (who ≥ (m.ths.length : Int)) = false := by simpa using c2
  obtain ⟨k, rfl⟩ : ∃ k : Nat, who = k := ⟨who.toNat, by omega⟩
  have hk : k < m.ths.length := by omega
  have hrun := Bt.runs_in hk
  have e6 : (m.ths.map pTh)[k]? = some (pTh m.ths[k]) := by simp [hk]
  cases c3 : m.ths[k].st != 0
  rotate_left
  · have e := no (.inr (hrun.trans (by simpa using c3)))
    generalize m.ths[k] = t at *
    repeat (first | (refine aops_fnX rfl ?_ ?_; focus (simp (maxSteps := 4000000) only [sks, d1, d2, c3, e6, e, pTh, pProg, pMc, pInts, pI, tvl, simprocAttr]; done)) | (simp (maxSteps := 4000000) only [d1, d2, c3, e6, e, pTh, pProg, pMc, pInts, pI, tvl, simprocAttr]) | refine ftS (by kernel_rfl) ?_ | refine And.intro (by omega) ?_)
    all_goals (first | rfl | trivial | skip)
  have hst : m.ths[k].st = 0 := by simpa using c3
  by_cases c4 : kd = 1
  · subst c4
    have e := Bt.canDo_sig (rep := rep) h1 hk hst
    rw [e]
    generalize m.ths[k] = t at *
    by_cases c5 : 0 ≤ h
    · have d5 : decide (h ≥ 0) = true := by simpa using c5
      have d5' : decide (0 ≤ h) = true := by simpa using c5
      by_cases c6 : t.stack.length < 6
      · have d6 : decide ((t.stack.length : Int) < 6) = true := by simp; omega
        have d6' : decide (t.stack.length < 6) = true := by simpa using c6
        repeat (first | (refine aops_fnX rfl ?_ ?_; focus (simp (maxSteps := 4000000) only [sks, d1, d2, c3, e6, d5, d6, d5', d6', Int.reduceBEq, Bool.true_and, pTh, pProg, pMc, pInts, pI, tvl, simprocAttr]; done)) | (simp (maxSteps := 4000000) only [d1, d2, c3, e6, d5, d6, d5', d6', Int.reduceBEq, Bool.true_and, pTh, pProg, pMc, pInts, pI, tvl, simprocAttr]) | refine ftS (by kernel_rfl) ?_ | refine And.intro (by omega) ?_)
        all_goals (first | rfl | trivial | skip)
      · have d6 : decide ((t.stack.length : Int) < 6) = false := by simp; omega
        have d6' : decide (t.stack.length < 6) = false := by simpa using c6
        repeat (first | (refine aops_fnX rfl ?_ ?_; focus (simp (maxSteps := 4000000) only [sks, d1, d2, c3, e6, d5, d6, d5', d6', Int.reduceBEq, Bool.false_and, Bool.and_false, pTh, pProg, pMc, pInts, pI, tvl, simprocAttr]; done)) | (simp (maxSteps := 4000000) only [d1, d2, c3, e6, d5, d6, d5', d6', Int.reduceBEq, Bool.false_and, Bool.and_false, pTh, pProg, pMc, pInts, pI, tvl, simprocAttr]) | refine ftS (by kernel_rfl) ?_ | refine And.intro (by omega) ?_)
        all_goals (first | rfl | trivial | skip)
    · have d5 : decide (h ≥ 0) = false := by simpa using c5
      have d5' : decide (0 ≤ h) = false := by simpa using c5
      repeat (first | (refine aops_fnX rfl ?_ ?_; focus (simp (maxSteps := 4000000) only [sks, d1, d2, c3, e6, d5, d5', Int.reduceBEq, Bool.false_and, pTh, pProg, pMc, pInts, pI, tvl, simprocAttr]; done)) | (simp (maxSteps := 4000000) only [d1, d2, c3, e6, d5, d5', Int.reduceBEq, Bool.false_and, pTh, pProg, pMc, pInts, pI, tvl, simprocAttr]) | refine ftS (by kernel_rfl) ?_ | refine And.intro (by omega) ?_)
      all_goals (first | rfl | trivial | skip)
  have d4 : (kd == 1) = false := by simpa using c4
  have hlk := (Bt.machOk_facts h1).locks
  have hli := (Bt.machOk_facts h1).locksIn
  have htl := (Bt.machOk_facts h1).told
  have c5 : kd ≠ 0 := fun e => hz ⟨e, h1, hrun.trans (by rw [hst]; rfl)⟩
  have d5 : (kd != 0) = true := by simpa using c5
  have e := Bt.canDo_else (rep := rep) h1 hk hst c4 c5
  generalize m.ths[k] = t at *
  simp (maxSteps := 4000000) only [d1, d2, c3, e6, d4, pTh, pProg, pMc, pInts, pI, tvl, simprocAttr]
  repeat (first | refine ftS (by kernel_rfl) ?_ | refine And.intro (by omega) ?_)
  refine aops_fn (hI) (hidB rfl) rfl ?_
  generalize Bt.instrOf rs h m k = X at *
  simp (maxSteps := 4000000) only [d5, e, pTh, pCode, pProg, pMc, pInts, pI, tvl, simprocAttr]
  repeat (first | refine ftS (by kernel_rfl) ?_ | refine And.intro (by omega) ?_)
  all_goals (first | rfl | trivial | skip)
end Av
end Go.Proofs.Ytbkbppllcjcmhaa
