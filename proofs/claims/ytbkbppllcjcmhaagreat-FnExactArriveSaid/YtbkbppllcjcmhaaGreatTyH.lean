/-
  What laws ask of values told plainly: whether marks are there.
-/
import Derived.Test.YtbkbppllcjcmhaaGreatTyMs
set_option linter.unusedSimpArgs false
set_option linter.unusedVariables false
namespace Go.Proofs.YtbkbppllcjcmhaaGreat
open Go.RowKit
namespace Av
set_option maxRecDepth 10000 in
set_option maxHeartbeats 4000000 in
theorem heldIntS_ok (R : List (List PV)) (hs : ShIntS R) (k : Int) (h0 : 0 ≤ k) (h1 : (mkR R k).2 ≤ 4611686018427387904) : FnOk E.P 63 [.lst 3 (mkR R k).1, pI k] (pI (mkR R k).2) true := by
  obtain ⟨hn, hs⟩ := hs
  have hl := mkR_len R k
  refine fn_ok mixed Tryz.func63 rfl (by kernel_rfl) _ Tryz.results63 _ Tryz.ntmps63 (by simp) (by kernel_rfl) ?_
  simp (maxSteps := 2000000) only [hl, pI, tvs, simprocAttr]
  repeat (first | refine ftS (by kernel_rfl) ?_ | refine And.intro (by omega) ?_)
  refine awp_loop (X := Nat) (fun m => [(0, .pv (.lst 3 (mkR R k).1)), (1, .pv (.int .i64 (mkR (R.take m) k).2)), (5, .pv (.int .i64 m))]) (fun m => []) (fun m => m ≤ R.length) (fun m => R.length - m) 100 0 (Nat.zero_le _) (by simp (maxSteps := 2000000) only [List.take_zero, mkR, pI, tvs, simprocAttr]; try rfl) (fun m hm => ?_)
  obtain ⟨q, hq⟩ : ∃ q, q = (mkR (R.take m) k).2 := ⟨_, rfl⟩
  have hq0 : 0 ≤ q := by rw [hq]; exact Int.le_trans h0 (mkR_le _ _)
  by_cases hlt : m < R.length
  · have d1 : decide ((m : Int) < (R.length : Int)) = true := by simpa using hlt
    have e0 : R[m]? = some R[m] := List.getElem?_eq_getElem hlt
    have hr := hs R[m] (List.getElem_mem hlt)
    generalize R[m] = r at e0 hr
    have e1 := mkR_at (k := k) e0
    have e2 : (mkR (R.take (m + 1)) k).2 = (mkL r q).2 := by rw [mkR_take e0, hq]
    have h3 := mkR_mono R (m + 1) k
    rw [← hq] at e1
    rw [e2] at h3
    obtain ⟨a0, rfl⟩ := hr
    simp only [mkL, mkP, pI] at e1 e2 h3
    simp (maxSteps := 2000000) only [d1, e1, hl, ← hq, pI, tvs, simprocAttr]
    repeat (first | refine ftS (by kernel_rfl) ?_ | refine And.intro (by omega) ?_)
    refine ⟨m + 1, ?_, ?_, ?_⟩
    · omega
    · omega
    · try simp only [e2, true_and, and_true]
      first | omega | (refine ⟨?_, ?_⟩ <;> omega)
  · have d1 : decide ((m : Int) < (R.length : Int)) = false := by simpa using hlt
    have e1 : R.take m = R := List.take_of_length_le (by omega)
    rw [e1]
    simp (maxSteps := 2000000) only [d1, hl, pI, tvs, simprocAttr]
    repeat (first | refine ftS (by kernel_rfl) ?_ | refine And.intro (by omega) ?_)
    all_goals (first | rfl | trivial | skip)
set_option maxRecDepth 10000 in
set_option maxHeartbeats 4000000 in
theorem heldThreadS_ok (R : List (List PV)) (hs : ShThreadS R) (k : Int) (h0 : 0 ≤ k) (h1 : (mkR R k).2 ≤ 4611686018427387904) : FnOk E.P 62 [.lst 115 (mkR R k).1, pI k] (pI (mkR R k).2) true := by
  obtain ⟨hn, hs⟩ := hs
  have hl := mkR_len R k
  refine fn_ok mixed Tryz.func62 rfl (by kernel_rfl) _ Tryz.results62 _ Tryz.ntmps62 (by simp) (by kernel_rfl) ?_
  simp (maxSteps := 2000000) only [hl, pI, tvs, simprocAttr]
  repeat (first | refine ftS (by kernel_rfl) ?_ | refine And.intro (by omega) ?_)
  refine awp_loop (X := Nat) (fun m => [(0, .pv (.lst 115 (mkR R k).1)), (1, .pv (.int .i64 (mkR (R.take m) k).2)), (5, .pv (.int .i64 m))]) (fun m => []) (fun m => m ≤ R.length) (fun m => R.length - m) 100 0 (Nat.zero_le _) (by simp (maxSteps := 2000000) only [List.take_zero, mkR, pI, tvs, simprocAttr]; try rfl) (fun m hm => ?_)
  obtain ⟨q, hq⟩ : ∃ q, q = (mkR (R.take m) k).2 := ⟨_, rfl⟩
  have hq0 : 0 ≤ q := by rw [hq]; exact Int.le_trans h0 (mkR_le _ _)
  by_cases hlt : m < R.length
  · have d1 : decide ((m : Int) < (R.length : Int)) = true := by simpa using hlt
    have e0 : R[m]? = some R[m] := List.getElem?_eq_getElem hlt
    have hr := hs R[m] (List.getElem_mem hlt)
    generalize R[m] = r at e0 hr
    have e1 := mkR_at (k := k) e0
    have e2 : (mkR (R.take (m + 1)) k).2 = (mkL r q).2 := by rw [mkR_take e0, hq]
    have h3 := mkR_mono R (m + 1) k
    rw [← hq] at e1
    rw [e2] at h3
    obtain ⟨a0, a1, a2, a3, rfl, s1, s2⟩ := hr
    obtain ⟨q1, f1⟩ : ∃ z, z = (mkR a1 (q + 1)).2 := ⟨_, rfl⟩
    have l1 : q + 1 ≤ q1 := by rw [f1]; exact mkR_le _ _
    obtain ⟨q2, f2⟩ : ∃ z, z = (mkR a2 (q1)).2 := ⟨_, rfl⟩
    have l2 : q1 ≤ q2 := by rw [f2]; exact mkR_le _ _
    simp only [mkL, mkP, pI, ← f1, ← f2] at e1 e2 h3
    have d2_1 : decide (q1 < 0) = false := by simp; omega
    have hc1 := heldIntS_ok a1 s1 (q + 1) (by omega) (by rw [← f1]; omega)
    rw [← f1] at hc1
    have d2_2 : decide (q2 < 0) = false := by simp; omega
    have hc2 := heldIntS_ok a2 s2 (q1) (by omega) (by rw [← f2]; omega)
    rw [← f2] at hc2
    simp (maxSteps := 2000000) only [d1, e1, hl, ← hq, d2_1, d2_2, pI, tvs, simprocAttr]
    repeat (first | refine ftS (by kernel_rfl) ?_ | refine And.intro (by omega) ?_)
    refine aops_fn (hc1) (hidB rfl) rfl ?_
    simp (maxSteps := 2000000) only [d1, e1, hl, ← hq, d2_1, d2_2, pI, tvs, simprocAttr]
    repeat (first | refine ftS (by kernel_rfl) ?_ | refine And.intro (by omega) ?_)
    refine aops_fn (hc2) (hidB rfl) rfl ?_
    simp (maxSteps := 2000000) only [d1, e1, hl, ← hq, d2_1, d2_2, pI, tvs, simprocAttr]
    repeat (first | refine ftS (by kernel_rfl) ?_ | refine And.intro (by omega) ?_)
    refine ⟨m + 1, ?_, ?_, ?_⟩
    · omega
    · omega
    · try simp only [e2, true_and, and_true]
      first | omega | (refine ⟨?_, ?_⟩ <;> omega)
  · have d1 : decide ((m : Int) < (R.length : Int)) = false := by simpa using hlt
    have e1 : R.take m = R := List.take_of_length_le (by omega)
    rw [e1]
    simp (maxSteps := 2000000) only [d1, hl, pI, tvs, simprocAttr]
    repeat (first | refine ftS (by kernel_rfl) ?_ | refine And.intro (by omega) ?_)
    all_goals (first | rfl | trivial | skip)
set_option maxRecDepth 10000 in
set_option maxHeartbeats 4000000 in
theorem heldMachine_ok (x0 : List (List PV)) (x1 : List (List PV)) (x2 : List (List PV)) (x3 : List (List PV)) (s0 : ShThreadS x0) (s1 : ShIntS x1) (s2 : ShIntS x2) (s3 : ShIntS x3) (k : Int) (h0 : 0 ≤ k) (h1 : (mkR x3 (mkR x2 (mkR x1 (mkR x0 k).2).2).2).2 ≤ 4611686018427387904) : FnOk E.P 30 [.agg [.lst 115 (mkR x0 k).1, .lst 3 (mkR x1 (mkR x0 k).2).1, .lst 3 (mkR x2 (mkR x1 (mkR x0 k).2).2).1, .lst 3 (mkR x3 (mkR x2 (mkR x1 (mkR x0 k).2).2).2).1], pI k] (pI (mkR x3 (mkR x2 (mkR x1 (mkR x0 k).2).2).2).2) true := by
  obtain ⟨q1, f1⟩ : ∃ z, z = (mkR x0 k).2 := ⟨_, rfl⟩
  have l1 : k ≤ q1 := by rw [f1]; exact mkR_le _ _
  obtain ⟨q2, f2⟩ : ∃ z, z = (mkR x1 q1).2 := ⟨_, rfl⟩
  have l2 : q1 ≤ q2 := by rw [f2]; exact mkR_le _ _
  obtain ⟨q3, f3⟩ : ∃ z, z = (mkR x2 q2).2 := ⟨_, rfl⟩
  have l3 : q2 ≤ q3 := by rw [f3]; exact mkR_le _ _
  obtain ⟨q4, f4⟩ : ∃ z, z = (mkR x3 q3).2 := ⟨_, rfl⟩
  have l4 : q3 ≤ q4 := by rw [f4]; exact mkR_le _ _
  simp only [← f1, ← f2, ← f3, ← f4] at h1 ⊢
  have d2_1 : decide (q1 < 0) = false := by simp; omega
  have hc1 := heldThreadS_ok x0 s0 k (by omega) (by rw [← f1]; omega)
  rw [← f1] at hc1
  have d2_2 : decide (q2 < 0) = false := by simp; omega
  have hc2 := heldIntS_ok x1 s1 q1 (by omega) (by rw [← f2]; omega)
  rw [← f2] at hc2
  have d2_3 : decide (q3 < 0) = false := by simp; omega
  have hc3 := heldIntS_ok x2 s2 q2 (by omega) (by rw [← f3]; omega)
  rw [← f3] at hc3
  have d2_4 : decide (q4 < 0) = false := by simp; omega
  have hc4 := heldIntS_ok x3 s3 q3 (by omega) (by rw [← f4]; omega)
  rw [← f4] at hc4
  refine fn_ok mixed Tryz.func30 rfl (by kernel_rfl) _ Tryz.results30 _ Tryz.ntmps30 (by simp) (by kernel_rfl) ?_
  simp (maxSteps := 2000000) only [d2_1, d2_2, d2_3, d2_4, pI, tvs, simprocAttr]
  repeat (first | refine ftS (by kernel_rfl) ?_ | refine And.intro (by omega) ?_)
  refine aops_fn (hc1) (hidB rfl) rfl ?_
  simp (maxSteps := 2000000) only [d2_1, d2_2, d2_3, d2_4, pI, tvs, simprocAttr]
  repeat (first | refine ftS (by kernel_rfl) ?_ | refine And.intro (by omega) ?_)
  refine aops_fn (hc2) (hidB rfl) rfl ?_
  simp (maxSteps := 2000000) only [d2_1, d2_2, d2_3, d2_4, pI, tvs, simprocAttr]
  repeat (first | refine ftS (by kernel_rfl) ?_ | refine And.intro (by omega) ?_)
  refine aops_fn (hc3) (hidB rfl) rfl ?_
  simp (maxSteps := 2000000) only [d2_1, d2_2, d2_3, d2_4, pI, tvs, simprocAttr]
  repeat (first | refine ftS (by kernel_rfl) ?_ | refine And.intro (by omega) ?_)
  refine aops_fn (hc4) (hidB rfl) rfl ?_
  simp (maxSteps := 2000000) only [d2_1, d2_2, d2_3, d2_4, pI, tvs, simprocAttr]
  repeat (first | refine ftS (by kernel_rfl) ?_ | refine And.intro (by omega) ?_)
  all_goals (first | rfl | trivial | skip)
end Av
end Go.Proofs.YtbkbppllcjcmhaaGreat
