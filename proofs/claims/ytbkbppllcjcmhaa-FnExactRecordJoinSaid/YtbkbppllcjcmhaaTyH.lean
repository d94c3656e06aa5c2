/-
  What laws ask of values told plainly: whether marks are there.
-/
import Derived.Test.YtbkbppllcjcmhaaTyMs
set_option linter.unusedSimpArgs false
set_option linter.unusedVariables false
namespace Go.Proofs.Ytbkbppllcjcmhaa
open Go.RowKit
namespace Av
set_option maxRecDepth 10000 in
set_option maxHeartbeats 4000000 in
theorem heldIntS_ok (R : List (List PV)) (hs : ShIntS R) (k : Int) (h0 : 0 ≤ k) (h1 : (mkR R k).2 ≤ 4611686018427387904) : FnOk E.P 81 [.lst 3 (mkR R k).1, pI k] (pI (mkR R k).2) true := by
  obtain ⟨hn, hs⟩ := hs
  have hl := mkR_len R k
  refine fn_ok mixed Try.func81 rfl (by kernel_rfl) _ Try.results81 _ Try.ntmps81 (by simp) (by kernel_rfl) ?_
  simp (maxSteps := 2000000) only [hl, pI, tvs, simprocAttr]
  repeat (first | refine ftS (by kernel_rfl) ?_ | refine And.intro (by omega) ?_)
  refine awp_loop (X := Nat) (fun m => [(0, .pv (.lst 3 (mkR R k).1)), (1, .pv (.int .i64 (mkR (R.take m) k).2)), (5, .pv (.int .i64 m))]) (fun m => []) (fun m => m ≤ R.length) (fun m => R.length - m) 100 0 (Nat.zero_le _) (by simp (maxSteps := 2000000) only [List.take_zero, mkR, pI, tvs, simprocAttr]; try rfl) (fun m hm => ?_)
  obtain ⟨q, hq⟩ : ∃ q, q = (mkR (R.take m) k).2 := ⟨_, rfl⟩
  have hq0 : 0 ≤ q := by rw [hq]; exact Int.le_trans h0 (mkR_le _ _)
  by_cases hlt : m < R.length
  · have d1 : decide ((m : Int) < (R.length : Int)) = true := by simpa using hlt
    have e0 : R[m]? = some R[m] := List.getElem?_eq_getElem hlt
    have hr := hs R[m] (List.getElem_mem hlt)
    generalize R[m] = r at e0 hr
    have e1 := mkR_at (k := k) e0
    have e2 : (mkR (R.take (m + 1)) k).2 = (mkL r q).2 := by rw [mkR_take e0, hq]
    have h3 := mkR_mono R (m + 1) k
    rw [← hq] at e1
    rw [e2] at h3
    obtain ⟨a0, rfl⟩ := hr
    simp only [mkL, mkP, pI] at e1 e2 h3
    simp (maxSteps := 2000000) only [d1, e1, hl, ← hq, pI, tvs, simprocAttr]
    repeat (first | refine ftS (by kernel_rfl) ?_ | refine And.intro (by omega) ?_)
    refine ⟨m + 1, ?_, ?_, ?_⟩
    · omega
    · omega
    · try simp only [e2, true_and, and_true]
      first | omega | (refine ⟨?_, ?_⟩ <;> omega)
  · have d1 : decide ((m : Int) < (R.length : Int)) = false := by simpa using hlt
    have e1 : R.take m = R := List.take_of_length_le (by omega)
    rw [e1]
    simp (maxSteps := 2000000) only [d1, hl, pI, tvs, simprocAttr]
    repeat (first | refine ftS (by kernel_rfl) ?_ | refine And.intro (by omega) ?_)
    all_goals (first | rfl | trivial | skip)
set_option maxRecDepth 10000 in
set_option maxHeartbeats 4000000 in
theorem heldSliceS_ok (R : List (List PV)) (hs : ShSliceS R) (k : Int) (h0 : 0 ≤ k) (h1 : (mkR R k).2 ≤ 4611686018427387904) : FnOk E.P 80 [.lst 104 (mkR R k).1, pI k] (pI (mkR R k).2) true := by
  obtain ⟨hn, hs⟩ := hs
  have hl := mkR_len R k
  refine fn_ok mixed Try.func80 rfl (by kernel_rfl) _ Try.results80 _ Try.ntmps80 (by simp) (by kernel_rfl) ?_
  simp (maxSteps := 2000000) only [hl, pI, tvs, simprocAttr]
  repeat (first | refine ftS (by kernel_rfl) ?_ | refine And.intro (by omega) ?_)
  refine awp_loop (X := Nat) (fun m => [(0, .pv (.lst 104 (mkR R k).1)), (1, .pv (.int .i64 (mkR (R.take m) k).2)), (5, .pv (.int .i64 m))]) (fun m => []) (fun m => m ≤ R.length) (fun m => R.length - m) 100 0 (Nat.zero_le _) (by simp (maxSteps := 2000000) only [List.take_zero, mkR, pI, tvs, simprocAttr]; try rfl) (fun m hm => ?_)
  obtain ⟨q, hq⟩ : ∃ q, q = (mkR (R.take m) k).2 := ⟨_, rfl⟩
  have hq0 : 0 ≤ q := by rw [hq]; exact Int.le_trans h0 (mkR_le _ _)
  by_cases hlt : m < R.length
  · have d1 : decide ((m : Int) < (R.length : Int)) = true := by simpa using hlt
    have e0 : R[m]? = some R[m] := List.getElem?_eq_getElem hlt
    have hr := hs R[m] (List.getElem_mem hlt)
    generalize R[m] = r at e0 hr
    have e1 := mkR_at (k := k) e0
    have e2 : (mkR (R.take (m + 1)) k).2 = (mkL r q).2 := by rw [mkR_take e0, hq]
    have h3 := mkR_mono R (m + 1) k
    rw [← hq] at e1
    rw [e2] at h3
    obtain ⟨a0, a1, a2, rfl⟩ := hr
    simp only [mkL, mkP, pI] at e1 e2 h3
    simp (maxSteps := 2000000) only [d1, e1, hl, ← hq, pI, tvs, simprocAttr]
    repeat (first | refine ftS (by kernel_rfl) ?_ | refine And.intro (by omega) ?_)
    refine ⟨m + 1, ?_, ?_, ?_⟩
    · omega
    · omega
    · try simp only [e2, true_and, and_true]
      first | omega | (refine ⟨?_, ?_⟩ <;> omega)
  · have d1 : decide ((m : Int) < (R.length : Int)) = false := by simpa using hlt
    have e1 : R.take m = R := List.take_of_length_le (by omega)
    rw [e1]
    simp (maxSteps := 2000000) only [d1, hl, pI, tvs, simprocAttr]
    repeat (first | refine ftS (by kernel_rfl) ?_ | refine And.intro (by omega) ?_)
    all_goals (first | rfl | trivial | skip)
set_option maxRecDepth 10000 in
set_option maxHeartbeats 4000000 in
theorem heldThreadS_ok (R : List (List PV)) (hs : ShThreadS R) (k : Int) (h0 : 0 ≤ k) (h1 : (mkR R k).2 ≤ 4611686018427387904) : FnOk E.P 91 [.lst 134 (mkR R k).1, pI k] (pI (mkR R k).2) true := by
  obtain ⟨hn, hs⟩ := hs
  have hl := mkR_len R k
  refine fn_ok mixed Try.func91 rfl (by kernel_rfl) _ Try.results91 _ Try.ntmps91 (by simp) (by kernel_rfl) ?_
  simp (maxSteps := 2000000) only [hl, pI, tvs, simprocAttr]
  repeat (first | refine ftS (by kernel_rfl) ?_ | refine And.intro (by omega) ?_)
  refine awp_loop (X := Nat) (fun m => [(0, .pv (.lst 134 (mkR R k).1)), (1, .pv (.int .i64 (mkR (R.take m) k).2)), (5, .pv (.int .i64 m))]) (fun m => []) (fun m => m ≤ R.length) (fun m => R.length - m) 100 0 (Nat.zero_le _) (by simp (maxSteps := 2000000) only [List.take_zero, mkR, pI, tvs, simprocAttr]; try rfl) (fun m hm => ?_)
  obtain ⟨q, hq⟩ : ∃ q, q = (mkR (R.take m) k).2 := ⟨_, rfl⟩
  have hq0 : 0 ≤ q := by rw [hq]; exact Int.le_trans h0 (mkR_le _ _)
  by_cases hlt : m < R.length
  · have d1 : decide ((m : Int) < (R.length : Int)) = true := by simpa using hlt
    have e0 : R[m]? = some R[m] := List.getElem?_eq_getElem hlt
    have hr := hs R[m] (List.getElem_mem hlt)
    generalize R[m] = r at e0 hr
    have e1 := mkR_at (k := k) e0
    have e2 : (mkR (R.take (m + 1)) k).2 = (mkL r q).2 := by rw [mkR_take e0, hq]
    have h3 := mkR_mono R (m + 1) k
    rw [← hq] at e1
    rw [e2] at h3
    obtain ⟨a0, a1, a2, a3, rfl, s1, s2⟩ := hr
    obtain ⟨q1, f1⟩ : ∃ z, z = (mkR a1 (q + 1)).2 := ⟨_, rfl⟩
    have l1 : q + 1 ≤ q1 := by rw [f1]; exact mkR_le _ _
    obtain ⟨q2, f2⟩ : ∃ z, z = (mkR a2 (q1)).2 := ⟨_, rfl⟩
    have l2 : q1 ≤ q2 := by rw [f2]; exact mkR_le _ _
    simp only [mkL, mkP, pI, ← f1, ← f2] at e1 e2 h3
    have d2_1 : decide (q1 < 0) = false := by simp; omega
    have hc1 := heldIntS_ok a1 s1 (q + 1) (by omega) (by rw [← f1]; omega)
    rw [← f1] at hc1
    have d2_2 : decide (q2 < 0) = false := by simp; omega
    have hc2 := heldIntS_ok a2 s2 (q1) (by omega) (by rw [← f2]; omega)
    rw [← f2] at hc2
    simp (maxSteps := 2000000) only [d1, e1, hl, ← hq, d2_1, d2_2, pI, tvs, simprocAttr]
    repeat (first | refine ftS (by kernel_rfl) ?_ | refine And.intro (by omega) ?_)
    refine aops_fn (hc1) (hidB rfl) rfl ?_
    simp (maxSteps := 2000000) only [d1, e1, hl, ← hq, d2_1, d2_2, pI, tvs, simprocAttr]
    repeat (first | refine ftS (by kernel_rfl) ?_ | refine And.intro (by omega) ?_)
    refine aops_fn (hc2) (hidB rfl) rfl ?_
    simp (maxSteps := 2000000) only [d1, e1, hl, ← hq, d2_1, d2_2, pI, tvs, simprocAttr]
    repeat (first | refine ftS (by kernel_rfl) ?_ | refine And.intro (by omega) ?_)
    refine ⟨m + 1, ?_, ?_, ?_⟩
    · omega
    · omega
    · try simp only [e2, true_and, and_true]
      first | omega | (refine ⟨?_, ?_⟩ <;> omega)
  · have d1 : decide ((m : Int) < (R.length : Int)) = false := by simpa using hlt
    have e1 : R.take m = R := List.take_of_length_le (by omega)
    rw [e1]
    simp (maxSteps := 2000000) only [d1, hl, pI, tvs, simprocAttr]
    repeat (first | refine ftS (by kernel_rfl) ?_ | refine And.intro (by omega) ?_)
    all_goals (first | rfl | trivial | skip)
set_option maxRecDepth 10000 in
set_option maxHeartbeats 4000000 in
theorem heldRecord_ok (x0 : List (List PV)) (x1 : List (List PV)) (s0 : ShSliceS x0) (s1 : ShIntS x1) (k : Int) (h0 : 0 ≤ k) (h1 : (mkR x1 (mkR x0 k).2).2 ≤ 4611686018427387904) : FnOk E.P 39 [.agg [.lst 104 (mkR x0 k).1, .lst 3 (mkR x1 (mkR x0 k).2).1], pI k] (pI (mkR x1 (mkR x0 k).2).2) true := by
  obtain ⟨q1, f1⟩ : ∃ z, z = (mkR x0 k).2 := ⟨_, rfl⟩
  have l1 : k ≤ q1 := by rw [f1]; exact mkR_le _ _
  obtain ⟨q2, f2⟩ : ∃ z, z = (mkR x1 q1).2 := ⟨_, rfl⟩
  have l2 : q1 ≤ q2 := by rw [f2]; exact mkR_le _ _
  simp only [← f1, ← f2] at h1 ⊢
  have d2_1 : decide (q1 < 0) = false := by simp; omega
  have hc1 := heldSliceS_ok x0 s0 k (by omega) (by rw [← f1]; omega)
  rw [← f1] at hc1
  have d2_2 : decide (q2 < 0) = false := by simp; omega
  have hc2 := heldIntS_ok x1 s1 q1 (by omega) (by rw [← f2]; omega)
  rw [← f2] at hc2
  refine fn_ok mixed Try.func39 rfl (by kernel_rfl) _ Try.results39 _ Try.ntmps39 (by simp) (by kernel_rfl) ?_
  simp (maxSteps := 2000000) only [d2_1, d2_2, pI, tvs, simprocAttr]
  repeat (first | refine ftS (by kernel_rfl) ?_ | refine And.intro (by omega) ?_)
  refine aops_fn (hc1) (hidB rfl) rfl ?_
  simp (maxSteps := 2000000) only [d2_1, d2_2, pI, tvs, simprocAttr]
  repeat (first | refine ftS (by kernel_rfl) ?_ | refine And.intro (by omega) ?_)
  refine aops_fn (hc2) (hidB rfl) rfl ?_
  simp (maxSteps := 2000000) only [d2_1, d2_2, pI, tvs, simprocAttr]
  repeat (first | refine ftS (by kernel_rfl) ?_ | refine And.intro (by omega) ?_)
  all_goals (first | rfl | trivial | skip)
end Av
end Go.Proofs.Ytbkbppllcjcmhaa
