/-
  What laws ask of values told plainly: whether they are equal.
-/
import Derived.Test.YtbkbppllcjcmhaaGreatTyMs
set_option linter.unusedSimpArgs false
set_option linter.unusedVariables false
namespace Go.Proofs.YtbkbppllcjcmhaaGreat
open Go.RowKit
namespace Av
def ShProgram (r : List PV) : Prop := ∃ (a0 : List (List PV)) (a1 : Int), r = [.lst 105 a0, pI a1] ∧ ShCodeS a0
def ShProgramS (R : List (List PV)) : Prop := R.length ≤ 1048576 ∧ ∀ r ∈ R, ShProgram r
set_option maxRecDepth 10000 in
set_option maxHeartbeats 4000000 in
theorem eqIntS_ok (R : List (List PV)) (hs : ShIntS R) : FnOk E.P 58 [.lst 3 R, .lst 3 R] (.bool true) true := by
  obtain ⟨hn, hs⟩ := hs
  refine fn_ok mixed Tryz.func58 rfl (by kernel_rfl) _ Tryz.results58 _ Tryz.ntmps58 (by simp) (by kernel_rfl) ?_
  simp (maxSteps := 2000000) only [pI, tvs, simprocAttr]
  repeat (first | refine ftS (by kernel_rfl) ?_ | refine And.intro (by omega) ?_)
  refine awp_loop (X := Nat) (fun k => [(0, .pv (.lst 3 R)), (1, .pv (.lst 3 R)), (5, .pv (.int .i64 k))]) (fun k => []) (fun k => k ≤ R.length) (fun k => R.length - k) 100 0 (Nat.zero_le _) (by simp (maxSteps := 2000000) only [pI, tvs, simprocAttr]; try rfl) (fun k hk => ?_)
  by_cases hlt : k < R.length
  · have d1 : decide ((k : Int) < (R.length : Int)) = true := by simpa using hlt
    have e1 : R[k]? = some R[k] := List.getElem?_eq_getElem hlt
    have hr := hs R[k] (List.getElem_mem hlt)
    generalize R[k] = r at e1 hr
    obtain ⟨a0, rfl⟩ := hr
    simp (maxSteps := 2000000) only [d1, e1, pI, tvs, simprocAttr]
    repeat (first | refine ftS (by kernel_rfl) ?_ | refine And.intro (by omega) ?_)
    refine ⟨k + 1, ?_, ?_, ?_⟩
    · omega
    · omega
    · first | omega | (simp; done)
  · have d1 : decide ((k : Int) < (R.length : Int)) = false := by simpa using hlt
    simp (maxSteps := 2000000) only [d1, pI, tvs, simprocAttr]
    repeat (first | refine ftS (by kernel_rfl) ?_ | refine And.intro (by omega) ?_)
    all_goals (first | rfl | trivial | skip)
set_option maxRecDepth 10000 in
set_option maxHeartbeats 4000000 in
theorem eqCode_ok (r : List PV) (hs : ShCode r) : FnOk E.P 71 [.agg r, .agg r] (.bool true) true := by
  obtain ⟨a0, a1, a2, a3, rfl⟩ := hs
  refine fn_ok mixed Tryz.func71 rfl (by kernel_rfl) _ Tryz.results71 _ Tryz.ntmps71 (by simp) (by kernel_rfl) ?_
  simp (maxSteps := 2000000) only [pI, tvs, simprocAttr]
  repeat (first | refine ftS (by kernel_rfl) ?_ | refine And.intro (by omega) ?_)
  all_goals (first | rfl | trivial | skip)
set_option maxRecDepth 10000 in
set_option maxHeartbeats 4000000 in
theorem eqCodeS_ok (R : List (List PV)) (hs : ShCodeS R) : FnOk E.P 41 [.lst 105 R, .lst 105 R] (.bool true) true := by
  obtain ⟨hn, hs⟩ := hs
  refine fn_ok mixed Tryz.func41 rfl (by kernel_rfl) _ Tryz.results41 _ Tryz.ntmps41 (by simp) (by kernel_rfl) ?_
  simp (maxSteps := 2000000) only [pI, tvs, simprocAttr]
  repeat (first | refine ftS (by kernel_rfl) ?_ | refine And.intro (by omega) ?_)
  refine awp_loop (X := Nat) (fun k => [(0, .pv (.lst 105 R)), (1, .pv (.lst 105 R)), (5, .pv (.int .i64 k))]) (fun k => []) (fun k => k ≤ R.length) (fun k => R.length - k) 100 0 (Nat.zero_le _) (by simp (maxSteps := 2000000) only [pI, tvs, simprocAttr]; try rfl) (fun k hk => ?_)
  by_cases hlt : k < R.length
  · have d1 : decide ((k : Int) < (R.length : Int)) = true := by simpa using hlt
    have e1 : R[k]? = some R[k] := List.getElem?_eq_getElem hlt
    have hr := hs R[k] (List.getElem_mem hlt)
    generalize R[k] = r at e1 hr
    have hc := eqCode_ok r hr
    obtain ⟨a0, a1, a2, a3, rfl⟩ := hr
    simp (maxSteps := 2000000) only [d1, e1, pI, tvs, simprocAttr]
    repeat (first | refine ftS (by kernel_rfl) ?_ | refine And.intro (by omega) ?_)
    refine aops_fn (hc) (hidB rfl) rfl ?_
    simp (maxSteps := 2000000) only [d1, e1, pI, tvs, simprocAttr]
    repeat (first | refine ftS (by kernel_rfl) ?_ | refine And.intro (by omega) ?_)
    refine ⟨k + 1, ?_, ?_, ?_⟩
    · omega
    · omega
    · first | omega | (simp; done)
  · have d1 : decide ((k : Int) < (R.length : Int)) = false := by simpa using hlt
    simp (maxSteps := 2000000) only [d1, pI, tvs, simprocAttr]
    repeat (first | refine ftS (by kernel_rfl) ?_ | refine And.intro (by omega) ?_)
    all_goals (first | rfl | trivial | skip)
set_option maxRecDepth 10000 in
set_option maxHeartbeats 4000000 in
theorem eqChoice_ok (r : List PV) (hs : ShChoice r) : FnOk E.P 42 [.agg r, .agg r] (.bool true) true := by
  obtain ⟨a0, a1, a2, rfl⟩ := hs
  refine fn_ok mixed Tryz.func42 rfl (by kernel_rfl) _ Tryz.results42 _ Tryz.ntmps42 (by simp) (by kernel_rfl) ?_
  simp (maxSteps := 2000000) only [pI, tvs, simprocAttr]
  repeat (first | refine ftS (by kernel_rfl) ?_ | refine And.intro (by omega) ?_)
  all_goals (first | rfl | trivial | skip)
set_option maxRecDepth 10000 in
set_option maxHeartbeats 4000000 in
theorem eqChoiceS_ok (R : List (List PV)) (hs : ShChoiceS R) : FnOk E.P 15 [.lst 71 R, .lst 71 R] (.bool true) true := by
  obtain ⟨hn, hs⟩ := hs
  refine fn_ok mixed Tryz.func15 rfl (by kernel_rfl) _ Tryz.results15 _ Tryz.ntmps15 (by simp) (by kernel_rfl) ?_
  simp (maxSteps := 2000000) only [pI, tvs, simprocAttr]
  repeat (first | refine ftS (by kernel_rfl) ?_ | refine And.intro (by omega) ?_)
  refine awp_loop (X := Nat) (fun k => [(0, .pv (.lst 71 R)), (1, .pv (.lst 71 R)), (5, .pv (.int .i64 k))]) (fun k => []) (fun k => k ≤ R.length) (fun k => R.length - k) 100 0 (Nat.zero_le _) (by simp (maxSteps := 2000000) only [pI, tvs, simprocAttr]; try rfl) (fun k hk => ?_)
  by_cases hlt : k < R.length
  · have d1 : decide ((k : Int) < (R.length : Int)) = true := by simpa using hlt
    have e1 : R[k]? = some R[k] := List.getElem?_eq_getElem hlt
    have hr := hs R[k] (List.getElem_mem hlt)
    generalize R[k] = r at e1 hr
    have hc := eqChoice_ok r hr
    obtain ⟨a0, a1, a2, rfl⟩ := hr
    simp (maxSteps := 2000000) only [d1, e1, pI, tvs, simprocAttr]
    repeat (first | refine ftS (by kernel_rfl) ?_ | refine And.intro (by omega) ?_)
    refine aops_fn (hc) (hidB rfl) rfl ?_
    simp (maxSteps := 2000000) only [d1, e1, pI, tvs, simprocAttr]
    repeat (first | refine ftS (by kernel_rfl) ?_ | refine And.intro (by omega) ?_)
    refine ⟨k + 1, ?_, ?_, ?_⟩
    · omega
    · omega
    · first | omega | (simp; done)
  · have d1 : decide ((k : Int) < (R.length : Int)) = false := by simpa using hlt
    simp (maxSteps := 2000000) only [d1, pI, tvs, simprocAttr]
    repeat (first | refine ftS (by kernel_rfl) ?_ | refine And.intro (by omega) ?_)
    all_goals (first | rfl | trivial | skip)
set_option maxRecDepth 10000 in
set_option maxHeartbeats 4000000 in
theorem eqThread_ok (r : List PV) (hs : ShThread r) : FnOk E.P 92 [.agg r, .agg r] (.bool true) true := by
  obtain ⟨a0, a1, a2, a3, rfl, s1, s2⟩ := hs
  refine fn_ok mixed Tryz.func92 rfl (by kernel_rfl) _ Tryz.results92 _ Tryz.ntmps92 (by simp) (by kernel_rfl) ?_
  simp (maxSteps := 2000000) only [pI, tvs, simprocAttr]
  repeat (first | refine ftS (by kernel_rfl) ?_ | refine And.intro (by omega) ?_)
  refine aops_fn (eqIntS_ok a1 s1) (hidB rfl) rfl ?_
  simp (maxSteps := 2000000) only [pI, tvs, simprocAttr]
  repeat (first | refine ftS (by kernel_rfl) ?_ | refine And.intro (by omega) ?_)
  refine aops_fn (eqIntS_ok a2 s2) (hidB rfl) rfl ?_
  simp (maxSteps := 2000000) only [pI, tvs, simprocAttr]
  repeat (first | refine ftS (by kernel_rfl) ?_ | refine And.intro (by omega) ?_)
  all_goals (first | rfl | trivial | skip)
set_option maxRecDepth 10000 in
set_option maxHeartbeats 4000000 in
theorem eqThreadS_ok (R : List (List PV)) (hs : ShThreadS R) : FnOk E.P 57 [.lst 115 R, .lst 115 R] (.bool true) true := by
  obtain ⟨hn, hs⟩ := hs
  refine fn_ok mixed Tryz.func57 rfl (by kernel_rfl) _ Tryz.results57 _ Tryz.ntmps57 (by simp) (by kernel_rfl) ?_
  simp (maxSteps := 2000000) only [pI, tvs, simprocAttr]
  repeat (first | refine ftS (by kernel_rfl) ?_ | refine And.intro (by omega) ?_)
  refine awp_loop (X := Nat) (fun k => [(0, .pv (.lst 115 R)), (1, .pv (.lst 115 R)), (5, .pv (.int .i64 k))]) (fun k => []) (fun k => k ≤ R.length) (fun k => R.length - k) 100 0 (Nat.zero_le _) (by simp (maxSteps := 2000000) only [pI, tvs, simprocAttr]; try rfl) (fun k hk => ?_)
  by_cases hlt : k < R.length
  · have d1 : decide ((k : Int) < (R.length : Int)) = true := by simpa using hlt
    have e1 : R[k]? = some R[k] := List.getElem?_eq_getElem hlt
    have hr := hs R[k] (List.getElem_mem hlt)
    generalize R[k] = r at e1 hr
    have hc := eqThread_ok r hr
    obtain ⟨a0, a1, a2, a3, rfl, s1, s2⟩ := hr
    simp (maxSteps := 2000000) only [d1, e1, pI, tvs, simprocAttr]
    repeat (first | refine ftS (by kernel_rfl) ?_ | refine And.intro (by omega) ?_)
    refine aops_fn (hc) (hidB rfl) rfl ?_
    simp (maxSteps := 2000000) only [d1, e1, pI, tvs, simprocAttr]
    repeat (first | refine ftS (by kernel_rfl) ?_ | refine And.intro (by omega) ?_)
    refine ⟨k + 1, ?_, ?_, ?_⟩
    · omega
    · omega
    · first | omega | (simp; done)
  · have d1 : decide ((k : Int) < (R.length : Int)) = false := by simpa using hlt
    simp (maxSteps := 2000000) only [d1, pI, tvs, simprocAttr]
    repeat (first | refine ftS (by kernel_rfl) ?_ | refine And.intro (by omega) ?_)
    all_goals (first | rfl | trivial | skip)
set_option maxRecDepth 10000 in
set_option maxHeartbeats 4000000 in
theorem eqMachine_ok (r : List PV) (hs : ShMachine r) : FnOk E.P 26 [.agg r, .agg r] (.bool true) true := by
  obtain ⟨a0, a1, a2, a3, rfl, s0, s1, s2, s3⟩ := hs
  refine fn_ok mixed Tryz.func26 rfl (by kernel_rfl) _ Tryz.results26 _ Tryz.ntmps26 (by simp) (by kernel_rfl) ?_
  simp (maxSteps := 2000000) only [pI, tvs, simprocAttr]
  repeat (first | refine ftS (by kernel_rfl) ?_ | refine And.intro (by omega) ?_)
  refine aops_fn (eqThreadS_ok a0 s0) (hidB rfl) rfl ?_
  simp (maxSteps := 2000000) only [pI, tvs, simprocAttr]
  repeat (first | refine ftS (by kernel_rfl) ?_ | refine And.intro (by omega) ?_)
  refine aops_fn (eqIntS_ok a1 s1) (hidB rfl) rfl ?_
  simp (maxSteps := 2000000) only [pI, tvs, simprocAttr]
  repeat (first | refine ftS (by kernel_rfl) ?_ | refine And.intro (by omega) ?_)
  refine aops_fn (eqIntS_ok a2 s2) (hidB rfl) rfl ?_
  simp (maxSteps := 2000000) only [pI, tvs, simprocAttr]
  repeat (first | refine ftS (by kernel_rfl) ?_ | refine And.intro (by omega) ?_)
  refine aops_fn (eqIntS_ok a3 s3) (hidB rfl) rfl ?_
  simp (maxSteps := 2000000) only [pI, tvs, simprocAttr]
  repeat (first | refine ftS (by kernel_rfl) ?_ | refine And.intro (by omega) ?_)
  all_goals (first | rfl | trivial | skip)
set_option maxRecDepth 10000 in
set_option maxHeartbeats 4000000 in
theorem eqProgram_ok (r : List PV) (hs : ShProgram r) : FnOk E.P 14 [.agg r, .agg r] (.bool true) true := by
  obtain ⟨a0, a1, rfl, s0⟩ := hs
  refine fn_ok mixed Tryz.func14 rfl (by kernel_rfl) _ Tryz.results14 _ Tryz.ntmps14 (by simp) (by kernel_rfl) ?_
  simp (maxSteps := 2000000) only [pI, tvs, simprocAttr]
  repeat (first | refine ftS (by kernel_rfl) ?_ | refine And.intro (by omega) ?_)
  refine aops_fn (eqCodeS_ok a0 s0) (hidB rfl) rfl ?_
  simp (maxSteps := 2000000) only [pI, tvs, simprocAttr]
  repeat (first | refine ftS (by kernel_rfl) ?_ | refine And.intro (by omega) ?_)
  all_goals (first | rfl | trivial | skip)
end Av
end Go.Proofs.YtbkbppllcjcmhaaGreat
