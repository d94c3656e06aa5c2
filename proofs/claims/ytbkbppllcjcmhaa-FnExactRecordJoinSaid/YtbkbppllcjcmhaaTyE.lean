/-
  What laws ask of values told plainly: whether they are equal.
-/
import Derived.Test.YtbkbppllcjcmhaaTyMs
set_option linter.unusedSimpArgs false
set_option linter.unusedVariables false
namespace Go.Proofs.Ytbkbppllcjcmhaa
open Go.RowKit
namespace Av
def ShProgram (r : List PV) : Prop := ∃ (a0 : List (List PV)) (a1 : Int), r = [.lst 141 a0, pI a1] ∧ ShCodeS a0
def ShProgramS (R : List (List PV)) : Prop := R.length ≤ 1048576 ∧ ∀ r ∈ R, ShProgram r
def ShRecord (r : List PV) : Prop := ∃ (a0 : List (List PV)) (a1 : List (List PV)), r = [.lst 104 a0, .lst 3 a1] ∧ ShSliceS a0 ∧ ShIntS a1
def ShRecordS (R : List (List PV)) : Prop := R.length ≤ 1048576 ∧ ∀ r ∈ R, ShRecord r
set_option maxRecDepth 10000 in
set_option maxHeartbeats 4000000 in
theorem eqIntS_ok (R : List (List PV)) (hs : ShIntS R) : FnOk E.P 65 [.lst 3 R, .lst 3 R] (.bool true) true := by
  obtain ⟨hn, hs⟩ := hs
  refine fn_ok mixed Try.func65 rfl (by kernel_rfl) _ Try.results65 _ Try.ntmps65 (by simp) (by kernel_rfl) ?_
  simp (maxSteps := 2000000) only [pI, tvs, simprocAttr]
  repeat (first | refine ftS (by kernel_rfl) ?_ | refine And.intro (by omega) ?_)
  refine awp_loop (X := Nat) (fun k => [(0, .pv (.lst 3 R)), (1, .pv (.lst 3 R)), (5, .pv (.int .i64 k))]) (fun k => []) (fun k => k ≤ R.length) (fun k => R.length - k) 100 0 (Nat.zero_le _) (by simp (maxSteps := 2000000) only [pI, tvs, simprocAttr]; try rfl) (fun k hk => ?_)
  by_cases hlt : k < R.length
  · have d1 : decide ((k : Int) < (R.length : Int)) = true := by simpa using hlt
    have e1 : R[k]? = some R[k] := List.getElem?_eq_getElem hlt
    have hr := hs R[k] (List.getElem_mem hlt)
    generalize R[k] = r at e1 hr
    obtain ⟨a0, rfl⟩ := hr
    simp (maxSteps := 2000000) only [d1, e1, pI, tvs, simprocAttr]
    repeat (first | refine ftS (by kernel_rfl) ?_ | refine And.intro (by omega) ?_)
    refine ⟨k + 1, ?_, ?_, ?_⟩
    · omega
    · omega
    · first | omega | (simp; done)
  · have d1 : decide ((k : Int) < (R.length : Int)) = false := by simpa using hlt
    simp (maxSteps := 2000000) only [d1, pI, tvs, simprocAttr]
    repeat (first | refine ftS (by kernel_rfl) ?_ | refine And.intro (by omega) ?_)
    all_goals (first | rfl | trivial | skip)
set_option maxRecDepth 10000 in
set_option maxHeartbeats 4000000 in
theorem eqCode_ok (r : List PV) (hs : ShCode r) : FnOk E.P 108 [.agg r, .agg r] (.bool true) true := by
  obtain ⟨a0, a1, a2, a3, rfl⟩ := hs
  refine fn_ok mixed Try.func108 rfl (by kernel_rfl) _ Try.results108 _ Try.ntmps108 (by simp) (by kernel_rfl) ?_
  simp (maxSteps := 2000000) only [pI, tvs, simprocAttr]
  repeat (first | refine ftS (by kernel_rfl) ?_ | refine And.intro (by omega) ?_)
  all_goals (first | rfl | trivial | skip)
set_option maxRecDepth 10000 in
set_option maxHeartbeats 4000000 in
theorem eqCodeS_ok (R : List (List PV)) (hs : ShCodeS R) : FnOk E.P 76 [.lst 141 R, .lst 141 R] (.bool true) true := by
  obtain ⟨hn, hs⟩ := hs
  refine fn_ok mixed Try.func76 rfl (by kernel_rfl) _ Try.results76 _ Try.ntmps76 (by simp) (by kernel_rfl) ?_
  simp (maxSteps := 2000000) only [pI, tvs, simprocAttr]
  repeat (first | refine ftS (by kernel_rfl) ?_ | refine And.intro (by omega) ?_)
  refine awp_loop (X := Nat) (fun k => [(0, .pv (.lst 141 R)), (1, .pv (.lst 141 R)), (5, .pv (.int .i64 k))]) (fun k => []) (fun k => k ≤ R.length) (fun k => R.length - k) 100 0 (Nat.zero_le _) (by simp (maxSteps := 2000000) only [pI, tvs, simprocAttr]; try rfl) (fun k hk => ?_)
  by_cases hlt : k < R.length
  · have d1 : decide ((k : Int) < (R.length : Int)) = true := by simpa using hlt
    have e1 : R[k]? = some R[k] := List.getElem?_eq_getElem hlt
    have hr := hs R[k] (List.getElem_mem hlt)
    generalize R[k] = r at e1 hr
    have hc := eqCode_ok r hr
    obtain ⟨a0, a1, a2, a3, rfl⟩ := hr
    simp (maxSteps := 2000000) only [d1, e1, pI, tvs, simprocAttr]
    repeat (first | refine ftS (by kernel_rfl) ?_ | refine And.intro (by omega) ?_)
    refine aops_fn (hc) (hidB rfl) rfl ?_
    simp (maxSteps := 2000000) only [d1, e1, pI, tvs, simprocAttr]
    repeat (first | refine ftS (by kernel_rfl) ?_ | refine And.intro (by omega) ?_)
    refine ⟨k + 1, ?_, ?_, ?_⟩
    · omega
    · omega
    · first | omega | (simp; done)
  · have d1 : decide ((k : Int) < (R.length : Int)) = false := by simpa using hlt
    simp (maxSteps := 2000000) only [d1, pI, tvs, simprocAttr]
    repeat (first | refine ftS (by kernel_rfl) ?_ | refine And.intro (by omega) ?_)
    all_goals (first | rfl | trivial | skip)
set_option maxRecDepth 10000 in
set_option maxHeartbeats 4000000 in
theorem eqChoice_ok (r : List PV) (hs : ShChoice r) : FnOk E.P 89 [.agg r, .agg r] (.bool true) true := by
  obtain ⟨a0, a1, a2, rfl⟩ := hs
  refine fn_ok mixed Try.func89 rfl (by kernel_rfl) _ Try.results89 _ Try.ntmps89 (by simp) (by kernel_rfl) ?_
  simp (maxSteps := 2000000) only [pI, tvs, simprocAttr]
  repeat (first | refine ftS (by kernel_rfl) ?_ | refine And.intro (by omega) ?_)
  all_goals (first | rfl | trivial | skip)
set_option maxRecDepth 10000 in
set_option maxHeartbeats 4000000 in
theorem eqChoiceS_ok (R : List (List PV)) (hs : ShChoiceS R) : FnOk E.P 45 [.lst 122 R, .lst 122 R] (.bool true) true := by
  obtain ⟨hn, hs⟩ := hs
  refine fn_ok mixed Try.func45 rfl (by kernel_rfl) _ Try.results45 _ Try.ntmps45 (by simp) (by kernel_rfl) ?_
  simp (maxSteps := 2000000) only [pI, tvs, simprocAttr]
  repeat (first | refine ftS (by kernel_rfl) ?_ | refine And.intro (by omega) ?_)
  refine awp_loop (X := Nat) (fun k => [(0, .pv (.lst 122 R)), (1, .pv (.lst 122 R)), (5, .pv (.int .i64 k))]) (fun k => []) (fun k => k ≤ R.length) (fun k => R.length - k) 100 0 (Nat.zero_le _) (by simp (maxSteps := 2000000) only [pI, tvs, simprocAttr]; try rfl) (fun k hk => ?_)
  by_cases hlt : k < R.length
  · have d1 : decide ((k : Int) < (R.length : Int)) = true := by simpa using hlt
    have e1 : R[k]? = some R[k] := List.getElem?_eq_getElem hlt
    have hr := hs R[k] (List.getElem_mem hlt)
    generalize R[k] = r at e1 hr
    have hc := eqChoice_ok r hr
    obtain ⟨a0, a1, a2, rfl⟩ := hr
    simp (maxSteps := 2000000) only [d1, e1, pI, tvs, simprocAttr]
    repeat (first | refine ftS (by kernel_rfl) ?_ | refine And.intro (by omega) ?_)
    refine aops_fn (hc) (hidB rfl) rfl ?_
    simp (maxSteps := 2000000) only [d1, e1, pI, tvs, simprocAttr]
    repeat (first | refine ftS (by kernel_rfl) ?_ | refine And.intro (by omega) ?_)
    refine ⟨k + 1, ?_, ?_, ?_⟩
    · omega
    · omega
    · first | omega | (simp; done)
  · have d1 : decide ((k : Int) < (R.length : Int)) = false := by simpa using hlt
    simp (maxSteps := 2000000) only [d1, pI, tvs, simprocAttr]
    repeat (first | refine ftS (by kernel_rfl) ?_ | refine And.intro (by omega) ?_)
    all_goals (first | rfl | trivial | skip)
set_option maxRecDepth 10000 in
set_option maxHeartbeats 4000000 in
theorem eqSlice_ok (r : List PV) (hs : ShSlice r) : FnOk E.P 107 [.agg r, .agg r] (.bool true) true := by
  obtain ⟨a0, a1, a2, rfl⟩ := hs
  refine fn_ok mixed Try.func107 rfl (by kernel_rfl) _ Try.results107 _ Try.ntmps107 (by simp) (by kernel_rfl) ?_
  simp (maxSteps := 2000000) only [pI, tvs, simprocAttr]
  repeat (first | refine ftS (by kernel_rfl) ?_ | refine And.intro (by omega) ?_)
  all_goals (first | rfl | trivial | skip)
set_option maxRecDepth 10000 in
set_option maxHeartbeats 4000000 in
theorem eqSliceS_ok (R : List (List PV)) (hs : ShSliceS R) : FnOk E.P 75 [.lst 104 R, .lst 104 R] (.bool true) true := by
  obtain ⟨hn, hs⟩ := hs
  refine fn_ok mixed Try.func75 rfl (by kernel_rfl) _ Try.results75 _ Try.ntmps75 (by simp) (by kernel_rfl) ?_
  simp (maxSteps := 2000000) only [pI, tvs, simprocAttr]
  repeat (first | refine ftS (by kernel_rfl) ?_ | refine And.intro (by omega) ?_)
  refine awp_loop (X := Nat) (fun k => [(0, .pv (.lst 104 R)), (1, .pv (.lst 104 R)), (5, .pv (.int .i64 k))]) (fun k => []) (fun k => k ≤ R.length) (fun k => R.length - k) 100 0 (Nat.zero_le _) (by simp (maxSteps := 2000000) only [pI, tvs, simprocAttr]; try rfl) (fun k hk => ?_)
  by_cases hlt : k < R.length
  · have d1 : decide ((k : Int) < (R.length : Int)) = true := by simpa using hlt
    have e1 : R[k]? = some R[k] := List.getElem?_eq_getElem hlt
    have hr := hs R[k] (List.getElem_mem hlt)
    generalize R[k] = r at e1 hr
    have hc := eqSlice_ok r hr
    obtain ⟨a0, a1, a2, rfl⟩ := hr
    simp (maxSteps := 2000000) only [d1, e1, pI, tvs, simprocAttr]
    repeat (first | refine ftS (by kernel_rfl) ?_ | refine And.intro (by omega) ?_)
    refine aops_fn (hc) (hidB rfl) rfl ?_
    simp (maxSteps := 2000000) only [d1, e1, pI, tvs, simprocAttr]
    repeat (first | refine ftS (by kernel_rfl) ?_ | refine And.intro (by omega) ?_)
    refine ⟨k + 1, ?_, ?_, ?_⟩
    · omega
    · omega
    · first | omega | (simp; done)
  · have d1 : decide ((k : Int) < (R.length : Int)) = false := by simpa using hlt
    simp (maxSteps := 2000000) only [d1, pI, tvs, simprocAttr]
    repeat (first | refine ftS (by kernel_rfl) ?_ | refine And.intro (by omega) ?_)
    all_goals (first | rfl | trivial | skip)
set_option maxRecDepth 10000 in
set_option maxHeartbeats 4000000 in
theorem eqThread_ok (r : List PV) (hs : ShThread r) : FnOk E.P 100 [.agg r, .agg r] (.bool true) true := by
  obtain ⟨a0, a1, a2, a3, rfl, s1, s2⟩ := hs
  refine fn_ok mixed Try.func100 rfl (by kernel_rfl) _ Try.results100 _ Try.ntmps100 (by simp) (by kernel_rfl) ?_
  simp (maxSteps := 2000000) only [pI, tvs, simprocAttr]
  repeat (first | refine ftS (by kernel_rfl) ?_ | refine And.intro (by omega) ?_)
  refine aops_fn (eqIntS_ok a1 s1) (hidB rfl) rfl ?_
  simp (maxSteps := 2000000) only [pI, tvs, simprocAttr]
  repeat (first | refine ftS (by kernel_rfl) ?_ | refine And.intro (by omega) ?_)
  refine aops_fn (eqIntS_ok a2 s2) (hidB rfl) rfl ?_
  simp (maxSteps := 2000000) only [pI, tvs, simprocAttr]
  repeat (first | refine ftS (by kernel_rfl) ?_ | refine And.intro (by omega) ?_)
  all_goals (first | rfl | trivial | skip)
set_option maxRecDepth 10000 in
set_option maxHeartbeats 4000000 in
theorem eqThreadS_ok (R : List (List PV)) (hs : ShThreadS R) : FnOk E.P 64 [.lst 134 R, .lst 134 R] (.bool true) true := by
  obtain ⟨hn, hs⟩ := hs
  refine fn_ok mixed Try.func64 rfl (by kernel_rfl) _ Try.results64 _ Try.ntmps64 (by simp) (by kernel_rfl) ?_
  simp (maxSteps := 2000000) only [pI, tvs, simprocAttr]
  repeat (first | refine ftS (by kernel_rfl) ?_ | refine And.intro (by omega) ?_)
  refine awp_loop (X := Nat) (fun k => [(0, .pv (.lst 134 R)), (1, .pv (.lst 134 R)), (5, .pv (.int .i64 k))]) (fun k => []) (fun k => k ≤ R.length) (fun k => R.length - k) 100 0 (Nat.zero_le _) (by simp (maxSteps := 2000000) only [pI, tvs, simprocAttr]; try rfl) (fun k hk => ?_)
  by_cases hlt : k < R.length
  · have d1 : decide ((k : Int) < (R.length : Int)) = true := by simpa using hlt
    have e1 : R[k]? = some R[k] := List.getElem?_eq_getElem hlt
    have hr := hs R[k] (List.getElem_mem hlt)
    generalize R[k] = r at e1 hr
    have hc := eqThread_ok r hr
    obtain ⟨a0, a1, a2, a3, rfl, s1, s2⟩ := hr
    simp (maxSteps := 2000000) only [d1, e1, pI, tvs, simprocAttr]
    repeat (first | refine ftS (by kernel_rfl) ?_ | refine And.intro (by omega) ?_)
    refine aops_fn (hc) (hidB rfl) rfl ?_
    simp (maxSteps := 2000000) only [d1, e1, pI, tvs, simprocAttr]
    repeat (first | refine ftS (by kernel_rfl) ?_ | refine And.intro (by omega) ?_)
    refine ⟨k + 1, ?_, ?_, ?_⟩
    · omega
    · omega
    · first | omega | (simp; done)
  · have d1 : decide ((k : Int) < (R.length : Int)) = false := by simpa using hlt
    simp (maxSteps := 2000000) only [d1, pI, tvs, simprocAttr]
    repeat (first | refine ftS (by kernel_rfl) ?_ | refine And.intro (by omega) ?_)
    all_goals (first | rfl | trivial | skip)
set_option maxRecDepth 10000 in
set_option maxHeartbeats 4000000 in
theorem eqMachine_ok (r : List PV) (hs : ShMachine r) : FnOk E.P 26 [.agg r, .agg r] (.bool true) true := by
  obtain ⟨a0, a1, a2, a3, rfl, s0, s1, s2, s3⟩ := hs
  refine fn_ok mixed Try.func26 rfl (by kernel_rfl) _ Try.results26 _ Try.ntmps26 (by simp) (by kernel_rfl) ?_
  simp (maxSteps := 2000000) only [pI, tvs, simprocAttr]
  repeat (first | refine ftS (by kernel_rfl) ?_ | refine And.intro (by omega) ?_)
  refine aops_fn (eqThreadS_ok a0 s0) (hidB rfl) rfl ?_
  simp (maxSteps := 2000000) only [pI, tvs, simprocAttr]
  repeat (first | refine ftS (by kernel_rfl) ?_ | refine And.intro (by omega) ?_)
  refine aops_fn (eqIntS_ok a1 s1) (hidB rfl) rfl ?_
  simp (maxSteps := 2000000) only [pI, tvs, simprocAttr]
  repeat (first | refine ftS (by kernel_rfl) ?_ | refine And.intro (by omega) ?_)
  refine aops_fn (eqIntS_ok a2 s2) (hidB rfl) rfl ?_
  simp (maxSteps := 2000000) only [pI, tvs, simprocAttr]
  repeat (first | refine ftS (by kernel_rfl) ?_ | refine And.intro (by omega) ?_)
  refine aops_fn (eqIntS_ok a3 s3) (hidB rfl) rfl ?_
  simp (maxSteps := 2000000) only [pI, tvs, simprocAttr]
  repeat (first | refine ftS (by kernel_rfl) ?_ | refine And.intro (by omega) ?_)
  all_goals (first | rfl | trivial | skip)
set_option maxRecDepth 10000 in
set_option maxHeartbeats 4000000 in
theorem eqProgram_ok (r : List PV) (hs : ShProgram r) : FnOk E.P 36 [.agg r, .agg r] (.bool true) true := by
  obtain ⟨a0, a1, rfl, s0⟩ := hs
  refine fn_ok mixed Try.func36 rfl (by kernel_rfl) _ Try.results36 _ Try.ntmps36 (by simp) (by kernel_rfl) ?_
  simp (maxSteps := 2000000) only [pI, tvs, simprocAttr]
  repeat (first | refine ftS (by kernel_rfl) ?_ | refine And.intro (by omega) ?_)
  refine aops_fn (eqCodeS_ok a0 s0) (hidB rfl) rfl ?_
  simp (maxSteps := 2000000) only [pI, tvs, simprocAttr]
  repeat (first | refine ftS (by kernel_rfl) ?_ | refine And.intro (by omega) ?_)
  all_goals (first | rfl | trivial | skip)
set_option maxRecDepth 10000 in
set_option maxHeartbeats 4000000 in
theorem eqRecord_ok (r : List PV) (hs : ShRecord r) : FnOk E.P 35 [.agg r, .agg r] (.bool true) true := by
  obtain ⟨a0, a1, rfl, s0, s1⟩ := hs
  refine fn_ok mixed Try.func35 rfl (by kernel_rfl) _ Try.results35 _ Try.ntmps35 (by simp) (by kernel_rfl) ?_
  simp (maxSteps := 2000000) only [pI, tvs, simprocAttr]
  repeat (first | refine ftS (by kernel_rfl) ?_ | refine And.intro (by omega) ?_)
  refine aops_fn (eqSliceS_ok a0 s0) (hidB rfl) rfl ?_
  simp (maxSteps := 2000000) only [pI, tvs, simprocAttr]
  repeat (first | refine ftS (by kernel_rfl) ?_ | refine And.intro (by omega) ?_)
  refine aops_fn (eqIntS_ok a1 s1) (hidB rfl) rfl ?_
  simp (maxSteps := 2000000) only [pI, tvs, simprocAttr]
  repeat (first | refine ftS (by kernel_rfl) ?_ | refine And.intro (by omega) ?_)
  all_goals (first | rfl | trivial | skip)
end Av
end Go.Proofs.Ytbkbppllcjcmhaa
