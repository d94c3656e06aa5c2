/-
  What laws ask of values told plainly: whether they are equal.
-/
import Derived.Test.YtemogjmghgfdfaaTyMs
set_option linter.unusedSimpArgs false
set_option linter.unusedVariables false
namespace Go.Proofs.Ytemogjmghgfdfaa
open Go.RowKit
namespace Av
def ShProgram (r : List PV) : Prop := ∃ (a0 : List (List PV)) (a1 : Int), r = [.lst 143 a0, pI a1] ∧ ShCodeS a0
def ShProgramS (R : List (List PV)) : Prop := R.length ≤ 1048576 ∧ ∀ r ∈ R, ShProgram r
def ShRecord (r : List PV) : Prop := ∃ (a0 : List (List PV)) (a1 : List (List PV)), r = [.lst 81 a0, .lst 3 a1] ∧ ShSliceS a0 ∧ ShIntS a1
def ShRecordS (R : List (List PV)) : Prop := R.length ≤ 1048576 ∧ ∀ r ∈ R, ShRecord r
set_option maxRecDepth 10000 in
set_option maxHeartbeats 4000000 in
theorem eqIntS_ok (R : List (List PV)) (hs : ShIntS R) : FnOk E.P 68 [.lst 3 R, .lst 3 R] (.bool true) true := by
  obtain ⟨hn, hs⟩ := hs
  refine fn_ok mixed Try.func68 rfl (by kernel_rfl) _ Try.results68 _ Try.ntmps68 (by simp) (by kernel_rfl) ?_
  simp (maxSteps := 2000000) only [pI, vcs, simprocAttr, tbs]
  repeat (first | refine ftS (by kernel_rfl) ?_ | refine And.intro (by omega) ?_)
  refine awp_loop (X := Nat) (fun k => [(0, .pv (.lst 3 R)), (1, .pv (.lst 3 R)), (5, .pv (.int .i64 k))]) (fun k => []) (fun k => k ≤ R.length) (fun k => R.length - k) 100 0 (Nat.zero_le _) (by simp (maxSteps := 2000000) only [pI, vcs, simprocAttr, tbs]; try rfl) (fun k hk => ?_)
  by_cases hlt : k < R.length
  · have d1 : decide ((k : Int) < (R.length : Int)) = true := by simpa using hlt
    have e1 : R[k]? = some R[k] := List.getElem?_eq_getElem hlt
    have hr := hs R[k] (List.getElem_mem hlt)
    generalize R[k] = r at e1 hr
    obtain ⟨a0, rfl⟩ := hr
    simp (maxSteps := 2000000) only [d1, e1, pI, vcs, simprocAttr, tbs]
    repeat (first | refine ftS (by kernel_rfl) ?_ | refine And.intro (by omega) ?_)
    refine ⟨k + 1, ?_, ?_, ?_⟩
    · omega
    · omega
    · first | omega | (simp; done)
  · have d1 : decide ((k : Int) < (R.length : Int)) = false := by simpa using hlt
    simp (maxSteps := 2000000) only [d1, pI, vcs, simprocAttr, tbs]
    repeat (first | refine ftS (by kernel_rfl) ?_ | refine And.intro (by omega) ?_)
    all_goals (first | rfl | trivial | skip)
set_option maxRecDepth 10000 in
set_option maxHeartbeats 4000000 in
theorem eqCode_ok (r : List PV) (hs : ShCode r) : FnOk E.P 117 [.agg r, .agg r] (.bool true) true := by
  obtain ⟨a0, a1, a2, a3, rfl⟩ := hs
  refine fn_ok mixed Try.func117 rfl (by kernel_rfl) _ Try.results117 _ Try.ntmps117 (by simp) (by kernel_rfl) ?_
  simp (maxSteps := 2000000) only [pI, vcs, simprocAttr, tbs]
  repeat (first | refine ftS (by kernel_rfl) ?_ | refine And.intro (by omega) ?_)
  all_goals (first | rfl | trivial | skip)
set_option maxRecDepth 10000 in
set_option maxHeartbeats 4000000 in
theorem eqCodeS_ok (R : List (List PV)) (hs : ShCodeS R) : FnOk E.P 66 [.lst 143 R, .lst 143 R] (.bool true) true := by
  obtain ⟨hn, hs⟩ := hs
  refine fn_ok mixed Try.func66 rfl (by kernel_rfl) _ Try.results66 _ Try.ntmps66 (by simp) (by kernel_rfl) ?_
  simp (maxSteps := 2000000) only [pI, vcs, simprocAttr, tbs]
  repeat (first | refine ftS (by kernel_rfl) ?_ | refine And.intro (by omega) ?_)
  refine awp_loop (X := Nat) (fun k => [(0, .pv (.lst 143 R)), (1, .pv (.lst 143 R)), (5, .pv (.int .i64 k))]) (fun k => []) (fun k => k ≤ R.length) (fun k => R.length - k) 100 0 (Nat.zero_le _) (by simp (maxSteps := 2000000) only [pI, vcs, simprocAttr, tbs]; try rfl) (fun k hk => ?_)
  by_cases hlt : k < R.length
  · have d1 : decide ((k : Int) < (R.length : Int)) = true := by simpa using hlt
    have e1 : R[k]? = some R[k] := List.getElem?_eq_getElem hlt
    have hr := hs R[k] (List.getElem_mem hlt)
    generalize R[k] = r at e1 hr
    have hc := eqCode_ok r hr
    obtain ⟨a0, a1, a2, a3, rfl⟩ := hr
    simp (maxSteps := 2000000) only [d1, e1, pI, vcs, simprocAttr, tbs]
    repeat (first | refine ftS (by kernel_rfl) ?_ | refine And.intro (by omega) ?_)
    refine aops_fn (hc) (by first | exact Nat.le_add_right _ _ | (simp only [introT, intro1, introL, intros, pI]; omega)) rfl ?_
    simp (maxSteps := 2000000) only [d1, e1, pI, vcs, simprocAttr, tbs]
    repeat (first | refine ftS (by kernel_rfl) ?_ | refine And.intro (by omega) ?_)
    refine ⟨k + 1, ?_, ?_, ?_⟩
    · omega
    · omega
    · first | omega | (simp; done)
  · have d1 : decide ((k : Int) < (R.length : Int)) = false := by simpa using hlt
    simp (maxSteps := 2000000) only [d1, pI, vcs, simprocAttr, tbs]
    repeat (first | refine ftS (by kernel_rfl) ?_ | refine And.intro (by omega) ?_)
    all_goals (first | rfl | trivial | skip)
set_option maxRecDepth 10000 in
set_option maxHeartbeats 4000000 in
theorem eqChoice_ok (r : List PV) (hs : ShChoice r) : FnOk E.P 75 [.agg r, .agg r] (.bool true) true := by
  obtain ⟨a0, a1, a2, rfl⟩ := hs
  refine fn_ok mixed Try.func75 rfl (by kernel_rfl) _ Try.results75 _ Try.ntmps75 (by simp) (by kernel_rfl) ?_
  simp (maxSteps := 2000000) only [pI, vcs, simprocAttr, tbs]
  repeat (first | refine ftS (by kernel_rfl) ?_ | refine And.intro (by omega) ?_)
  all_goals (first | rfl | trivial | skip)
set_option maxRecDepth 10000 in
set_option maxHeartbeats 4000000 in
theorem eqChoiceS_ok (R : List (List PV)) (hs : ShChoiceS R) : FnOk E.P 25 [.lst 98 R, .lst 98 R] (.bool true) true := by
  obtain ⟨hn, hs⟩ := hs
  refine fn_ok mixed Try.func25 rfl (by kernel_rfl) _ Try.results25 _ Try.ntmps25 (by simp) (by kernel_rfl) ?_
  simp (maxSteps := 2000000) only [pI, vcs, simprocAttr, tbs]
  repeat (first | refine ftS (by kernel_rfl) ?_ | refine And.intro (by omega) ?_)
  refine awp_loop (X := Nat) (fun k => [(0, .pv (.lst 98 R)), (1, .pv (.lst 98 R)), (5, .pv (.int .i64 k))]) (fun k => []) (fun k => k ≤ R.length) (fun k => R.length - k) 100 0 (Nat.zero_le _) (by simp (maxSteps := 2000000) only [pI, vcs, simprocAttr, tbs]; try rfl) (fun k hk => ?_)
  by_cases hlt : k < R.length
  · have d1 : decide ((k : Int) < (R.length : Int)) = true := by simpa using hlt
    have e1 : R[k]? = some R[k] := List.getElem?_eq_getElem hlt
    have hr := hs R[k] (List.getElem_mem hlt)
    generalize R[k] = r at e1 hr
    have hc := eqChoice_ok r hr
    obtain ⟨a0, a1, a2, rfl⟩ := hr
    simp (maxSteps := 2000000) only [d1, e1, pI, vcs, simprocAttr, tbs]
    repeat (first | refine ftS (by kernel_rfl) ?_ | refine And.intro (by omega) ?_)
    refine aops_fn (hc) (by first | exact Nat.le_add_right _ _ | (simp only [introT, intro1, introL, intros, pI]; omega)) rfl ?_
    simp (maxSteps := 2000000) only [d1, e1, pI, vcs, simprocAttr, tbs]
    repeat (first | refine ftS (by kernel_rfl) ?_ | refine And.intro (by omega) ?_)
    refine ⟨k + 1, ?_, ?_, ?_⟩
    · omega
    · omega
    · first | omega | (simp; done)
  · have d1 : decide ((k : Int) < (R.length : Int)) = false := by simpa using hlt
    simp (maxSteps := 2000000) only [d1, pI, vcs, simprocAttr, tbs]
    repeat (first | refine ftS (by kernel_rfl) ?_ | refine And.intro (by omega) ?_)
    all_goals (first | rfl | trivial | skip)
set_option maxRecDepth 10000 in
set_option maxHeartbeats 4000000 in
theorem eqSlice_ok (r : List PV) (hs : ShSlice r) : FnOk E.P 118 [.agg r, .agg r] (.bool true) true := by
  obtain ⟨a0, a1, a2, rfl⟩ := hs
  refine fn_ok mixed Try.func118 rfl (by kernel_rfl) _ Try.results118 _ Try.ntmps118 (by simp) (by kernel_rfl) ?_
  simp (maxSteps := 2000000) only [pI, vcs, simprocAttr, tbs]
  repeat (first | refine ftS (by kernel_rfl) ?_ | refine And.intro (by omega) ?_)
  all_goals (first | rfl | trivial | skip)
set_option maxRecDepth 10000 in
set_option maxHeartbeats 4000000 in
theorem eqSliceS_ok (R : List (List PV)) (hs : ShSliceS R) : FnOk E.P 67 [.lst 81 R, .lst 81 R] (.bool true) true := by
  obtain ⟨hn, hs⟩ := hs
  refine fn_ok mixed Try.func67 rfl (by kernel_rfl) _ Try.results67 _ Try.ntmps67 (by simp) (by kernel_rfl) ?_
  simp (maxSteps := 2000000) only [pI, vcs, simprocAttr, tbs]
  repeat (first | refine ftS (by kernel_rfl) ?_ | refine And.intro (by omega) ?_)
  refine awp_loop (X := Nat) (fun k => [(0, .pv (.lst 81 R)), (1, .pv (.lst 81 R)), (5, .pv (.int .i64 k))]) (fun k => []) (fun k => k ≤ R.length) (fun k => R.length - k) 100 0 (Nat.zero_le _) (by simp (maxSteps := 2000000) only [pI, vcs, simprocAttr, tbs]; try rfl) (fun k hk => ?_)
  by_cases hlt : k < R.length
  · have d1 : decide ((k : Int) < (R.length : Int)) = true := by simpa using hlt
    have e1 : R[k]? = some R[k] := List.getElem?_eq_getElem hlt
    have hr := hs R[k] (List.getElem_mem hlt)
    generalize R[k] = r at e1 hr
    have hc := eqSlice_ok r hr
    obtain ⟨a0, a1, a2, rfl⟩ := hr
    simp (maxSteps := 2000000) only [d1, e1, pI, vcs, simprocAttr, tbs]
    repeat (first | refine ftS (by kernel_rfl) ?_ | refine And.intro (by omega) ?_)
    refine aops_fn (hc) (by first | exact Nat.le_add_right _ _ | (simp only [introT, intro1, introL, intros, pI]; omega)) rfl ?_
    simp (maxSteps := 2000000) only [d1, e1, pI, vcs, simprocAttr, tbs]
    repeat (first | refine ftS (by kernel_rfl) ?_ | refine And.intro (by omega) ?_)
    refine ⟨k + 1, ?_, ?_, ?_⟩
    · omega
    · omega
    · first | omega | (simp; done)
  · have d1 : decide ((k : Int) < (R.length : Int)) = false := by simpa using hlt
    simp (maxSteps := 2000000) only [d1, pI, vcs, simprocAttr, tbs]
    repeat (first | refine ftS (by kernel_rfl) ?_ | refine And.intro (by omega) ?_)
    all_goals (first | rfl | trivial | skip)
set_option maxRecDepth 10000 in
set_option maxHeartbeats 4000000 in
theorem eqThread_ok (r : List PV) (hs : ShThread r) : FnOk E.P 176 [.agg r, .agg r] (.bool true) true := by
  obtain ⟨a0, a1, a2, a3, rfl, s1, s2⟩ := hs
  refine fn_ok mixed Try.func176 rfl (by kernel_rfl) _ Try.results176 _ Try.ntmps176 (by simp) (by kernel_rfl) ?_
  simp (maxSteps := 2000000) only [pI, vcs, simprocAttr, tbs]
  repeat (first | refine ftS (by kernel_rfl) ?_ | refine And.intro (by omega) ?_)
  refine aops_fn (eqIntS_ok a1 s1) (by first | exact Nat.le_add_right _ _ | (simp only [introT, intro1, introL, intros, pI]; omega)) rfl ?_
  simp (maxSteps := 2000000) only [pI, vcs, simprocAttr, tbs]
  repeat (first | refine ftS (by kernel_rfl) ?_ | refine And.intro (by omega) ?_)
  refine aops_fn (eqIntS_ok a2 s2) (by first | exact Nat.le_add_right _ _ | (simp only [introT, intro1, introL, intros, pI]; omega)) rfl ?_
  simp (maxSteps := 2000000) only [pI, vcs, simprocAttr, tbs]
  repeat (first | refine ftS (by kernel_rfl) ?_ | refine And.intro (by omega) ?_)
  all_goals (first | rfl | trivial | skip)
set_option maxRecDepth 10000 in
set_option maxHeartbeats 4000000 in
theorem eqThreadS_ok (R : List (List PV)) (hs : ShThreadS R) : FnOk E.P 162 [.lst 155 R, .lst 155 R] (.bool true) true := by
  obtain ⟨hn, hs⟩ := hs
  refine fn_ok mixed Try.func162 rfl (by kernel_rfl) _ Try.results162 _ Try.ntmps162 (by simp) (by kernel_rfl) ?_
  simp (maxSteps := 2000000) only [pI, vcs, simprocAttr, tbs]
  repeat (first | refine ftS (by kernel_rfl) ?_ | refine And.intro (by omega) ?_)
  refine awp_loop (X := Nat) (fun k => [(0, .pv (.lst 155 R)), (1, .pv (.lst 155 R)), (5, .pv (.int .i64 k))]) (fun k => []) (fun k => k ≤ R.length) (fun k => R.length - k) 100 0 (Nat.zero_le _) (by simp (maxSteps := 2000000) only [pI, vcs, simprocAttr, tbs]; try rfl) (fun k hk => ?_)
  by_cases hlt : k < R.length
  · have d1 : decide ((k : Int) < (R.length : Int)) = true := by simpa using hlt
    have e1 : R[k]? = some R[k] := List.getElem?_eq_getElem hlt
    have hr := hs R[k] (List.getElem_mem hlt)
    generalize R[k] = r at e1 hr
    have hc := eqThread_ok r hr
    obtain ⟨a0, a1, a2, a3, rfl, s1, s2⟩ := hr
    simp (maxSteps := 2000000) only [d1, e1, pI, vcs, simprocAttr, tbs]
    repeat (first | refine ftS (by kernel_rfl) ?_ | refine And.intro (by omega) ?_)
    refine aops_fn (hc) (by first | exact Nat.le_add_right _ _ | (simp only [introT, intro1, introL, intros, pI]; omega)) rfl ?_
    simp (maxSteps := 2000000) only [d1, e1, pI, vcs, simprocAttr, tbs]
    repeat (first | refine ftS (by kernel_rfl) ?_ | refine And.intro (by omega) ?_)
    refine ⟨k + 1, ?_, ?_, ?_⟩
    · omega
    · omega
    · first | omega | (simp; done)
  · have d1 : decide ((k : Int) < (R.length : Int)) = false := by simpa using hlt
    simp (maxSteps := 2000000) only [d1, pI, vcs, simprocAttr, tbs]
    repeat (first | refine ftS (by kernel_rfl) ?_ | refine And.intro (by omega) ?_)
    all_goals (first | rfl | trivial | skip)
set_option maxRecDepth 10000 in
set_option maxHeartbeats 4000000 in
theorem eqMachine_ok (r : List PV) (hs : ShMachine r) : FnOk E.P 144 [.agg r, .agg r] (.bool true) true := by
  obtain ⟨a0, a1, a2, a3, rfl, s0, s1, s2, s3⟩ := hs
  refine fn_ok mixed Try.func144 rfl (by kernel_rfl) _ Try.results144 _ Try.ntmps144 (by simp) (by kernel_rfl) ?_
  simp (maxSteps := 2000000) only [pI, vcs, simprocAttr, tbs]
  repeat (first | refine ftS (by kernel_rfl) ?_ | refine And.intro (by omega) ?_)
  refine aops_fn (eqThreadS_ok a0 s0) (by first | exact Nat.le_add_right _ _ | (simp only [introT, intro1, introL, intros, pI]; omega)) rfl ?_
  simp (maxSteps := 2000000) only [pI, vcs, simprocAttr, tbs]
  repeat (first | refine ftS (by kernel_rfl) ?_ | refine And.intro (by omega) ?_)
  refine aops_fn (eqIntS_ok a1 s1) (by first | exact Nat.le_add_right _ _ | (simp only [introT, intro1, introL, intros, pI]; omega)) rfl ?_
  simp (maxSteps := 2000000) only [pI, vcs, simprocAttr, tbs]
  repeat (first | refine ftS (by kernel_rfl) ?_ | refine And.intro (by omega) ?_)
  refine aops_fn (eqIntS_ok a2 s2) (by first | exact Nat.le_add_right _ _ | (simp only [introT, intro1, introL, intros, pI]; omega)) rfl ?_
  simp (maxSteps := 2000000) only [pI, vcs, simprocAttr, tbs]
  repeat (first | refine ftS (by kernel_rfl) ?_ | refine And.intro (by omega) ?_)
  refine aops_fn (eqIntS_ok a3 s3) (by first | exact Nat.le_add_right _ _ | (simp only [introT, intro1, introL, intros, pI]; omega)) rfl ?_
  simp (maxSteps := 2000000) only [pI, vcs, simprocAttr, tbs]
  repeat (first | refine ftS (by kernel_rfl) ?_ | refine And.intro (by omega) ?_)
  all_goals (first | rfl | trivial | skip)
set_option maxRecDepth 10000 in
set_option maxHeartbeats 4000000 in
theorem eqProgram_ok (r : List PV) (hs : ShProgram r) : FnOk E.P 21 [.agg r, .agg r] (.bool true) true := by
  obtain ⟨a0, a1, rfl, s0⟩ := hs
  refine fn_ok mixed Try.func21 rfl (by kernel_rfl) _ Try.results21 _ Try.ntmps21 (by simp) (by kernel_rfl) ?_
  simp (maxSteps := 2000000) only [pI, vcs, simprocAttr, tbs]
  repeat (first | refine ftS (by kernel_rfl) ?_ | refine And.intro (by omega) ?_)
  refine aops_fn (eqCodeS_ok a0 s0) (by first | exact Nat.le_add_right _ _ | (simp only [introT, intro1, introL, intros, pI]; omega)) rfl ?_
  simp (maxSteps := 2000000) only [pI, vcs, simprocAttr, tbs]
  repeat (first | refine ftS (by kernel_rfl) ?_ | refine And.intro (by omega) ?_)
  all_goals (first | rfl | trivial | skip)
set_option maxRecDepth 10000 in
set_option maxHeartbeats 4000000 in
theorem eqRecord_ok (r : List PV) (hs : ShRecord r) : FnOk E.P 22 [.agg r, .agg r] (.bool true) true := by
  obtain ⟨a0, a1, rfl, s0, s1⟩ := hs
  refine fn_ok mixed Try.func22 rfl (by kernel_rfl) _ Try.results22 _ Try.ntmps22 (by simp) (by kernel_rfl) ?_
  simp (maxSteps := 2000000) only [pI, vcs, simprocAttr, tbs]
  repeat (first | refine ftS (by kernel_rfl) ?_ | refine And.intro (by omega) ?_)
  refine aops_fn (eqSliceS_ok a0 s0) (by first | exact Nat.le_add_right _ _ | (simp only [introT, intro1, introL, intros, pI]; omega)) rfl ?_
  simp (maxSteps := 2000000) only [pI, vcs, simprocAttr, tbs]
  repeat (first | refine ftS (by kernel_rfl) ?_ | refine And.intro (by omega) ?_)
  refine aops_fn (eqIntS_ok a1 s1) (by first | exact Nat.le_add_right _ _ | (simp only [introT, intro1, introL, intros, pI]; omega)) rfl ?_
  simp (maxSteps := 2000000) only [pI, vcs, simprocAttr, tbs]
  repeat (first | refine ftS (by kernel_rfl) ?_ | refine And.intro (by omega) ?_)
  all_goals (first | rfl | trivial | skip)
end Av
end Go.Proofs.Ytemogjmghgfdfaa
