/-
  Marks as parameters of laws: how long they are, what laws make of them, whether they are equal, and how they come in.
-/
import Derived.Test.YtbkbppllcjcmhaaTyP
import Derived.Test.YtbkbppllcjcmhaaOpnT
set_option linter.unusedSimpArgs false
set_option linter.unusedVariables false
namespace Go.Proofs.Ytbkbppllcjcmhaa
open Go.ChangeShapes Go.WideShapes Go.ChangeAt Go.RowKit Go.Deep
namespace Av
/-- a mark of the laws' type as one of the program's -/
def swM : List PV → List PV
  | [a, .lst _ T, b, c, d] => [a, .lst 134 T, b, c, d]
  | r => r
theorem LoMarkS.sh {R : List (List PV)} (h : LoMarkS R) (hl : totR R ≤ 1048576) : ShMarkS (R.map swM) := by
  refine ⟨by have := tot_len R; simp only [List.length_map]; omega, fun r hr => ?_⟩
  obtain ⟨r0, hr0, rfl⟩ := List.mem_map.1 hr
  have hm := tot_mem hr0
  obtain ⟨a0, a1, a2, a3, a4, rfl, s1, s2, s3, s4⟩ := h.2 r0 hr0
  rw [tot_Mark a0 a1 a2 a3 a4 s1 s2 s3 s4] at hm
  exact ⟨a0, a1, a2, a3, a4, rfl, s1.sh (by omega), s2.sh (by omega), s3.sh (by omega), s4.sh (by omega)⟩
set_option maxRecDepth 10000 in
set_option maxHeartbeats 8000000 in
theorem eqMark_ok (r : List PV) (hs : ShMark r) : FnOk E.P 88 [.agg r, .agg r] (.bool true) true := by
  obtain ⟨a0, a1, a2, a3, a4, rfl, s1, s2, s3, s4⟩ := hs
  refine fn_ok mixed Try.func88 rfl (by kernel_rfl) _ Try.results88 _ Try.ntmps88 (by simp) (by kernel_rfl) ?_
  simp (maxSteps := 2000000) only [pI, tvs, simprocAttr]
  repeat (first | refine ftS (by kernel_rfl) ?_ | refine And.intro (by omega) ?_)
  refine aops_fn (eqMachine_ok [.lst 134 a1, .lst 3 a2, .lst 3 a3, .lst 3 a4] ⟨a1, a2, a3, a4, rfl, s1, s2, s3, s4⟩) (hidB rfl) rfl ?_
  simp (maxSteps := 2000000) only [pI, tvs, simprocAttr]
  repeat (first | refine ftS (by kernel_rfl) ?_ | refine And.intro (by omega) ?_)
  all_goals (first | rfl | trivial | skip)
set_option maxRecDepth 10000 in
set_option maxHeartbeats 8000000 in
theorem eqMarkS_ok (R : List (List PV)) (hs : ShMarkS R) : FnOk E.P 44 [.lst 118 R, .lst 118 R] (.bool true) true := by
  obtain ⟨hn, hs⟩ := hs
  refine fn_ok mixed Try.func44 rfl (by kernel_rfl) _ Try.results44 _ Try.ntmps44 (by simp) (by kernel_rfl) ?_
  simp (maxSteps := 2000000) only [pI, tvs, simprocAttr]
  repeat (first | refine ftS (by kernel_rfl) ?_ | refine And.intro (by omega) ?_)
  refine awp_loop (X := Nat) (fun k => [(0, .pv (.lst 118 R)), (1, .pv (.lst 118 R)), (5, .pv (.int .i64 k))]) (fun k => []) (fun k => k ≤ R.length) (fun k => R.length - k) 100 0 (Nat.zero_le _) (by simp (maxSteps := 2000000) only [pI, tvs, simprocAttr]; try rfl) (fun k hk => ?_)
  by_cases hlt : k < R.length
  · have d1 : decide ((k : Int) < (R.length : Int)) = true := by simpa using hlt
    have e1 : R[k]? = some R[k] := List.getElem?_eq_getElem hlt
    have hr := hs R[k] (List.getElem_mem hlt)
    generalize R[k] = r at e1 hr
    have hc := eqMark_ok r hr
    obtain ⟨a0, a1, a2, a3, a4, rfl, s1, s2, s3, s4⟩ := hr
    simp (maxSteps := 2000000) only [d1, e1, pI, tvs, simprocAttr]
    repeat (first | refine ftS (by kernel_rfl) ?_ | refine And.intro (by omega) ?_)
    refine aops_fn (hc) (hidB rfl) rfl ?_
    simp (maxSteps := 2000000) only [d1, e1, pI, tvs, simprocAttr]
    repeat (first | refine ftS (by kernel_rfl) ?_ | refine And.intro (by omega) ?_)
    refine ⟨k + 1, ?_, ?_, ?_⟩
    · omega
    · omega
    · first | omega | (simp; done)
  · have d1 : decide ((k : Int) < (R.length : Int)) = false := by simpa using hlt
    simp (maxSteps := 2000000) only [d1, pI, tvs, simprocAttr]
    repeat (first | refine ftS (by kernel_rfl) ?_ | refine And.intro (by omega) ?_)
    all_goals (first | rfl | trivial | skip)
end Av
end Go.Proofs.Ytbkbppllcjcmhaa
