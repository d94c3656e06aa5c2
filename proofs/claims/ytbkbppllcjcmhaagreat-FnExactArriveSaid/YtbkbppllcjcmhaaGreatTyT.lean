/-
  What laws make of their parameters, and how long these are.
-/
import Derived.Test.YtbkbppllcjcmhaaGreatTyMs
set_option linter.unusedSimpArgs false
set_option linter.unusedVariables false
namespace Go.Proofs.YtbkbppllcjcmhaaGreat
open Go.RowKit
namespace Av
/-- what is left -/
def restI (left : Int) (n : Nat) : Int := if left < n then -1 else left - n
/-- a row that is filled up to a place -/
def fillR (R : List (List PV)) (k : Nat) (z : List PV) : List (List PV) := R.take k ++ List.replicate (R.length - k) z
theorem fillR_at {R : List (List PV)} {k : Nat} (h : k < R.length) (z : List PV) : (fillR R k z)[k]? = some z := by
  have hk : (R.take k).length = k := by rw [List.length_take]; omega
  simp [fillR, List.getElem?_append, hk, List.getElem?_replicate]
  omega
theorem fillR_set {R : List (List PV)} {k : Nat} {r z : List PV} (h : R[k]? = some r) : (fillR R k z).set k r = fillR R (k + 1) z := by
  obtain ⟨hk, rfl⟩ := List.getElem?_eq_some_iff.1 h
  have hl : (R.take k).length = k := by rw [List.length_take]; omega
  have e1 : R.length - k = (R.length - (k + 1)) + 1 := by omega
  unfold fillR
  rw [List.set_append, if_neg (by omega), hl, Nat.sub_self, e1, List.replicate_succ, List.set_cons_zero, List.take_succ_eq_append_getElem hk, List.append_assoc]
  rfl
set_option maxRecDepth 10000 in
set_option maxHeartbeats 4000000 in
theorem toIntS_ok (R : List (List PV)) (hs : ShIntS R) : FnOk E.P 107 [.lst 3 R] (.lst 3 R) true := by
  obtain ⟨hn, hs⟩ := hs
  refine fn_ok mixed Tryz.func107 rfl (by kernel_rfl) _ Tryz.results107 _ Tryz.ntmps107 (by simp) (by kernel_rfl) ?_
  simp (maxSteps := 2000000) only [pI, tvs, simprocAttr]
  repeat (first | refine ftS (by kernel_rfl) ?_ | refine And.intro (by omega) ?_)
  refine awp_loop (X := Nat) (fun k => [(0, .pv (.lst 3 R)), (3, .sl 0), (4, .pv (.int .i64 k))]) (fun k => [(0, .row true 3 (fillR R k [.int .i64 0]))]) (fun k => k ≤ R.length) (fun k => R.length - k) 100 0 (Nat.zero_le _) (by simp (maxSteps := 2000000) only [pI, tvs, simprocAttr]; simp [fillR]) (fun k hk => ?_)
  have hl : (fillR R k [.int .i64 0]).length = R.length := by simp [fillR]; omega
  by_cases hlt : k < R.length
  · have d1 : decide ((k : Int) < (R.length : Int)) = true := by simpa using hlt
    have e1 : R[k]? = some R[k] := List.getElem?_eq_getElem hlt
    have e2 : (fillR R k [.int .i64 0])[k]? = some [.int .i64 0] := fillR_at hlt _
    have e3 := fillR_set (z := [.int .i64 0]) e1
    have hr := hs R[k] (List.getElem_mem hlt)
    generalize R[k] = r at e1 hr e3
    obtain ⟨a0, rfl⟩ := hr
    simp only [pI] at e1 e3
    simp (maxSteps := 2000000) only [d1, e1, e2, hl, pI, tvs, simprocAttr]
    repeat (first | refine ftS (by kernel_rfl) ?_ | refine And.intro (by omega) ?_)
    refine ⟨k + 1, ?_, ?_, ?_⟩
    · omega
    · omega
    · simp only [e3]
      first | omega | (refine ⟨by omega, ?_⟩; simp; done) | (simp; done)
  · have d1 : decide ((k : Int) < (R.length : Int)) = false := by simpa using hlt
    have e1 : fillR R k [.int .i64 0] = R := by simp [fillR, List.take_of_length_le (show R.length ≤ k by omega)]; omega
    simp (maxSteps := 2000000) only [d1, e1, pI, tvs, simprocAttr]
    repeat (first | refine ftS (by kernel_rfl) ?_ | refine And.intro (by omega) ?_)
    all_goals (first | rfl | trivial | skip)
set_option maxRecDepth 10000 in
set_option maxHeartbeats 4000000 in
theorem szIntS_ok (R : List (List PV)) (left : Int) (hn : R.length ≤ 9223372036854775807) (h0 : 0 ≤ left) (h1 : left ≤ 1048576) : FnOk E.P 100 [.lst 3 R, pI left] (pI (restI left R.length)) true := by
  refine fn_ok mixed Tryz.func100 rfl (by kernel_rfl) _ Tryz.results100 _ Tryz.ntmps100 (by simp) (by kernel_rfl) ?_
  simp (maxSteps := 2000000) only [pI, tvs, simprocAttr]
  repeat (first | refine ftS (by kernel_rfl) ?_ | refine And.intro (by omega) ?_)
  by_cases hlt : left < R.length
  · have d1 : decide (left - (R.length : Int) < 0) = true := by simp; omega
    simp (maxSteps := 2000000) only [d1, restI, if_pos hlt, pI, tvs, simprocAttr]
    repeat (first | refine ftS (by kernel_rfl) ?_ | refine And.intro (by omega) ?_)
    all_goals (first | rfl | (simp [restI]; omega))
  · have d1 : decide (left - (R.length : Int) < 0) = false := by simp; omega
    simp (maxSteps := 2000000) only [d1, restI, if_neg hlt, pI, tvs, simprocAttr]
    repeat (first | refine ftS (by kernel_rfl) ?_ | refine And.intro (by omega) ?_)
    all_goals (first | rfl | (simp [restI]; omega))
set_option maxRecDepth 10000 in
set_option maxHeartbeats 4000000 in
theorem toCode_ok (a0 : Int) (a1 : Int) (a2 : Int) (a3 : Int)  : FnOk E.P 66 [.agg [pI a0, pI a1, pI a2, pI a3]] (.agg [pI a0, pI a1, pI a2, pI a3]) true := by
  refine fn_ok mixed Tryz.func66 rfl (by kernel_rfl) _ Tryz.results66 _ Tryz.ntmps66 (by simp) (by kernel_rfl) ?_
  simp (maxSteps := 2000000) only [pI, tvs, simprocAttr]
  repeat (first | refine ftS (by kernel_rfl) ?_ | refine And.intro (by omega) ?_)
  all_goals (first | rfl | trivial | skip)
set_option maxRecDepth 10000 in
set_option maxHeartbeats 4000000 in
theorem toCodeS_ok (R : List (List PV)) (hs : ShCodeS R) : FnOk E.P 35 [.lst 107 R] (.lst 105 R) true := by
  obtain ⟨hn, hs⟩ := hs
  refine fn_ok mixed Tryz.func35 rfl (by kernel_rfl) _ Tryz.results35 _ Tryz.ntmps35 (by simp) (by kernel_rfl) ?_
  simp (maxSteps := 2000000) only [pI, tvs, simprocAttr]
  repeat (first | refine ftS (by kernel_rfl) ?_ | refine And.intro (by omega) ?_)
  refine awp_loop (X := Nat) (fun k => [(0, .pv (.lst 107 R)), (3, .sl 0), (4, .pv (.int .i64 k))]) (fun k => [(0, .row true 105 (fillR R k [.int .i64 0, .int .i64 0, .int .i64 0, .int .i64 0]))]) (fun k => k ≤ R.length) (fun k => R.length - k) 100 0 (Nat.zero_le _) (by simp (maxSteps := 2000000) only [pI, tvs, simprocAttr]; simp [fillR]) (fun k hk => ?_)
  have hl : (fillR R k [.int .i64 0, .int .i64 0, .int .i64 0, .int .i64 0]).length = R.length := by simp [fillR]; omega
  by_cases hlt : k < R.length
  · have d1 : decide ((k : Int) < (R.length : Int)) = true := by simpa using hlt
    have e1 : R[k]? = some R[k] := List.getElem?_eq_getElem hlt
    have e2 : (fillR R k [.int .i64 0, .int .i64 0, .int .i64 0, .int .i64 0])[k]? = some [.int .i64 0, .int .i64 0, .int .i64 0, .int .i64 0] := fillR_at hlt _
    have e3 := fillR_set (z := [.int .i64 0, .int .i64 0, .int .i64 0, .int .i64 0]) e1
    have hr := hs R[k] (List.getElem_mem hlt)
    generalize R[k] = r at e1 hr e3
    obtain ⟨a0, a1, a2, a3, rfl⟩ := hr
    simp only [pI] at e1 e3
    simp (maxSteps := 2000000) only [d1, e1, e2, hl, pI, tvs, simprocAttr]
    repeat (first | refine ftS (by kernel_rfl) ?_ | refine And.intro (by omega) ?_)
    refine aops_fn (toCode_ok a0 a1 a2 a3) (hidB rfl) rfl ?_
    simp (maxSteps := 2000000) only [d1, e1, e2, hl, pI, tvs, simprocAttr]
    repeat (first | refine ftS (by kernel_rfl) ?_ | refine And.intro (by omega) ?_)
    refine ⟨k + 1, ?_, ?_, ?_⟩
    · omega
    · omega
    · simp only [e3]
      first | omega | (refine ⟨by omega, ?_⟩; simp; done) | (simp; done)
  · have d1 : decide ((k : Int) < (R.length : Int)) = false := by simpa using hlt
    have e1 : fillR R k [.int .i64 0, .int .i64 0, .int .i64 0, .int .i64 0] = R := by simp [fillR, List.take_of_length_le (show R.length ≤ k by omega)]; omega
    simp (maxSteps := 2000000) only [d1, e1, pI, tvs, simprocAttr]
    repeat (first | refine ftS (by kernel_rfl) ?_ | refine And.intro (by omega) ?_)
    all_goals (first | rfl | trivial | skip)
set_option maxRecDepth 10000 in
set_option maxHeartbeats 4000000 in
theorem szCodeS_ok (R : List (List PV)) (left : Int) (hn : R.length ≤ 9223372036854775807) (h0 : 0 ≤ left) (h1 : left ≤ 1048576) : FnOk E.P 31 [.lst 107 R, pI left] (pI (restI left R.length)) true := by
  refine fn_ok mixed Tryz.func31 rfl (by kernel_rfl) _ Tryz.results31 _ Tryz.ntmps31 (by simp) (by kernel_rfl) ?_
  simp (maxSteps := 2000000) only [pI, tvs, simprocAttr]
  repeat (first | refine ftS (by kernel_rfl) ?_ | refine And.intro (by omega) ?_)
  by_cases hlt : left < R.length
  · have d1 : decide (left - (R.length : Int) < 0) = true := by simp; omega
    simp (maxSteps := 2000000) only [d1, restI, if_pos hlt, pI, tvs, simprocAttr]
    repeat (first | refine ftS (by kernel_rfl) ?_ | refine And.intro (by omega) ?_)
    all_goals (first | rfl | (simp [restI]; omega))
  · have d1 : decide (left - (R.length : Int) < 0) = false := by simp; omega
    simp (maxSteps := 2000000) only [d1, restI, if_neg hlt, pI, tvs, simprocAttr]
    repeat (first | refine ftS (by kernel_rfl) ?_ | refine And.intro (by omega) ?_)
    all_goals (first | rfl | (simp [restI]; omega))
set_option maxRecDepth 10000 in
set_option maxHeartbeats 4000000 in
theorem toChoice_ok (a0 : Int) (a1 : Int) (a2 : Int)  : FnOk E.P 36 [.agg [pI a0, pI a1, pI a2]] (.agg [pI a0, pI a1, pI a2]) true := by
  refine fn_ok mixed Tryz.func36 rfl (by kernel_rfl) _ Tryz.results36 _ Tryz.ntmps36 (by simp) (by kernel_rfl) ?_
  simp (maxSteps := 2000000) only [pI, tvs, simprocAttr]
  repeat (first | refine ftS (by kernel_rfl) ?_ | refine And.intro (by omega) ?_)
  all_goals (first | rfl | trivial | skip)
set_option maxRecDepth 10000 in
set_option maxHeartbeats 4000000 in
theorem toChoiceS_ok (R : List (List PV)) (hs : ShChoiceS R) : FnOk E.P 10 [.lst 73 R] (.lst 71 R) true := by
  obtain ⟨hn, hs⟩ := hs
  refine fn_ok mixed Tryz.func10 rfl (by kernel_rfl) _ Tryz.results10 _ Tryz.ntmps10 (by simp) (by kernel_rfl) ?_
  simp (maxSteps := 2000000) only [pI, tvs, simprocAttr]
  repeat (first | refine ftS (by kernel_rfl) ?_ | refine And.intro (by omega) ?_)
  refine awp_loop (X := Nat) (fun k => [(0, .pv (.lst 73 R)), (3, .sl 0), (4, .pv (.int .i64 k))]) (fun k => [(0, .row true 71 (fillR R k [.int .i64 0, .int .i64 0, .int .i64 0]))]) (fun k => k ≤ R.length) (fun k => R.length - k) 100 0 (Nat.zero_le _) (by simp (maxSteps := 2000000) only [pI, tvs, simprocAttr]; simp [fillR]) (fun k hk => ?_)
  have hl : (fillR R k [.int .i64 0, .int .i64 0, .int .i64 0]).length = R.length := by simp [fillR]; omega
  by_cases hlt : k < R.length
  · have d1 : decide ((k : Int) < (R.length : Int)) = true := by simpa using hlt
    have e1 : R[k]? = some R[k] := List.getElem?_eq_getElem hlt
    have e2 : (fillR R k [.int .i64 0, .int .i64 0, .int .i64 0])[k]? = some [.int .i64 0, .int .i64 0, .int .i64 0] := fillR_at hlt _
    have e3 := fillR_set (z := [.int .i64 0, .int .i64 0, .int .i64 0]) e1
    have hr := hs R[k] (List.getElem_mem hlt)
    generalize R[k] = r at e1 hr e3
    obtain ⟨a0, a1, a2, rfl⟩ := hr
    simp only [pI] at e1 e3
    simp (maxSteps := 2000000) only [d1, e1, e2, hl, pI, tvs, simprocAttr]
    repeat (first | refine ftS (by kernel_rfl) ?_ | refine And.intro (by omega) ?_)
    refine aops_fn (toChoice_ok a0 a1 a2) (hidB rfl) rfl ?_
    simp (maxSteps := 2000000) only [d1, e1, e2, hl, pI, tvs, simprocAttr]
    repeat (first | refine ftS (by kernel_rfl) ?_ | refine And.intro (by omega) ?_)
    refine ⟨k + 1, ?_, ?_, ?_⟩
    · omega
    · omega
    · simp only [e3]
      first | omega | (refine ⟨by omega, ?_⟩; simp; done) | (simp; done)
  · have d1 : decide ((k : Int) < (R.length : Int)) = false := by simpa using hlt
    have e1 : fillR R k [.int .i64 0, .int .i64 0, .int .i64 0] = R := by simp [fillR, List.take_of_length_le (show R.length ≤ k by omega)]; omega
    simp (maxSteps := 2000000) only [d1, e1, pI, tvs, simprocAttr]
    repeat (first | refine ftS (by kernel_rfl) ?_ | refine And.intro (by omega) ?_)
    all_goals (first | rfl | trivial | skip)
set_option maxRecDepth 10000 in
set_option maxHeartbeats 4000000 in
theorem szChoiceS_ok (R : List (List PV)) (left : Int) (hn : R.length ≤ 9223372036854775807) (h0 : 0 ≤ left) (h1 : left ≤ 1048576) : FnOk E.P 6 [.lst 73 R, pI left] (pI (restI left R.length)) true := by
  refine fn_ok mixed Tryz.func6 rfl (by kernel_rfl) _ Tryz.results6 _ Tryz.ntmps6 (by simp) (by kernel_rfl) ?_
  simp (maxSteps := 2000000) only [pI, tvs, simprocAttr]
  repeat (first | refine ftS (by kernel_rfl) ?_ | refine And.intro (by omega) ?_)
  by_cases hlt : left < R.length
  · have d1 : decide (left - (R.length : Int) < 0) = true := by simp; omega
    simp (maxSteps := 2000000) only [d1, restI, if_pos hlt, pI, tvs, simprocAttr]
    repeat (first | refine ftS (by kernel_rfl) ?_ | refine And.intro (by omega) ?_)
    all_goals (first | rfl | (simp [restI]; omega))
  · have d1 : decide (left - (R.length : Int) < 0) = false := by simp; omega
    simp (maxSteps := 2000000) only [d1, restI, if_neg hlt, pI, tvs, simprocAttr]
    repeat (first | refine ftS (by kernel_rfl) ?_ | refine And.intro (by omega) ?_)
    all_goals (first | rfl | (simp [restI]; omega))
set_option maxRecDepth 10000 in
set_option maxHeartbeats 4000000 in
theorem toProgram_ok (a0 : List (List PV)) (a1 : Int) (s0 : ShCodeS a0) : FnOk E.P 9 [.agg [.lst 107 a0, pI a1]] (.agg [.lst 105 a0, pI a1]) true := by
  refine fn_ok mixed Tryz.func9 rfl (by kernel_rfl) _ Tryz.results9 _ Tryz.ntmps9 (by simp) (by kernel_rfl) ?_
  simp (maxSteps := 2000000) only [pI, tvs, simprocAttr]
  repeat (first | refine ftS (by kernel_rfl) ?_ | refine And.intro (by omega) ?_)
  refine aops_fn (toCodeS_ok a0 s0) (hidB rfl) rfl ?_
  simp (maxSteps := 2000000) only [pI, tvs, simprocAttr]
  repeat (first | refine ftS (by kernel_rfl) ?_ | refine And.intro (by omega) ?_)
  all_goals (first | rfl | trivial | skip)
set_option maxRecDepth 10000 in
set_option maxHeartbeats 4000000 in
theorem szProgram_ok (x0 : List (List PV)) (x1 : Int) (left : Int) (n0 : x0.length ≤ 9223372036854775807) (h0 : 0 ≤ left) (h1 : left ≤ 1048576) : FnOk E.P 5 [.agg [.lst 107 x0, pI x1], pI left] (pI (restI left x0.length)) true := by
  by_cases g0 : left < x0.length
  · have r0 : restI (left) x0.length = -1 := if_pos g0
    refine fn_ok mixed Tryz.func5 rfl (by kernel_rfl) _ Tryz.results5 _ Tryz.ntmps5 (by simp) (by kernel_rfl) ?_
    simp (maxSteps := 2000000) only [r0, pI, tvs, simprocAttr]
    repeat (first | refine ftS (by kernel_rfl) ?_ | refine And.intro (by omega) ?_)
    refine aops_fn (szCodeS_ok x0 (left) n0 (by omega) (by omega)) (hidB rfl) rfl ?_
    simp (maxSteps := 2000000) only [r0, pI, tvs, simprocAttr]
    repeat (first | refine ftS (by kernel_rfl) ?_ | refine And.intro (by omega) ?_)
    all_goals (first | rfl | trivial | skip)
  · have r0 : restI (left) x0.length = left - x0.length := if_neg g0
    have d0 : decide (left - (x0.length : Int) < 0) = false := by simp; omega
    refine fn_ok mixed Tryz.func5 rfl (by kernel_rfl) _ Tryz.results5 _ Tryz.ntmps5 (by simp) (by kernel_rfl) ?_
    simp (maxSteps := 2000000) only [r0, d0, pI, tvs, simprocAttr]
    repeat (first | refine ftS (by kernel_rfl) ?_ | refine And.intro (by omega) ?_)
    refine aops_fn (szCodeS_ok x0 (left) n0 (by omega) (by omega)) (hidB rfl) rfl ?_
    simp (maxSteps := 2000000) only [r0, d0, pI, tvs, simprocAttr]
    repeat (first | refine ftS (by kernel_rfl) ?_ | refine And.intro (by omega) ?_)
    all_goals (first | rfl | trivial | skip)
end Av
end Go.Proofs.YtbkbppllcjcmhaaGreat
