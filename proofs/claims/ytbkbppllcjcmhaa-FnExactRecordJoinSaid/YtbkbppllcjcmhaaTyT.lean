/-
  What laws make of their parameters, and how long these are.
-/
import Derived.Test.YtbkbppllcjcmhaaTyMs
set_option linter.unusedSimpArgs false
set_option linter.unusedVariables false
namespace Go.Proofs.Ytbkbppllcjcmhaa
open Go.RowKit
namespace Av
/-- what is left -/
def restI (left : Int) (n : Nat) : Int := if left < n then -1 else left - n
/-- a row that is filled up to a place -/
def fillR (R : List (List PV)) (k : Nat) (z : List PV) : List (List PV) := R.take k ++ List.replicate (R.length - k) z
theorem fillR_at {R : List (List PV)} {k : Nat} (h : k < R.length) (z : List PV) : (fillR R k z)[k]? = some z := by
  have hk : (R.take k).length = k := by rw [List.length_take]; omega
  simp [fillR, List.getElem?_append, hk, List.getElem?_replicate]
  omega
theorem fillR_set {R : List (List PV)} {k : Nat} {r z : List PV} (h : R[k]? = some r) : (fillR R k z).set k r = fillR R (k + 1) z := by
  obtain ⟨hk, rfl⟩ := List.getElem?_eq_some_iff.1 h
  have hl : (R.take k).length = k := by rw [List.length_take]; omega
  have e1 : R.length - k = (R.length - (k + 1)) + 1 := by omega
  unfold fillR
  rw [List.set_append, if_neg (by omega), hl, Nat.sub_self, e1, List.replicate_succ, List.set_cons_zero, List.take_succ_eq_append_getElem hk, List.append_assoc]
  rfl
set_option maxRecDepth 10000 in
set_option maxHeartbeats 4000000 in
theorem toIntS_ok (R : List (List PV)) (hs : ShIntS R) : FnOk E.P 62 [.lst 3 R] (.lst 3 R) true := by
  obtain ⟨hn, hs⟩ := hs
  refine fn_ok mixed Try.func62 rfl (by kernel_rfl) _ Try.results62 _ Try.ntmps62 (by simp) (by kernel_rfl) ?_
  simp (maxSteps := 2000000) only [pI, tvs, simprocAttr]
  repeat (first | refine ftS (by kernel_rfl) ?_ | refine And.intro (by omega) ?_)
  refine awp_loop (X := Nat) (fun k => [(0, .pv (.lst 3 R)), (3, .sl 0), (4, .pv (.int .i64 k))]) (fun k => [(0, .row true 3 (fillR R k [.int .i64 0]))]) (fun k => k ≤ R.length) (fun k => R.length - k) 100 0 (Nat.zero_le _) (by simp (maxSteps := 2000000) only [pI, tvs, simprocAttr]; simp [fillR]) (fun k hk => ?_)
  have hl : (fillR R k [.int .i64 0]).length = R.length := by simp [fillR]; omega
  by_cases hlt : k < R.length
  · have d1 : decide ((k : Int) < (R.length : Int)) = true := by simpa using hlt
    have e1 : R[k]? = some R[k] := List.getElem?_eq_getElem hlt
    have e2 : (fillR R k [.int .i64 0])[k]? = some [.int .i64 0] := fillR_at hlt _
    have e3 := fillR_set (z := [.int .i64 0]) e1
    have hr := hs R[k] (List.getElem_mem hlt)
    generalize R[k] = r at e1 hr e3
    obtain ⟨a0, rfl⟩ := hr
    simp only [pI] at e1 e3
    simp (maxSteps := 2000000) only [d1, e1, e2, hl, pI, tvs, simprocAttr]
    repeat (first | refine ftS (by kernel_rfl) ?_ | refine And.intro (by omega) ?_)
    refine ⟨k + 1, ?_, ?_, ?_⟩
    · omega
    · omega
    · simp only [e3]
      first | omega | (refine ⟨by omega, ?_⟩; simp; done) | (simp; done)
  · have d1 : decide ((k : Int) < (R.length : Int)) = false := by simpa using hlt
    have e1 : fillR R k [.int .i64 0] = R := by simp [fillR, List.take_of_length_le (show R.length ≤ k by omega)]; omega
    simp (maxSteps := 2000000) only [d1, e1, pI, tvs, simprocAttr]
    repeat (first | refine ftS (by kernel_rfl) ?_ | refine And.intro (by omega) ?_)
    all_goals (first | rfl | trivial | skip)
set_option maxRecDepth 10000 in
set_option maxHeartbeats 4000000 in
theorem szIntS_ok (R : List (List PV)) (left : Int) (hn : R.length ≤ 9223372036854775807) (h0 : 0 ≤ left) (h1 : left ≤ 1048576) : FnOk E.P 57 [.lst 3 R, pI left] (pI (restI left R.length)) true := by
  refine fn_ok mixed Try.func57 rfl (by kernel_rfl) _ Try.results57 _ Try.ntmps57 (by simp) (by kernel_rfl) ?_
  simp (maxSteps := 2000000) only [pI, tvs, simprocAttr]
  repeat (first | refine ftS (by kernel_rfl) ?_ | refine And.intro (by omega) ?_)
  by_cases hlt : left < R.length
  · have d1 : decide (left - (R.length : Int) < 0) = true := by simp; omega
    simp (maxSteps := 2000000) only [d1, restI, if_pos hlt, pI, tvs, simprocAttr]
    repeat (first | refine ftS (by kernel_rfl) ?_ | refine And.intro (by omega) ?_)
    all_goals (first | rfl | (simp [restI]; omega))
  · have d1 : decide (left - (R.length : Int) < 0) = false := by simp; omega
    simp (maxSteps := 2000000) only [d1, restI, if_neg hlt, pI, tvs, simprocAttr]
    repeat (first | refine ftS (by kernel_rfl) ?_ | refine And.intro (by omega) ?_)
    all_goals (first | rfl | (simp [restI]; omega))
set_option maxRecDepth 10000 in
set_option maxHeartbeats 4000000 in
theorem toCode_ok (a0 : Int) (a1 : Int) (a2 : Int) (a3 : Int)  : FnOk E.P 103 [.agg [pI a0, pI a1, pI a2, pI a3]] (.agg [pI a0, pI a1, pI a2, pI a3]) true := by
  refine fn_ok mixed Try.func103 rfl (by kernel_rfl) _ Try.results103 _ Try.ntmps103 (by simp) (by kernel_rfl) ?_
  simp (maxSteps := 2000000) only [pI, tvs, simprocAttr]
  repeat (first | refine ftS (by kernel_rfl) ?_ | refine And.intro (by omega) ?_)
  all_goals (first | rfl | trivial | skip)
set_option maxRecDepth 10000 in
set_option maxHeartbeats 4000000 in
theorem toCodeS_ok (R : List (List PV)) (hs : ShCodeS R) : FnOk E.P 69 [.lst 143 R] (.lst 141 R) true := by
  obtain ⟨hn, hs⟩ := hs
  refine fn_ok mixed Try.func69 rfl (by kernel_rfl) _ Try.results69 _ Try.ntmps69 (by simp) (by kernel_rfl) ?_
  simp (maxSteps := 2000000) only [pI, tvs, simprocAttr]
  repeat (first | refine ftS (by kernel_rfl) ?_ | refine And.intro (by omega) ?_)
  refine awp_loop (X := Nat) (fun k => [(0, .pv (.lst 143 R)), (3, .sl 0), (4, .pv (.int .i64 k))]) (fun k => [(0, .row true 141 (fillR R k [.int .i64 0, .int .i64 0, .int .i64 0, .int .i64 0]))]) (fun k => k ≤ R.length) (fun k => R.length - k) 100 0 (Nat.zero_le _) (by simp (maxSteps := 2000000) only [pI, tvs, simprocAttr]; simp [fillR]) (fun k hk => ?_)
  have hl : (fillR R k [.int .i64 0, .int .i64 0, .int .i64 0, .int .i64 0]).length = R.length := by simp [fillR]; omega
  by_cases hlt : k < R.length
  · have d1 : decide ((k : Int) < (R.length : Int)) = true := by simpa using hlt
    have e1 : R[k]? = some R[k] := List.getElem?_eq_getElem hlt
    have e2 : (fillR R k [.int .i64 0, .int .i64 0, .int .i64 0, .int .i64 0])[k]? = some [.int .i64 0, .int .i64 0, .int .i64 0, .int .i64 0] := fillR_at hlt _
    have e3 := fillR_set (z := [.int .i64 0, .int .i64 0, .int .i64 0, .int .i64 0]) e1
    have hr := hs R[k] (List.getElem_mem hlt)
    generalize R[k] = r at e1 hr e3
    obtain ⟨a0, a1, a2, a3, rfl⟩ := hr
    simp only [pI] at e1 e3
    simp (maxSteps := 2000000) only [d1, e1, e2, hl, pI, tvs, simprocAttr]
    repeat (first | refine ftS (by kernel_rfl) ?_ | refine And.intro (by omega) ?_)
    refine aops_fn (toCode_ok a0 a1 a2 a3) (hidB rfl) rfl ?_
    simp (maxSteps := 2000000) only [d1, e1, e2, hl, pI, tvs, simprocAttr]
    repeat (first | refine ftS (by kernel_rfl) ?_ | refine And.intro (by omega) ?_)
    refine ⟨k + 1, ?_, ?_, ?_⟩
    · omega
    · omega
    · simp only [e3]
      first | omega | (refine ⟨by omega, ?_⟩; simp; done) | (simp; done)
  · have d1 : decide ((k : Int) < (R.length : Int)) = false := by simpa using hlt
    have e1 : fillR R k [.int .i64 0, .int .i64 0, .int .i64 0, .int .i64 0] = R := by simp [fillR, List.take_of_length_le (show R.length ≤ k by omega)]; omega
    simp (maxSteps := 2000000) only [d1, e1, pI, tvs, simprocAttr]
    repeat (first | refine ftS (by kernel_rfl) ?_ | refine And.intro (by omega) ?_)
    all_goals (first | rfl | trivial | skip)
set_option maxRecDepth 10000 in
set_option maxHeartbeats 4000000 in
theorem szCodeS_ok (R : List (List PV)) (left : Int) (hn : R.length ≤ 9223372036854775807) (h0 : 0 ≤ left) (h1 : left ≤ 1048576) : FnOk E.P 66 [.lst 143 R, pI left] (pI (restI left R.length)) true := by
  refine fn_ok mixed Try.func66 rfl (by kernel_rfl) _ Try.results66 _ Try.ntmps66 (by simp) (by kernel_rfl) ?_
  simp (maxSteps := 2000000) only [pI, tvs, simprocAttr]
  repeat (first | refine ftS (by kernel_rfl) ?_ | refine And.intro (by omega) ?_)
  by_cases hlt : left < R.length
  · have d1 : decide (left - (R.length : Int) < 0) = true := by simp; omega
    simp (maxSteps := 2000000) only [d1, restI, if_pos hlt, pI, tvs, simprocAttr]
    repeat (first | refine ftS (by kernel_rfl) ?_ | refine And.intro (by omega) ?_)
    all_goals (first | rfl | (simp [restI]; omega))
  · have d1 : decide (left - (R.length : Int) < 0) = false := by simp; omega
    simp (maxSteps := 2000000) only [d1, restI, if_neg hlt, pI, tvs, simprocAttr]
    repeat (first | refine ftS (by kernel_rfl) ?_ | refine And.intro (by omega) ?_)
    all_goals (first | rfl | (simp [restI]; omega))
set_option maxRecDepth 10000 in
set_option maxHeartbeats 4000000 in
theorem toChoice_ok (a0 : Int) (a1 : Int) (a2 : Int)  : FnOk E.P 86 [.agg [pI a0, pI a1, pI a2]] (.agg [pI a0, pI a1, pI a2]) true := by
  refine fn_ok mixed Try.func86 rfl (by kernel_rfl) _ Try.results86 _ Try.ntmps86 (by simp) (by kernel_rfl) ?_
  simp (maxSteps := 2000000) only [pI, tvs, simprocAttr]
  repeat (first | refine ftS (by kernel_rfl) ?_ | refine And.intro (by omega) ?_)
  all_goals (first | rfl | trivial | skip)
set_option maxRecDepth 10000 in
set_option maxHeartbeats 4000000 in
theorem toChoiceS_ok (R : List (List PV)) (hs : ShChoiceS R) : FnOk E.P 42 [.lst 124 R] (.lst 122 R) true := by
  obtain ⟨hn, hs⟩ := hs
  refine fn_ok mixed Try.func42 rfl (by kernel_rfl) _ Try.results42 _ Try.ntmps42 (by simp) (by kernel_rfl) ?_
  simp (maxSteps := 2000000) only [pI, tvs, simprocAttr]
  repeat (first | refine ftS (by kernel_rfl) ?_ | refine And.intro (by omega) ?_)
  refine awp_loop (X := Nat) (fun k => [(0, .pv (.lst 124 R)), (3, .sl 0), (4, .pv (.int .i64 k))]) (fun k => [(0, .row true 122 (fillR R k [.int .i64 0, .int .i64 0, .int .i64 0]))]) (fun k => k ≤ R.length) (fun k => R.length - k) 100 0 (Nat.zero_le _) (by simp (maxSteps := 2000000) only [pI, tvs, simprocAttr]; simp [fillR]) (fun k hk => ?_)
  have hl : (fillR R k [.int .i64 0, .int .i64 0, .int .i64 0]).length = R.length := by simp [fillR]; omega
  by_cases hlt : k < R.length
  · have d1 : decide ((k : Int) < (R.length : Int)) = true := by simpa using hlt
    have e1 : R[k]? = some R[k] := List.getElem?_eq_getElem hlt
    have e2 : (fillR R k [.int .i64 0, .int .i64 0, .int .i64 0])[k]? = some [.int .i64 0, .int .i64 0, .int .i64 0] := fillR_at hlt _
    have e3 := fillR_set (z := [.int .i64 0, .int .i64 0, .int .i64 0]) e1
    have hr := hs R[k] (List.getElem_mem hlt)
    generalize R[k] = r at e1 hr e3
    obtain ⟨a0, a1, a2, rfl⟩ := hr
    simp only [pI] at e1 e3
    simp (maxSteps := 2000000) only [d1, e1, e2, hl, pI, tvs, simprocAttr]
    repeat (first | refine ftS (by kernel_rfl) ?_ | refine And.intro (by omega) ?_)
    refine aops_fn (toChoice_ok a0 a1 a2) (hidB rfl) rfl ?_
    simp (maxSteps := 2000000) only [d1, e1, e2, hl, pI, tvs, simprocAttr]
    repeat (first | refine ftS (by kernel_rfl) ?_ | refine And.intro (by omega) ?_)
    refine ⟨k + 1, ?_, ?_, ?_⟩
    · omega
    · omega
    · simp only [e3]
      first | omega | (refine ⟨by omega, ?_⟩; simp; done) | (simp; done)
  · have d1 : decide ((k : Int) < (R.length : Int)) = false := by simpa using hlt
    have e1 : fillR R k [.int .i64 0, .int .i64 0, .int .i64 0] = R := by simp [fillR, List.take_of_length_le (show R.length ≤ k by omega)]; omega
    simp (maxSteps := 2000000) only [d1, e1, pI, tvs, simprocAttr]
    repeat (first | refine ftS (by kernel_rfl) ?_ | refine And.intro (by omega) ?_)
    all_goals (first | rfl | trivial | skip)
set_option maxRecDepth 10000 in
set_option maxHeartbeats 4000000 in
theorem szChoiceS_ok (R : List (List PV)) (left : Int) (hn : R.length ≤ 9223372036854775807) (h0 : 0 ≤ left) (h1 : left ≤ 1048576) : FnOk E.P 40 [.lst 124 R, pI left] (pI (restI left R.length)) true := by
  refine fn_ok mixed Try.func40 rfl (by kernel_rfl) _ Try.results40 _ Try.ntmps40 (by simp) (by kernel_rfl) ?_
  simp (maxSteps := 2000000) only [pI, tvs, simprocAttr]
  repeat (first | refine ftS (by kernel_rfl) ?_ | refine And.intro (by omega) ?_)
  by_cases hlt : left < R.length
  · have d1 : decide (left - (R.length : Int) < 0) = true := by simp; omega
    simp (maxSteps := 2000000) only [d1, restI, if_pos hlt, pI, tvs, simprocAttr]
    repeat (first | refine ftS (by kernel_rfl) ?_ | refine And.intro (by omega) ?_)
    all_goals (first | rfl | (simp [restI]; omega))
  · have d1 : decide (left - (R.length : Int) < 0) = false := by simp; omega
    simp (maxSteps := 2000000) only [d1, restI, if_neg hlt, pI, tvs, simprocAttr]
    repeat (first | refine ftS (by kernel_rfl) ?_ | refine And.intro (by omega) ?_)
    all_goals (first | rfl | (simp [restI]; omega))
set_option maxRecDepth 10000 in
set_option maxHeartbeats 4000000 in
theorem toSlice_ok (a0 : Int) (a1 : Int) (a2 : Int)  : FnOk E.P 104 [.agg [pI a0, pI a1, pI a2]] (.agg [pI a0, pI a1, pI a2]) true := by
  refine fn_ok mixed Try.func104 rfl (by kernel_rfl) _ Try.results104 _ Try.ntmps104 (by simp) (by kernel_rfl) ?_
  simp (maxSteps := 2000000) only [pI, tvs, simprocAttr]
  repeat (first | refine ftS (by kernel_rfl) ?_ | refine And.intro (by omega) ?_)
  all_goals (first | rfl | trivial | skip)
set_option maxRecDepth 10000 in
set_option maxHeartbeats 4000000 in
theorem toSliceS_ok (R : List (List PV)) (hs : ShSliceS R) : FnOk E.P 70 [.lst 145 R] (.lst 104 R) true := by
  obtain ⟨hn, hs⟩ := hs
  refine fn_ok mixed Try.func70 rfl (by kernel_rfl) _ Try.results70 _ Try.ntmps70 (by simp) (by kernel_rfl) ?_
  simp (maxSteps := 2000000) only [pI, tvs, simprocAttr]
  repeat (first | refine ftS (by kernel_rfl) ?_ | refine And.intro (by omega) ?_)
  refine awp_loop (X := Nat) (fun k => [(0, .pv (.lst 145 R)), (3, .sl 0), (4, .pv (.int .i64 k))]) (fun k => [(0, .row true 104 (fillR R k [.int .i64 0, .int .i64 0, .int .i64 0]))]) (fun k => k ≤ R.length) (fun k => R.length - k) 100 0 (Nat.zero_le _) (by simp (maxSteps := 2000000) only [pI, tvs, simprocAttr]; simp [fillR]) (fun k hk => ?_)
  have hl : (fillR R k [.int .i64 0, .int .i64 0, .int .i64 0]).length = R.length := by simp [fillR]; omega
  by_cases hlt : k < R.length
  · have d1 : decide ((k : Int) < (R.length : Int)) = true := by simpa using hlt
    have e1 : R[k]? = some R[k] := List.getElem?_eq_getElem hlt
    have e2 : (fillR R k [.int .i64 0, .int .i64 0, .int .i64 0])[k]? = some [.int .i64 0, .int .i64 0, .int .i64 0] := fillR_at hlt _
    have e3 := fillR_set (z := [.int .i64 0, .int .i64 0, .int .i64 0]) e1
    have hr := hs R[k] (List.getElem_mem hlt)
    generalize R[k] = r at e1 hr e3
    obtain ⟨a0, a1, a2, rfl⟩ := hr
    simp only [pI] at e1 e3
    simp (maxSteps := 2000000) only [d1, e1, e2, hl, pI, tvs, simprocAttr]
    repeat (first | refine ftS (by kernel_rfl) ?_ | refine And.intro (by omega) ?_)
    refine aops_fn (toSlice_ok a0 a1 a2) (hidB rfl) rfl ?_
    simp (maxSteps := 2000000) only [d1, e1, e2, hl, pI, tvs, simprocAttr]
    repeat (first | refine ftS (by kernel_rfl) ?_ | refine And.intro (by omega) ?_)
    refine ⟨k + 1, ?_, ?_, ?_⟩
    · omega
    · omega
    · simp only [e3]
      first | omega | (refine ⟨by omega, ?_⟩; simp; done) | (simp; done)
  · have d1 : decide ((k : Int) < (R.length : Int)) = false := by simpa using hlt
    have e1 : fillR R k [.int .i64 0, .int .i64 0, .int .i64 0] = R := by simp [fillR, List.take_of_length_le (show R.length ≤ k by omega)]; omega
    simp (maxSteps := 2000000) only [d1, e1, pI, tvs, simprocAttr]
    repeat (first | refine ftS (by kernel_rfl) ?_ | refine And.intro (by omega) ?_)
    all_goals (first | rfl | trivial | skip)
set_option maxRecDepth 10000 in
set_option maxHeartbeats 4000000 in
theorem szSliceS_ok (R : List (List PV)) (left : Int) (hn : R.length ≤ 9223372036854775807) (h0 : 0 ≤ left) (h1 : left ≤ 1048576) : FnOk E.P 67 [.lst 145 R, pI left] (pI (restI left R.length)) true := by
  refine fn_ok mixed Try.func67 rfl (by kernel_rfl) _ Try.results67 _ Try.ntmps67 (by simp) (by kernel_rfl) ?_
  simp (maxSteps := 2000000) only [pI, tvs, simprocAttr]
  repeat (first | refine ftS (by kernel_rfl) ?_ | refine And.intro (by omega) ?_)
  by_cases hlt : left < R.length
  · have d1 : decide (left - (R.length : Int) < 0) = true := by simp; omega
    simp (maxSteps := 2000000) only [d1, restI, if_pos hlt, pI, tvs, simprocAttr]
    repeat (first | refine ftS (by kernel_rfl) ?_ | refine And.intro (by omega) ?_)
    all_goals (first | rfl | (simp [restI]; omega))
  · have d1 : decide (left - (R.length : Int) < 0) = false := by simp; omega
    simp (maxSteps := 2000000) only [d1, restI, if_neg hlt, pI, tvs, simprocAttr]
    repeat (first | refine ftS (by kernel_rfl) ?_ | refine And.intro (by omega) ?_)
    all_goals (first | rfl | (simp [restI]; omega))
set_option maxRecDepth 10000 in
set_option maxHeartbeats 4000000 in
theorem toProgram_ok (a0 : List (List PV)) (a1 : Int) (s0 : ShCodeS a0) : FnOk E.P 32 [.agg [.lst 143 a0, pI a1]] (.agg [.lst 141 a0, pI a1]) true := by
  refine fn_ok mixed Try.func32 rfl (by kernel_rfl) _ Try.results32 _ Try.ntmps32 (by simp) (by kernel_rfl) ?_
  simp (maxSteps := 2000000) only [pI, tvs, simprocAttr]
  repeat (first | refine ftS (by kernel_rfl) ?_ | refine And.intro (by omega) ?_)
  refine aops_fn (toCodeS_ok a0 s0) (hidB rfl) rfl ?_
  simp (maxSteps := 2000000) only [pI, tvs, simprocAttr]
  repeat (first | refine ftS (by kernel_rfl) ?_ | refine And.intro (by omega) ?_)
  all_goals (first | rfl | trivial | skip)
set_option maxRecDepth 10000 in
set_option maxHeartbeats 4000000 in
theorem szProgram_ok (x0 : List (List PV)) (x1 : Int) (left : Int) (n0 : x0.length ≤ 9223372036854775807) (h0 : 0 ≤ left) (h1 : left ≤ 1048576) : FnOk E.P 29 [.agg [.lst 143 x0, pI x1], pI left] (pI (restI left x0.length)) true := by
  by_cases g0 : left < x0.length
  · have r0 : restI (left) x0.length = -1 := if_pos g0
    refine fn_ok mixed Try.func29 rfl (by kernel_rfl) _ Try.results29 _ Try.ntmps29 (by simp) (by kernel_rfl) ?_
    simp (maxSteps := 2000000) only [r0, pI, tvs, simprocAttr]
    repeat (first | refine ftS (by kernel_rfl) ?_ | refine And.intro (by omega) ?_)
    refine aops_fn (szCodeS_ok x0 (left) n0 (by omega) (by omega)) (hidB rfl) rfl ?_
    simp (maxSteps := 2000000) only [r0, pI, tvs, simprocAttr]
    repeat (first | refine ftS (by kernel_rfl) ?_ | refine And.intro (by omega) ?_)
    all_goals (first | rfl | trivial | skip)
  · have r0 : restI (left) x0.length = left - x0.length := if_neg g0
    have d0 : decide (left - (x0.length : Int) < 0) = false := by simp; omega
    refine fn_ok mixed Try.func29 rfl (by kernel_rfl) _ Try.results29 _ Try.ntmps29 (by simp) (by kernel_rfl) ?_
    simp (maxSteps := 2000000) only [r0, d0, pI, tvs, simprocAttr]
    repeat (first | refine ftS (by kernel_rfl) ?_ | refine And.intro (by omega) ?_)
    refine aops_fn (szCodeS_ok x0 (left) n0 (by omega) (by omega)) (hidB rfl) rfl ?_
    simp (maxSteps := 2000000) only [r0, d0, pI, tvs, simprocAttr]
    repeat (first | refine ftS (by kernel_rfl) ?_ | refine And.intro (by omega) ?_)
    all_goals (first | rfl | trivial | skip)
set_option maxRecDepth 10000 in
set_option maxHeartbeats 4000000 in
theorem toRecord_ok (a0 : List (List PV)) (a1 : List (List PV)) (s0 : ShSliceS a0) (s1 : ShIntS a1) : FnOk E.P 33 [.agg [.lst 145 a0, .lst 3 a1]] (.agg [.lst 104 a0, .lst 3 a1]) true := by
  refine fn_ok mixed Try.func33 rfl (by kernel_rfl) _ Try.results33 _ Try.ntmps33 (by simp) (by kernel_rfl) ?_
  simp (maxSteps := 2000000) only [pI, tvs, simprocAttr]
  repeat (first | refine ftS (by kernel_rfl) ?_ | refine And.intro (by omega) ?_)
  refine aops_fn (toSliceS_ok a0 s0) (hidB rfl) rfl ?_
  simp (maxSteps := 2000000) only [pI, tvs, simprocAttr]
  repeat (first | refine ftS (by kernel_rfl) ?_ | refine And.intro (by omega) ?_)
  refine aops_fn (toIntS_ok a1 s1) (hidB rfl) rfl ?_
  simp (maxSteps := 2000000) only [pI, tvs, simprocAttr]
  repeat (first | refine ftS (by kernel_rfl) ?_ | refine And.intro (by omega) ?_)
  all_goals (first | rfl | trivial | skip)
set_option maxRecDepth 10000 in
set_option maxHeartbeats 4000000 in
theorem szRecord_ok (x0 : List (List PV)) (x1 : List (List PV)) (left : Int) (n0 : x0.length ≤ 9223372036854775807) (n1 : x1.length ≤ 9223372036854775807) (h0 : 0 ≤ left) (h1 : left ≤ 1048576) : FnOk E.P 30 [.agg [.lst 145 x0, .lst 3 x1], pI left] (pI (restI (restI left x0.length) x1.length)) true := by
  by_cases g0 : left < x0.length
  · have r0 : restI (left) x0.length = -1 := if_pos g0
    have t0 : restI (-1) x1.length = -1 := if_pos (by omega)
    refine fn_ok mixed Try.func30 rfl (by kernel_rfl) _ Try.results30 _ Try.ntmps30 (by simp) (by kernel_rfl) ?_
    simp (maxSteps := 2000000) only [r0, t0, pI, tvs, simprocAttr]
    repeat (first | refine ftS (by kernel_rfl) ?_ | refine And.intro (by omega) ?_)
    refine aops_fn (szSliceS_ok x0 (left) n0 (by omega) (by omega)) (hidB rfl) rfl ?_
    simp (maxSteps := 2000000) only [r0, t0, pI, tvs, simprocAttr]
    repeat (first | refine ftS (by kernel_rfl) ?_ | refine And.intro (by omega) ?_)
    all_goals (first | rfl | trivial | skip)
  · have r0 : restI (left) x0.length = left - x0.length := if_neg g0
    have d0 : decide (left - (x0.length : Int) < 0) = false := by simp; omega
    by_cases g1 : left - x0.length < x1.length
    · have r1 : restI (left - x0.length) x1.length = -1 := if_pos g1
      refine fn_ok mixed Try.func30 rfl (by kernel_rfl) _ Try.results30 _ Try.ntmps30 (by simp) (by kernel_rfl) ?_
      simp (maxSteps := 2000000) only [r0, d0, r1, pI, tvs, simprocAttr]
      repeat (first | refine ftS (by kernel_rfl) ?_ | refine And.intro (by omega) ?_)
      refine aops_fn (szSliceS_ok x0 (left) n0 (by omega) (by omega)) (hidB rfl) rfl ?_
      simp (maxSteps := 2000000) only [r0, d0, r1, pI, tvs, simprocAttr]
      repeat (first | refine ftS (by kernel_rfl) ?_ | refine And.intro (by omega) ?_)
      refine aops_fn (szIntS_ok x1 (left - x0.length) n1 (by omega) (by omega)) (hidB rfl) rfl ?_
      simp (maxSteps := 2000000) only [r0, d0, r1, pI, tvs, simprocAttr]
      repeat (first | refine ftS (by kernel_rfl) ?_ | refine And.intro (by omega) ?_)
      all_goals (first | rfl | trivial | skip)
    · have r1 : restI (left - x0.length) x1.length = left - x0.length - x1.length := if_neg g1
      have d1 : decide (left - x0.length - (x1.length : Int) < 0) = false := by simp; omega
      refine fn_ok mixed Try.func30 rfl (by kernel_rfl) _ Try.results30 _ Try.ntmps30 (by simp) (by kernel_rfl) ?_
      simp (maxSteps := 2000000) only [r0, d0, r1, d1, pI, tvs, simprocAttr]
      repeat (first | refine ftS (by kernel_rfl) ?_ | refine And.intro (by omega) ?_)
      refine aops_fn (szSliceS_ok x0 (left) n0 (by omega) (by omega)) (hidB rfl) rfl ?_
      simp (maxSteps := 2000000) only [r0, d0, r1, d1, pI, tvs, simprocAttr]
      repeat (first | refine ftS (by kernel_rfl) ?_ | refine And.intro (by omega) ?_)
      refine aops_fn (szIntS_ok x1 (left - x0.length) n1 (by omega) (by omega)) (hidB rfl) rfl ?_
      simp (maxSteps := 2000000) only [r0, d0, r1, d1, pI, tvs, simprocAttr]
      repeat (first | refine ftS (by kernel_rfl) ?_ | refine And.intro (by omega) ?_)
      all_goals (first | rfl | trivial | skip)
end Av
end Go.Proofs.Ytbkbppllcjcmhaa
