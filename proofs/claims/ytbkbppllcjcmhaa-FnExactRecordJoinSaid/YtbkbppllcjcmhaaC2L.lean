/-
  Chapter 2: what a step does: the program's.
-/
import Derived.Test.YtbkbppllcjcmhaaC2K
set_option linter.unusedSimpArgs false
set_option linter.unusedVariables false
namespace Go.Proofs.Ytbkbppllcjcmhaa
open Go.RowKit
namespace Av
theorem at_int {xs : List Int} {i : Nat} (h : i < xs.length) : (xs.map fun x => [PV.int .i64 x])[i]? = some [.int .i64 xs[i]] ∧ xs.getD i 0 = xs[i] := ⟨by simp [h], by simp [h]⟩
theorem at_th {ths : List Bt.Th} {k : Nat} {t : Bt.Th} (h : ths[k]? = some t) : (ths.map pTh)[k]? = some (pTh t) ∧ k < ths.length := ⟨by rw [List.getElem?_map, h]; rfl, (List.getElem?_eq_some_iff.1 h).1⟩
theorem drop_last (xs : List Int) : (xs.map fun x => [PV.int .i64 x]).take (((xs.length : Int) - 1).toNat) = (xs.take (xs.length - 1)).map fun x => [PV.int .i64 x] := by
  rw [List.map_take]
  congr 1
  omega
set_option maxHeartbeats 4000000 in
theorem place_ok {t : Bt.Th} {x : Bt.C4} (hr : t.regs.length = 4) (hx : Bt.codeOk x.op x.a x.b x.c = true) (hs : x.op = 12 → t.stack ≠ []) (hs6 : t.stack.length ≤ 6) (hp : 0 ≤ t.pl ∧ t.pl ≤ 1048576) : FnOk E.P 160 [.agg (pTh t), .agg (pCode x)] (pI (Bt.placeI t x)) true := by
  obtain ⟨op, a, b, c⟩ := x
  obtain ⟨pl, regs, stack, st⟩ := t
  simp only at hr hx hs hs6 hp
  obtain ⟨a0, a1⟩ := Bt.codeOk_A hx
  obtain ⟨i, rfl⟩ : ∃ i : Nat, a = i := ⟨a.toNat, by omega⟩
  obtain ⟨ei, eg⟩ := at_int (xs := regs) (i := i) (by omega)
  unfold Bt.placeI
  simp only [Int.toNat_natCast, eg]
  generalize regs[i]'(by omega) = va at *
  refine fn_ok mixed Try.func160 rfl (by kernel_rfl) _ Try.results160 _ Try.ntmps160 (by simp) (by kernel_rfl) ?_
  by_cases g0 : op = 0
  · subst g0
    repeat (first | (refine aops_fnX rfl ?_ ?_; focus (simp (maxSteps := 4000000) only [sks, Int.reduceBEq, if_true, pTh, pCode, pInts, pI, tvl, simprocAttr]; done)) | (simp (maxSteps := 4000000) only [Int.reduceBEq, if_true, pTh, pCode, pInts, pI, tvl, simprocAttr]) | refine ftS (by kernel_rfl) ?_ | refine And.intro (by omega) ?_)
    all_goals (first | rfl | trivial | skip)
  have f0 : (op == 0) = false := by simpa using g0
  rw [if_neg g0]
  by_cases g9 : op = 9
  · subst g9
    repeat (first | (refine aops_fnX rfl ?_ ?_; focus (simp (maxSteps := 4000000) only [sks, Int.reduceBEq, f0, true_or, if_true, pTh, pCode, pInts, pI, tvl, simprocAttr]; done)) | (simp (maxSteps := 4000000) only [Int.reduceBEq, f0, true_or, if_true, pTh, pCode, pInts, pI, tvl, simprocAttr]) | refine ftS (by kernel_rfl) ?_ | refine And.intro (by omega) ?_)
    all_goals (first | rfl | trivial | skip)
  have f9 : (op == 9) = false := by simpa using g9
  by_cases g11 : op = 11
  · subst g11
    repeat (first | (refine aops_fnX rfl ?_ ?_; focus (simp (maxSteps := 4000000) only [sks, Int.reduceBEq, f0, f9, or_true, if_true, pTh, pCode, pInts, pI, tvl, simprocAttr]; done)) | (simp (maxSteps := 4000000) only [Int.reduceBEq, f0, f9, or_true, if_true, pTh, pCode, pInts, pI, tvl, simprocAttr]) | refine ftS (by kernel_rfl) ?_ | refine And.intro (by omega) ?_)
    all_goals (first | rfl | trivial | skip)
  have f11 : (op == 11) = false := by simpa using g11
  rw [if_neg (by omega)]
  by_cases g10 : op = 10
  · subst g10
    rw [if_pos rfl]
    by_cases gv : va = 0
    · subst gv
      repeat (first | (refine aops_fnX rfl ?_ ?_; focus (simp (maxSteps := 4000000) only [sks, Int.reduceBEq, f0, f9, f11, ei, if_true, pTh, pCode, pInts, pI, tvl, simprocAttr]; done)) | (simp (maxSteps := 4000000) only [Int.reduceBEq, f0, f9, f11, ei, if_true, pTh, pCode, pInts, pI, tvl, simprocAttr]) | refine ftS (by kernel_rfl) ?_ | refine And.intro (by omega) ?_)
      all_goals (first | rfl | trivial | skip)
    · have fv : (va == 0) = false := by simpa using gv
      rw [if_neg gv]
      repeat (first | (refine aops_fnX rfl ?_ ?_; focus (simp (maxSteps := 4000000) only [sks, Int.reduceBEq, f0, f9, f11, ei, fv, pTh, pCode, pInts, pI, tvl, simprocAttr]; done)) | (simp (maxSteps := 4000000) only [Int.reduceBEq, f0, f9, f11, ei, fv, pTh, pCode, pInts, pI, tvl, simprocAttr]) | refine ftS (by kernel_rfl) ?_ | refine And.intro (by omega) ?_)
      all_goals (first | rfl | trivial | skip)
  have f10 : (op == 10) = false := by simpa using g10
  rw [if_neg g10]
  by_cases g12 : op = 12
  · subst g12
    rw [if_pos rfl]
    have hne := hs rfl
    have hpos : 0 < stack.length := List.length_pos_iff.2 hne
    obtain ⟨q, hq⟩ : ∃ q, stack.length = q + 1 := ⟨stack.length - 1, by omega⟩
    have eq : (stack.length : Int) - 1 = (q : Int) := by omega
    obtain ⟨e1, _⟩ := at_int (xs := stack) (i := q) (by omega)
    have e2 : stack.getLastD 0 = stack[q]'(by omega) := by
      rw [List.getLastD_eq_getLast?, List.getLast?_eq_getElem?, List.getElem?_eq_getElem (by omega)]
      simp [hq]
    rw [e2]
    repeat (first | (refine aops_fnX rfl ?_ ?_; focus (simp (maxSteps := 4000000) only [sks, Int.reduceBEq, f0, f9, f11, f10, eq, e1, pTh, pCode, pInts, pI, tvl, simprocAttr]; done)) | (simp (maxSteps := 4000000) only [Int.reduceBEq, f0, f9, f11, f10, eq, e1, pTh, pCode, pInts, pI, tvl, simprocAttr]) | refine ftS (by kernel_rfl) ?_ | refine And.intro (by omega) ?_)
    all_goals (first | rfl | trivial | skip)
  have f12 : (op == 12) = false := by simpa using g12
  rw [if_neg g12]
  repeat (first | (refine aops_fnX rfl ?_ ?_; focus (simp (maxSteps := 4000000) only [sks, f0, f9, f11, f10, f12, pTh, pCode, pInts, pI, tvl, simprocAttr]; done)) | (simp (maxSteps := 4000000) only [f0, f9, f11, f10, f12, pTh, pCode, pInts, pI, tvl, simprocAttr]) | refine ftS (by kernel_rfl) ?_ | refine And.intro (by omega) ?_)
  all_goals (first | rfl | trivial | skip)
set_option maxHeartbeats 4000000 in
theorem stackB_ok {t : Bt.Th} {x : Bt.C4} (hs : x.op = 12 → t.stack ≠ []) (hs6 : t.stack.length ≤ 6) (hp : 0 ≤ t.pl ∧ t.pl ≤ 1048576) : FnOk E.P 162 [.agg (pTh t), .agg (pCode x)] (pInts (Bt.stackI t x)) true := by
  obtain ⟨op, a, b, c⟩ := x
  obtain ⟨pl, regs, stack, st⟩ := t
  simp only at hs hs6 hp
  have hC := copy_ok (xs := stack) (by omega)
  unfold Bt.stackI
  simp only
  refine fn_ok mixed Try.func162 rfl (by kernel_rfl) _ Try.results162 _ Try.ntmps162 (by simp) (by kernel_rfl) ?_
  by_cases g11 : op = 11
  · subst g11
    rw [if_pos rfl]
    repeat (first | (refine aops_fnX rfl ?_ ?_; focus (simp (maxSteps := 4000000) only [sks, Int.reduceBEq, pTh, pCode, pInts, pI, tvl, simprocAttr]; done)) | (simp (maxSteps := 4000000) only [Int.reduceBEq, pTh, pCode, pInts, pI, tvl, simprocAttr]) | refine ftS (by kernel_rfl) ?_ | refine And.intro (by omega) ?_)
    refine aops_fn (hC) (hidB rfl) rfl ?_
    repeat (first | (refine aops_fnX rfl ?_ ?_; focus (simp (maxSteps := 4000000) only [sks, List.map_append, List.map_cons, List.map_nil, pTh, pCode, pInts, pI, tvl, simprocAttr]; done)) | (simp (maxSteps := 4000000) only [List.map_append, List.map_cons, List.map_nil, pTh, pCode, pInts, pI, tvl, simprocAttr]) | refine ftS (by kernel_rfl) ?_ | refine And.intro (by omega) ?_)
    all_goals (first | rfl | trivial | skip)
  have f11 : (op == 11) = false := by simpa using g11
  rw [if_neg g11]
  by_cases g12 : op = 12
  · subst g12
    have hne := hs rfl
    have hpos : 0 < stack.length := List.length_pos_iff.2 hne
    have hD := copy_ok (xs := stack.take (stack.length - 1)) (by rw [List.length_take]; omega)
    have e := drop_last stack
    rw [if_pos rfl]
    repeat (first | (refine aops_fnX rfl ?_ ?_; focus (simp (maxSteps := 4000000) only [sks, Int.reduceBEq, f11, pTh, pCode, pInts, pI, tvl, simprocAttr]; done)) | (simp (maxSteps := 4000000) only [Int.reduceBEq, f11, pTh, pCode, pInts, pI, tvl, simprocAttr]) | refine ftS (by kernel_rfl) ?_ | refine And.intro (by omega) ?_)
    simp only [Int.toNat_zero, List.drop_zero, e]
    refine aops_fn (hD) (hidB rfl) rfl ?_
    repeat (first | (refine aops_fnX rfl ?_ ?_; focus (simp (maxSteps := 4000000) only [sks, pTh, pCode, pInts, pI, tvl, simprocAttr]; done)) | (simp (maxSteps := 4000000) only [pTh, pCode, pInts, pI, tvl, simprocAttr]) | refine ftS (by kernel_rfl) ?_ | refine And.intro (by omega) ?_)
    all_goals (first | rfl | trivial | skip)
  have f12 : (op == 12) = false := by simpa using g12
  rw [if_neg g12]
  repeat (first | (refine aops_fnX rfl ?_ ?_; focus (simp (maxSteps := 4000000) only [sks, f11, f12, pTh, pCode, pInts, pI, tvl, simprocAttr]; done)) | (simp (maxSteps := 4000000) only [f11, f12, pTh, pCode, pInts, pI, tvl, simprocAttr]) | refine ftS (by kernel_rfl) ?_ | refine And.intro (by omega) ?_)
  refine aops_fn (hC) (hidB rfl) rfl ?_
  repeat (first | (refine aops_fnX rfl ?_ ?_; focus (simp (maxSteps := 4000000) only [sks, pTh, pCode, pInts, pI, tvl, simprocAttr]; done)) | (simp (maxSteps := 4000000) only [pTh, pCode, pInts, pI, tvl, simprocAttr]) | refine ftS (by kernel_rfl) ?_ | refine And.intro (by omega) ?_)
  all_goals (first | rfl | trivial | skip)
theorem state_ok {t : Bt.Th} {x : Bt.C4} : FnOk E.P 163 [.agg (pTh t), .agg (pCode x)] (pI (Bt.stateI t x)) true := by
  unfold Bt.stateI
  refine fn_ok mixed Try.func163 rfl (by kernel_rfl) _ Try.results163 _ Try.ntmps163 (by simp) (by kernel_rfl) ?_
  by_cases g : x.op = 0
  · have f : (x.op == 0) = true := by simpa using g
    rw [if_pos g]
    repeat (first | (refine aops_fnX rfl ?_ ?_; focus (simp (maxSteps := 4000000) only [sks, f, pTh, pCode, pInts, pI, tvl, simprocAttr]; done)) | (simp (maxSteps := 4000000) only [f, pTh, pCode, pInts, pI, tvl, simprocAttr]) | refine ftS (by kernel_rfl) ?_ | refine And.intro (by omega) ?_)
    all_goals (first | rfl | trivial | skip)
  · have f : (x.op == 0) = false := by simpa using g
    rw [if_neg g]
    repeat (first | (refine aops_fnX rfl ?_ ?_; focus (simp (maxSteps := 4000000) only [sks, f, pTh, pCode, pInts, pI, tvl, simprocAttr]; done)) | (simp (maxSteps := 4000000) only [f, pTh, pCode, pInts, pI, tvl, simprocAttr]) | refine ftS (by kernel_rfl) ?_ | refine And.intro (by omega) ?_)
    all_goals (first | rfl | trivial | skip)
theorem oneIf_ok {b : Bool} : FnOk E.P 97 [.bool b] (pI (if b then 1 else 0)) true := by
  cases b
  all_goals
    refine fn_ok mixed Try.func97 rfl (by kernel_rfl) _ Try.results97 _ Try.ntmps97 (by simp) (by kernel_rfl) ?_
    repeat (first | (refine aops_fnX rfl ?_ ?_; focus (simp (maxSteps := 4000000) only [sks, pI, tvs, simprocAttr]; done)) | (simp (maxSteps := 4000000) only [pI, tvs, simprocAttr]) | refine ftS (by kernel_rfl) ?_ | refine And.intro (by omega) ?_)
    all_goals (first | rfl | trivial | skip)
set_option maxHeartbeats 4000000 in
theorem setsR_ok {op : Int} : FnOk E.P 167 [pI op] (.bool (Bt.setsR op)) true := by
  rcases op_cases op with h | h
  · rcases h with rfl | rfl | rfl | rfl | rfl | rfl | rfl | rfl | rfl | rfl | rfl | rfl | rfl | rfl | rfl | rfl | rfl | rfl
    all_goals
      refine fn_ok mixed Try.func167 rfl (by kernel_rfl) _ Try.results167 _ Try.ntmps167 (by simp) (by kernel_rfl) ?_
      simp (maxSteps := 4000000) only [Int.reduceBEq, pI, tvs, simprocAttr]
      repeat (first | refine ftS (by kernel_rfl) ?_ | refine And.intro (by omega) ?_)
      all_goals (first | rfl | trivial | skip)
  · have e : Bt.setsR op = false := by
      simp only [beq_eq_false_iff_ne] at h
      unfold Bt.setsR
      exact decide_eq_false (by omega)
    obtain ⟨h0, h1, h2, h3, h4, h5, h6, h7, h8, h9, h10, h11, h12, h13, h14, h15, h16, h17⟩ := h
    rw [e]
    refine fn_ok mixed Try.func167 rfl (by kernel_rfl) _ Try.results167 _ Try.ntmps167 (by simp) (by kernel_rfl) ?_
    simp (maxSteps := 4000000) only [h1, h2, h3, h4, h5, h6, h7, h13, pI, tvs, simprocAttr]
    repeat (first | refine ftS (by kernel_rfl) ?_ | refine And.intro (by omega) ?_)
    all_goals (first | rfl | trivial | skip)
set_option maxRecDepth 10000 in
set_option maxHeartbeats 16000000 in
theorem numSet_ok {m : Bt.Mc} {k : Nat} {t : Bt.Th} {x : Bt.C4} {kd rep : Int} (hk : m.ths[k]? = some t) (hx : Bt.codeOk x.op x.a x.b x.c = true) (hrg : Bt.regsOk t.regs = true) (hcl : m.cells.length = 8) :
    FnOk E.P 168 [.agg (pMc m), .agg (pCh ⟨k, kd, rep⟩), .agg (pCode x)] (pI (Bt.numI m t x rep)) true := by
  obtain ⟨e6, hkl⟩ := at_th hk
  have hC := icell_ok (x := x) (xs := t.regs) (by have := Bt.regsOk_len hrg; omega)
  have hcb := fun h2 => Bt.cellOf_bound (r := x) (xs := t.regs) hx h2 hrg
  have hr := Bt.regsOk_len hrg
  have hval := fun j (hj : j < t.regs.length) => Bt.regsOk_at hrg hj
  obtain ⟨op, a, b, c⟩ := x
  obtain ⟨pl, regs, stack, st⟩ := t
  simp only at hr hx hval hcb hC
  obtain ⟨a0, a1⟩ := Bt.codeOk_A hx
  obtain ⟨b0, b1⟩ := Bt.codeOk_B hx
  obtain ⟨i, rfl⟩ : ∃ i : Nat, a = i := ⟨a.toNat, by omega⟩
  obtain ⟨j, rfl⟩ : ∃ j : Nat, b = j := ⟨b.toNat, by omega⟩
  obtain ⟨ei, eg⟩ := at_int (xs := regs) (i := i) (by omega)
  obtain ⟨ej, eh⟩ := at_int (xs := regs) (i := j) (by omega)
  have va0 := hval i (by omega)
  have vb0 := hval j (by omega)
  unfold Bt.numI
  simp only [Int.toNat_natCast, eg, eh]
  generalize Bt.cellOf ⟨op, i, j, c⟩ regs = cc at *
  generalize regs[i]'(by omega) = va at *
  generalize regs[j]'(by omega) = vb at *
  have m1 := Bt.mod_t (n := va + vb) (by omega)
  have m2 := Bt.mod_t (n := va + 10000 - vb) (by omega)
  obtain ⟨p0, p1⟩ := Bt.mul_b va0.1 va0.2 vb0.1 vb0.2
  have m3 := Bt.mod_t (n := va * vb) p0
  refine fn_ok mixed Try.func168 rfl (by kernel_rfl) _ Try.results168 _ Try.ntmps168 (by simp) (by kernel_rfl) ?_
  by_cases g1 : op = 1
  · subst g1
    repeat (first | (refine aops_fnX rfl ?_ ?_; focus (simp (maxSteps := 4000000) only [sks, Int.reduceBEq, e6, ei, ej, if_true, pTh, pMc, pCh, pCode, pInts, pI, tvl, simprocAttr]; done)) | (simp (maxSteps := 4000000) only [Int.reduceBEq, e6, ei, ej, if_true, pTh, pMc, pCh, pCode, pInts, pI, tvl, simprocAttr]) | refine ftS (by kernel_rfl) ?_ | refine And.intro (by omega) ?_)
    all_goals (first | rfl | trivial | skip)
  have f1 : (op == 1) = false := by simpa using g1
  rw [if_neg g1]
  by_cases g2 : op = 2
  · subst g2
    repeat (first | (refine aops_fnX rfl ?_ ?_; focus (simp (maxSteps := 4000000) only [sks, Int.reduceBEq, e6, ei, ej, if_true, pTh, pMc, pCh, pCode, pInts, pI, tvl, simprocAttr]; done)) | (simp (maxSteps := 4000000) only [Int.reduceBEq, e6, ei, ej, if_true, pTh, pMc, pCh, pCode, pInts, pI, tvl, simprocAttr]) | refine ftS (by kernel_rfl) ?_ | refine And.intro (by omega) ?_)
    all_goals (first | rfl | trivial | skip)
  have f2 : (op == 2) = false := by simpa using g2
  rw [if_neg g2]
  by_cases g3 : op = 3
  · subst g3
    repeat (first | (refine aops_fnX rfl ?_ ?_; focus (simp (maxSteps := 4000000) only [sks, Int.reduceBEq, e6, ei, ej, m1, if_true, pTh, pMc, pCh, pCode, pInts, pI, tvl, simprocAttr]; done)) | (simp (maxSteps := 4000000) only [Int.reduceBEq, e6, ei, ej, m1, if_true, pTh, pMc, pCh, pCode, pInts, pI, tvl, simprocAttr]) | refine ftS (by kernel_rfl) ?_ | refine And.intro (by omega) ?_)
    all_goals (first | rfl | trivial | skip)
  have f3 : (op == 3) = false := by simpa using g3
  rw [if_neg g3]
  by_cases g4 : op = 4
  · subst g4
    repeat (first | (refine aops_fnX rfl ?_ ?_; focus (simp (maxSteps := 4000000) only [sks, Int.reduceBEq, e6, ei, ej, m2, if_true, pTh, pMc, pCh, pCode, pInts, pI, tvl, simprocAttr]; done)) | (simp (maxSteps := 4000000) only [Int.reduceBEq, e6, ei, ej, m2, if_true, pTh, pMc, pCh, pCode, pInts, pI, tvl, simprocAttr]) | refine ftS (by kernel_rfl) ?_ | refine And.intro (by omega) ?_)
    all_goals (first | rfl | trivial | skip)
  have f4 : (op == 4) = false := by simpa using g4
  rw [if_neg g4]
  by_cases g5 : op = 5
  · subst g5
    have mw : mulW .i64 va vb = va * vb := mulW_in ⟨by omega, by omega⟩
    repeat (first | (refine aops_fnX rfl ?_ ?_; focus (simp (maxSteps := 4000000) only [sks, Int.reduceBEq, e6, ei, ej, m3, mw, if_true, pTh, pMc, pCh, pCode, pInts, pI, tvl, simprocAttr]; done)) | (simp (maxSteps := 4000000) only [Int.reduceBEq, e6, ei, ej, m3, mw, if_true, pTh, pMc, pCh, pCode, pInts, pI, tvl, simprocAttr]) | refine ftS (by kernel_rfl) ?_ | refine And.intro (by omega) ?_)
    all_goals (first | rfl | trivial | skip)
  have f5 : (op == 5) = false := by simpa using g5
  rw [if_neg g5]
  by_cases g6 : op = 6
  · subst g6
    rw [if_pos rfl]
    have hO := oneIf_ok (b := decide (va < vb))
    simp only [decide_eq_true_eq] at hO
    repeat (first | (refine aops_fnX rfl ?_ ?_; focus (simp (maxSteps := 4000000) only [sks, Int.reduceBEq, e6, ei, ej, pTh, pMc, pCh, pCode, pInts, pI, tvl, simprocAttr]; done)) | (simp (maxSteps := 4000000) only [Int.reduceBEq, e6, ei, ej, pTh, pMc, pCh, pCode, pInts, pI, tvl, simprocAttr]) | refine ftS (by kernel_rfl) ?_ | refine And.intro (by omega) ?_)
    refine aops_fn (hO) (hidB rfl) rfl ?_
    repeat (first | (refine aops_fnX rfl ?_ ?_; focus (simp (maxSteps := 4000000) only [sks, pTh, pMc, pCh, pCode, pInts, pI, tvl, simprocAttr]; done)) | (simp (maxSteps := 4000000) only [pTh, pMc, pCh, pCode, pInts, pI, tvl, simprocAttr]) | refine ftS (by kernel_rfl) ?_ | refine And.intro (by omega) ?_)
    all_goals (first | rfl | trivial | skip)
  have f6 : (op == 6) = false := by simpa using g6
  rw [if_neg g6]
  by_cases g7 : op = 7
  · subst g7
    obtain ⟨c0, c1⟩ := hcb (.inl rfl)
    obtain ⟨q, rfl⟩ : ∃ q : Nat, cc = q := ⟨cc.toNat, by omega⟩
    obtain ⟨eq, ev⟩ := at_int (xs := m.cells) (i := q) (by omega)
    rw [if_pos rfl, Int.toNat_natCast, ev]
    generalize m.cells[q]'(by omega) = vc at *
    repeat (first | (refine aops_fnX rfl ?_ ?_; focus (simp (maxSteps := 4000000) only [sks, Int.reduceBEq, e6, ei, ej, pTh, pMc, pCh, pCode, pInts, pI, tvl, simprocAttr]; done)) | (simp (maxSteps := 4000000) only [Int.reduceBEq, e6, ei, ej, pTh, pMc, pCh, pCode, pInts, pI, tvl, simprocAttr]) | refine ftS (by kernel_rfl) ?_ | refine And.intro (by omega) ?_)
    refine aops_fn (hC) (hidB rfl) rfl ?_
    repeat (first | (refine aops_fnX rfl ?_ ?_; focus (simp (maxSteps := 4000000) only [sks, eq, pTh, pMc, pCh, pCode, pInts, pI, tvl, simprocAttr]; done)) | (simp (maxSteps := 4000000) only [eq, pTh, pMc, pCh, pCode, pInts, pI, tvl, simprocAttr]) | refine ftS (by kernel_rfl) ?_ | refine And.intro (by omega) ?_)
    all_goals (first | rfl | trivial | skip)
  have f7 : (op == 7) = false := by simpa using g7
  rw [if_neg g7]
  by_cases g13 : op = 13
  · subst g13
    repeat (first | (refine aops_fnX rfl ?_ ?_; focus (simp (maxSteps := 4000000) only [sks, Int.reduceBEq, e6, ei, ej, if_true, pTh, pMc, pCh, pCode, pInts, pI, tvl, simprocAttr]; done)) | (simp (maxSteps := 4000000) only [Int.reduceBEq, e6, ei, ej, if_true, pTh, pMc, pCh, pCode, pInts, pI, tvl, simprocAttr]) | refine ftS (by kernel_rfl) ?_ | refine And.intro (by omega) ?_)
    all_goals (first | rfl | trivial | skip)
  have f13 : (op == 13) = false := by simpa using g13
  rw [if_neg g13]
  repeat (first | (refine aops_fnX rfl ?_ ?_; focus (simp (maxSteps := 4000000) only [sks, f1, f2, f3, f4, f5, f6, f7, f13, e6, ei, ej, pTh, pMc, pCh, pCode, pInts, pI, tvl, simprocAttr]; done)) | (simp (maxSteps := 4000000) only [f1, f2, f3, f4, f5, f6, f7, f13, e6, ei, ej, pTh, pMc, pCh, pCode, pInts, pI, tvl, simprocAttr]) | refine ftS (by kernel_rfl) ?_ | refine And.intro (by omega) ?_)
  all_goals (first | rfl | trivial | skip)
end Av
end Go.Proofs.Ytbkbppllcjcmhaa
