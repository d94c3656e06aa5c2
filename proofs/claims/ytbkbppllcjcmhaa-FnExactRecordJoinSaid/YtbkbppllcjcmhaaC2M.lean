/-
  Chapter 2: what a step does: the program's.
  Contracts of the program's chapters 1 and 2.
-/
import Derived.Test.YtbkbppllcjcmhaaC2L
import Derived.Test.YtbkbppllcjcmhaaC1
set_option linter.unusedSimpArgs false
set_option linter.unusedVariables false
namespace Go.Proofs.Ytbkbppllcjcmhaa
open Go.RowKit
namespace Av
set_option maxRecDepth 10000 in
set_option maxHeartbeats 8000000 in
theorem regsB_ok {m : Bt.Mc} {k : Nat} {t : Bt.Th} {x : Bt.C4} {kd rep : Int} (hk : m.ths[k]? = some t) (hx : Bt.codeOk x.op x.a x.b x.c = true) (hrg : Bt.regsOk t.regs = true) (hcl : m.cells.length = 8) :
    FnOk E.P 161 [.agg (pMc m), .agg (pCh ⟨k, kd, rep⟩), .agg (pCode x)] (pInts (Bt.regsI m t x rep)) true := by
  obtain ⟨e6, hkl⟩ := at_th hk
  have hr := Bt.regsOk_len hrg
  have hN := numSet_ok (kd := kd) (rep := rep) hk hx hrg hcl
  have hS := setsR_ok (op := x.op)
  have hC := copy_ok (xs := t.regs) (by omega)
  unfold Bt.regsI
  obtain ⟨a0, a1⟩ := Bt.codeOk_A hx
  obtain ⟨i, hi⟩ : ∃ i : Nat, x.a = i := ⟨x.a.toNat, by omega⟩
  have hW := with_ok (xs := t.regs) (k := i) (n := Bt.numI m t x rep) (by omega) (by omega)
  rw [hi, Int.toNat_natCast]
  rw [← hi] at hW
  refine fn_ok mixed Try.func161 rfl (by kernel_rfl) _ Try.results161 _ Try.ntmps161 (by simp) (by kernel_rfl) ?_
  repeat (first | (refine aops_fnX rfl ?_ ?_; focus (simp (maxSteps := 4000000) only [sks, e6, pTh, pMc, pCh, pCode, pInts, pI, tvl, simprocAttr]; done)) | (simp (maxSteps := 4000000) only [e6, pTh, pMc, pCh, pCode, pInts, pI, tvl, simprocAttr]) | refine ftS (by kernel_rfl) ?_ | refine And.intro (by omega) ?_)
  refine aops_fn (hS) (hidB rfl) rfl ?_
  cases hs : Bt.setsR x.op
  · repeat (first | (refine aops_fnX rfl ?_ ?_; focus (simp (maxSteps := 4000000) only [sks, pTh, pMc, pCh, pCode, pInts, pI, tvl, simprocAttr]; done)) | (simp (maxSteps := 4000000) only [pTh, pMc, pCh, pCode, pInts, pI, tvl, simprocAttr]) | refine ftS (by kernel_rfl) ?_ | refine And.intro (by omega) ?_)
    refine aops_fn (hC) (hidB rfl) rfl ?_
    repeat (first | (refine aops_fnX rfl ?_ ?_; focus (simp (maxSteps := 4000000) only [sks, Bool.false_eq_true, if_false, pTh, pMc, pCh, pCode, pInts, pI, tvl, simprocAttr]; done)) | (simp (maxSteps := 4000000) only [Bool.false_eq_true, if_false, pTh, pMc, pCh, pCode, pInts, pI, tvl, simprocAttr]) | refine ftS (by kernel_rfl) ?_ | refine And.intro (by omega) ?_)
    all_goals (first | rfl | trivial | skip)
  · repeat (first | (refine aops_fnX rfl ?_ ?_; focus (simp (maxSteps := 4000000) only [sks, pTh, pMc, pCh, pCode, pInts, pI, tvl, simprocAttr]; done)) | (simp (maxSteps := 4000000) only [pTh, pMc, pCh, pCode, pInts, pI, tvl, simprocAttr]) | refine ftS (by kernel_rfl) ?_ | refine And.intro (by omega) ?_)
    refine aops_fn (hN) (hidB rfl) rfl ?_
    repeat (first | (refine aops_fnX rfl ?_ ?_; focus (simp (maxSteps := 4000000) only [sks, pTh, pMc, pCh, pCode, pInts, pI, tvl, simprocAttr]; done)) | (simp (maxSteps := 4000000) only [pTh, pMc, pCh, pCode, pInts, pI, tvl, simprocAttr]) | refine ftS (by kernel_rfl) ?_ | refine And.intro (by omega) ?_)
    refine aops_fn (hW) (hidB rfl) rfl ?_
    repeat (first | (refine aops_fnX rfl ?_ ?_; focus (simp (maxSteps := 4000000) only [sks, if_true, pTh, pMc, pCh, pCode, pInts, pI, tvl, simprocAttr]; done)) | (simp (maxSteps := 4000000) only [if_true, pTh, pMc, pCh, pCode, pInts, pI, tvl, simprocAttr]) | refine ftS (by kernel_rfl) ?_ | refine And.intro (by omega) ?_)
    all_goals (first | rfl | trivial | skip)
set_option maxRecDepth 10000 in
set_option maxHeartbeats 8000000 in
theorem cellsB_ok {m : Bt.Mc} {k : Nat} {t : Bt.Th} {x : Bt.C4} (hk : m.ths[k]? = some t) (hx : Bt.codeOk x.op x.a x.b x.c = true) (hrg : Bt.regsOk t.regs = true) (hcl : m.cells.length = 8) :
    FnOk E.P 152 [.agg (pMc m), pI k, .agg (pCode x)] (pInts (Bt.cellsI m t x)) true := by
  obtain ⟨e6, hkl⟩ := at_th hk
  have hr := Bt.regsOk_len hrg
  have hC := copy_ok (xs := m.cells) (by omega)
  have hI := icell_ok (x := x) (xs := t.regs) (by omega)
  unfold Bt.cellsI
  obtain ⟨a0, a1⟩ := Bt.codeOk_A hx
  obtain ⟨op, a, b, c⟩ := x
  simp only at a0 a1 hx
  obtain ⟨i, rfl⟩ : ∃ i : Nat, a = i := ⟨a.toNat, by omega⟩
  obtain ⟨ei, eg⟩ := at_int (xs := t.regs) (i := i) (by omega)
  simp only [Int.toNat_natCast, eg]
  generalize t.regs[i]'(by omega) = va at *
  refine fn_ok mixed Try.func152 rfl (by kernel_rfl) _ Try.results152 _ Try.ntmps152 (by simp) (by kernel_rfl) ?_
  by_cases g : op = 8
  · subst g
    obtain ⟨c0, c1⟩ := Bt.cellOf_bound (r := ⟨8, i, b, c⟩) (xs := t.regs) hx (.inr rfl) hrg
    obtain ⟨q, hq⟩ : ∃ q : Nat, Bt.cellOf ⟨8, i, b, c⟩ t.regs = q := ⟨(Bt.cellOf ⟨8, i, b, c⟩ t.regs).toNat, by omega⟩
    rw [hq] at hI
    have hW := with_ok (xs := m.cells) (k := q) (n := va) (by omega) (by omega)
    rw [if_pos rfl, hq, Int.toNat_natCast]
    repeat (first | (refine aops_fnX rfl ?_ ?_; focus (simp (maxSteps := 4000000) only [sks, Int.reduceBEq, bne_self_eq_false, e6, ei, pTh, pMc, pCode, pInts, pI, tvl, simprocAttr]; done)) | (simp (maxSteps := 4000000) only [Int.reduceBEq, bne_self_eq_false, e6, ei, pTh, pMc, pCode, pInts, pI, tvl, simprocAttr]) | refine ftS (by kernel_rfl) ?_ | refine And.intro (by omega) ?_)
    refine aops_fn (hI) (hidB rfl) rfl ?_
    repeat (first | (refine aops_fnX rfl ?_ ?_; focus (simp (maxSteps := 4000000) only [sks, ei, pTh, pMc, pCode, pInts, pI, tvl, simprocAttr]; done)) | (simp (maxSteps := 4000000) only [ei, pTh, pMc, pCode, pInts, pI, tvl, simprocAttr]) | refine ftS (by kernel_rfl) ?_ | refine And.intro (by omega) ?_)
    refine aops_fn (hW) (hidB rfl) rfl ?_
    repeat (first | (refine aops_fnX rfl ?_ ?_; focus (simp (maxSteps := 4000000) only [sks, pTh, pMc, pCode, pInts, pI, tvl, simprocAttr]; done)) | (simp (maxSteps := 4000000) only [pTh, pMc, pCode, pInts, pI, tvl, simprocAttr]) | refine ftS (by kernel_rfl) ?_ | refine And.intro (by omega) ?_)
    all_goals (first | rfl | trivial | skip)
  · have f : (op != 8) = true := by simpa using g
    rw [if_neg g]
    repeat (first | (refine aops_fnX rfl ?_ ?_; focus (simp (maxSteps := 4000000) only [sks, f, pTh, pMc, pCode, pInts, pI, tvl, simprocAttr]; done)) | (simp (maxSteps := 4000000) only [f, pTh, pMc, pCode, pInts, pI, tvl, simprocAttr]) | refine ftS (by kernel_rfl) ?_ | refine And.intro (by omega) ?_)
    refine aops_fn (hC) (hidB rfl) rfl ?_
    repeat (first | (refine aops_fnX rfl ?_ ?_; focus (simp (maxSteps := 4000000) only [sks, pTh, pMc, pCode, pInts, pI, tvl, simprocAttr]; done)) | (simp (maxSteps := 4000000) only [pTh, pMc, pCode, pInts, pI, tvl, simprocAttr]) | refine ftS (by kernel_rfl) ?_ | refine And.intro (by omega) ?_)
    all_goals (first | rfl | trivial | skip)
set_option maxRecDepth 10000 in
set_option maxHeartbeats 8000000 in
theorem locksB_ok {m : Bt.Mc} {k : Nat} {x : Bt.C4} (hx : Bt.codeOk x.op x.a x.b x.c = true) (hl : m.locks.length = 2) : FnOk E.P 153 [.agg (pMc m), pI k, .agg (pCode x)] (pInts (Bt.locksI m k x)) true := by
  have hC := copy_ok (xs := m.locks) (by omega)
  unfold Bt.locksI
  obtain ⟨op, a, b, c⟩ := x
  simp only at hx
  simp only
  refine fn_ok mixed Try.func153 rfl (by kernel_rfl) _ Try.results153 _ Try.ntmps153 (by simp) (by kernel_rfl) ?_
  by_cases g15 : op = 15
  · subst g15
    obtain ⟨c0, c1'⟩ := Bt.lock_bounds hx (.inl rfl)
    obtain ⟨q, rfl⟩ : ∃ q : Nat, c = q := ⟨c.toNat, by omega⟩
    have hW := with_ok (xs := m.locks) (k := q) (n := k) (by omega) (by omega)
    rw [if_pos rfl, Int.toNat_natCast]
    repeat (first | (refine aops_fnX rfl ?_ ?_; focus (simp (maxSteps := 4000000) only [sks, Int.reduceBEq, pMc, pCode, pInts, pI, tvl, simprocAttr]; done)) | (simp (maxSteps := 4000000) only [Int.reduceBEq, pMc, pCode, pInts, pI, tvl, simprocAttr]) | refine ftS (by kernel_rfl) ?_ | refine And.intro (by omega) ?_)
    refine aops_fn (hW) (hidB rfl) rfl ?_
    repeat (first | (refine aops_fnX rfl ?_ ?_; focus (simp (maxSteps := 4000000) only [sks, pMc, pCode, pInts, pI, tvl, simprocAttr]; done)) | (simp (maxSteps := 4000000) only [pMc, pCode, pInts, pI, tvl, simprocAttr]) | refine ftS (by kernel_rfl) ?_ | refine And.intro (by omega) ?_)
    all_goals (first | rfl | trivial | skip)
  have f15 : (op == 15) = false := by simpa using g15
  rw [if_neg g15]
  by_cases g16 : op = 16
  · subst g16
    obtain ⟨c0, c1'⟩ := Bt.lock_bounds hx (.inr rfl)
    obtain ⟨q, rfl⟩ : ∃ q : Nat, c = q := ⟨c.toNat, by omega⟩
    have hW := with_ok (xs := m.locks) (k := q) (n := -1) (by omega) (by omega)
    rw [if_pos rfl, Int.toNat_natCast]
    repeat (first | (refine aops_fnX rfl ?_ ?_; focus (simp (maxSteps := 4000000) only [sks, Int.reduceBEq, f15, pMc, pCode, pInts, pI, tvl, simprocAttr]; done)) | (simp (maxSteps := 4000000) only [Int.reduceBEq, f15, pMc, pCode, pInts, pI, tvl, simprocAttr]) | refine ftS (by kernel_rfl) ?_ | refine And.intro (by omega) ?_)
    refine aops_fn (hW) (hidB rfl) rfl ?_
    repeat (first | (refine aops_fnX rfl ?_ ?_; focus (simp (maxSteps := 4000000) only [sks, pMc, pCode, pInts, pI, tvl, simprocAttr]; done)) | (simp (maxSteps := 4000000) only [pMc, pCode, pInts, pI, tvl, simprocAttr]) | refine ftS (by kernel_rfl) ?_ | refine And.intro (by omega) ?_)
    all_goals (first | rfl | trivial | skip)
  have f16 : (op == 16) = false := by simpa using g16
  rw [if_neg g16]
  repeat (first | (refine aops_fnX rfl ?_ ?_; focus (simp (maxSteps := 4000000) only [sks, f15, f16, pMc, pCode, pInts, pI, tvl, simprocAttr]; done)) | (simp (maxSteps := 4000000) only [f15, f16, pMc, pCode, pInts, pI, tvl, simprocAttr]) | refine ftS (by kernel_rfl) ?_ | refine And.intro (by omega) ?_)
  refine aops_fn (hC) (hidB rfl) rfl ?_
  repeat (first | (refine aops_fnX rfl ?_ ?_; focus (simp (maxSteps := 4000000) only [sks, pMc, pCode, pInts, pI, tvl, simprocAttr]; done)) | (simp (maxSteps := 4000000) only [pMc, pCode, pInts, pI, tvl, simprocAttr]) | refine ftS (by kernel_rfl) ?_ | refine And.intro (by omega) ?_)
  all_goals (first | rfl | trivial | skip)
set_option maxRecDepth 10000 in
set_option maxHeartbeats 8000000 in
theorem toldB_ok {m : Bt.Mc} {k : Nat} {t : Bt.Th} {x : Bt.C4} (hk : m.ths[k]? = some t) (hx : Bt.codeOk x.op x.a x.b x.c = true) (hr : t.regs.length = 4) (ht : m.told.length ≤ 1000) : FnOk E.P 154 [.agg (pMc m), pI k, .agg (pCode x)] (pInts (Bt.toldI m t x)) true := by
  obtain ⟨e6, hkl⟩ := at_th hk
  have hC := copy_ok (xs := m.told) (by omega)
  unfold Bt.toldI
  obtain ⟨a0, a1⟩ := Bt.codeOk_A hx
  obtain ⟨op, a, b, c⟩ := x
  simp only at a0 a1 hx
  obtain ⟨i, rfl⟩ : ∃ i : Nat, a = i := ⟨a.toNat, by omega⟩
  obtain ⟨ei, eg⟩ := at_int (xs := t.regs) (i := i) (by omega)
  simp only [Int.toNat_natCast, eg]
  generalize t.regs[i]'(by omega) = va at *
  refine fn_ok mixed Try.func154 rfl (by kernel_rfl) _ Try.results154 _ Try.ntmps154 (by simp) (by kernel_rfl) ?_
  by_cases g : op = 14
  · subst g
    rw [if_pos rfl]
    repeat (first | (refine aops_fnX rfl ?_ ?_; focus (simp (maxSteps := 4000000) only [sks, Int.reduceBEq, bne_self_eq_false, pTh, pMc, pCode, pInts, pI, tvl, simprocAttr]; done)) | (simp (maxSteps := 4000000) only [Int.reduceBEq, bne_self_eq_false, pTh, pMc, pCode, pInts, pI, tvl, simprocAttr]) | refine ftS (by kernel_rfl) ?_ | refine And.intro (by omega) ?_)
    refine aops_fn (hC) (hidB rfl) rfl ?_
    repeat (first | (refine aops_fnX rfl ?_ ?_; focus (simp (maxSteps := 4000000) only [sks, e6, ei, List.map_append, List.map_cons, List.map_nil, pTh, pMc, pCode, pInts, pI, tvl, simprocAttr]; done)) | (simp (maxSteps := 4000000) only [e6, ei, List.map_append, List.map_cons, List.map_nil, pTh, pMc, pCode, pInts, pI, tvl, simprocAttr]) | refine ftS (by kernel_rfl) ?_ | refine And.intro (by omega) ?_)
    all_goals (first | rfl | trivial | skip)
  · have f : (op != 14) = true := by simpa using g
    rw [if_neg g]
    repeat (first | (refine aops_fnX rfl ?_ ?_; focus (simp (maxSteps := 4000000) only [sks, f, pTh, pMc, pCode, pInts, pI, tvl, simprocAttr]; done)) | (simp (maxSteps := 4000000) only [f, pTh, pMc, pCode, pInts, pI, tvl, simprocAttr]) | refine ftS (by kernel_rfl) ?_ | refine And.intro (by omega) ?_)
    refine aops_fn (hC) (hidB rfl) rfl ?_
    repeat (first | (refine aops_fnX rfl ?_ ?_; focus (simp (maxSteps := 4000000) only [sks, pTh, pMc, pCode, pInts, pI, tvl, simprocAttr]; done)) | (simp (maxSteps := 4000000) only [pTh, pMc, pCode, pInts, pI, tvl, simprocAttr]) | refine ftS (by kernel_rfl) ?_ | refine And.intro (by omega) ?_)
    all_goals (first | rfl | trivial | skip)
set_option maxRecDepth 10000 in
set_option maxHeartbeats 16000000 in
theorem thsB_ok {m : Bt.Mc} {k : Nat} {t : Bt.Th} {x : Bt.C4} {kd rep : Int} (hk : m.ths[k]? = some t) (hx : Bt.codeOk x.op x.a x.b x.c = true) (hrg : Bt.regsOk t.regs = true) (hcl : m.cells.length = 8) (hm : Small m) (hs : x.op = 12 → t.stack ≠ []) (hs6 : t.stack.length ≤ 6) (hp : 0 ≤ t.pl ∧ t.pl ≤ 1048576) :
    FnOk E.P 151 [.agg (pMc m), .agg (pCh ⟨k, kd, rep⟩), .agg (pCode x)] (.lst 134 ((Bt.thsI m k t x rep).map pTh)) true := by
  obtain ⟨e6, hkl⟩ := at_th hk
  have hr := Bt.regsOk_len hrg
  have h1 := place_ok (t := t) (x := x) hr hx hs hs6 hp
  have h2 := regsB_ok (kd := kd) (rep := rep) hk hx hrg hcl
  have h3 := stackB_ok (t := t) (x := x) hs hs6 hp
  have h4 := state_ok (t := t) (x := x)
  have hl1 : (Bt.regsI m t x rep).length ≤ 1048576 := by rw [Bt.regsI_len]; omega
  have hl2 : (Bt.stackI t x).length ≤ 1048576 := by have := Bt.stackI_len t x; omega
  have hW := thsWith_ok (ths := m.ths) (w := k) (t := ⟨Bt.placeI t x, Bt.regsI m t x rep, Bt.stackI t x, Bt.stateI t x⟩) hm.ths hl1 hl2 hm.regs hm.stack
  have hA := thAt_ok (at_ := x.c) (xs := t.regs) (by omega)
  unfold Bt.thsI
  generalize Bt.placeI t x = v1 at *
  generalize Bt.regsI m t x rep = v2 at *
  generalize Bt.stackI t x = v3 at *
  generalize Bt.stateI t x = v4 at *
  generalize hset : m.ths.set k ⟨v1, v2, v3, v4⟩ = ths' at *
  have hsl : ths'.length ≤ 1048576 := by rw [← hset, List.length_set]; exact hm.ths
  refine fn_ok mixed Try.func151 rfl (by kernel_rfl) _ Try.results151 _ Try.ntmps151 (by simp) (by kernel_rfl) ?_
  repeat (first | (refine aops_fnX rfl ?_ ?_; focus (simp (maxSteps := 4000000) only [sks, e6, pTh, pMc, pCh, pCode, pInts, pI, tvl, simprocAttr]; done)) | (simp (maxSteps := 4000000) only [e6, pTh, pMc, pCh, pCode, pInts, pI, tvl, simprocAttr]) | refine ftS (by kernel_rfl) ?_ | refine And.intro (by omega) ?_)
  refine aops_fn (h1) (hidB rfl) rfl ?_
  repeat (first | (refine aops_fnX rfl ?_ ?_; focus (simp (maxSteps := 4000000) only [sks, pTh, pMc, pCh, pCode, pInts, pI, tvl, simprocAttr]; done)) | (simp (maxSteps := 4000000) only [pTh, pMc, pCh, pCode, pInts, pI, tvl, simprocAttr]) | refine ftS (by kernel_rfl) ?_ | refine And.intro (by omega) ?_)
  refine aops_fn (h2) (hidB rfl) rfl ?_
  repeat (first | (refine aops_fnX rfl ?_ ?_; focus (simp (maxSteps := 4000000) only [sks, pTh, pMc, pCh, pCode, pInts, pI, tvl, simprocAttr]; done)) | (simp (maxSteps := 4000000) only [pTh, pMc, pCh, pCode, pInts, pI, tvl, simprocAttr]) | refine ftS (by kernel_rfl) ?_ | refine And.intro (by omega) ?_)
  refine aops_fn (h3) (hidB rfl) rfl ?_
  repeat (first | (refine aops_fnX rfl ?_ ?_; focus (simp (maxSteps := 4000000) only [sks, pTh, pMc, pCh, pCode, pInts, pI, tvl, simprocAttr]; done)) | (simp (maxSteps := 4000000) only [pTh, pMc, pCh, pCode, pInts, pI, tvl, simprocAttr]) | refine ftS (by kernel_rfl) ?_ | refine And.intro (by omega) ?_)
  refine aops_fn (h4) (hidB rfl) rfl ?_
  repeat (first | (refine aops_fnX rfl ?_ ?_; focus (simp (maxSteps := 4000000) only [sks, pTh, pMc, pCh, pCode, pInts, pI, tvl, simprocAttr]; done)) | (simp (maxSteps := 4000000) only [pTh, pMc, pCh, pCode, pInts, pI, tvl, simprocAttr]) | refine ftS (by kernel_rfl) ?_ | refine And.intro (by omega) ?_)
  refine aops_fn (hW) (hidB rfl) rfl ?_
  by_cases g : x.op = 17
  · have f : (x.op == 17) = true := by simpa using g
    rw [if_pos g]
    repeat (first | (refine aops_fnX rfl ?_ ?_; focus (simp (maxSteps := 4000000) only [sks, f, pTh, pMc, pCh, pCode, pInts, pI, tvl, simprocAttr]; done)) | (simp (maxSteps := 4000000) only [f, pTh, pMc, pCh, pCode, pInts, pI, tvl, simprocAttr]) | refine ftS (by kernel_rfl) ?_ | refine And.intro (by omega) ?_)
    refine aops_fn (hA) (hidB rfl) rfl ?_
    repeat (first | (refine aops_fnX rfl ?_ ?_; focus (simp (maxSteps := 4000000) only [sks, List.map_append, List.map_cons, List.map_nil, pTh, pMc, pCh, pCode, pInts, pI, tvl, simprocAttr]; done)) | (simp (maxSteps := 4000000) only [List.map_append, List.map_cons, List.map_nil, pTh, pMc, pCh, pCode, pInts, pI, tvl, simprocAttr]) | refine ftS (by kernel_rfl) ?_ | refine And.intro (by omega) ?_)
    all_goals (first | rfl | trivial | skip)
  · have f : (x.op == 17) = false := by simpa using g
    rw [if_neg g, List.append_nil]
    repeat (first | (refine aops_fnX rfl ?_ ?_; focus (simp (maxSteps := 4000000) only [sks, f, pTh, pMc, pCh, pCode, pInts, pI, tvl, simprocAttr]; done)) | (simp (maxSteps := 4000000) only [f, pTh, pMc, pCh, pCode, pInts, pI, tvl, simprocAttr]) | refine ftS (by kernel_rfl) ?_ | refine And.intro (by omega) ?_)
    all_goals (first | rfl | trivial | skip)
set_option maxRecDepth 10000 in
set_option maxHeartbeats 8000000 in
theorem machB_ok {m : Bt.Mc} {k : Nat} {t : Bt.Th} {x : Bt.C4} {kd rep : Int} (hk : m.ths[k]? = some t) (hx : Bt.codeOk x.op x.a x.b x.c = true) (hrg : Bt.regsOk t.regs = true) (hcl : m.cells.length = 8) (hl : m.locks.length = 2) (ht : m.told.length ≤ 1000) (hm : Small m) (hs : x.op = 12 → t.stack ≠ []) (hs6 : t.stack.length ≤ 6) (hp : 0 ≤ t.pl ∧ t.pl ≤ 1048576) :
    FnOk E.P 143 [.agg (pMc m), .agg (pCh ⟨k, kd, rep⟩), .agg (pCode x)] (.agg (pMc (Bt.stepM m k t x rep))) true := by
  have hr := Bt.regsOk_len hrg
  have h1 := thsB_ok (kd := kd) (rep := rep) hk hx hrg hcl hm hs hs6 hp
  have h2 := cellsB_ok hk hx hrg hcl
  have h3 := locksB_ok (k := k) hx hl
  have h4 := toldB_ok hk hx hr ht
  unfold Bt.stepM
  generalize Bt.thsI m k t x rep = v1 at *
  generalize Bt.cellsI m t x = v2 at *
  generalize Bt.locksI m k x = v3 at *
  generalize Bt.toldI m t x = v4 at *
  refine fn_ok mixed Try.func143 rfl (by kernel_rfl) _ Try.results143 _ Try.ntmps143 (by simp) (by kernel_rfl) ?_
  repeat (first | (refine aops_fnX rfl ?_ ?_; focus (simp (maxSteps := 4000000) only [sks, pMc, pCh, pCode, pInts, pI, tvl, simprocAttr]; done)) | (simp (maxSteps := 4000000) only [pMc, pCh, pCode, pInts, pI, tvl, simprocAttr]) | refine ftS (by kernel_rfl) ?_ | refine And.intro (by omega) ?_)
  refine aops_fn (h1) (hidB rfl) rfl ?_
  repeat (first | (refine aops_fnX rfl ?_ ?_; focus (simp (maxSteps := 4000000) only [sks, pMc, pCh, pCode, pInts, pI, tvl, simprocAttr]; done)) | (simp (maxSteps := 4000000) only [pMc, pCh, pCode, pInts, pI, tvl, simprocAttr]) | refine ftS (by kernel_rfl) ?_ | refine And.intro (by omega) ?_)
  refine aops_fn (h2) (hidB rfl) rfl ?_
  repeat (first | (refine aops_fnX rfl ?_ ?_; focus (simp (maxSteps := 4000000) only [sks, pMc, pCh, pCode, pInts, pI, tvl, simprocAttr]; done)) | (simp (maxSteps := 4000000) only [pMc, pCh, pCode, pInts, pI, tvl, simprocAttr]) | refine ftS (by kernel_rfl) ?_ | refine And.intro (by omega) ?_)
  refine aops_fn (h3) (hidB rfl) rfl ?_
  repeat (first | (refine aops_fnX rfl ?_ ?_; focus (simp (maxSteps := 4000000) only [sks, pMc, pCh, pCode, pInts, pI, tvl, simprocAttr]; done)) | (simp (maxSteps := 4000000) only [pMc, pCh, pCode, pInts, pI, tvl, simprocAttr]) | refine ftS (by kernel_rfl) ?_ | refine And.intro (by omega) ?_)
  refine aops_fn (h4) (hidB rfl) rfl ?_
  repeat (first | (refine aops_fnX rfl ?_ ?_; focus (simp (maxSteps := 4000000) only [sks, pMc, pCh, pCode, pInts, pI, tvl, simprocAttr]; done)) | (simp (maxSteps := 4000000) only [pMc, pCh, pCode, pInts, pI, tvl, simprocAttr]) | refine ftS (by kernel_rfl) ?_ | refine And.intro (by omega) ?_)
  all_goals (first | rfl | trivial | skip)
set_option maxRecDepth 10000 in
set_option maxHeartbeats 8000000 in
theorem fails_ok {rs : List Bt.C4} {h : Int} {m : Bt.Mc} {k : Nat} {t : Bt.Th} (hn : rs.length ≤ 1048576) (hk : m.ths[k]? = some t) (hp : Bt.progOk rs h = true) (hl : m.locks.length = 2) (hlo : 0 ≤ t.pl) (hm : Small m) (hs6 : t.stack.length ≤ 6) :
    FnOk E.P 141 [pProg rs h, .agg (pMc m), pI k] (.bool (Bt.failsI rs m k t)) true := by
  obtain ⟨e6, hkl⟩ := at_th hk
  have hB := ibehind_ok (rs := rs) (h := h) (t := t)
  have hml := hm.ths
  refine fn_ok mixed Try.func141 rfl (by kernel_rfl) _ Try.results141 _ Try.ntmps141 (by simp) (by kernel_rfl) ?_
  by_cases c4 : t.pl ≥ (rs.length : Int)
  · rw [Bt.failsI_end c4]
    rw [decide_eq_true c4] at hB
    repeat (first | (refine aops_fnX rfl ?_ ?_; focus (simp (maxSteps := 4000000) only [sks, e6, pTh, pMc, pProg, pInts, pI, tvl, simprocAttr]; done)) | (simp (maxSteps := 4000000) only [e6, pTh, pMc, pProg, pInts, pI, tvl, simprocAttr]) | refine ftS (by kernel_rfl) ?_ | refine And.intro (by omega) ?_)
    refine aops_fn (hB) (hidB rfl) rfl ?_
    repeat (first | (refine aops_fnX rfl ?_ ?_; focus (simp (maxSteps := 4000000) only [sks, pTh, pMc, pProg, pInts, pI, tvl, simprocAttr]; done)) | (simp (maxSteps := 4000000) only [pTh, pMc, pProg, pInts, pI, tvl, simprocAttr]) | refine ftS (by kernel_rfl) ?_ | refine And.intro (by omega) ?_)
    all_goals (first | rfl | trivial | skip)
  rw [decide_eq_false c4] at hB
  obtain ⟨j, hj⟩ : ∃ j : Nat, t.pl = j := ⟨t.pl.toNat, by omega⟩
  have hjl : j < rs.length := by omega
  have e7 : (rs.map pCode)[j]? = some (pCode rs[j]) := by simp [hjl]
  have hcd := Bt.progOk_code hp hjl
  rw [Bt.failsI_at hjl hj]
  obtain ⟨pl, regs, stack, st⟩ := t
  simp only at hj hs6
  subst hj
  generalize rs[j] = x at *
  obtain ⟨op, a, b, c⟩ := x
  simp only at hcd
  unfold Bt.faultsI
  simp only
  by_cases g11 : op = 11
  · subst g11
    have e : decide (6 ≤ stack.length) = decide ((stack.length : Int) ≥ 6) := decide_eq_decide.2 (by omega)
    rw [if_pos rfl, e]
    repeat (first | (refine aops_fnX rfl ?_ ?_; focus (simp (maxSteps := 4000000) only [sks, e6, pTh, pMc, pProg, pInts, pI, tvl, simprocAttr]; done)) | (simp (maxSteps := 4000000) only [e6, pTh, pMc, pProg, pInts, pI, tvl, simprocAttr]) | refine ftS (by kernel_rfl) ?_ | refine And.intro (by omega) ?_)
    refine aops_fn (hB) (hidB rfl) rfl ?_
    repeat (first | (refine aops_fnX rfl ?_ ?_; focus (simp (maxSteps := 4000000) only [sks, e7, Int.reduceBEq, pTh, pMc, pCode, pProg, pInts, pI, tvl, simprocAttr]; done)) | (simp (maxSteps := 4000000) only [e7, Int.reduceBEq, pTh, pMc, pCode, pProg, pInts, pI, tvl, simprocAttr]) | refine ftS (by kernel_rfl) ?_ | refine And.intro (by omega) ?_)
    all_goals (first | rfl | trivial | skip)
  have f11 : (op == 11) = false := by simpa using g11
  rw [if_neg g11]
  by_cases g12 : op = 12
  · subst g12
    have e : decide (stack.length = 0) = ((stack.length : Int) == 0) := by rw [Bool.eq_iff_iff, decide_eq_true_eq, beq_iff_eq]; omega
    rw [if_pos rfl, e]
    repeat (first | (refine aops_fnX rfl ?_ ?_; focus (simp (maxSteps := 4000000) only [sks, e6, pTh, pMc, pProg, pInts, pI, tvl, simprocAttr]; done)) | (simp (maxSteps := 4000000) only [e6, pTh, pMc, pProg, pInts, pI, tvl, simprocAttr]) | refine ftS (by kernel_rfl) ?_ | refine And.intro (by omega) ?_)
    refine aops_fn (hB) (hidB rfl) rfl ?_
    repeat (first | (refine aops_fnX rfl ?_ ?_; focus (simp (maxSteps := 4000000) only [sks, e7, f11, Int.reduceBEq, pTh, pMc, pCode, pProg, pInts, pI, tvl, simprocAttr]; done)) | (simp (maxSteps := 4000000) only [e7, f11, Int.reduceBEq, pTh, pMc, pCode, pProg, pInts, pI, tvl, simprocAttr]) | refine ftS (by kernel_rfl) ?_ | refine And.intro (by omega) ?_)
    all_goals (first | rfl | trivial | skip)
  have f12 : (op == 12) = false := by simpa using g12
  rw [if_neg g12]
  by_cases g16 : op = 16
  · subst g16
    obtain ⟨c0, c1'⟩ := Bt.lock_bounds hcd (.inr rfl)
    obtain ⟨q, rfl⟩ : ∃ q : Nat, c = q := ⟨c.toNat, by omega⟩
    have hq : q < m.locks.length := by omega
    have e8 : (m.locks.map fun x => [PV.int .i64 x])[q]? = some [.int .i64 m.locks[q]] := by simp [hq]
    have e9 : m.locks.getD q (-1) = m.locks[q] := by simp [hq]
    rw [if_pos rfl, Int.toNat_natCast, e9]
    generalize m.locks[q] = l at *
    repeat (first | (refine aops_fnX rfl ?_ ?_; focus (simp (maxSteps := 4000000) only [sks, e6, pTh, pMc, pProg, pInts, pI, tvl, simprocAttr]; done)) | (simp (maxSteps := 4000000) only [e6, pTh, pMc, pProg, pInts, pI, tvl, simprocAttr]) | refine ftS (by kernel_rfl) ?_ | refine And.intro (by omega) ?_)
    refine aops_fn (hB) (hidB rfl) rfl ?_
    repeat (first | (refine aops_fnX rfl ?_ ?_; focus (simp (maxSteps := 4000000) only [sks, e7, e8, f11, f12, Int.reduceBEq, pTh, pMc, pCode, pProg, pInts, pI, tvl, simprocAttr]; done)) | (simp (maxSteps := 4000000) only [e7, e8, f11, f12, Int.reduceBEq, pTh, pMc, pCode, pProg, pInts, pI, tvl, simprocAttr]) | refine ftS (by kernel_rfl) ?_ | refine And.intro (by omega) ?_)
    all_goals (first | rfl | trivial | skip)
  have f16 : (op == 16) = false := by simpa using g16
  rw [if_neg g16]
  by_cases g17 : op = 17
  · subst g17
    have e : decide (4 ≤ m.ths.length) = decide ((m.ths.length : Int) ≥ 4) := decide_eq_decide.2 (by omega)
    rw [if_pos rfl, e]
    repeat (first | (refine aops_fnX rfl ?_ ?_; focus (simp (maxSteps := 4000000) only [sks, e6, pTh, pMc, pProg, pInts, pI, tvl, simprocAttr]; done)) | (simp (maxSteps := 4000000) only [e6, pTh, pMc, pProg, pInts, pI, tvl, simprocAttr]) | refine ftS (by kernel_rfl) ?_ | refine And.intro (by omega) ?_)
    refine aops_fn (hB) (hidB rfl) rfl ?_
    repeat (first | (refine aops_fnX rfl ?_ ?_; focus (simp (maxSteps := 4000000) only [sks, e7, f11, f12, f16, Int.reduceBEq, pTh, pMc, pCode, pProg, pInts, pI, tvl, simprocAttr]; done)) | (simp (maxSteps := 4000000) only [e7, f11, f12, f16, Int.reduceBEq, pTh, pMc, pCode, pProg, pInts, pI, tvl, simprocAttr]) | refine ftS (by kernel_rfl) ?_ | refine And.intro (by omega) ?_)
    all_goals (first | rfl | trivial | skip)
  have f17 : (op == 17) = false := by simpa using g17
  rw [if_neg g17]
  repeat (first | (refine aops_fnX rfl ?_ ?_; focus (simp (maxSteps := 4000000) only [sks, e6, pTh, pMc, pProg, pInts, pI, tvl, simprocAttr]; done)) | (simp (maxSteps := 4000000) only [e6, pTh, pMc, pProg, pInts, pI, tvl, simprocAttr]) | refine ftS (by kernel_rfl) ?_ | refine And.intro (by omega) ?_)
  refine aops_fn (hB) (hidB rfl) rfl ?_
  repeat (first | (refine aops_fnX rfl ?_ ?_; focus (simp (maxSteps := 4000000) only [sks, e7, f11, f12, f16, f17, pTh, pMc, pCode, pProg, pInts, pI, tvl, simprocAttr]; done)) | (simp (maxSteps := 4000000) only [e7, f11, f12, f16, f17, pTh, pMc, pCode, pProg, pInts, pI, tvl, simprocAttr]) | refine ftS (by kernel_rfl) ?_ | refine And.intro (by omega) ?_)
  all_goals (first | rfl | trivial | skip)
set_option maxRecDepth 10000 in
set_option maxHeartbeats 16000000 in
theorem ido_ok {rs : List Bt.C4} {h : Int} {m : Bt.Mc} {c : Bt.Ch} (hn : rs.length ≤ 1048576) (hm : Small m) : FnOk E.P 131 [pProg rs h, .agg (pMc m), .agg (pCh c)] (.tup [.agg (pMc ((Bt.doM rs h m c).getD Bt.mcNil)), .bool (Bt.doM rs h m c).isSome]) true := by
  have hCan := ican_ok (rs := rs) (h := h) (m := m) (c := c) hn hm
  obtain ⟨who, kd, rep⟩ := c
  refine fn_ok mixed Try.func131 rfl (by kernel_rfl) _ Try.results131 _ Try.ntmps131 (by simp) (by kernel_rfl) ?_
  repeat (first | (refine aops_fnX rfl ?_ ?_; focus (simp (maxSteps := 4000000) only [sks, pProg, pMc, pCh, pInts, pI, tvl, simprocAttr]; done)) | (simp (maxSteps := 4000000) only [pProg, pMc, pCh, pInts, pI, tvl, simprocAttr]) | refine ftS (by kernel_rfl) ?_ | refine And.intro (by omega) ?_)
  refine aops_fn (hCan) (hidB rfl) rfl ?_
  cases h1 : Bt.canDo rs h m ⟨who, kd, rep⟩
  · rw [Bt.doM_no h1]
    repeat (first | (refine aops_fnX rfl ?_ ?_; focus (simp (maxSteps := 4000000) only [sks, Option.getD_none, Option.isSome_none, Bt.mcNil, List.map_nil, pProg, pMc, pCh, pInts, pI, tvl, simprocAttr]; done)) | (simp (maxSteps := 4000000) only [Option.getD_none, Option.isSome_none, Bt.mcNil, List.map_nil, pProg, pMc, pCh, pInts, pI, tvl, simprocAttr]) | refine ftS (by kernel_rfl) ?_ | refine And.intro (by omega) ?_)
    all_goals (first | rfl | trivial | skip)
  obtain ⟨hmk, hru⟩ := Bt.canDo_true h1
  obtain ⟨w0, w1⟩ : 0 ≤ who ∧ who < m.ths.length := Bt.runs_lt hru
  obtain ⟨k, rfl⟩ : ∃ k : Nat, who = k := ⟨who.toNat, by omega⟩
  have hkl : k < m.ths.length := by omega
  have F := Bt.machOk_facts hmk
  have T := Bt.thOk_facts (F.th k hkl)
  have hk : m.ths[k]? = some m.ths[k] := List.getElem?_eq_getElem hkl
  obtain ⟨e6, _⟩ := at_th hk
  have hr := Bt.regsOk_len T.regs
  have htop := T.top
  by_cases c1 : kd = 1
  · subst c1
    rw [Bt.doM_sig h1 hkl]
    have hS := signalled_ok (t := m.ths[k]) (h := h) (by omega) (by omega)
    have hW := withTh_ok (m := m) (w := k) (t := ⟨h, m.ths[k].regs, m.ths[k].stack ++ [m.ths[k].pl], m.ths[k].st⟩) hm (by simp only; omega) (by simp only [List.length_append, List.length_cons, List.length_nil]; omega)
    generalize m.ths[k] = t at *
    generalize (⟨h, t.regs, t.stack ++ [t.pl], t.st⟩ : Bt.Th) = u at *
    repeat (first | (refine aops_fnX rfl ?_ ?_; focus (simp (maxSteps := 4000000) only [sks, e6, Int.reduceBEq, pProg, pTh, pMc, pCh, pInts, pI, tvl, simprocAttr]; done)) | (simp (maxSteps := 4000000) only [e6, Int.reduceBEq, pProg, pTh, pMc, pCh, pInts, pI, tvl, simprocAttr]) | refine ftS (by kernel_rfl) ?_ | refine And.intro (by omega) ?_)
    refine aops_fn (hS) (hidB rfl) rfl ?_
    repeat (first | (refine aops_fnX rfl ?_ ?_; focus (simp (maxSteps := 4000000) only [sks, pProg, pTh, pMc, pCh, pInts, pI, tvl, simprocAttr]; done)) | (simp (maxSteps := 4000000) only [pProg, pTh, pMc, pCh, pInts, pI, tvl, simprocAttr]) | refine ftS (by kernel_rfl) ?_ | refine And.intro (by omega) ?_)
    refine aops_fn (hW) (hidB rfl) rfl ?_
    repeat (first | (refine aops_fnX rfl ?_ ?_; focus (simp (maxSteps := 4000000) only [sks, Option.getD_some, Option.isSome_some, pProg, pTh, pMc, pCh, pInts, pI, tvl, simprocAttr]; done)) | (simp (maxSteps := 4000000) only [Option.getD_some, Option.isSome_some, pProg, pTh, pMc, pCh, pInts, pI, tvl, simprocAttr]) | refine ftS (by kernel_rfl) ?_ | refine And.intro (by omega) ?_)
    all_goals (first | rfl | trivial | skip)
  have d1 : (kd == 1) = false := by simpa using c1
  have hhi := T.hi
  have hF := fails_ok (h := h) hn hk F.prog F.locks T.lo hm T.top
  cases c2 : Bt.failsI rs m k m.ths[k]
  rotate_left
  · rw [Bt.doM_fail h1 hkl c1 c2]
    rw [c2] at hF
    have hS := failed_ok (t := m.ths[k]) (by omega) (by omega)
    have hW := withTh_ok (m := m) (w := k) (t := ⟨m.ths[k].pl, m.ths[k].regs, m.ths[k].stack, 2⟩) hm (by simp only; omega) (by simp only; omega)
    generalize m.ths[k] = t at *
    generalize (⟨t.pl, t.regs, t.stack, 2⟩ : Bt.Th) = u at *
    repeat (first | (refine aops_fnX rfl ?_ ?_; focus (simp (maxSteps := 4000000) only [sks, e6, d1, pProg, pTh, pMc, pCh, pInts, pI, tvl, simprocAttr]; done)) | (simp (maxSteps := 4000000) only [e6, d1, pProg, pTh, pMc, pCh, pInts, pI, tvl, simprocAttr]) | refine ftS (by kernel_rfl) ?_ | refine And.intro (by omega) ?_)
    refine aops_fn (hF) (hidB rfl) rfl ?_
    repeat (first | (refine aops_fnX rfl ?_ ?_; focus (simp (maxSteps := 4000000) only [sks, pProg, pTh, pMc, pCh, pInts, pI, tvl, simprocAttr]; done)) | (simp (maxSteps := 4000000) only [pProg, pTh, pMc, pCh, pInts, pI, tvl, simprocAttr]) | refine ftS (by kernel_rfl) ?_ | refine And.intro (by omega) ?_)
    refine aops_fn (hS) (hidB rfl) rfl ?_
    repeat (first | (refine aops_fnX rfl ?_ ?_; focus (simp (maxSteps := 4000000) only [sks, pProg, pTh, pMc, pCh, pInts, pI, tvl, simprocAttr]; done)) | (simp (maxSteps := 4000000) only [pProg, pTh, pMc, pCh, pInts, pI, tvl, simprocAttr]) | refine ftS (by kernel_rfl) ?_ | refine And.intro (by omega) ?_)
    refine aops_fn (hW) (hidB rfl) rfl ?_
    repeat (first | (refine aops_fnX rfl ?_ ?_; focus (simp (maxSteps := 4000000) only [sks, Option.getD_some, Option.isSome_some, pProg, pTh, pMc, pCh, pInts, pI, tvl, simprocAttr]; done)) | (simp (maxSteps := 4000000) only [Option.getD_some, Option.isSome_some, pProg, pTh, pMc, pCh, pInts, pI, tvl, simprocAttr]) | refine ftS (by kernel_rfl) ?_ | refine And.intro (by omega) ?_)
    all_goals (first | rfl | trivial | skip)
  have hnl : ¬ (rs.length : Int) ≤ m.ths[k].pl := fun e => by rw [Bt.failsI_end e] at c2; cases c2
  have hlo := T.lo
  obtain ⟨j, hj⟩ : ∃ j : Nat, m.ths[k].pl = j := ⟨m.ths[k].pl.toNat, by omega⟩
  have hjl : j < rs.length := by omega
  rw [Bt.doM_step h1 hkl c1 hj hjl c2]
  rw [c2] at hF
  have e7 : (rs.map pCode)[j]? = some (pCode rs[j]) := by simp [hjl]
  have hcd := Bt.progOk_code F.prog hjl
  have hs : rs[j].op = 12 → m.ths[k].stack ≠ [] := fun e en => by
    rw [Bt.failsI_at hjl hj, Bt.faultsI, if_neg (by omega), if_pos e, en] at c2
    simp at c2
  have hM := machB_ok (kd := kd) (rep := rep) hk hcd T.regs F.cells F.locks F.told hm hs T.top ⟨by omega, by omega⟩
  generalize Bt.stepM m k m.ths[k] rs[j] rep = M at *
  generalize m.ths[k] = t at *
  obtain ⟨pl, regs, stack, st⟩ := t
  simp only at hj
  subst hj
  generalize rs[j] = x at *
  repeat (first | (refine aops_fnX rfl ?_ ?_; focus (simp (maxSteps := 4000000) only [sks, e6, d1, pProg, pTh, pMc, pCh, pInts, pI, tvl, simprocAttr]; done)) | (simp (maxSteps := 4000000) only [e6, d1, pProg, pTh, pMc, pCh, pInts, pI, tvl, simprocAttr]) | refine ftS (by kernel_rfl) ?_ | refine And.intro (by omega) ?_)
  refine aops_fn (hF) (hidB rfl) rfl ?_
  repeat (first | (refine aops_fnX rfl ?_ ?_; focus (simp (maxSteps := 4000000) only [sks, e7, pProg, pTh, pMc, pCh, pCode, pInts, pI, tvl, simprocAttr]; done)) | (simp (maxSteps := 4000000) only [e7, pProg, pTh, pMc, pCh, pCode, pInts, pI, tvl, simprocAttr]) | refine ftS (by kernel_rfl) ?_ | refine And.intro (by omega) ?_)
  refine aops_fn (hM) (hidB rfl) rfl ?_
  repeat (first | (refine aops_fnX rfl ?_ ?_; focus (simp (maxSteps := 4000000) only [sks, Option.getD_some, Option.isSome_some, pProg, pTh, pMc, pCh, pInts, pI, tvl, simprocAttr]; done)) | (simp (maxSteps := 4000000) only [Option.getD_some, Option.isSome_some, pProg, pTh, pMc, pCh, pInts, pI, tvl, simprocAttr]) | refine ftS (by kernel_rfl) ?_ | refine And.intro (by omega) ?_)
  all_goals (first | rfl | trivial | skip)
end Av
end Go.Proofs.Ytbkbppllcjcmhaa

set_option linter.unusedSimpArgs false
set_option linter.unusedVariables false
namespace Go.Proofs.Ytbkbppllcjcmhaa
open Go.RowKit
namespace Av
theorem progN_ok {rs : List Bt.C4} {h : Int} (hne : rs ≠ []) (hn : rs.length ≤ 1048576) : FnOk E.P 123 [pProg rs h] (.bool (Bt.progOk rs h)) true := iprog_ok hn
theorem prog0_ok {h : Int} : FnOk E.P 123 [pProg [] h] (.bool false) true := iprog_ok (rs := []) (h := h) (Nat.zero_le _)
theorem can_ok {rs : List Bt.C4} {h : Int} {m : Bt.Mc} {c : Bt.Ch} (hne : rs ≠ []) (hn : rs.length ≤ 1048576) (hm : Small m) : FnOk E.P 138 [pProg rs h, .agg (pMc m), .agg (pCh c)] (.bool (Bt.canDo rs h m c)) true := ican_ok hn hm
theorem do_ok {rs : List Bt.C4} {h : Int} {m : Bt.Mc} {c : Bt.Ch} (hne : rs ≠ []) (hn : rs.length ≤ 1048576) (hm : Small m) : FnOk E.P 131 [pProg rs h, .agg (pMc m), .agg (pCh c)] (.tup [.agg (pMc ((Bt.doM rs h m c).getD Bt.mcNil)), .bool (Bt.doM rs h m c).isSome]) true := ido_ok hn hm
theorem instr_ok {rs : List Bt.C4} {h who : Int} {m : Bt.Mc} (hne : rs ≠ []) (hn : rs.length ≤ 1048576) (hm : Small m) : FnOk E.P 145 [pProg rs h, .agg (pMc m), pI who] (.tup [.agg (pCode ((Bt.instrOf rs h m who).getD ⟨0, 0, 0, 0⟩)), .bool (Bt.instrOf rs h m who).isSome]) true := iinstr_ok hn hm
end Av
end Go.Proofs.Ytbkbppllcjcmhaa
