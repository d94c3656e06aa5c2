/-
  Programs, machines, choices told plainly.
  Rows of choices told plainly.
  Chapter 1: which instructions and programs are ones, in both packages.
  Chapter 1: which instructions and programs are ones, in both packages.
  Chapter 1: which programs are ones, the model's.
  Chapter 1: which instructions and programs are ones, the program's.
-/
import Derived.Test.YtbkbppllcjcmhaaTy
import Derived.Test.YtbkbppllcjcmhaaAvY
import Derived.Test.YtbkbppllcjcmhaaPur
set_option linter.unusedSimpArgs false
set_option linter.unusedVariables false
namespace Go.Proofs.Ytbkbppllcjcmhaa
open Go.RowKit
namespace Av
def pInts (xs : List Int) : PV := .lst 3 (xs.map fun x => [pI x])
def pCode (c : Bt.C4) : List PV := [pI c.op, pI c.a, pI c.b, pI c.c]
def pProg (rs : List Bt.C4) (h : Int) : PV := .agg [.lst 141 (rs.map pCode), pI h]
def pTh (t : Bt.Th) : List PV := [pI t.pl, pInts t.regs, pInts t.stack, pI t.st]
def pMc (m : Bt.Mc) : List PV := [.lst 134 (m.ths.map pTh), pInts m.cells, pInts m.locks, pInts m.told]
def pCh (c : Bt.Ch) : List PV := [pI c.who, pI c.kind, pI c.reply]
end Av
end Go.Proofs.Ytbkbppllcjcmhaa

namespace Go.Proofs.Ytbkbppllcjcmhaa
open Go.RowKit
namespace Av
def pChs (l : List Bt.Ch) : PV := .lst 122 (l.map pCh)
end Av
end Go.Proofs.Ytbkbppllcjcmhaa

set_option linter.unusedSimpArgs false
set_option linter.unusedVariables false
namespace Go.Proofs.Ytbkbppllcjcmhaa
open Go.RowKit
namespace Av
theorem op_cases (op : Int) : (op = 0 ∨ op = 1 ∨ op = 2 ∨ op = 3 ∨ op = 4 ∨ op = 5 ∨ op = 6 ∨ op = 7 ∨ op = 8 ∨ op = 9 ∨ op = 10 ∨ op = 11 ∨ op = 12 ∨ op = 13 ∨ op = 14 ∨ op = 15 ∨ op = 16 ∨ op = 17) ∨ ((op == 0) = false ∧ (op == 1) = false ∧ (op == 2) = false ∧ (op == 3) = false ∧ (op == 4) = false ∧ (op == 5) = false ∧ (op == 6) = false ∧ (op == 7) = false ∧ (op == 8) = false ∧ (op == 9) = false ∧ (op == 10) = false ∧ (op == 11) = false ∧ (op == 12) = false ∧ (op == 13) = false ∧ (op == 14) = false ∧ (op == 15) = false ∧ (op == 16) = false ∧ (op == 17) = false) := by
  simp only [beq_eq_false_iff_ne]
  omega
theorem uses_none {op : Int} (h : (op == 0) = false ∧ (op == 1) = false ∧ (op == 2) = false ∧ (op == 3) = false ∧ (op == 4) = false ∧ (op == 5) = false ∧ (op == 6) = false ∧ (op == 7) = false ∧ (op == 8) = false ∧ (op == 9) = false ∧ (op == 10) = false ∧ (op == 11) = false ∧ (op == 12) = false ∧ (op == 13) = false ∧ (op == 14) = false ∧ (op == 15) = false ∧ (op == 16) = false ∧ (op == 17) = false) : Bt.uA op = false ∧ Bt.uB op = false ∧ Bt.uC op = 0 ∧ Bt.uOk op = false := by
  simp only [beq_eq_false_iff_ne] at h
  simp only [Bt.uA, Bt.uB, Bt.uC, Bt.uOk, decide_eq_false_iff_not]
  refine ⟨by omega, by omega, ?_, by omega⟩
  rw [if_neg (by omega), if_neg (by omega), if_neg (by omega), if_neg (by omega)]
set_option maxHeartbeats 4000000 in
theorem suses_ok {op : Int} : FnOk E.P 121 [pI op] (.tup [.bool (Bt.uA op), .bool (Bt.uB op), pI (Bt.uC op), .bool (Bt.uOk op)]) true := by
  rcases op_cases op with h | h
  · rcases h with rfl | rfl | rfl | rfl | rfl | rfl | rfl | rfl | rfl | rfl | rfl | rfl | rfl | rfl | rfl | rfl | rfl | rfl
    all_goals
      refine fn_ok mixed Try.func121 rfl (by kernel_rfl) _ Try.results121 _ Try.ntmps121 (by simp) (by kernel_rfl) ?_
      simp (maxSteps := 4000000) only [Int.reduceBEq, pI, tvs, simprocAttr]
      repeat (first | refine ftS (by kernel_rfl) ?_ | refine And.intro (by omega) ?_)
      all_goals (first | rfl | trivial | skip)
  obtain ⟨e1, e2, e3, e4⟩ := uses_none h
  obtain ⟨h0, h1, h2, h3, h4, h5, h6, h7, h8, h9, h10, h11, h12, h13, h14, h15, h16, h17⟩ := h
  rw [e1, e2, e3, e4]
  refine fn_ok mixed Try.func121 rfl (by kernel_rfl) _ Try.results121 _ Try.ntmps121 (by simp) (by kernel_rfl) ?_
  simp (maxSteps := 4000000) only [h0, h1, h2, h3, h4, h5, h6, h7, h8, h9, h10, h11, h12, h13, h14, h15, h16, h17, pI, tvs, simprocAttr]
  repeat (first | refine ftS (by kernel_rfl) ?_ | refine And.intro (by omega) ?_)
  all_goals (first | rfl | trivial | skip)
set_option maxHeartbeats 4000000 in
theorem sbelow_ok {n top : Int} {u : Bool} : FnOk E.P 132 [pI n, pI top, .bool u] (.bool (Bt.below n top u)) true := by
  cases u
  · refine fn_ok mixed Try.func132 rfl (by kernel_rfl) _ Try.results132 _ Try.ntmps132 (by simp) (by kernel_rfl) ?_
    have e : Bt.below n top false = (n == 0) := by rw [Bt.below, if_neg (by decide)]; rfl
    simp (maxSteps := 4000000) only [e, pI, tvs, simprocAttr]
    repeat (first | refine ftS (by kernel_rfl) ?_ | refine And.intro (by omega) ?_)
    all_goals (first | rfl | trivial | skip)
  · by_cases h : 0 ≤ n
    · have d : decide (n ≥ 0) = true := by simpa using h
      have e : Bt.below n top true = decide (n < top) := by simp [Bt.below, h]
      refine fn_ok mixed Try.func132 rfl (by kernel_rfl) _ Try.results132 _ Try.ntmps132 (by simp) (by kernel_rfl) ?_
      simp (maxSteps := 4000000) only [d, e, pI, tvs, simprocAttr]
      repeat (first | refine ftS (by kernel_rfl) ?_ | refine And.intro (by omega) ?_)
      all_goals (first | rfl | trivial | skip)
    · have d : decide (n ≥ 0) = false := by simpa using h
      have e : Bt.below n top true = false := by simp [Bt.below]; omega
      refine fn_ok mixed Try.func132 rfl (by kernel_rfl) _ Try.results132 _ Try.ntmps132 (by simp) (by kernel_rfl) ?_
      simp (maxSteps := 4000000) only [d, e, pI, tvs, simprocAttr]
      repeat (first | refine ftS (by kernel_rfl) ?_ | refine And.intro (by omega) ?_)
      all_goals (first | rfl | trivial | skip)
end Av
end Go.Proofs.Ytbkbppllcjcmhaa

set_option linter.unusedSimpArgs false
set_option linter.unusedVariables false
namespace Go.Proofs.Ytbkbppllcjcmhaa
open Go.RowKit
namespace Bt
theorem uC_is (op : Int) : uC op = 0 ∨ uC op = 1 ∨ uC op = 2 ∨ uC op = 3 ∨ uC op = 4 := by unfold uC; omega
theorem fC_place {op : Int} : fC op = 4 ↔ uC op = 3 := by unfold fC; split <;> omega
theorem progOk_out {rs : List C4} {h : Int} {n : Nat} (hn : rs.length = n) (hno : ¬ (1 ≤ n ∧ n ≤ 60 ∧ -1 ≤ h ∧ h < n)) : progOk rs h = false := by
  unfold progOk
  rw [hn, decide_eq_false hno, Bool.and_false]
def nm (op : Int) : ByteArray := ⟨(name op).toArray⟩
end Bt
namespace Av
set_option maxHeartbeats 8000000 in
theorem scodeOk_ok {op a b c : Int} : FnOk E.P 122 [.agg (pCode ⟨op, a, b, c⟩)] (.bool (Bt.codeOk op a b c)) true := by
  have hU := suses_ok (op := op)
  have hA := sbelow_ok (n := a) (top := 4) (u := Bt.uA op)
  have hB := sbelow_ok (n := b) (top := 4) (u := Bt.uB op)
  have hC := sbelow_ok (n := c) (top := Bt.topC (Bt.uC op)) (u := decide (0 < Bt.uC op))
  have hk := Bt.uC_is op
  unfold Bt.codeOk
  generalize Bt.below a 4 (Bt.uA op) = k1 at *
  generalize Bt.below b 4 (Bt.uB op) = k2 at *
  generalize Bt.below c (Bt.topC (Bt.uC op)) (decide (0 < Bt.uC op)) = k3 at *
  generalize Bt.uA op = u1 at *
  generalize Bt.uB op = u2 at *
  generalize Bt.uOk op = k0 at *
  generalize Bt.uC op = k at *
  refine fn_ok mixed Try.func122 rfl (by kernel_rfl) _ Try.results122 _ Try.ntmps122 (by simp) (by kernel_rfl) ?_
  simp (maxSteps := 4000000) only [pCode, pI, tvs, simprocAttr]
  repeat (first | refine ftS (by kernel_rfl) ?_ | refine And.intro (by omega) ?_)
  refine aops_fn (hU) (hidB rfl) rfl ?_
  cases k0
  · simp (maxSteps := 4000000) only [pI, tvs, simprocAttr]
    repeat (first | refine ftS (by kernel_rfl) ?_ | refine And.intro (by omega) ?_)
    refine aops_fnN rfl (by simp (maxSteps := 4000000) only [tvs, simprocAttr]) ?_
    simp (maxSteps := 4000000) only [pI, tvs, simprocAttr]
    repeat (first | refine ftS (by kernel_rfl) ?_ | refine And.intro (by omega) ?_)
    refine aops_fnN rfl (by simp (maxSteps := 4000000) only [tvs, simprocAttr]) ?_
    simp (maxSteps := 4000000) only [pI, tvs, simprocAttr]
    repeat (first | refine ftS (by kernel_rfl) ?_ | refine And.intro (by omega) ?_)
    refine aops_fnN rfl (by simp (maxSteps := 4000000) only [tvs, simprocAttr]) ?_
    simp (maxSteps := 4000000) only [pI, tvs, simprocAttr]
    repeat (first | refine ftS (by kernel_rfl) ?_ | refine And.intro (by omega) ?_)
    all_goals (first | rfl | trivial | skip)
  simp (maxSteps := 4000000) only [pI, tvs, simprocAttr]
  repeat (first | refine ftS (by kernel_rfl) ?_ | refine And.intro (by omega) ?_)
  refine aops_fnG (hA) (hidB rfl) rfl rfl (by simp (maxSteps := 4000000) only [pI, tvs, simprocAttr]) ?_
  cases k1
  · simp (maxSteps := 4000000) only [pI, tvs, simprocAttr]
    repeat (first | refine ftS (by kernel_rfl) ?_ | refine And.intro (by omega) ?_)
    refine aops_fnN rfl (by simp (maxSteps := 4000000) only [tvs, simprocAttr]) ?_
    simp (maxSteps := 4000000) only [pI, tvs, simprocAttr]
    repeat (first | refine ftS (by kernel_rfl) ?_ | refine And.intro (by omega) ?_)
    refine aops_fnN rfl (by simp (maxSteps := 4000000) only [tvs, simprocAttr]) ?_
    simp (maxSteps := 4000000) only [pI, tvs, simprocAttr]
    repeat (first | refine ftS (by kernel_rfl) ?_ | refine And.intro (by omega) ?_)
    all_goals (first | rfl | trivial | skip)
  simp (maxSteps := 4000000) only [pI, tvs, simprocAttr]
  repeat (first | refine ftS (by kernel_rfl) ?_ | refine And.intro (by omega) ?_)
  refine aops_fnG (hB) (hidB rfl) rfl rfl (by simp (maxSteps := 4000000) only [pI, tvs, simprocAttr]) ?_
  cases k2
  · simp (maxSteps := 4000000) only [pI, tvs, simprocAttr]
    repeat (first | refine ftS (by kernel_rfl) ?_ | refine And.intro (by omega) ?_)
    refine aops_fnN rfl (by simp (maxSteps := 4000000) only [tvs, simprocAttr]) ?_
    simp (maxSteps := 4000000) only [pI, tvs, simprocAttr]
    repeat (first | refine ftS (by kernel_rfl) ?_ | refine And.intro (by omega) ?_)
    all_goals (first | rfl | trivial | skip)
  rcases hk with rfl | rfl | rfl | rfl | rfl
  all_goals
    simp only [Bt.topC, Int.reduceEq, if_true, if_false, Int.reduceLT, decide_true, decide_false, Int.lt_irrefl] at hC
    simp (maxSteps := 4000000) only [Int.reduceToNat, Int.lt_irrefl, List.drop_succ_cons, List.drop_zero, decide_true, decide_false, Bool.true_and, pI, tvs, simprocAttr]
    repeat (first | refine ftS (by kernel_rfl) ?_ | refine And.intro (by omega) ?_)
    refine aops_fnG (hC) (hidB rfl) rfl rfl (by simp (maxSteps := 4000000) only [Int.lt_irrefl, gt_iff_lt, decide_true, decide_false, pI, tvs, simprocAttr]) ?_
    simp (maxSteps := 4000000) only [Bool.true_and, pI, tvs, simprocAttr]
    repeat (first | refine ftS (by kernel_rfl) ?_ | refine And.intro (by omega) ?_)
    all_goals (first | rfl | trivial | skip)
end Av
end Go.Proofs.Ytbkbppllcjcmhaa

set_option linter.unusedSimpArgs false
set_option linter.unusedVariables false
namespace Go.Proofs.Ytbkbppllcjcmhaa
open Go.RowKit
namespace Av
set_option maxRecDepth 10000 in
set_option maxHeartbeats 16000000 in
theorem sprog_ok {rs : List Bt.C4} {h : Int} (hn : rs.length ≤ 1048576) : FnOk E.P 102 [pProg rs h] (.bool (Bt.progOk rs h)) true := by
  refine fn_ok mixed Try.func102 rfl (by kernel_rfl) _ Try.results102 _ Try.ntmps102 (by simp) (by kernel_rfl) ?_
  simp (maxSteps := 4000000) only [pProg, pI, tvl, simprocAttr]
  repeat (first | refine ftS (by kernel_rfl) ?_ | refine And.intro (by omega) ?_)
  refine awp_loop (X := Nat) (fun k => [(1, .ptr 0 0), (3, .pv (.int .i64 k))])
    (fun k => [(0, .box [.pv (.lst 141 (rs.map pCode)), .pv (.int .i64 h)])])
    (fun k => k ≤ rs.length ∧ ∀ j (hj : j < rs.length), j < k → Bt.good rs.length rs[j] = true) (fun k => rs.length - k) 100 0 ⟨Nat.zero_le _, fun j hj h => absurd h (by omega)⟩ (by simp (maxSteps := 4000000) only [pI, tvl, simprocAttr]; try simp [pI]) (fun k hk => ?_)
  obtain ⟨hk, hg⟩ := hk
  by_cases c1 : k < rs.length
  · have d1 : decide ((k : Int) < (rs.length : Int)) = true := by simpa using c1
    have e5 : (rs.map pCode)[k]? = some (pCode rs[k]) := by simp [c1]
    have hno := Bt.progOk_false (h := h) c1
    have hgn : Bt.good rs.length rs[k] = true → ∀ j (hj : j < rs.length), j < k + 1 → Bt.good rs.length rs[j] = true := fun e j hj hjk => by
      by_cases h1 : j < k
      · exact hg j hj h1
      · obtain rfl : j = k := by omega
        exact e
    generalize rs[k] = r at *
    obtain ⟨op, a, b, c⟩ := r
    have hU := suses_ok (op := op)
    have hC := scodeOk_ok (op := op) (a := a) (b := b) (c := c)
    unfold Bt.good at hno hgn
    simp only at hno hgn
    simp (maxSteps := 4000000) only [d1, e5, pCode, pI, tvl, simprocAttr]
    repeat (first | refine ftS (by kernel_rfl) ?_ | refine And.intro (by omega) ?_)
    refine aops_fn (hU) (hidB rfl) rfl ?_
    simp (maxSteps := 4000000) only [e5, pCode, pI, tvl, simprocAttr]
    repeat (first | refine ftS (by kernel_rfl) ?_ | refine And.intro (by omega) ?_)
    refine aops_fn (hC) (hidB rfl) rfl ?_
    cases hco : Bt.codeOk op a b c
    · have hp := hno (by rw [hco, Bool.false_and])
      simp (maxSteps := 4000000) only [hp, pCode, pI, tvl, simprocAttr]
      repeat (first | refine ftS (by kernel_rfl) ?_ | refine And.intro (by omega) ?_)
      all_goals (first | rfl | trivial | skip)
    · cases d3 : Bt.uC op == 3
      · have hgn' := hgn (by rw [hco, show decide (Bt.uC op = 3) = false from d3]; rfl)
        simp (maxSteps := 4000000) only [d3, pCode, pI, tvl, simprocAttr]
        repeat (first | refine ftS (by kernel_rfl) ?_ | refine And.intro (by omega) ?_)
        refine ⟨k + 1, ⟨by omega, hgn'⟩, by omega, ?_⟩
        simp
      · by_cases c4 : (rs.length : Int) ≤ c
        · have d4 : decide (c ≥ (rs.length : Int)) = true := by simpa using c4
          have hp := hno (by rw [hco, show decide (Bt.uC op = 3) = true from d3, decide_eq_true c4]; rfl)
          simp (maxSteps := 4000000) only [d3, d4, hp, e5, pCode, pI, tvl, simprocAttr]
          repeat (first | refine ftS (by kernel_rfl) ?_ | refine And.intro (by omega) ?_)
          all_goals (first | rfl | trivial | skip)
        · have d4 : decide (c ≥ (rs.length : Int)) = false := by simpa using c4
          have hgn' := hgn (by rw [hco, show decide (Bt.uC op = 3) = true from d3, decide_eq_false c4]; rfl)
          simp (maxSteps := 4000000) only [d3, d4, e5, pCode, pI, tvl, simprocAttr]
          repeat (first | refine ftS (by kernel_rfl) ?_ | refine And.intro (by omega) ?_)
          refine ⟨k + 1, ⟨by omega, hgn'⟩, by omega, ?_⟩
          simp
  · have d1 : decide ((k : Int) < (rs.length : Int)) = false := by simpa using c1
    have hp := Bt.progOk_all (h := h) rfl (fun j hj => hg j hj (by omega))
    rw [hp]
    by_cases a1 : 1 ≤ rs.length
    · have f1 : decide ((rs.length : Int) ≥ 1) = true := by simp; omega
      by_cases a2 : rs.length ≤ 60
      · have f2 : decide ((rs.length : Int) ≤ 60) = true := by simp; omega
        by_cases a3 : -1 ≤ h
        · have f3 : decide (h ≥ -1) = true := by simpa using a3
          have e : decide (1 ≤ rs.length ∧ rs.length ≤ 60 ∧ -1 ≤ h ∧ h < (rs.length : Int)) = decide (h < (rs.length : Int)) := by simp [a1, a2, a3]
          simp (maxSteps := 4000000) only [d1, f1, f2, f3, e, pI, tvl, simprocAttr]
          repeat (first | refine ftS (by kernel_rfl) ?_ | refine And.intro (by omega) ?_)
          all_goals (first | rfl | trivial | skip)
        · have f3 : decide (h ≥ -1) = false := by simpa using a3
          have e : decide (1 ≤ rs.length ∧ rs.length ≤ 60 ∧ -1 ≤ h ∧ h < (rs.length : Int)) = false := by simp [a3]
          simp (maxSteps := 4000000) only [d1, f1, f2, f3, e, pI, tvl, simprocAttr]
          repeat (first | refine ftS (by kernel_rfl) ?_ | refine And.intro (by omega) ?_)
          all_goals (first | rfl | trivial | skip)
      · have f2 : decide ((rs.length : Int) ≤ 60) = false := by simp; omega
        have e : decide (1 ≤ rs.length ∧ rs.length ≤ 60 ∧ -1 ≤ h ∧ h < (rs.length : Int)) = false := by simp [a2]
        simp (maxSteps := 4000000) only [d1, f1, f2, e, pI, tvl, simprocAttr]
        repeat (first | refine ftS (by kernel_rfl) ?_ | refine And.intro (by omega) ?_)
        all_goals (first | rfl | trivial | skip)
    · have f1 : decide ((rs.length : Int) ≥ 1) = false := by simp; omega
      have e : decide (1 ≤ rs.length ∧ rs.length ≤ 60 ∧ -1 ≤ h ∧ h < (rs.length : Int)) = false := by simp [a1]
      simp (maxSteps := 4000000) only [d1, f1, e, pI, tvl, simprocAttr]
      repeat (first | refine ftS (by kernel_rfl) ?_ | refine And.intro (by omega) ?_)
      all_goals (first | rfl | trivial | skip)
end Av
end Go.Proofs.Ytbkbppllcjcmhaa

set_option linter.unusedSimpArgs false
set_option linter.unusedVariables false
namespace Go.Proofs.Ytbkbppllcjcmhaa
open Go.RowKit
namespace Av
theorem nm_all : Bt.nm 0 = ⟨#[104, 97, 108, 116]⟩ ∧ Bt.nm 1 = ⟨#[115, 101, 116]⟩ ∧ Bt.nm 2 = ⟨#[109, 111, 118, 101]⟩ ∧ Bt.nm 3 = ⟨#[97, 100, 100]⟩ ∧ Bt.nm 4 = ⟨#[115, 117, 98]⟩ ∧ Bt.nm 5 = ⟨#[109, 117, 108]⟩ ∧ Bt.nm 6 = ⟨#[108, 101, 115, 115]⟩ ∧ Bt.nm 7 = ⟨#[108, 111, 97, 100]⟩ ∧ Bt.nm 8 = ⟨#[115, 116, 111, 114, 101]⟩ ∧ Bt.nm 9 = ⟨#[106, 117, 109, 112]⟩ ∧ Bt.nm 10 = ⟨#[122, 101, 114, 111]⟩ ∧ Bt.nm 11 = ⟨#[99, 97, 108, 108]⟩ ∧ Bt.nm 12 = ⟨#[114, 101, 116]⟩ ∧ Bt.nm 13 = ⟨#[97, 115, 107]⟩ ∧ Bt.nm 14 = ⟨#[116, 101, 108, 108]⟩ ∧ Bt.nm 15 = ⟨#[108, 111, 99, 107]⟩ ∧ Bt.nm 16 = ⟨#[102, 114, 101, 101]⟩ ∧ Bt.nm 17 = ⟨#[98, 101, 103, 105, 110]⟩ := ⟨rfl, rfl, rfl, rfl, rfl, rfl, rfl, rfl, rfl, rfl, rfl, rfl, rfl, rfl, rfl, rfl, rfl, rfl⟩
theorem nm_none {op : Int} (h : (op == 0) = false ∧ (op == 1) = false ∧ (op == 2) = false ∧ (op == 3) = false ∧ (op == 4) = false ∧ (op == 5) = false ∧ (op == 6) = false ∧ (op == 7) = false ∧ (op == 8) = false ∧ (op == 9) = false ∧ (op == 10) = false ∧ (op == 11) = false ∧ (op == 12) = false ∧ (op == 13) = false ∧ (op == 14) = false ∧ (op == 15) = false ∧ (op == 16) = false ∧ (op == 17) = false) : Bt.nm op = ByteArray.empty ∧ Bt.fA op = 0 ∧ Bt.fB op = 0 ∧ Bt.fC op = 0 := by
  obtain ⟨u1, u2, u3, _⟩ := uses_none h
  refine ⟨?_, by rw [Bt.fA, u1]; rfl, by rw [Bt.fB, u2]; rfl, by rw [Bt.fC, u3]; rfl⟩
  simp only [beq_eq_false_iff_ne] at h
  unfold Bt.nm Bt.name
  simp only [h, if_false]
  rfl
set_option maxHeartbeats 8000000 in
theorem formOf_ok {op : Int} : FnOk E.P 134 [pI op] (.agg [.str (Bt.nm op), pI (Bt.fA op), pI (Bt.fB op), pI (Bt.fC op)]) true := by
  rcases op_cases op with h | h
  · obtain ⟨n0, n1, n2, n3, n4, n5, n6, n7, n8, n9, n10, n11, n12, n13, n14, n15, n16, n17⟩ := nm_all
    rcases h with rfl | rfl | rfl | rfl | rfl | rfl | rfl | rfl | rfl | rfl | rfl | rfl | rfl | rfl | rfl | rfl | rfl | rfl
    all_goals
      refine fn_ok mixed Try.func134 rfl (by kernel_rfl) _ Try.results134 _ Try.ntmps134 (by simp) (by kernel_rfl) ?_
      simp (maxSteps := 4000000) only [Int.reduceBEq, n0, n1, n2, n3, n4, n5, n6, n7, n8, n9, n10, n11, n12, n13, n14, n15, n16, n17, pI, tvs, simprocAttr]
      repeat (first | refine ftS (by kernel_rfl) ?_ | refine And.intro (by omega) ?_)
      all_goals (first | rfl | trivial | skip)
  · obtain ⟨e1, e2, e3, e4⟩ := nm_none h
    obtain ⟨h0, h1, h2, h3, h4, h5, h6, h7, h8, h9, h10, h11, h12, h13, h14, h15, h16, h17⟩ := h
    rw [e1, e2, e3, e4]
    refine fn_ok mixed Try.func134 rfl (by kernel_rfl) _ Try.results134 _ Try.ntmps134 (by simp) (by kernel_rfl) ?_
    simp (maxSteps := 4000000) only [h0, h1, h2, h3, h4, h5, h6, h7, h8, h9, h10, h11, h12, h13, h14, h15, h16, h17, pI, tvs, simprocAttr]
    repeat (first | refine ftS (by kernel_rfl) ?_ | refine And.intro (by omega) ?_)
    all_goals (first | rfl | trivial | skip)
theorem fieldTop_ok {k : Int} : FnOk E.P 155 [pI k] (pI (Bt.fTop k)) true := by
  by_cases h : k = 1 ∨ k = 2 ∨ k = 3 ∨ k = 4 ∨ k = 5
  · rcases h with rfl | rfl | rfl | rfl | rfl
    all_goals
      refine fn_ok mixed Try.func155 rfl (by kernel_rfl) _ Try.results155 _ Try.ntmps155 (by simp) (by kernel_rfl) ?_
      simp (maxSteps := 4000000) only [Int.reduceBEq, Bt.fTop, pI, tvs, simprocAttr]
      repeat (first | refine ftS (by kernel_rfl) ?_ | refine And.intro (by omega) ?_)
      all_goals (first | rfl | trivial | skip)
  · have e : Bt.fTop k = 1 := by unfold Bt.fTop; rw [if_neg (by omega), if_neg (by omega), if_neg (by omega), if_neg (by omega), if_neg (by omega)]
    have h1 : (k == 1) = false := by simp; omega
    have h2 : (k == 2) = false := by simp; omega
    have h3 : (k == 3) = false := by simp; omega
    have h4 : (k == 4) = false := by simp; omega
    have h5 : (k == 5) = false := by simp; omega
    rw [e]
    refine fn_ok mixed Try.func155 rfl (by kernel_rfl) _ Try.results155 _ Try.ntmps155 (by simp) (by kernel_rfl) ?_
    simp (maxSteps := 4000000) only [h1, h2, h3, h4, h5, pI, tvs, simprocAttr]
    repeat (first | refine ftS (by kernel_rfl) ?_ | refine And.intro (by omega) ?_)
    all_goals (first | rfl | trivial | skip)
theorem fieldOk_ok {n k : Int} : FnOk E.P 144 [pI n, pI k] (.bool (Bt.fOk n k)) true := by
  have hT := fieldTop_ok (k := k)
  unfold Bt.fOk
  by_cases h : 0 ≤ n
  · have d : decide (n ≥ 0) = true := by simpa using h
    have e : decide (0 ≤ n ∧ n < Bt.fTop k) = decide (n < Bt.fTop k) := by simp [h]
    rw [e]
    refine fn_ok mixed Try.func144 rfl (by kernel_rfl) _ Try.results144 _ Try.ntmps144 (by simp) (by kernel_rfl) ?_
    simp (maxSteps := 4000000) only [d, pI, tvs, simprocAttr]
    repeat (first | refine ftS (by kernel_rfl) ?_ | refine And.intro (by omega) ?_)
    refine aops_fnG (hT) (hidB rfl) rfl rfl (by simp (maxSteps := 4000000) only [d, pI, tvs, simprocAttr]) ?_
    simp (maxSteps := 4000000) only [d, pI, tvs, simprocAttr]
    repeat (first | refine ftS (by kernel_rfl) ?_ | refine And.intro (by omega) ?_)
    all_goals (first | rfl | trivial | skip)
  · have d : decide (n ≥ 0) = false := by simpa using h
    have e : decide (0 ≤ n ∧ n < Bt.fTop k) = false := by simp; omega
    rw [e]
    refine fn_ok mixed Try.func144 rfl (by kernel_rfl) _ Try.results144 _ Try.ntmps144 (by simp) (by kernel_rfl) ?_
    simp (maxSteps := 4000000) only [d, pI, tvs, simprocAttr]
    repeat (first | refine ftS (by kernel_rfl) ?_ | refine And.intro (by omega) ?_)
    refine aops_fnN rfl (by simp (maxSteps := 4000000) only [d, tvs, simprocAttr]) ?_
    simp (maxSteps := 4000000) only [d, pI, tvs, simprocAttr]
    repeat (first | refine ftS (by kernel_rfl) ?_ | refine And.intro (by omega) ?_)
    all_goals (first | rfl | trivial | skip)
theorem nm_some (op : Int) : (((Bt.nm op).toList == ByteArray.empty.toList) = !Bt.uOk op) := by
  rcases op_cases op with h | h
  · rcases h with rfl | rfl | rfl | rfl | rfl | rfl | rfl | rfl | rfl | rfl | rfl | rfl | rfl | rfl | rfl | rfl | rfl | rfl <;> kernel_rfl
  · rw [(nm_none h).1, (uses_none h).2.2.2]
    simp
set_option maxHeartbeats 8000000 in
theorem icodeOk_ok {op a b c : Int} : FnOk E.P 133 [.agg (pCode ⟨op, a, b, c⟩)] (.bool (Bt.codeOk op a b c)) true := by
  have hF := formOf_ok (op := op)
  have hA := fieldOk_ok (n := a) (k := Bt.fA op)
  have hB := fieldOk_ok (n := b) (k := Bt.fB op)
  have hC := fieldOk_ok (n := c) (k := Bt.fC op)
  have hN := nm_some op
  rw [← Bt.codeOk_eq]
  generalize Bt.fOk a (Bt.fA op) = k1 at *
  generalize Bt.fOk b (Bt.fB op) = k2 at *
  generalize Bt.fOk c (Bt.fC op) = k3 at *
  generalize Bt.fA op = u1 at *
  generalize Bt.fB op = u2 at *
  generalize Bt.fC op = u3 at *
  generalize Bt.uOk op = k0 at *
  generalize Bt.nm op = s at *
  have eE : (⟨#[]⟩ : ByteArray) = ByteArray.empty := rfl
  refine fn_ok mixed Try.func133 rfl (by kernel_rfl) _ Try.results133 _ Try.ntmps133 (by simp) (by kernel_rfl) ?_
  simp (maxSteps := 4000000) only [pCode, pI, tvs, simprocAttr]
  repeat (first | refine ftS (by kernel_rfl) ?_ | refine And.intro (by omega) ?_)
  refine aops_fn (hF) (hidB rfl) rfl ?_
  cases k0
  · simp (maxSteps := 4000000) only [eE, hN, Bool.not_false, pI, tvs, simprocAttr]
    repeat (first | refine ftS (by kernel_rfl) ?_ | refine And.intro (by omega) ?_)
    all_goals (first | rfl | trivial | skip)
  simp (maxSteps := 4000000) only [eE, hN, Bool.not_true, pI, tvs, simprocAttr]
  repeat (first | refine ftS (by kernel_rfl) ?_ | refine And.intro (by omega) ?_)
  refine aops_fn (hA) (hidB rfl) rfl ?_
  cases k1
  · simp (maxSteps := 4000000) only [pI, tvs, simprocAttr]
    repeat (first | refine ftS (by kernel_rfl) ?_ | refine And.intro (by omega) ?_)
    refine aops_fnN rfl (by simp (maxSteps := 4000000) only [tvs, simprocAttr]) ?_
    simp (maxSteps := 4000000) only [pI, tvs, simprocAttr]
    repeat (first | refine ftS (by kernel_rfl) ?_ | refine And.intro (by omega) ?_)
    refine aops_fnN rfl (by simp (maxSteps := 4000000) only [tvs, simprocAttr]) ?_
    simp (maxSteps := 4000000) only [pI, tvs, simprocAttr]
    repeat (first | refine ftS (by kernel_rfl) ?_ | refine And.intro (by omega) ?_)
    all_goals (first | rfl | trivial | skip)
  simp (maxSteps := 4000000) only [pI, tvs, simprocAttr]
  repeat (first | refine ftS (by kernel_rfl) ?_ | refine And.intro (by omega) ?_)
  refine aops_fnG (hB) (hidB rfl) rfl rfl (by simp (maxSteps := 4000000) only [pI, tvs, simprocAttr]) ?_
  cases k2
  · simp (maxSteps := 4000000) only [pI, tvs, simprocAttr]
    repeat (first | refine ftS (by kernel_rfl) ?_ | refine And.intro (by omega) ?_)
    refine aops_fnN rfl (by simp (maxSteps := 4000000) only [tvs, simprocAttr]) ?_
    simp (maxSteps := 4000000) only [pI, tvs, simprocAttr]
    repeat (first | refine ftS (by kernel_rfl) ?_ | refine And.intro (by omega) ?_)
    all_goals (first | rfl | trivial | skip)
  simp (maxSteps := 4000000) only [pI, tvs, simprocAttr]
  repeat (first | refine ftS (by kernel_rfl) ?_ | refine And.intro (by omega) ?_)
  refine aops_fnG (hC) (hidB rfl) rfl rfl (by simp (maxSteps := 4000000) only [pI, tvs, simprocAttr]) ?_
  simp (maxSteps := 4000000) only [Bool.true_and, pI, tvs, simprocAttr]
  repeat (first | refine ftS (by kernel_rfl) ?_ | refine And.intro (by omega) ?_)
  all_goals (first | rfl | trivial | skip)
set_option maxRecDepth 10000 in
set_option maxHeartbeats 16000000 in
theorem iprog_ok {rs : List Bt.C4} {h : Int} (hn : rs.length ≤ 1048576) : FnOk E.P 123 [pProg rs h] (.bool (Bt.progOk rs h)) true := by
  by_cases c0 : 1 ≤ rs.length ∧ rs.length ≤ 60 ∧ -1 ≤ h ∧ h < rs.length
  · have f1 : decide ((rs.length : Int) < 1) = false := by simp; omega
    have f2 : decide ((rs.length : Int) > 60) = false := by simp; omega
    have f3 : decide (h < -1) = false := by simp; omega
    have f4 : decide (h ≥ (rs.length : Int)) = false := by simp; omega
    refine fn_ok mixed Try.func123 rfl (by kernel_rfl) _ Try.results123 _ Try.ntmps123 (by simp) (by kernel_rfl) ?_
    simp (maxSteps := 4000000) only [f1, f2, f3, f4, pProg, pI, tvl, simprocAttr]
    repeat (first | refine ftS (by kernel_rfl) ?_ | refine And.intro (by omega) ?_)
    refine awp_loop (X := Nat) (fun k => [(1, .ptr 0 0), (3, .pv (.int .i64 rs.length)), (25, .pv (.lst 141 (rs.map pCode))), (26, .pv (.int .i64 rs.length)), (27, .pv (.int .i64 k))])
      (fun k => [(0, .box [.pv (.lst 141 (rs.map pCode)), .pv (.int .i64 h)])])
      (fun k => k ≤ rs.length ∧ ∀ j (hj : j < rs.length), j < k → Bt.good rs.length rs[j] = true) (fun k => rs.length - k) 100 0 ⟨Nat.zero_le _, fun j hj h => absurd h (by omega)⟩ (by simp (maxSteps := 4000000) only [pI, tvl, simprocAttr]; try simp [pI]) (fun k hk => ?_)
    obtain ⟨hk, hg⟩ := hk
    by_cases c1 : k < rs.length
    · have d1 : decide ((k : Int) < (rs.length : Int)) = true := by simpa using c1
      have e5 : (rs.map pCode)[k]? = some (pCode rs[k]) := by simp [c1]
      have hno := Bt.progOk_false (h := h) c1
      have hgn : Bt.good rs.length rs[k] = true → ∀ j (hj : j < rs.length), j < k + 1 → Bt.good rs.length rs[j] = true := fun e j hj hjk => by
        by_cases h1 : j < k
        · exact hg j hj h1
        · obtain rfl : j = k := by omega
          exact e
      generalize rs[k] = r at *
      obtain ⟨op, a, b, c⟩ := r
      have hF := formOf_ok (op := op)
      have hC := icodeOk_ok (op := op) (a := a) (b := b) (c := c)
      unfold Bt.good at hno hgn
      simp only at hno hgn
      have hfc : (Bt.fC op == 4) = decide (Bt.uC op = 3) := by rw [Bool.eq_iff_iff]; simp [Bt.fC_place]
      simp (maxSteps := 4000000) only [d1, e5, pCode, pI, tvl, simprocAttr]
      repeat (first | refine ftS (by kernel_rfl) ?_ | refine And.intro (by omega) ?_)
      refine aops_fn (hC) (hidB rfl) rfl ?_
      cases hco : Bt.codeOk op a b c
      · have hp := hno (by rw [hco, Bool.false_and])
        simp (maxSteps := 4000000) only [hp, pCode, pI, tvl, simprocAttr]
        repeat (first | refine ftS (by kernel_rfl) ?_ | refine And.intro (by omega) ?_)
        all_goals (first | rfl | trivial | skip)
      · simp (maxSteps := 4000000) only [pCode, pI, tvl, simprocAttr]
        repeat (first | refine ftS (by kernel_rfl) ?_ | refine And.intro (by omega) ?_)
        refine aops_fn (hF) (hidB rfl) rfl ?_
        cases d3 : decide (Bt.uC op = 3)
        · have hgn' := hgn (by rw [hco, d3]; rfl)
          simp (maxSteps := 4000000) only [hfc, d3, pCode, pI, tvl, simprocAttr]
          repeat (first | refine ftS (by kernel_rfl) ?_ | refine And.intro (by omega) ?_)
          refine ⟨k + 1, ⟨by omega, hgn'⟩, by omega, ?_⟩
          simp
        · by_cases c4 : (rs.length : Int) ≤ c
          · have d4 : decide (c ≥ (rs.length : Int)) = true := by simpa using c4
            have hp := hno (by rw [hco, d3, decide_eq_true c4]; rfl)
            simp (maxSteps := 4000000) only [hfc, d3, d4, hp, e5, pCode, pI, tvl, simprocAttr]
            repeat (first | refine ftS (by kernel_rfl) ?_ | refine And.intro (by omega) ?_)
            all_goals (first | rfl | trivial | skip)
          · have d4 : decide (c ≥ (rs.length : Int)) = false := by simpa using c4
            have hgn' := hgn (by rw [hco, d3, decide_eq_false c4]; rfl)
            simp (maxSteps := 4000000) only [hfc, d3, d4, e5, pCode, pI, tvl, simprocAttr]
            repeat (first | refine ftS (by kernel_rfl) ?_ | refine And.intro (by omega) ?_)
            refine ⟨k + 1, ⟨by omega, hgn'⟩, by omega, ?_⟩
            simp
    · have d1 : decide ((k : Int) < (rs.length : Int)) = false := by simpa using c1
      have hp := Bt.progOk_all (h := h) rfl (fun j hj => hg j hj (by omega))
      rw [decide_eq_true c0] at hp
      simp (maxSteps := 4000000) only [d1, hp, pI, tvl, simprocAttr]
      repeat (first | refine ftS (by kernel_rfl) ?_ | refine And.intro (by omega) ?_)
      all_goals (first | rfl | trivial | skip)
  · have hp := Bt.progOk_out (rs := rs) (h := h) rfl c0
    rw [hp]
    by_cases a1 : 1 ≤ rs.length
    · have f1 : decide ((rs.length : Int) < 1) = false := by simp; omega
      by_cases a2 : rs.length ≤ 60
      · have f2 : decide ((rs.length : Int) > 60) = false := by simp; omega
        by_cases a3 : -1 ≤ h
        · have f3 : decide (h < -1) = false := by simp; omega
          have f4 : decide (h ≥ (rs.length : Int)) = true := by simp; omega
          refine fn_ok mixed Try.func123 rfl (by kernel_rfl) _ Try.results123 _ Try.ntmps123 (by simp) (by kernel_rfl) ?_
          simp (maxSteps := 4000000) only [f1, f2, f3, f4, pProg, pI, tvl, simprocAttr]
          repeat (first | refine ftS (by kernel_rfl) ?_ | refine And.intro (by omega) ?_)
          all_goals (first | rfl | trivial | skip)
        · have f3 : decide (h < -1) = true := by simp; omega
          refine fn_ok mixed Try.func123 rfl (by kernel_rfl) _ Try.results123 _ Try.ntmps123 (by simp) (by kernel_rfl) ?_
          simp (maxSteps := 4000000) only [f1, f2, f3, pProg, pI, tvl, simprocAttr]
          repeat (first | refine ftS (by kernel_rfl) ?_ | refine And.intro (by omega) ?_)
          all_goals (first | rfl | trivial | skip)
      · have f2 : decide ((rs.length : Int) > 60) = true := by simp; omega
        refine fn_ok mixed Try.func123 rfl (by kernel_rfl) _ Try.results123 _ Try.ntmps123 (by simp) (by kernel_rfl) ?_
        simp (maxSteps := 4000000) only [f1, f2, pProg, pI, tvl, simprocAttr]
        repeat (first | refine ftS (by kernel_rfl) ?_ | refine And.intro (by omega) ?_)
        all_goals (first | rfl | trivial | skip)
    · have f1 : decide ((rs.length : Int) < 1) = true := by simp; omega
      refine fn_ok mixed Try.func123 rfl (by kernel_rfl) _ Try.results123 _ Try.ntmps123 (by simp) (by kernel_rfl) ?_
      simp (maxSteps := 4000000) only [f1, pProg, pI, tvl, simprocAttr]
      repeat (first | refine ftS (by kernel_rfl) ?_ | refine And.intro (by omega) ?_)
      all_goals (first | rfl | trivial | skip)
end Av
end Go.Proofs.Ytbkbppllcjcmhaa
