/-
  Chapter 2: which machines are ones, instructions, cells: the program's.
-/
import Derived.Test.YtbkbppllcjcmhaaC1
set_option linter.unusedSimpArgs false
set_option linter.unusedVariables false
namespace Go.Proofs.Ytbkbppllcjcmhaa
open Go.RowKit
namespace Av
set_option maxHeartbeats 4000000 in
theorem iwithin_ok {xs : List Int} {lo hi : Int} (hl : xs.length ≤ 1048576) : FnOk E.P 157 [pInts xs, pI lo, pI hi] (.bool (Bt.inR lo hi xs)) true := by
  refine fn_ok mixed Try.func157 rfl (by kernel_rfl) _ Try.results157 _ Try.ntmps157 (by simp) (by kernel_rfl) ?_
  simp (maxSteps := 4000000) only [pInts, pI, tvl, simprocAttr]
  repeat (first | refine ftS (by kernel_rfl) ?_ | refine And.intro (by omega) ?_)
  refine awp_loop (X := Nat) (fun k => [(1, .pv (.int .i64 lo)), (2, .pv (.int .i64 hi)), (9, .pv (.lst 3 (xs.map fun x => [.int .i64 x]))), (10, .pv (.int .i64 xs.length)), (11, .pv (.int .i64 k))]) (fun _ => [])
    (fun k => k ≤ xs.length ∧ ∀ j (hj : j < xs.length), j < k → lo ≤ xs[j] ∧ xs[j] < hi) (fun k => xs.length - k) 100 0 ⟨Nat.zero_le _, fun j hj h => absurd h (by omega)⟩ (by simp (maxSteps := 4000000) only [pI, tvl, simprocAttr]; try simp [pI]) (fun k H => ?_)
  obtain ⟨hk, hg⟩ := H
  by_cases c1 : k < xs.length
  · have d1 : decide ((k : Int) < (xs.length : Int)) = true := by simpa using c1
    have e5 : (xs.map fun x => [PV.int .i64 x])[k]? = some [.int .i64 xs[k]] := by simp [c1]
    have hno := Bt.inR_false (lo := lo) (hi := hi) c1
    have hgn : lo ≤ xs[k] ∧ xs[k] < hi → ∀ j (hj : j < xs.length), j < k + 1 → lo ≤ xs[j] ∧ xs[j] < hi := fun e j hj hjk => by
      by_cases h1 : j < k
      · exact hg j hj h1
      · obtain rfl : j = k := by omega
        exact e
    generalize xs[k] = x at *
    by_cases c2 : x < lo
    · have d2 : decide (x < lo) = true := by simpa using c2
      have e := hno (.inl c2)
      simp (maxSteps := 4000000) only [d1, e5, d2, e, pI, tvl, simprocAttr]
      repeat (first | refine ftS (by kernel_rfl) ?_ | refine And.intro (by omega) ?_)
      all_goals (first | rfl | trivial | skip)
    have d2 : decide (x < lo) = false := by simpa using c2
    by_cases c3 : x ≥ hi
    · have d3 : decide (x ≥ hi) = true := by simpa using c3
      have e := hno (.inr c3)
      simp (maxSteps := 4000000) only [d1, e5, d2, d3, e, pI, tvl, simprocAttr]
      repeat (first | refine ftS (by kernel_rfl) ?_ | refine And.intro (by omega) ?_)
      all_goals (first | rfl | trivial | skip)
    have d3 : decide (x ≥ hi) = false := by simpa using c3
    simp (maxSteps := 4000000) only [d1, e5, d2, d3, pI, tvl, simprocAttr]
    repeat (first | refine ftS (by kernel_rfl) ?_ | refine And.intro (by omega) ?_)
    refine ⟨k + 1, ⟨by omega, hgn ⟨by omega, by omega⟩⟩, by omega, ?_⟩
    simp
  · have d1 : decide ((k : Int) < (xs.length : Int)) = false := by simpa using c1
    have e := Bt.inR_true (lo := lo) (hi := hi) (xs := xs) (fun j hj => hg j hj (by omega))
    simp (maxSteps := 4000000) only [d1, e, pI, tvl, simprocAttr]
    repeat (first | refine ftS (by kernel_rfl) ?_ | refine And.intro (by omega) ?_)
    all_goals (first | rfl | trivial | skip)
theorem iregs_ok {xs : List Int} (hl : xs.length ≤ 1048576) : FnOk E.P 166 [pInts xs] (.bool (Bt.regsOk xs)) true := by
  have hW := iwithin_ok (xs := xs) (lo := 0) (hi := 10000) hl
  rw [Bt.regsOk_eq]
  cases d : ((xs.length : Int) == 4)
  · refine fn_ok mixed Try.func166 rfl (by kernel_rfl) _ Try.results166 _ Try.ntmps166 (by simp) (by kernel_rfl) ?_
    repeat (first | (refine aops_fnX rfl ?_ ?_; focus (simp (maxSteps := 4000000) only [sks, d, Bool.false_and, pInts, pI, tvl, simprocAttr]; done)) | (simp (maxSteps := 4000000) only [d, Bool.false_and, pInts, pI, tvl, simprocAttr]) | refine ftS (by kernel_rfl) ?_ | refine And.intro (by omega) ?_)
    all_goals (first | rfl | trivial | skip)
  · refine fn_ok mixed Try.func166 rfl (by kernel_rfl) _ Try.results166 _ Try.ntmps166 (by simp) (by kernel_rfl) ?_
    simp (maxSteps := 4000000) only [d, pInts, pI, tvl, simprocAttr]
    repeat (first | refine ftS (by kernel_rfl) ?_ | refine And.intro (by omega) ?_)
    refine aops_fnG (hW) (hidB rfl) rfl rfl (by simp (maxSteps := 4000000) only [d, pInts, pI, tvs, simprocAttr]) ?_
    simp (maxSteps := 4000000) only [d, Bool.true_and, pInts, pI, tvl, simprocAttr]
    repeat (first | refine ftS (by kernel_rfl) ?_ | refine And.intro (by omega) ?_)
    all_goals (first | rfl | trivial | skip)
set_option maxRecDepth 10000 in
set_option maxHeartbeats 8000000 in
theorem ithreadOk_ok {t : Bt.Th} {n : Nat} (hn : n ≤ 1048576) (q1 : t.regs.length ≤ 1048576) (q2 : t.stack.length ≤ 1048576) : FnOk E.P 156 [.agg (pTh t), pI n] (.bool (Bt.thOk n t)) true := by
  obtain ⟨pl, regs, stack, st⟩ := t
  simp only at q1 q2
  have hR := iregs_ok (xs := regs) q1
  have hW := iwithin_ok (xs := stack) (lo := 0) (hi := (n : Int) + 1) q2
  have tno := @Bt.thOk_no n ⟨pl, regs, stack, st⟩
  simp only at tno
  refine fn_ok mixed Try.func156 rfl (by kernel_rfl) _ Try.results156 _ Try.ntmps156 (by simp) (by kernel_rfl) ?_
  by_cases b1 : pl < 0
  · have f1 : decide (pl < 0) = true := by simpa using b1
    have e := tno (.inl b1)
    repeat (first | (refine aops_fnX rfl ?_ ?_; focus (simp (maxSteps := 4000000) only [sks, f1, e, pTh, pInts, pI, tvl, simprocAttr]; done)) | (simp (maxSteps := 4000000) only [f1, e, pTh, pInts, pI, tvl, simprocAttr]) | refine ftS (by kernel_rfl) ?_ | refine And.intro (by omega) ?_)
    all_goals (first | rfl | trivial | skip)
  have f1 : decide (pl < 0) = false := by simpa using b1
  by_cases b2 : pl > (n : Int)
  · have f2 : decide (pl > (n : Int)) = true := by simpa using b2
    have e := tno (.inr (.inl b2))
    repeat (first | (refine aops_fnX rfl ?_ ?_; focus (simp (maxSteps := 4000000) only [sks, f1, f2, e, pTh, pInts, pI, tvl, simprocAttr]; done)) | (simp (maxSteps := 4000000) only [f1, f2, e, pTh, pInts, pI, tvl, simprocAttr]) | refine ftS (by kernel_rfl) ?_ | refine And.intro (by omega) ?_)
    all_goals (first | rfl | trivial | skip)
  have f2 : decide (pl > (n : Int)) = false := by simpa using b2
  by_cases b4 : 6 < stack.length
  · have f4 : decide ((stack.length : Int) > 6) = true := by simp; omega
    have e := tno (.inr (.inr (.inl b4)))
    repeat (first | (refine aops_fnX rfl ?_ ?_; focus (simp (maxSteps := 4000000) only [sks, f1, f2, f4, e, pTh, pInts, pI, tvl, simprocAttr]; done)) | (simp (maxSteps := 4000000) only [f1, f2, f4, e, pTh, pInts, pI, tvl, simprocAttr]) | refine ftS (by kernel_rfl) ?_ | refine And.intro (by omega) ?_)
    all_goals (first | rfl | trivial | skip)
  have f4 : decide ((stack.length : Int) > 6) = false := by simp; omega
  by_cases b5 : st = 0 ∨ st = 1 ∨ st = 2
  rotate_left
  · have s0 : (st != 0) = true := by simp; omega
    have s1 : (st != 1) = true := by simp; omega
    have s2 : (st != 2) = true := by simp; omega
    have e := tno (by omega)
    repeat (first | (refine aops_fnX rfl ?_ ?_; focus (simp (maxSteps := 4000000) only [sks, f1, f2, f4, s0, s1, s2, e, pTh, pInts, pI, tvl, simprocAttr]; done)) | (simp (maxSteps := 4000000) only [f1, f2, f4, s0, s1, s2, e, pTh, pInts, pI, tvl, simprocAttr]) | refine ftS (by kernel_rfl) ?_ | refine And.intro (by omega) ?_)
    all_goals (first | rfl | trivial | skip)
  have key : ∃ d0 d1 d2 : Bool, (st != 0) = d0 ∧ (st != 1) = d1 ∧ (st != 2) = d2 ∧ (d0 = false ∨ (d0 = true ∧ d1 = false) ∨ (d0 = true ∧ d1 = true ∧ d2 = false)) := ⟨_, _, _, rfl, rfl, rfl, by rcases b5 with rfl | rfl | rfl <;> decide⟩
  obtain ⟨d0, d1, d2, k0, k1, k2, hd⟩ := key
  have fin : Bt.thOk n ⟨pl, regs, stack, st⟩ = (Bt.regsOk regs && Bt.inR 0 ((n : Int) + 1) stack) := by
    unfold Bt.thOk
    rw [decide_eq_true (by simp only; omega), Bool.true_and]
  rw [fin]
  rcases hd with rfl | ⟨rfl, rfl⟩ | ⟨rfl, rfl, rfl⟩
  all_goals
    repeat (first | (refine aops_fnX rfl ?_ ?_; focus (simp (maxSteps := 4000000) only [sks, f1, f2, f4, k0, k1, k2, pTh, pInts, pI, tvl, simprocAttr]; done)) | (simp (maxSteps := 4000000) only [f1, f2, f4, k0, k1, k2, pTh, pInts, pI, tvl, simprocAttr]) | refine ftS (by kernel_rfl) ?_ | refine And.intro (by omega) ?_)
    refine aops_fn (hR) (hidB rfl) rfl ?_
    cases h3 : Bt.regsOk regs
    · repeat (first | (refine aops_fnX rfl ?_ ?_; focus (simp (maxSteps := 4000000) only [sks, Bool.false_and, pTh, pInts, pI, tvl, simprocAttr]; done)) | (simp (maxSteps := 4000000) only [Bool.false_and, pTh, pInts, pI, tvl, simprocAttr]) | refine ftS (by kernel_rfl) ?_ | refine And.intro (by omega) ?_)
      all_goals (first | rfl | trivial | skip)
    repeat (first | (refine aops_fnX rfl ?_ ?_; focus (simp (maxSteps := 4000000) only [sks, pTh, pInts, pI, tvl, simprocAttr]; done)) | (simp (maxSteps := 4000000) only [pTh, pInts, pI, tvl, simprocAttr]) | refine ftS (by kernel_rfl) ?_ | refine And.intro (by omega) ?_)
    refine aops_fnG (hW) (hidB rfl) rfl rfl (by simp (maxSteps := 4000000) only [pInts, pI, tvs, simprocAttr]) ?_
    repeat (first | (refine aops_fnX rfl ?_ ?_; focus (simp (maxSteps := 4000000) only [sks, Bool.true_and, pTh, pInts, pI, tvl, simprocAttr]; done)) | (simp (maxSteps := 4000000) only [Bool.true_and, pTh, pInts, pI, tvl, simprocAttr]) | refine ftS (by kernel_rfl) ?_ | refine And.intro (by omega) ?_)
    all_goals (first | rfl | trivial | skip)
theorem Bt.machOk_yesI {rs : List Bt.C4} {h : Int} {m : Bt.Mc} (h0 : Bt.progOk rs h = true) (h1 : 1 ≤ m.ths.length) (h2 : m.ths.length ≤ 4) (h3 : m.cells.length = 8) (h4 : m.locks.length = 2) (h5 : m.told.length ≤ 1000)
    (h9 : ∀ j (hj : j < m.ths.length), Bt.thOk rs.length m.ths[j] = true) : Bt.machOk rs h m = (Bt.inR 0 10000 m.cells && (Bt.inR (-1) m.ths.length m.locks && Bt.inR 0 10000 m.told)) := by
  unfold Bt.machOk
  rw [h0, Bt.all_th h9, decide_eq_true ⟨h1, h2, h3, h4, h5⟩, Bool.true_and, Bool.true_and, Bool.and_true, Bool.and_assoc]
set_option maxRecDepth 10000 in
set_option maxHeartbeats 16000000 in
theorem imach_ok {rs : List Bt.C4} {h : Int} {m : Bt.Mc} (hn : rs.length ≤ 1048576) (hm : Small m) : FnOk E.P 146 [pProg rs h, .agg (pMc m)] (.bool (Bt.machOk rs h m)) true := by
  have hP := iprog_ok (rs := rs) (h := h) hn
  obtain ⟨ths, cells, locks, told⟩ := m
  obtain ⟨m1, m2, m3, m4, m5, m6⟩ := hm
  simp only at m1 m2 m3 m4 m5 m6
  have hC := iwithin_ok (xs := cells) (lo := 0) (hi := 10000) m2
  have hL := iwithin_ok (xs := locks) (lo := -1) (hi := ths.length) m3
  have hT := iwithin_ok (xs := told) (lo := 0) (hi := 10000) m4
  have no := @Bt.machOk_no rs h ⟨ths, cells, locks, told⟩
  simp only at no
  refine fn_ok mixed Try.func146 rfl (by kernel_rfl) _ Try.results146 _ Try.ntmps146 (by simp) (by kernel_rfl) ?_
  simp (maxSteps := 4000000) only [pProg, pMc, pInts, pI, tvl, simprocAttr]
  repeat (first | refine ftS (by kernel_rfl) ?_ | refine And.intro (by omega) ?_)
  refine aops_fn (hP) (hidB rfl) rfl ?_
  cases a0 : Bt.progOk rs h
  · have e := no (.inl a0)
    repeat (first | (refine aops_fnX rfl ?_ ?_; focus (simp (maxSteps := 4000000) only [sks, e, pProg, pMc, pInts, pI, tvl, simprocAttr]; done)) | (simp (maxSteps := 4000000) only [e, pProg, pMc, pInts, pI, tvl, simprocAttr]) | refine ftS (by kernel_rfl) ?_ | refine And.intro (by omega) ?_)
    all_goals (first | rfl | trivial | skip)
  by_cases c1 : ths.length < 1
  · have d1 : decide ((ths.length : Int) < 1) = true := by simp; omega
    have e := no (.inr (.inl c1))
    repeat (first | (refine aops_fnX rfl ?_ ?_; focus (simp (maxSteps := 4000000) only [sks, d1, e, pProg, pMc, pInts, pI, tvl, simprocAttr]; done)) | (simp (maxSteps := 4000000) only [d1, e, pProg, pMc, pInts, pI, tvl, simprocAttr]) | refine ftS (by kernel_rfl) ?_ | refine And.intro (by omega) ?_)
    all_goals (first | rfl | trivial | skip)
  have d1 : decide ((ths.length : Int) < 1) = false := by simp; omega
  by_cases c2 : 4 < ths.length
  · have d2 : decide ((ths.length : Int) > 4) = true := by simp; omega
    have e := no (.inr (.inr (.inl c2)))
    repeat (first | (refine aops_fnX rfl ?_ ?_; focus (simp (maxSteps := 4000000) only [sks, d1, d2, e, pProg, pMc, pInts, pI, tvl, simprocAttr]; done)) | (simp (maxSteps := 4000000) only [d1, d2, e, pProg, pMc, pInts, pI, tvl, simprocAttr]) | refine ftS (by kernel_rfl) ?_ | refine And.intro (by omega) ?_)
    all_goals (first | rfl | trivial | skip)
  have d2 : decide ((ths.length : Int) > 4) = false := by simp; omega
  have noT := @Bt.machOk_thread rs h ⟨ths, cells, locks, told⟩
  simp only at noT
  repeat (first | (refine aops_fnX rfl ?_ ?_; focus (simp (maxSteps := 4000000) only [sks, d1, d2, pProg, pMc, pInts, pI, tvl, simprocAttr]; done)) | (simp (maxSteps := 4000000) only [d1, d2, pProg, pMc, pInts, pI, tvl, simprocAttr]) | refine ftS (by kernel_rfl) ?_ | refine And.intro (by omega) ?_)
  refine awp_loop (X := Nat) (fun k => [(2, .ptr 0 0), (3, .ptr 1 0), (23, .pv (.lst 134 (ths.map pTh))), (24, .pv (.int .i64 ths.length)), (25, .pv (.int .i64 k))])
    (fun k => [(0, .box [.pv (.lst 141 (rs.map pCode)), .pv (.int .i64 h)]), (1, .box [.pv (.lst 134 (ths.map pTh)), .pv (.lst 3 (cells.map fun x => [.int .i64 x])), .pv (.lst 3 (locks.map fun x => [.int .i64 x])), .pv (.lst 3 (told.map fun x => [.int .i64 x]))])])
    (fun k => k ≤ ths.length ∧ ∀ j (hj : j < ths.length), j < k → Bt.thOk rs.length ths[j] = true) (fun k => ths.length - k) 100 0 ⟨Nat.zero_le _, fun j hj h => absurd h (by omega)⟩ (by simp (maxSteps := 4000000) only [pI, tvl, simprocAttr]; try simp [pI]) (fun k H => ?_)
  obtain ⟨hk, hg⟩ := H
  by_cases c9 : k < ths.length
  · have d9 : decide ((k : Int) < (ths.length : Int)) = true := by simpa using c9
    have e6 : (ths.map pTh)[k]? = some (pTh ths[k]) := by simp [c9]
    have hno := noT c9
    have hgn : Bt.thOk rs.length ths[k] = true → ∀ j (hj : j < ths.length), j < k + 1 → Bt.thOk rs.length ths[j] = true := fun e j hj hjk => by
      by_cases h1 : j < k
      · exact hg j hj h1
      · obtain rfl : j = k := by omega
        exact e
    have hTh := ithreadOk_ok (t := ths[k]) (n := rs.length) hn (m5 k c9) (m6 k c9)
    generalize ths[k] = t at *
    simp (maxSteps := 4000000) only [d9, e6, pTh, pInts, pI, tvl, simprocAttr]
    repeat (first | refine ftS (by kernel_rfl) ?_ | refine And.intro (by omega) ?_)
    refine aops_fn (hTh) (hidB rfl) rfl ?_
    cases a1 : Bt.thOk rs.length t
    · have e := hno a1
      simp (maxSteps := 4000000) only [e, pTh, pInts, pI, tvl, simprocAttr]
      repeat (first | refine ftS (by kernel_rfl) ?_ | refine And.intro (by omega) ?_)
      all_goals (first | rfl | trivial | skip)
    · have hgn' := hgn a1
      simp (maxSteps := 4000000) only [pTh, pInts, pI, tvl, simprocAttr]
      repeat (first | refine ftS (by kernel_rfl) ?_ | refine And.intro (by omega) ?_)
      refine ⟨k + 1, ⟨by omega, hgn'⟩, by omega, ?_⟩
      simp
  have d9 : decide ((k : Int) < (ths.length : Int)) = false := by simpa using c9
  by_cases c3 : cells.length = 8
  rotate_left
  · have d3 : ((cells.length : Int) != 8) = true := by simp; omega
    have e := no (.inr (.inr (.inr (.inl c3))))
    repeat (first | (refine aops_fnX rfl ?_ ?_; focus (simp (maxSteps := 4000000) only [sks, d9, d3, e, pInts, pI, tvl, simprocAttr]; done)) | (simp (maxSteps := 4000000) only [d9, d3, e, pInts, pI, tvl, simprocAttr]) | refine ftS (by kernel_rfl) ?_ | refine And.intro (by omega) ?_)
    all_goals (first | rfl | trivial | skip)
  have d3 : ((cells.length : Int) != 8) = false := by simp; omega
  by_cases c4 : locks.length = 2
  rotate_left
  · have d4 : ((locks.length : Int) != 2) = true := by simp; omega
    have e := no (.inr (.inr (.inr (.inr (.inl c4)))))
    repeat (first | (refine aops_fnX rfl ?_ ?_; focus (simp (maxSteps := 4000000) only [sks, d9, d3, d4, e, pInts, pI, tvl, simprocAttr]; done)) | (simp (maxSteps := 4000000) only [d9, d3, d4, e, pInts, pI, tvl, simprocAttr]) | refine ftS (by kernel_rfl) ?_ | refine And.intro (by omega) ?_)
    all_goals (first | rfl | trivial | skip)
  have d4 : ((locks.length : Int) != 2) = false := by simp; omega
  by_cases c5 : 1000 < told.length
  · have d5 : decide ((told.length : Int) > 1000) = true := by simp; omega
    have e := no (.inr (.inr (.inr (.inr (.inr (.inl c5))))))
    repeat (first | (refine aops_fnX rfl ?_ ?_; focus (simp (maxSteps := 4000000) only [sks, d9, d3, d4, d5, e, pInts, pI, tvl, simprocAttr]; done)) | (simp (maxSteps := 4000000) only [d9, d3, d4, d5, e, pInts, pI, tvl, simprocAttr]) | refine ftS (by kernel_rfl) ?_ | refine And.intro (by omega) ?_)
    all_goals (first | rfl | trivial | skip)
  have d5 : decide ((told.length : Int) > 1000) = false := by simp; omega
  have yes := @Bt.machOk_yesI rs h ⟨ths, cells, locks, told⟩ a0 (by simp only; omega) (by simp only; omega) c3 c4 (by simp only; omega) (fun j hj => hg j hj (by simp only at hj; omega))
  simp only at yes
  rw [yes]
  simp (maxSteps := 4000000) only [d9, d3, d4, d5, pInts, pI, tvl, simprocAttr]
  repeat (first | refine ftS (by kernel_rfl) ?_ | refine And.intro (by omega) ?_)
  refine aops_fn (hC) (hidB rfl) rfl ?_
  cases a3 : Bt.inR 0 10000 cells
  · repeat (first | (refine aops_fnX rfl ?_ ?_; focus (simp (maxSteps := 4000000) only [sks, Bool.false_and, pInts, pI, tvl, simprocAttr]; done)) | (simp (maxSteps := 4000000) only [Bool.false_and, pInts, pI, tvl, simprocAttr]) | refine ftS (by kernel_rfl) ?_ | refine And.intro (by omega) ?_)
    all_goals (first | rfl | trivial | skip)
  simp (maxSteps := 4000000) only [pInts, pI, tvl, simprocAttr]
  repeat (first | refine ftS (by kernel_rfl) ?_ | refine And.intro (by omega) ?_)
  refine aops_fnG (hL) (hidB rfl) rfl rfl (by simp (maxSteps := 4000000) only [pInts, pI, tvs, simprocAttr]) ?_
  cases a4 : Bt.inR (-1) ths.length locks
  · repeat (first | (refine aops_fnX rfl ?_ ?_; focus (simp (maxSteps := 4000000) only [sks, Bool.false_and, Bool.and_false, pInts, pI, tvl, simprocAttr]; done)) | (simp (maxSteps := 4000000) only [Bool.false_and, Bool.and_false, pInts, pI, tvl, simprocAttr]) | refine ftS (by kernel_rfl) ?_ | refine And.intro (by omega) ?_)
    all_goals (first | rfl | trivial | skip)
  simp (maxSteps := 4000000) only [pInts, pI, tvl, simprocAttr]
  repeat (first | refine ftS (by kernel_rfl) ?_ | refine And.intro (by omega) ?_)
  refine aops_fnG (hT) (hidB rfl) rfl rfl (by simp (maxSteps := 4000000) only [pInts, pI, tvs, simprocAttr]) ?_
  simp (maxSteps := 4000000) only [Bool.true_and, pInts, pI, tvl, simprocAttr]
  repeat (first | refine ftS (by kernel_rfl) ?_ | refine And.intro (by omega) ?_)
  all_goals (first | rfl | trivial | skip)
end Av
end Go.Proofs.Ytbkbppllcjcmhaa
