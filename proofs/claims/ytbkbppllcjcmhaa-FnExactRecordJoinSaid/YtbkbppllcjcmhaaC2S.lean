/-
  Chapter 2: which machines are ones, instructions, cells, what can be chosen: the model's.
  Chapter 2: instructions, cells, what can be chosen: the model's.
-/
import Derived.Test.YtbkbppllcjcmhaaC1
set_option linter.unusedSimpArgs false
set_option linter.unusedVariables false
namespace Go.Proofs.Ytbkbppllcjcmhaa
open Go.RowKit
namespace Av
set_option maxHeartbeats 4000000 in
theorem snums_ok {xs : List Int} {n : Int} (hl : xs.length ≤ 1048576) : FnOk E.P 129 [pInts xs, pI n] (.bool (Bt.inR 0 10000 xs && ((xs.length : Int) == n))) true := by
  refine fn_ok mixed Try.func129 rfl (by kernel_rfl) _ Try.results129 _ Try.ntmps129 (by simp) (by kernel_rfl) ?_
  simp (maxSteps := 4000000) only [pInts, pI, tvl, simprocAttr]
  repeat (first | refine ftS (by kernel_rfl) ?_ | refine And.intro (by omega) ?_)
  refine awp_loop (X := Nat) (fun k => [(0, .pv (.lst 3 (xs.map fun x => [.int .i64 x]))), (1, .pv (.int .i64 n)), (5, .pv (.int .i64 k))]) (fun _ => [])
    (fun k => k ≤ xs.length ∧ ∀ j (hj : j < xs.length), j < k → 0 ≤ xs[j] ∧ xs[j] < 10000) (fun k => xs.length - k) 100 0 ⟨Nat.zero_le _, fun j hj h => absurd h (by omega)⟩ (by simp (maxSteps := 4000000) only [pI, tvl, simprocAttr]; try simp [pI]) (fun k H => ?_)
  obtain ⟨hk, hg⟩ := H
  by_cases c1 : k < xs.length
  · have d1 : decide ((k : Int) < (xs.length : Int)) = true := by simpa using c1
    have e5 : (xs.map fun x => [PV.int .i64 x])[k]? = some [.int .i64 xs[k]] := by simp [c1]
    have hno := Bt.inR_false (lo := 0) (hi := 10000) c1
    have hgn : 0 ≤ xs[k] ∧ xs[k] < 10000 → ∀ j (hj : j < xs.length), j < k + 1 → 0 ≤ xs[j] ∧ xs[j] < 10000 := fun e j hj hjk => by
      by_cases h1 : j < k
      · exact hg j hj h1
      · obtain rfl : j = k := by omega
        exact e
    generalize xs[k] = x at *
    by_cases c2 : x < 0
    · have d2 : decide (x < 0) = true := by simpa using c2
      have e := hno (.inl c2)
      simp (maxSteps := 4000000) only [d1, e5, d2, e, Bool.false_and, pI, tvl, simprocAttr]
      repeat (first | refine ftS (by kernel_rfl) ?_ | refine And.intro (by omega) ?_)
      all_goals (first | rfl | trivial | skip)
    have d2 : decide (x < 0) = false := by simpa using c2
    by_cases c3 : x ≥ 10000
    · have d3 : decide (x ≥ 10000) = true := by simpa using c3
      have e := hno (.inr c3)
      simp (maxSteps := 4000000) only [d1, e5, d2, d3, e, Bool.false_and, pI, tvl, simprocAttr]
      repeat (first | refine ftS (by kernel_rfl) ?_ | refine And.intro (by omega) ?_)
      all_goals (first | rfl | trivial | skip)
    have d3 : decide (x ≥ 10000) = false := by simpa using c3
    simp (maxSteps := 4000000) only [d1, e5, d2, d3, pI, tvl, simprocAttr]
    repeat (first | refine ftS (by kernel_rfl) ?_ | refine And.intro (by omega) ?_)
    refine ⟨k + 1, ⟨by omega, hgn ⟨by omega, by omega⟩⟩, by omega, ?_⟩
    simp
  · have d1 : decide ((k : Int) < (xs.length : Int)) = false := by simpa using c1
    have e := Bt.inR_true (lo := 0) (hi := 10000) (xs := xs) (fun j hj => hg j hj (by omega))
    simp (maxSteps := 4000000) only [d1, e, Bool.true_and, pI, tvl, simprocAttr]
    repeat (first | refine ftS (by kernel_rfl) ?_ | refine And.intro (by omega) ?_)
    all_goals (first | rfl | trivial | skip)
theorem Bt.machOk_yes {rs : List Bt.C4} {h : Int} {m : Bt.Mc} (h0 : Bt.progOk rs h = true) (h1 : 1 ≤ m.ths.length) (h2 : m.ths.length ≤ 4) (h3 : m.cells.length = 8) (h4 : m.locks.length = 2) (h5 : m.told.length ≤ 1000) (h6 : Bt.inR 0 10000 m.cells = true) (h7 : Bt.inR (-1) m.ths.length m.locks = true) (h8 : Bt.inR 0 10000 m.told = true)
    (h9 : ∀ j (hj : j < m.ths.length), Bt.thOk rs.length m.ths[j] = true) : Bt.machOk rs h m = true := by
  unfold Bt.machOk
  rw [h0, h6, h7, h8, Bt.all_th h9, decide_eq_true ⟨h1, h2, h3, h4, h5⟩]
  rfl
theorem Bt.thOk_yes {n : Int} {t : Bt.Th} (h1 : 0 ≤ t.pl) (h2 : t.pl ≤ n) (h3 : t.stack.length ≤ 6) (h4 : 0 ≤ t.st) (h5 : t.st ≤ 2) (h6 : Bt.regsOk t.regs = true) (h7 : Bt.inR 0 (n + 1) t.stack = true) : Bt.thOk n t = true := by
  unfold Bt.thOk
  rw [h6, h7, decide_eq_true ⟨h1, h2, h3, h4, h5⟩]
  rfl
set_option maxRecDepth 10000 in
set_option maxHeartbeats 16000000 in
theorem smach_ok {rs : List Bt.C4} {h : Int} {m : Bt.Mc} (hn : rs.length ≤ 1048576) (hm : Small m) : FnOk E.P 128 [pProg rs h, .agg (pMc m)] (.bool (Bt.machOk rs h m)) true := by
  have hP := sprog_ok (rs := rs) (h := h) hn
  obtain ⟨ths, cells, locks, told⟩ := m
  obtain ⟨m1, m2, m3, m4, m5, m6⟩ := hm
  simp only at m1 m2 m3 m4 m5 m6
  have hC := snums_ok (xs := cells) (n := 8) m2
  have hT := snums_ok (xs := told) (n := told.length) m4
  have no := @Bt.machOk_no rs h ⟨ths, cells, locks, told⟩
  simp only at no
  refine fn_ok mixed Try.func128 rfl (by kernel_rfl) _ Try.results128 _ Try.ntmps128 (by simp) (by kernel_rfl) ?_
  simp (maxSteps := 4000000) only [pProg, pMc, pInts, pI, tvl, simprocAttr]
  repeat (first | refine ftS (by kernel_rfl) ?_ | refine And.intro (by omega) ?_)
  refine aops_fn (hP) (hidB rfl) rfl ?_
  cases a0 : Bt.progOk rs h
  · have e := no (.inl a0)
    repeat (first | (refine aops_fnX rfl ?_ ?_; focus (simp (maxSteps := 4000000) only [sks, e, pProg, pMc, pInts, pI, tvl, simprocAttr]; done)) | (simp (maxSteps := 4000000) only [e, pProg, pMc, pInts, pI, tvl, simprocAttr]) | refine ftS (by kernel_rfl) ?_ | refine And.intro (by omega) ?_)
    all_goals (first | rfl | trivial | skip)
  by_cases c1 : ths.length < 1
  · have d1 : decide ((ths.length : Int) < 1) = true := by simp; omega
    have e := no (.inr (.inl c1))
    repeat (first | (refine aops_fnX rfl ?_ ?_; focus (simp (maxSteps := 4000000) only [sks, d1, e, pProg, pMc, pInts, pI, tvl, simprocAttr]; done)) | (simp (maxSteps := 4000000) only [d1, e, pProg, pMc, pInts, pI, tvl, simprocAttr]) | refine ftS (by kernel_rfl) ?_ | refine And.intro (by omega) ?_)
    all_goals (first | rfl | trivial | skip)
  have d1 : decide ((ths.length : Int) < 1) = false := by simp; omega
  by_cases c2 : 4 < ths.length
  · have d2 : decide ((ths.length : Int) > 4) = true := by simp; omega
    have e := no (.inr (.inr (.inl c2)))
    repeat (first | (refine aops_fnX rfl ?_ ?_; focus (simp (maxSteps := 4000000) only [sks, d1, d2, e, pProg, pMc, pInts, pI, tvl, simprocAttr]; done)) | (simp (maxSteps := 4000000) only [d1, d2, e, pProg, pMc, pInts, pI, tvl, simprocAttr]) | refine ftS (by kernel_rfl) ?_ | refine And.intro (by omega) ?_)
    all_goals (first | rfl | trivial | skip)
  have d2 : decide ((ths.length : Int) > 4) = false := by simp; omega
  simp (maxSteps := 4000000) only [d1, d2, pProg, pMc, pInts, pI, tvl, simprocAttr]
  repeat (first | refine ftS (by kernel_rfl) ?_ | refine And.intro (by omega) ?_)
  refine aops_fnG (hC) (hidB rfl) rfl rfl (by simp (maxSteps := 4000000) only [pInts, pI, tvs, simprocAttr]) ?_
  cases a3 : Bt.inR 0 10000 cells
  · have e := no (.inr (.inr (.inr (.inr (.inr (.inr (.inl a3)))))))
    repeat (first | (refine aops_fnX rfl ?_ ?_; focus (simp (maxSteps := 4000000) only [sks, e, Bool.false_and, Bool.not_false, pProg, pMc, pInts, pI, tvl, simprocAttr]; done)) | (simp (maxSteps := 4000000) only [e, Bool.false_and, Bool.not_false, pProg, pMc, pInts, pI, tvl, simprocAttr]) | refine ftS (by kernel_rfl) ?_ | refine And.intro (by omega) ?_)
    all_goals (first | rfl | trivial | skip)
  by_cases c3 : cells.length = 8
  · have d3 : ((cells.length : Int) == 8) = true := by simp; omega
    by_cases c4 : locks.length = 2
    · have d4 : ((locks.length : Int) != 2) = false := by simp; omega
      by_cases c5 : 1000 < told.length
      · have d5 : decide ((told.length : Int) > 1000) = true := by simp; omega
        have e := no (.inr (.inr (.inr (.inr (.inr (.inl c5))))))
        repeat (first | (refine aops_fnX rfl ?_ ?_; focus (simp (maxSteps := 4000000) only [sks, d3, d4, d5, e, Bool.and_self, Bool.not_true, pProg, pMc, pInts, pI, tvl, simprocAttr]; done)) | (simp (maxSteps := 4000000) only [d3, d4, d5, e, Bool.and_self, Bool.not_true, pProg, pMc, pInts, pI, tvl, simprocAttr]) | refine ftS (by kernel_rfl) ?_ | refine And.intro (by omega) ?_)
        all_goals (first | rfl | trivial | skip)
      have d5 : decide ((told.length : Int) > 1000) = false := by simp; omega
      simp (maxSteps := 4000000) only [d3, d4, d5, Bool.and_self, Bool.not_true, pProg, pMc, pInts, pI, tvl, simprocAttr]
      repeat (first | refine ftS (by kernel_rfl) ?_ | refine And.intro (by omega) ?_)
      refine aops_fnG (hT) (hidB rfl) rfl rfl (by simp (maxSteps := 4000000) only [pInts, pI, tvs, simprocAttr]) ?_
      cases a8 : Bt.inR 0 10000 told
      · have e := no (.inr (.inr (.inr (.inr (.inr (.inr (.inr (.inr a8))))))))
        repeat (first | (refine aops_fnX rfl ?_ ?_; focus (simp (maxSteps := 4000000) only [sks, e, Bool.false_and, Bool.not_false, pProg, pMc, pInts, pI, tvl, simprocAttr]; done)) | (simp (maxSteps := 4000000) only [e, Bool.false_and, Bool.not_false, pProg, pMc, pInts, pI, tvl, simprocAttr]) | refine ftS (by kernel_rfl) ?_ | refine And.intro (by omega) ?_)
        all_goals (first | rfl | trivial | skip)
      have d8 : ((told.length : Int) == (told.length : Int)) = true := by simp
      simp (maxSteps := 4000000) only [d8, Bool.and_self, Bool.not_true, pProg, pMc, pInts, pI, tvl, simprocAttr]
      repeat (first | refine ftS (by kernel_rfl) ?_ | refine And.intro (by omega) ?_)
      refine awp_loop (X := Nat) (fun k => [(2, .ptr 0 0), (3, .ptr 1 0), (5, .pv (.int .i64 k))])
        (fun k => [(0, .box [.pv (.lst 141 (rs.map pCode)), .pv (.int .i64 h)]), (1, .box [.pv (.lst 134 (ths.map pTh)), .pv (.lst 3 (cells.map fun x => [.int .i64 x])), .pv (.lst 3 (locks.map fun x => [.int .i64 x])), .pv (.lst 3 (told.map fun x => [.int .i64 x]))])])
        (fun k => k ≤ 2 ∧ ∀ j (hj : j < locks.length), j < k → -1 ≤ locks[j] ∧ locks[j] < (ths.length : Int)) (fun k => 2 - k) 100 0 ⟨Nat.zero_le _, fun j hj h => absurd h (by omega)⟩ (by simp (maxSteps := 4000000) only [pI, tvl, simprocAttr]; try simp [pI]) (fun k H => ?_)
      obtain ⟨hk, hg⟩ := H
      by_cases c6 : k < 2
      · have d6 : decide ((k : Int) < 2) = true := by simp; omega
        have hkl : k < locks.length := by omega
        have e5 : (locks.map fun x => [PV.int .i64 x])[k]? = some [.int .i64 locks[k]] := by simp [hkl]
        have hno := Bt.inR_false (lo := -1) (hi := ths.length) hkl
        have hgn : -1 ≤ locks[k] ∧ locks[k] < (ths.length : Int) → ∀ j (hj : j < locks.length), j < k + 1 → -1 ≤ locks[j] ∧ locks[j] < (ths.length : Int) := fun e j hj hjk => by
          by_cases h1 : j < k
          · exact hg j hj h1
          · obtain rfl : j = k := by omega
            exact e
        generalize locks[k] = x at *
        by_cases c7 : x < -1
        · have d7 : decide (x < -1) = true := by simpa using c7
          have e := no (.inr (.inr (.inr (.inr (.inr (.inr (.inr (.inl (hno (.inl c7))))))))))
          simp (maxSteps := 4000000) only [d6, d7, e5, e, pI, tvl, simprocAttr]
          repeat (first | refine ftS (by kernel_rfl) ?_ | refine And.intro (by omega) ?_)
          all_goals (first | rfl | trivial | skip)
        have d7 : decide (x < -1) = false := by simpa using c7
        by_cases c8 : x ≥ (ths.length : Int)
        · have d8 : decide (x ≥ (ths.length : Int)) = true := by simpa using c8
          have e := no (.inr (.inr (.inr (.inr (.inr (.inr (.inr (.inl (hno (.inr c8))))))))))
          simp (maxSteps := 4000000) only [d6, d7, d8, e5, e, pI, tvl, simprocAttr]
          repeat (first | refine ftS (by kernel_rfl) ?_ | refine And.intro (by omega) ?_)
          all_goals (first | rfl | trivial | skip)
        have d8 : decide (x ≥ (ths.length : Int)) = false := by simpa using c8
        simp (maxSteps := 4000000) only [d6, d7, d8, e5, pI, tvl, simprocAttr]
        repeat (first | refine ftS (by kernel_rfl) ?_ | refine And.intro (by omega) ?_)
        refine ⟨k + 1, ⟨by omega, hgn ⟨by omega, by omega⟩⟩, by omega, ?_⟩
        simp
      · have d6 : decide ((k : Int) < 2) = false := by simp; omega
        have a7 := Bt.inR_true (lo := -1) (hi := ths.length) (xs := locks) (fun j hj => hg j hj (by omega))
        have yes := @Bt.machOk_yes rs h ⟨ths, cells, locks, told⟩ a0 (by simp only; omega) (by simp only; omega) c3 c4 (by simp only; omega) a3 a7 a8
        simp only at yes
        have noT := @Bt.machOk_thread rs h ⟨ths, cells, locks, told⟩
        simp only at noT
        clear no hg hk hP hC hT
        simp (maxSteps := 4000000) only [d6, pI, tvl, simprocAttr]
        repeat (first | refine ftS (by kernel_rfl) ?_ | refine And.intro (by omega) ?_)
        refine awp_loop (X := Nat) (fun k => [(2, .ptr 0 0), (3, .ptr 1 0), (6, .pv (.int .i64 k))])
          (fun k => [(0, .box [.pv (.lst 141 (rs.map pCode)), .pv (.int .i64 h)]), (1, .box [.pv (.lst 134 (ths.map pTh)), .pv (.lst 3 (cells.map fun x => [.int .i64 x])), .pv (.lst 3 (locks.map fun x => [.int .i64 x])), .pv (.lst 3 (told.map fun x => [.int .i64 x]))])])
          (fun k => k ≤ ths.length ∧ ∀ j (hj : j < ths.length), j < k → Bt.thOk rs.length ths[j] = true) (fun k => ths.length - k) 100 0 ⟨Nat.zero_le _, fun j hj h => absurd h (by omega)⟩ (by simp (maxSteps := 4000000) only [pI, tvl, simprocAttr]; try simp [pI]) (fun k H => ?_)
        obtain ⟨hk, hg⟩ := H
        by_cases c9 : k < ths.length
        · have d9 : decide ((k : Int) < (ths.length : Int)) = true := by simpa using c9
          have e6 : (ths.map pTh)[k]? = some (pTh ths[k]) := by simp [c9]
          have hno := noT c9
          have hgn : Bt.thOk rs.length ths[k] = true → ∀ j (hj : j < ths.length), j < k + 1 → Bt.thOk rs.length ths[j] = true := fun e j hj hjk => by
            by_cases h1 : j < k
            · exact hg j hj h1
            · obtain rfl : j = k := by omega
              exact e
          have q1 := m5 k c9
          have q2 := m6 k c9
          generalize ths[k] = t at *
          obtain ⟨pl, regs, stack, st⟩ := t
          simp only at q1 q2
          have hR := snums_ok (xs := regs) (n := 4) q1
          have tno := @Bt.thOk_no rs.length ⟨pl, regs, stack, st⟩
          simp only at tno
          by_cases b1 : pl < 0
          · have f1 : decide (pl < 0) = true := by simpa using b1
            have e := hno (tno (.inl b1))
            repeat (first | (refine aops_fnX rfl ?_ ?_; focus (simp (maxSteps := 4000000) only [sks, d9, e6, f1, e, pTh, pInts, pI, tvl, simprocAttr]; done)) | (simp (maxSteps := 4000000) only [d9, e6, f1, e, pTh, pInts, pI, tvl, simprocAttr]) | refine ftS (by kernel_rfl) ?_ | refine And.intro (by omega) ?_)
            all_goals (first | rfl | trivial | skip)
          have f1 : decide (pl < 0) = false := by simpa using b1
          by_cases b2 : pl > (rs.length : Int)
          · have f2 : decide (pl > (rs.length : Int)) = true := by simpa using b2
            have e := hno (tno (.inr (.inl b2)))
            repeat (first | (refine aops_fnX rfl ?_ ?_; focus (simp (maxSteps := 4000000) only [sks, d9, e6, f1, f2, e, pTh, pInts, pI, tvl, simprocAttr]; done)) | (simp (maxSteps := 4000000) only [d9, e6, f1, f2, e, pTh, pInts, pI, tvl, simprocAttr]) | refine ftS (by kernel_rfl) ?_ | refine And.intro (by omega) ?_)
            all_goals (first | rfl | trivial | skip)
          have f2 : decide (pl > (rs.length : Int)) = false := by simpa using b2
          simp (maxSteps := 4000000) only [d9, e6, f1, f2, pTh, pInts, pI, tvl, simprocAttr]
          repeat (first | refine ftS (by kernel_rfl) ?_ | refine And.intro (by omega) ?_)
          refine aops_fnG (hR) (hidB rfl) rfl rfl (by simp (maxSteps := 4000000) only [pInts, pI, tvs, simprocAttr]) ?_
          cases b3 : Bt.regsOk regs
          · have e := hno (tno (.inr (.inr (.inr (.inr (.inr (.inl b3)))))))
            unfold Bt.regsOk at b3
            repeat (first | (refine aops_fnX rfl ?_ ?_; focus (simp (maxSteps := 4000000) only [sks, b3, e, Bool.not_false, pTh, pInts, pI, tvl, simprocAttr]; done)) | (simp (maxSteps := 4000000) only [b3, e, Bool.not_false, pTh, pInts, pI, tvl, simprocAttr]) | refine ftS (by kernel_rfl) ?_ | refine And.intro (by omega) ?_)
            all_goals (first | rfl | trivial | skip)
          have b3' := b3
          unfold Bt.regsOk at b3
          by_cases b4 : 6 < stack.length
          · have f4 : decide ((stack.length : Int) > 6) = true := by simp; omega
            have e := hno (tno (.inr (.inr (.inl b4))))
            repeat (first | (refine aops_fnX rfl ?_ ?_; focus (simp (maxSteps := 4000000) only [sks, b3, f4, e, Bool.not_true, pTh, pInts, pI, tvl, simprocAttr]; done)) | (simp (maxSteps := 4000000) only [b3, f4, e, Bool.not_true, pTh, pInts, pI, tvl, simprocAttr]) | refine ftS (by kernel_rfl) ?_ | refine And.intro (by omega) ?_)
            all_goals (first | rfl | trivial | skip)
          have f4 : decide ((stack.length : Int) > 6) = false := by simp; omega
          by_cases b5 : st < 0
          · have f5 : decide (st < 0) = true := by simpa using b5
            have e := hno (tno (.inr (.inr (.inr (.inl b5)))))
            repeat (first | (refine aops_fnX rfl ?_ ?_; focus (simp (maxSteps := 4000000) only [sks, b3, f4, f5, e, Bool.not_true, pTh, pInts, pI, tvl, simprocAttr]; done)) | (simp (maxSteps := 4000000) only [b3, f4, f5, e, Bool.not_true, pTh, pInts, pI, tvl, simprocAttr]) | refine ftS (by kernel_rfl) ?_ | refine And.intro (by omega) ?_)
            all_goals (first | rfl | trivial | skip)
          have f5 : decide (st < 0) = false := by simpa using b5
          by_cases b6 : st > 2
          · have f6 : decide (st > 2) = true := by simpa using b6
            have e := hno (tno (.inr (.inr (.inr (.inr (.inl b6))))))
            repeat (first | (refine aops_fnX rfl ?_ ?_; focus (simp (maxSteps := 4000000) only [sks, b3, f4, f5, f6, e, Bool.not_true, pTh, pInts, pI, tvl, simprocAttr]; done)) | (simp (maxSteps := 4000000) only [b3, f4, f5, f6, e, Bool.not_true, pTh, pInts, pI, tvl, simprocAttr]) | refine ftS (by kernel_rfl) ?_ | refine And.intro (by omega) ?_)
            all_goals (first | rfl | trivial | skip)
          have f6 : decide (st > 2) = false := by simpa using b6
          simp (maxSteps := 4000000) only [b3, f4, f5, f6, Bool.not_true, pTh, pInts, pI, tvl, simprocAttr]
          repeat (first | refine ftS (by kernel_rfl) ?_ | refine And.intro (by omega) ?_)
          have tyes := @Bt.thOk_yes rs.length ⟨pl, regs, stack, st⟩ (by simp only; omega) (by simp only; omega) (by simp only; omega) (by simp only; omega) (by simp only; omega) b3'
          simp only at tyes
          refine awp_loop (X := Nat) (fun j => [(2, .ptr 0 0), (3, .ptr 1 0), (6, .pv (.int .i64 k)), (7, .ptr 2 0), (8, .pv (.int .i64 j))])
            (fun j => [(0, .box [.pv (.lst 141 (rs.map pCode)), .pv (.int .i64 h)]), (1, .box [.pv (.lst 134 (ths.map pTh)), .pv (.lst 3 (cells.map fun x => [.int .i64 x])), .pv (.lst 3 (locks.map fun x => [.int .i64 x])), .pv (.lst 3 (told.map fun x => [.int .i64 x]))]), (2, .box [.pv (.int .i64 pl), .pv (.lst 3 (regs.map fun x => [.int .i64 x])), .pv (.lst 3 (stack.map fun x => [.int .i64 x])), .pv (.int .i64 st)])])
            (fun j => j ≤ stack.length ∧ ∀ i (hi : i < stack.length), i < j → 0 ≤ stack[i] ∧ stack[i] < (rs.length : Int) + 1) (fun j => stack.length - j) 100 0 ⟨Nat.zero_le _, fun j hj h => absurd h (by omega)⟩ (by simp (maxSteps := 4000000) only [pI, tvl, simprocAttr]; try simp [pI]) (fun j H => ?_)
          obtain ⟨hj, hs⟩ := H
          by_cases b7 : j < stack.length
          · have f7 : decide ((j : Int) < (stack.length : Int)) = true := by simpa using b7
            have e7 : (stack.map fun x => [PV.int .i64 x])[j]? = some [.int .i64 stack[j]] := by simp [b7]
            have hno2 := Bt.inR_false (lo := 0) (hi := (rs.length : Int) + 1) b7
            have hsn : 0 ≤ stack[j] ∧ stack[j] < (rs.length : Int) + 1 → ∀ i (hi : i < stack.length), i < j + 1 → 0 ≤ stack[i] ∧ stack[i] < (rs.length : Int) + 1 := fun e i hi hij => by
              by_cases h1 : i < j
              · exact hs i hi h1
              · obtain rfl : i = j := by omega
                exact e
            generalize stack[j] = x at *
            by_cases b8 : x < 0
            · have f8 : decide (x < 0) = true := by simpa using b8
              have e := hno (tno (.inr (.inr (.inr (.inr (.inr (.inr (hno2 (.inl b8)))))))))
              simp (maxSteps := 4000000) only [f7, e7, f8, e, pI, tvl, simprocAttr]
              repeat (first | refine ftS (by kernel_rfl) ?_ | refine And.intro (by omega) ?_)
              all_goals (first | rfl | trivial | skip)
            have f8 : decide (x < 0) = false := by simpa using b8
            by_cases b9 : x > (rs.length : Int)
            · have f9 : decide (x > (rs.length : Int)) = true := by simpa using b9
              have e := hno (tno (.inr (.inr (.inr (.inr (.inr (.inr (hno2 (.inr (by omega))))))))))
              simp (maxSteps := 4000000) only [f7, e7, f8, f9, e, pI, tvl, simprocAttr]
              repeat (first | refine ftS (by kernel_rfl) ?_ | refine And.intro (by omega) ?_)
              all_goals (first | rfl | trivial | skip)
            have f9 : decide (x > (rs.length : Int)) = false := by simpa using b9
            simp (maxSteps := 4000000) only [f7, e7, f8, f9, pI, tvl, simprocAttr]
            repeat (first | refine ftS (by kernel_rfl) ?_ | refine And.intro (by omega) ?_)
            refine ⟨j + 1, ⟨by omega, hsn ⟨by omega, by omega⟩⟩, by omega, ?_⟩
            simp
          · have f7 : decide ((j : Int) < (stack.length : Int)) = false := by simpa using b7
            have hin := Bt.inR_true (lo := 0) (hi := (rs.length : Int) + 1) (xs := stack) (fun i hi => hs i hi (by omega))
            have hgn' := hgn (tyes hin)
            simp (maxSteps := 4000000) only [f7, pI, tvl, simprocAttr]
            repeat (first | refine ftS (by kernel_rfl) ?_ | refine And.intro (by omega) ?_)
            refine ⟨k + 1, ⟨by omega, hgn'⟩, by omega, ?_⟩
            simp
        · have d9 : decide ((k : Int) < (ths.length : Int)) = false := by simpa using c9
          have e := yes (fun j hj => hg j hj (by omega))
          simp (maxSteps := 4000000) only [d9, e, pI, tvl, simprocAttr]
          repeat (first | refine ftS (by kernel_rfl) ?_ | refine And.intro (by omega) ?_)
          all_goals (first | rfl | trivial | skip)
    · have d4 : ((locks.length : Int) != 2) = true := by simp; omega
      have e := no (.inr (.inr (.inr (.inr (.inl c4)))))
      repeat (first | (refine aops_fnX rfl ?_ ?_; focus (simp (maxSteps := 4000000) only [sks, d3, d4, e, Bool.and_self, Bool.not_true, pProg, pMc, pInts, pI, tvl, simprocAttr]; done)) | (simp (maxSteps := 4000000) only [d3, d4, e, Bool.and_self, Bool.not_true, pProg, pMc, pInts, pI, tvl, simprocAttr]) | refine ftS (by kernel_rfl) ?_ | refine And.intro (by omega) ?_)
      all_goals (first | rfl | trivial | skip)
  · have d3 : ((cells.length : Int) == 8) = false := by simp; omega
    have e := no (.inr (.inr (.inr (.inl c3))))
    repeat (first | (refine aops_fnX rfl ?_ ?_; focus (simp (maxSteps := 4000000) only [sks, d3, e, Bool.and_false, Bool.not_false, pProg, pMc, pInts, pI, tvl, simprocAttr]; done)) | (simp (maxSteps := 4000000) only [d3, e, Bool.and_false, Bool.not_false, pProg, pMc, pInts, pI, tvl, simprocAttr]) | refine ftS (by kernel_rfl) ?_ | refine And.intro (by omega) ?_)
    all_goals (first | rfl | trivial | skip)
end Av
end Go.Proofs.Ytbkbppllcjcmhaa

set_option linter.unusedSimpArgs false
set_option linter.unusedVariables false
namespace Go.Proofs.Ytbkbppllcjcmhaa
open Go.RowKit
namespace Av
set_option maxRecDepth 10000 in
set_option maxHeartbeats 8000000 in
theorem scell_ok {x : Bt.C4} {xs : List Int} (hl : xs.length ≤ 1048576) : FnOk E.P 114 [.agg (pCode x), pInts xs] (pI (Bt.cellOf x xs)) true := by
  obtain ⟨op, a, b, c⟩ := x
  have hC := scodeOk_ok (op := op) (a := a) (b := b) (c := c)
  have hR := snums_ok (xs := xs) (n := 4) hl
  have bad := @Bt.cellOf_bad ⟨op, a, b, c⟩ xs
  simp only at bad
  refine fn_ok mixed Try.func114 rfl (by kernel_rfl) _ Try.results114 _ Try.ntmps114 (by simp) (by kernel_rfl) ?_
  simp (maxSteps := 4000000) only [pCode, pInts, pI, tvl, simprocAttr]
  repeat (first | refine ftS (by kernel_rfl) ?_ | refine And.intro (by omega) ?_)
  refine aops_fn (hC) (hidB rfl) rfl ?_
  cases h1 : Bt.codeOk op a b c
  · have e := bad (.inl h1)
    repeat (first | (refine aops_fnX rfl ?_ ?_; focus (simp (maxSteps := 4000000) only [sks, e, pCode, pInts, pI, tvl, simprocAttr]; done)) | (simp (maxSteps := 4000000) only [e, pCode, pInts, pI, tvl, simprocAttr]) | refine ftS (by kernel_rfl) ?_ | refine And.intro (by omega) ?_)
    all_goals (first | rfl | trivial | skip)
  by_cases h2 : op = 7 ∨ op = 8
  · have key : ∃ d1 d2 : Bool, (op != 7) = d1 ∧ (op != 8) = d2 ∧ (d1 = false ∨ (d1 = true ∧ d2 = false)) := ⟨_, _, rfl, rfl, by rcases h2 with rfl | rfl <;> decide⟩
    obtain ⟨d1, d2, k1, k2, hd⟩ := key
    cases h3 : Bt.regsOk xs
    · have e := bad (.inr (.inr h3))
      unfold Bt.regsOk at h3
      rcases hd with rfl | ⟨rfl, rfl⟩
      all_goals
        repeat (first | (refine aops_fnX rfl ?_ ?_; focus (simp (maxSteps := 4000000) only [sks, k1, k2, pCode, pInts, pI, tvl, simprocAttr]; done)) | (simp (maxSteps := 4000000) only [k1, k2, pCode, pInts, pI, tvl, simprocAttr]) | refine ftS (by kernel_rfl) ?_ | refine And.intro (by omega) ?_)
        refine aops_fnG (hR) (hidB rfl) rfl rfl (by simp (maxSteps := 4000000) only [pInts, pI, tvs, simprocAttr]) ?_
        repeat (first | (refine aops_fnX rfl ?_ ?_; focus (simp (maxSteps := 4000000) only [sks, h3, e, Bool.not_false, pCode, pInts, pI, tvl, simprocAttr]; done)) | (simp (maxSteps := 4000000) only [h3, e, Bool.not_false, pCode, pInts, pI, tvl, simprocAttr]) | refine ftS (by kernel_rfl) ?_ | refine And.intro (by omega) ?_)
        all_goals (first | rfl | trivial | skip)
    · obtain ⟨_, ⟨b0, b1⟩, c0, c1⟩ := Bt.mem_bounds h1 h2
      have hlen := Bt.regsOk_len h3
      obtain ⟨k, rfl⟩ : ∃ k : Nat, b = k := ⟨b.toNat, by omega⟩
      have hk : k < xs.length := by omega
      have e := Bt.cellOf_good (r := ⟨op, a, k, c⟩) hk rfl h1 h2 h3
      have e5 : (xs.map fun x => [PV.int .i64 x])[k]? = some [.int .i64 xs[k]] := by simp [hk]
      have hx := Bt.regsOk_at h3 hk
      simp only at e
      unfold Bt.regsOk at h3
      generalize xs[k] = x at *
      have em : (x + c).tmod 8 = (x + c) % 8 := Int.tmod_eq_emod_of_nonneg (by omega)
      rcases hd with rfl | ⟨rfl, rfl⟩
      all_goals
        repeat (first | (refine aops_fnX rfl ?_ ?_; focus (simp (maxSteps := 4000000) only [sks, k1, k2, pCode, pInts, pI, tvl, simprocAttr]; done)) | (simp (maxSteps := 4000000) only [k1, k2, pCode, pInts, pI, tvl, simprocAttr]) | refine ftS (by kernel_rfl) ?_ | refine And.intro (by omega) ?_)
        refine aops_fnG (hR) (hidB rfl) rfl rfl (by simp (maxSteps := 4000000) only [pInts, pI, tvs, simprocAttr]) ?_
        repeat (first | (refine aops_fnX rfl ?_ ?_; focus (simp (maxSteps := 4000000) only [sks, h3, e, e5, em, Bool.not_true, pCode, pInts, pI, tvl, simprocAttr]; done)) | (simp (maxSteps := 4000000) only [h3, e, e5, em, Bool.not_true, pCode, pInts, pI, tvl, simprocAttr]) | refine ftS (by kernel_rfl) ?_ | refine And.intro (by omega) ?_)
        all_goals (first | rfl | trivial | skip)
  · have k1 : (op != 7) = true := by simp; omega
    have k2 : (op != 8) = true := by simp; omega
    have e := bad (.inr (.inl h2))
    repeat (first | (refine aops_fnX rfl ?_ ?_; focus (simp (maxSteps := 4000000) only [sks, k1, k2, e, pCode, pInts, pI, tvl, simprocAttr]; done)) | (simp (maxSteps := 4000000) only [k1, k2, e, pCode, pInts, pI, tvl, simprocAttr]) | refine ftS (by kernel_rfl) ?_ | refine And.intro (by omega) ?_)
    all_goals (first | rfl | trivial | skip)
set_option maxRecDepth 10000 in
set_option maxHeartbeats 8000000 in
theorem sinstrA_ok {rs : List Bt.C4} {h who : Int} {m : Bt.Mc} (hn : rs.length ≤ 1048576) (hm : Small m) : FnOk E.P 112 [pProg rs h, .agg (pMc m), pI who] (.tup [.agg (pCode ((Bt.instrOf rs h m who).getD ⟨0, 0, 0, 0⟩)), .bool (Bt.instrOf rs h m who).isSome]) true := by
  have hM := smach_ok (rs := rs) (h := h) (m := m) hn hm
  have no := @Bt.instrOf_no rs h m who
  refine fn_ok mixed Try.func112 rfl (by kernel_rfl) _ Try.results112 _ Try.ntmps112 (by simp) (by kernel_rfl) ?_
  simp (maxSteps := 4000000) only [pProg, pMc, pInts, pI, tvl, simprocAttr]
  repeat (first | refine ftS (by kernel_rfl) ?_ | refine And.intro (by omega) ?_)
  refine aops_fn (hM) (hidB rfl) rfl ?_
  cases h1 : Bt.machOk rs h m
  · have e := no (.inl h1)
    repeat (first | (refine aops_fnX rfl ?_ ?_; focus (simp (maxSteps := 4000000) only [sks, e, Option.getD_none, Option.isSome_none, pCode, pProg, pMc, pInts, pI, tvl, simprocAttr]; done)) | (simp (maxSteps := 4000000) only [e, Option.getD_none, Option.isSome_none, pCode, pProg, pMc, pInts, pI, tvl, simprocAttr]) | refine ftS (by kernel_rfl) ?_ | refine And.intro (by omega) ?_)
    all_goals (first | rfl | trivial | skip)
  by_cases c1 : who < 0
  · have d1 : decide (who < 0) = true := by simpa using c1
    have e := no (.inr (Bt.runs_none (Bt.thAt_neg c1)))
    repeat (first | (refine aops_fnX rfl ?_ ?_; focus (simp (maxSteps := 4000000) only [sks, d1, e, Option.getD_none, Option.isSome_none, pCode, pProg, pMc, pInts, pI, tvl, simprocAttr]; done)) | (simp (maxSteps := 4000000) only [d1, e, Option.getD_none, Option.isSome_none, pCode, pProg, pMc, pInts, pI, tvl, simprocAttr]) | refine ftS (by kernel_rfl) ?_ | refine And.intro (by omega) ?_)
    all_goals (first | rfl | trivial | skip)
  have d1 : decide (who < 0) = false := by simpa using c1
  by_cases c2 : who ≥ (m.ths.length : Int)
  · have d2 : decide (who ≥ (m.ths.length : Int)) = true := by simpa using c2
    have e := no (.inr (Bt.runs_none (Bt.thAt_out c2)))
    repeat (first | (refine aops_fnX rfl ?_ ?_; focus (simp (maxSteps := 4000000) only [sks, d1, d2, e, Option.getD_none, Option.isSome_none, pCode, pProg, pMc, pInts, pI, tvl, simprocAttr]; done)) | (simp (maxSteps := 4000000) only [d1, d2, e, Option.getD_none, Option.isSome_none, pCode, pProg, pMc, pInts, pI, tvl, simprocAttr]) | refine ftS (by kernel_rfl) ?_ | refine And.intro (by omega) ?_)
    all_goals (first | rfl | trivial | skip)
  have d2 : decide (who ≥ (m.ths.length : Int)) = false := by simpa using c2
  obtain ⟨k, rfl⟩ : ∃ k : Nat, who = k := ⟨who.toNat, by omega⟩
  have hk : k < m.ths.length := by omega
  have F := Bt.machOk_facts h1
  have T := Bt.thOk_facts (F.th k hk)
  have hlo := T.lo
  have hrun := Bt.runs_in hk
  have hend := Bt.instrOf_end (rs := rs) (h := h) hk
  have hat := @Bt.instrOf_at rs h m k
  have e6 : (m.ths.map pTh)[k]? = some (pTh m.ths[k]) := by simp [hk]
  clear F T hM
  cases c3 : m.ths[k].st != 0
  · have hst : m.ths[k].st = 0 := by simpa using c3
    by_cases c4 : m.ths[k].pl ≥ (rs.length : Int)
    · have d4 : decide (m.ths[k].pl ≥ (rs.length : Int)) = true := by simpa using c4
      have e := hend c4
      generalize m.ths[k] = t at *
      repeat (first | (refine aops_fnX rfl ?_ ?_; focus (simp (maxSteps := 4000000) only [sks, d1, d2, c3, d4, e6, e, Option.getD_none, Option.isSome_none, pTh, pCode, pProg, pMc, pInts, pI, tvl, simprocAttr]; done)) | (simp (maxSteps := 4000000) only [d1, d2, c3, d4, e6, e, Option.getD_none, Option.isSome_none, pTh, pCode, pProg, pMc, pInts, pI, tvl, simprocAttr]) | refine ftS (by kernel_rfl) ?_ | refine And.intro (by omega) ?_)
      all_goals (first | rfl | trivial | skip)
    · have d4 : decide (m.ths[k].pl ≥ (rs.length : Int)) = false := by simpa using c4
      obtain ⟨j, hj⟩ : ∃ j : Nat, m.ths[k].pl = j := ⟨m.ths[k].pl.toNat, by omega⟩
      have hjl : j < rs.length := by omega
      have e := hat h1 hk hst hjl hj
      have e7 : (rs.map pCode)[j]? = some (pCode rs[j]) := by simp [hjl]
      generalize m.ths[k] = t at *
      obtain ⟨pl, regs, stack, st⟩ := t
      simp only at hj c3 d4
      subst hj
      generalize rs[j] = x at *
      repeat (first | (refine aops_fnX rfl ?_ ?_; focus (simp (maxSteps := 4000000) only [sks, d1, d2, c3, d4, e6, e7, e, Option.getD_some, Option.isSome_some, pTh, pCode, pProg, pMc, pInts, pI, tvl, simprocAttr]; done)) | (simp (maxSteps := 4000000) only [d1, d2, c3, d4, e6, e7, e, Option.getD_some, Option.isSome_some, pTh, pCode, pProg, pMc, pInts, pI, tvl, simprocAttr]) | refine ftS (by kernel_rfl) ?_ | refine And.intro (by omega) ?_)
      all_goals (first | rfl | trivial | skip)
  · have e := no (.inr (hrun.trans (by simpa using c3)))
    generalize m.ths[k] = t at *
    repeat (first | (refine aops_fnX rfl ?_ ?_; focus (simp (maxSteps := 4000000) only [sks, d1, d2, c3, e6, e, Option.getD_none, Option.isSome_none, pTh, pCode, pProg, pMc, pInts, pI, tvl, simprocAttr]; done)) | (simp (maxSteps := 4000000) only [d1, d2, c3, e6, e, Option.getD_none, Option.isSome_none, pTh, pCode, pProg, pMc, pInts, pI, tvl, simprocAttr]) | refine ftS (by kernel_rfl) ?_ | refine And.intro (by omega) ?_)
    all_goals (first | rfl | trivial | skip)
end Av
end Go.Proofs.Ytbkbppllcjcmhaa
