/-
  Chapter 2: instructions, cells, what can be chosen: the program's.
-/
import Derived.Test.YtbkbppllcjcmhaaC2I
set_option linter.unusedSimpArgs false
set_option linter.unusedVariables false
namespace Go.Proofs.Ytbkbppllcjcmhaa
open Go.RowKit
namespace Av
set_option maxHeartbeats 4000000 in
theorem iruns_ok {m : Bt.Mc} {who : Int} (hm : m.ths.length ≤ 1048576) : FnOk E.P 147 [.agg (pMc m), pI who] (.bool (Bt.runs m who)) true := by
  refine fn_ok mixed Try.func147 rfl (by kernel_rfl) _ Try.results147 _ Try.ntmps147 (by simp) (by kernel_rfl) ?_
  by_cases c1 : who ≥ 0
  rotate_left
  · have d1 : decide (who ≥ 0) = false := by simpa using c1
    have e := Bt.runs_none (Bt.thAt_neg (m := m) (who := who) (by omega))
    repeat (first | (refine aops_fnX rfl ?_ ?_; focus (simp (maxSteps := 4000000) only [sks, d1, e, pMc, pInts, pI, tvl, simprocAttr]; done)) | (simp (maxSteps := 4000000) only [d1, e, pMc, pInts, pI, tvl, simprocAttr]) | refine ftS (by kernel_rfl) ?_ | refine And.intro (by omega) ?_)
    all_goals (first | rfl | trivial | skip)
  have d1 : decide (who ≥ 0) = true := by simpa using c1
  by_cases c2 : who < (m.ths.length : Int)
  rotate_left
  · have d2 : decide (who < (m.ths.length : Int)) = false := by simpa using c2
    have e := Bt.runs_none (Bt.thAt_out (m := m) (who := who) (by omega))
    repeat (first | (refine aops_fnX rfl ?_ ?_; focus (simp (maxSteps := 4000000) only [sks, d1, d2, e, pMc, pInts, pI, tvl, simprocAttr]; done)) | (simp (maxSteps := 4000000) only [d1, d2, e, pMc, pInts, pI, tvl, simprocAttr]) | refine ftS (by kernel_rfl) ?_ | refine And.intro (by omega) ?_)
    all_goals (first | rfl | trivial | skip)
  have d2 : decide (who < (m.ths.length : Int)) = true := by simpa using c2
  obtain ⟨k, rfl⟩ : ∃ k : Nat, who = k := ⟨who.toNat, by omega⟩
  have hk : k < m.ths.length := by omega
  have e := Bt.runs_in hk
  have e6 : (m.ths.map pTh)[k]? = some (pTh m.ths[k]) := by simp [hk]
  rw [e]
  generalize m.ths[k] = t at *
  repeat (first | (refine aops_fnX rfl ?_ ?_; focus (simp (maxSteps := 4000000) only [sks, d1, d2, e6, Bool.true_and, pTh, pMc, pInts, pI, tvl, simprocAttr]; done)) | (simp (maxSteps := 4000000) only [d1, d2, e6, Bool.true_and, pTh, pMc, pInts, pI, tvl, simprocAttr]) | refine ftS (by kernel_rfl) ?_ | refine And.intro (by omega) ?_)
  all_goals (first | rfl | trivial | skip)
theorem ibehind_ok {rs : List Bt.C4} {h : Int} {t : Bt.Th} : FnOk E.P 150 [pProg rs h, .agg (pTh t)] (.bool (decide (t.pl ≥ (rs.length : Int)))) true := by
  refine fn_ok mixed Try.func150 rfl (by kernel_rfl) _ Try.results150 _ Try.ntmps150 (by simp) (by kernel_rfl) ?_
  repeat (first | (refine aops_fnX rfl ?_ ?_; focus (simp (maxSteps := 4000000) only [sks, pTh, pProg, pInts, pI, tvl, simprocAttr]; done)) | (simp (maxSteps := 4000000) only [pTh, pProg, pInts, pI, tvl, simprocAttr]) | refine ftS (by kernel_rfl) ?_ | refine And.intro (by omega) ?_)
  all_goals (first | rfl | trivial | skip)
set_option maxRecDepth 10000 in
set_option maxHeartbeats 8000000 in
theorem icell_ok {x : Bt.C4} {xs : List Int} (hl : xs.length ≤ 1048576) : FnOk E.P 165 [.agg (pCode x), pInts xs] (pI (Bt.cellOf x xs)) true := by
  obtain ⟨op, a, b, c⟩ := x
  have hC := icodeOk_ok (op := op) (a := a) (b := b) (c := c)
  have hR := iregs_ok (xs := xs) hl
  have bad := @Bt.cellOf_bad ⟨op, a, b, c⟩ xs
  simp only at bad
  refine fn_ok mixed Try.func165 rfl (by kernel_rfl) _ Try.results165 _ Try.ntmps165 (by simp) (by kernel_rfl) ?_
  by_cases h2 : op = 7 ∨ op = 8
  rotate_left
  · have k1 : (op != 7) = true := by simp; omega
    have k2 : (op != 8) = true := by simp; omega
    have e := bad (.inr (.inl h2))
    repeat (first | (refine aops_fnX rfl ?_ ?_; focus (simp (maxSteps := 4000000) only [sks, k1, k2, e, pCode, pInts, pI, tvl, simprocAttr]; done)) | (simp (maxSteps := 4000000) only [k1, k2, e, pCode, pInts, pI, tvl, simprocAttr]) | refine ftS (by kernel_rfl) ?_ | refine And.intro (by omega) ?_)
    all_goals (first | rfl | trivial | skip)
  have key : ∃ d1 d2 : Bool, (op != 7) = d1 ∧ (op != 8) = d2 ∧ (d1 = false ∨ (d1 = true ∧ d2 = false)) := ⟨_, _, rfl, rfl, by rcases h2 with rfl | rfl <;> decide⟩
  obtain ⟨d1, d2, k1, k2, hd⟩ := key
  cases h1 : Bt.codeOk op a b c
  · have e := bad (.inl h1)
    rw [h1] at hC
    rcases hd with rfl | ⟨rfl, rfl⟩
    all_goals
      repeat (first | (refine aops_fnX rfl ?_ ?_; focus (simp (maxSteps := 4000000) only [sks, k1, k2, pCode, pInts, pI, tvl, simprocAttr]; done)) | (simp (maxSteps := 4000000) only [k1, k2, pCode, pInts, pI, tvl, simprocAttr]) | refine ftS (by kernel_rfl) ?_ | refine And.intro (by omega) ?_)
      refine aops_fn (hC) (hidB rfl) rfl ?_
      repeat (first | (refine aops_fnX rfl ?_ ?_; focus (simp (maxSteps := 4000000) only [sks, e, pCode, pInts, pI, tvl, simprocAttr]; done)) | (simp (maxSteps := 4000000) only [e, pCode, pInts, pI, tvl, simprocAttr]) | refine ftS (by kernel_rfl) ?_ | refine And.intro (by omega) ?_)
      all_goals (first | rfl | trivial | skip)
  rw [h1] at hC
  cases h3 : Bt.regsOk xs
  · have e := bad (.inr (.inr h3))
    rw [h3] at hR
    rcases hd with rfl | ⟨rfl, rfl⟩
    all_goals
      repeat (first | (refine aops_fnX rfl ?_ ?_; focus (simp (maxSteps := 4000000) only [sks, k1, k2, pCode, pInts, pI, tvl, simprocAttr]; done)) | (simp (maxSteps := 4000000) only [k1, k2, pCode, pInts, pI, tvl, simprocAttr]) | refine ftS (by kernel_rfl) ?_ | refine And.intro (by omega) ?_)
      refine aops_fn (hC) (hidB rfl) rfl ?_
      repeat (first | (refine aops_fnX rfl ?_ ?_; focus (simp (maxSteps := 4000000) only [sks, pCode, pInts, pI, tvl, simprocAttr]; done)) | (simp (maxSteps := 4000000) only [pCode, pInts, pI, tvl, simprocAttr]) | refine ftS (by kernel_rfl) ?_ | refine And.intro (by omega) ?_)
      refine aops_fnG (hR) (hidB rfl) rfl rfl (by simp (maxSteps := 4000000) only [pInts, pI, tvs, simprocAttr]) ?_
      repeat (first | (refine aops_fnX rfl ?_ ?_; focus (simp (maxSteps := 4000000) only [sks, e, pCode, pInts, pI, tvl, simprocAttr]; done)) | (simp (maxSteps := 4000000) only [e, pCode, pInts, pI, tvl, simprocAttr]) | refine ftS (by kernel_rfl) ?_ | refine And.intro (by omega) ?_)
      all_goals (first | rfl | trivial | skip)
  rw [h3] at hR
  obtain ⟨_, ⟨b0, b1⟩, c0, c1⟩ := Bt.mem_bounds h1 h2
  have hlen := Bt.regsOk_len h3
  obtain ⟨k, rfl⟩ : ∃ k : Nat, b = k := ⟨b.toNat, by omega⟩
  have hk : k < xs.length := by omega
  have e := Bt.cellOf_good (r := ⟨op, a, k, c⟩) hk rfl h1 h2 h3
  have e5 : (xs.map fun x => [PV.int .i64 x])[k]? = some [.int .i64 xs[k]] := by simp [hk]
  have hx := Bt.regsOk_at h3 hk
  simp only at e
  generalize xs[k] = x at *
  have em : (x + c).tmod 8 = (x + c) % 8 := Int.tmod_eq_emod_of_nonneg (by omega)
  rcases hd with rfl | ⟨rfl, rfl⟩
  all_goals
    repeat (first | (refine aops_fnX rfl ?_ ?_; focus (simp (maxSteps := 4000000) only [sks, k1, k2, pCode, pInts, pI, tvl, simprocAttr]; done)) | (simp (maxSteps := 4000000) only [k1, k2, pCode, pInts, pI, tvl, simprocAttr]) | refine ftS (by kernel_rfl) ?_ | refine And.intro (by omega) ?_)
    refine aops_fn (hC) (hidB rfl) rfl ?_
    repeat (first | (refine aops_fnX rfl ?_ ?_; focus (simp (maxSteps := 4000000) only [sks, pCode, pInts, pI, tvl, simprocAttr]; done)) | (simp (maxSteps := 4000000) only [pCode, pInts, pI, tvl, simprocAttr]) | refine ftS (by kernel_rfl) ?_ | refine And.intro (by omega) ?_)
    refine aops_fnG (hR) (hidB rfl) rfl rfl (by simp (maxSteps := 4000000) only [pInts, pI, tvs, simprocAttr]) ?_
    repeat (first | (refine aops_fnX rfl ?_ ?_; focus (simp (maxSteps := 4000000) only [sks, e, e5, em, pCode, pInts, pI, tvl, simprocAttr]; done)) | (simp (maxSteps := 4000000) only [e, e5, em, pCode, pInts, pI, tvl, simprocAttr]) | refine ftS (by kernel_rfl) ?_ | refine And.intro (by omega) ?_)
    all_goals (first | rfl | trivial | skip)
set_option maxRecDepth 10000 in
set_option maxHeartbeats 8000000 in
theorem iinstr_ok {rs : List Bt.C4} {h who : Int} {m : Bt.Mc} (hn : rs.length ≤ 1048576) (hm : Small m) : FnOk E.P 145 [pProg rs h, .agg (pMc m), pI who] (.tup [.agg (pCode ((Bt.instrOf rs h m who).getD ⟨0, 0, 0, 0⟩)), .bool (Bt.instrOf rs h m who).isSome]) true := by
  have hM := imach_ok (rs := rs) (h := h) (m := m) hn hm
  have hR := iruns_ok (m := m) (who := who) hm.ths
  have no := @Bt.instrOf_no rs h m who
  refine fn_ok mixed Try.func145 rfl (by kernel_rfl) _ Try.results145 _ Try.ntmps145 (by simp) (by kernel_rfl) ?_
  repeat (first | (refine aops_fnX rfl ?_ ?_; focus (simp (maxSteps := 4000000) only [sks, pProg, pMc, pInts, pI, tvl, simprocAttr]; done)) | (simp (maxSteps := 4000000) only [pProg, pMc, pInts, pI, tvl, simprocAttr]) | refine ftS (by kernel_rfl) ?_ | refine And.intro (by omega) ?_)
  refine aops_fn (hM) (hidB rfl) rfl ?_
  cases h1 : Bt.machOk rs h m
  · have e := no (.inl h1)
    repeat (first | (refine aops_fnX rfl ?_ ?_; focus (simp (maxSteps := 4000000) only [sks, e, Option.getD_none, Option.isSome_none, pCode, pProg, pMc, pInts, pI, tvl, simprocAttr]; done)) | (simp (maxSteps := 4000000) only [e, Option.getD_none, Option.isSome_none, pCode, pProg, pMc, pInts, pI, tvl, simprocAttr]) | refine ftS (by kernel_rfl) ?_ | refine And.intro (by omega) ?_)
    all_goals (first | rfl | trivial | skip)
  repeat (first | (refine aops_fnX rfl ?_ ?_; focus (simp (maxSteps := 4000000) only [sks, pProg, pMc, pInts, pI, tvl, simprocAttr]; done)) | (simp (maxSteps := 4000000) only [pProg, pMc, pInts, pI, tvl, simprocAttr]) | refine ftS (by kernel_rfl) ?_ | refine And.intro (by omega) ?_)
  refine aops_fnG (hR) (hidB rfl) rfl rfl (by simp (maxSteps := 4000000) only [pMc, pInts, pI, tvs, simprocAttr]) ?_
  cases h2 : Bt.runs m who
  · have e := no (.inr h2)
    repeat (first | (refine aops_fnX rfl ?_ ?_; focus (simp (maxSteps := 4000000) only [sks, e, Option.getD_none, Option.isSome_none, pCode, pProg, pMc, pInts, pI, tvl, simprocAttr]; done)) | (simp (maxSteps := 4000000) only [e, Option.getD_none, Option.isSome_none, pCode, pProg, pMc, pInts, pI, tvl, simprocAttr]) | refine ftS (by kernel_rfl) ?_ | refine And.intro (by omega) ?_)
    all_goals (first | rfl | trivial | skip)
  obtain ⟨w0, w1⟩ := Bt.runs_lt h2
  obtain ⟨k, rfl⟩ : ∃ k : Nat, who = k := ⟨who.toNat, by omega⟩
  have hk : k < m.ths.length := by omega
  have hst : m.ths[k].st = 0 := by rw [Bt.runs_in hk, beq_iff_eq] at h2; exact h2
  have hlo := (Bt.thOk_facts ((Bt.machOk_facts h1).th k hk)).lo
  have hend := Bt.instrOf_end (rs := rs) (h := h) hk
  have hat := @Bt.instrOf_at rs h m k
  have e6 : (m.ths.map pTh)[k]? = some (pTh m.ths[k]) := by simp [hk]
  have hB := ibehind_ok (rs := rs) (h := h) (t := m.ths[k])
  by_cases c4 : m.ths[k].pl ≥ (rs.length : Int)
  · have e := hend c4
    rw [decide_eq_true c4] at hB
    generalize m.ths[k] = t at *
    repeat (first | (refine aops_fnX rfl ?_ ?_; focus (simp (maxSteps := 4000000) only [sks, e6, pTh, pProg, pMc, pInts, pI, tvl, simprocAttr]; done)) | (simp (maxSteps := 4000000) only [e6, pTh, pProg, pMc, pInts, pI, tvl, simprocAttr]) | refine ftS (by kernel_rfl) ?_ | refine And.intro (by omega) ?_)
    refine aops_fnG (hB) (hidB rfl) rfl rfl (by simp (maxSteps := 4000000) only [pMc, pInts, pI, tvs, simprocAttr]) ?_
    repeat (first | (refine aops_fnX rfl ?_ ?_; focus (simp (maxSteps := 4000000) only [sks, e, Option.getD_none, Option.isSome_none, pCode, pProg, pMc, pInts, pI, tvl, simprocAttr]; done)) | (simp (maxSteps := 4000000) only [e, Option.getD_none, Option.isSome_none, pCode, pProg, pMc, pInts, pI, tvl, simprocAttr]) | refine ftS (by kernel_rfl) ?_ | refine And.intro (by omega) ?_)
    all_goals (first | rfl | trivial | skip)
  · rw [decide_eq_false c4] at hB
    obtain ⟨j, hj⟩ : ∃ j : Nat, m.ths[k].pl = j := ⟨m.ths[k].pl.toNat, by omega⟩
    have hjl : j < rs.length := by omega
    have e := hat h1 hk hst hjl hj
    have e7 : (rs.map pCode)[j]? = some (pCode rs[j]) := by simp [hjl]
    generalize m.ths[k] = t at *
    obtain ⟨pl, regs, stack, st⟩ := t
    simp only at hj
    subst hj
    generalize rs[j] = x at *
    repeat (first | (refine aops_fnX rfl ?_ ?_; focus (simp (maxSteps := 4000000) only [sks, e6, pTh, pProg, pMc, pInts, pI, tvl, simprocAttr]; done)) | (simp (maxSteps := 4000000) only [e6, pTh, pProg, pMc, pInts, pI, tvl, simprocAttr]) | refine ftS (by kernel_rfl) ?_ | refine And.intro (by omega) ?_)
    refine aops_fnG (hB) (hidB rfl) rfl rfl (by simp (maxSteps := 4000000) only [pMc, pInts, pI, tvs, simprocAttr]) ?_
    repeat (first | (refine aops_fnX rfl ?_ ?_; focus (simp (maxSteps := 4000000) only [sks, e, e6, e7, Option.getD_some, Option.isSome_some, pTh, pCode, pProg, pMc, pInts, pI, tvl, simprocAttr]; done)) | (simp (maxSteps := 4000000) only [e, e6, e7, Option.getD_some, Option.isSome_some, pTh, pCode, pProg, pMc, pInts, pI, tvl, simprocAttr]) | refine ftS (by kernel_rfl) ?_ | refine And.intro (by omega) ?_)
    all_goals (first | rfl | trivial | skip)
set_option maxHeartbeats 4000000 in
theorem iwaits_ok {m : Bt.Mc} {x : Bt.C4} (hl : m.locks.length = 2) (hc : Bt.codeOk x.op x.a x.b x.c = true) : FnOk E.P 158 [.agg (pMc m), .agg (pCode x)] (.bool (Bt.waitsI m x)) true := by
  obtain ⟨op, a, b, c⟩ := x
  simp only at hc
  unfold Bt.waitsI
  simp only
  refine fn_ok mixed Try.func158 rfl (by kernel_rfl) _ Try.results158 _ Try.ntmps158 (by simp) (by kernel_rfl) ?_
  by_cases g1 : op = 15
  · subst g1
    obtain ⟨c0, c1'⟩ := Bt.lock_bounds hc (.inl rfl)
    obtain ⟨q, rfl⟩ : ∃ q : Nat, c = q := ⟨c.toNat, by omega⟩
    have hq : q < m.locks.length := by omega
    have e7 : (m.locks.map fun x => [PV.int .i64 x])[q]? = some [.int .i64 m.locks[q]] := by simp [hq]
    have e8 : m.locks.getD q (-1) = m.locks[q] := by simp [hq]
    rw [if_pos rfl, Int.toNat_natCast, e8]
    generalize m.locks[q] = l at *
    repeat (first | (refine aops_fnX rfl ?_ ?_; focus (simp (maxSteps := 4000000) only [sks, e7, Int.reduceBEq, pCode, pMc, pInts, pI, tvl, simprocAttr]; done)) | (simp (maxSteps := 4000000) only [e7, Int.reduceBEq, pCode, pMc, pInts, pI, tvl, simprocAttr]) | refine ftS (by kernel_rfl) ?_ | refine And.intro (by omega) ?_)
    all_goals (first | rfl | trivial | skip)
  have f1 : (op == 15) = false := by simpa using g1
  rw [if_neg g1]
  by_cases g2 : op = 14
  · subst g2
    rw [if_pos rfl]
    have e : decide (1000 ≤ m.told.length) = decide ((m.told.length : Int) ≥ 1000) := decide_eq_decide.2 (by omega)
    rw [e]
    repeat (first | (refine aops_fnX rfl ?_ ?_; focus (simp (maxSteps := 4000000) only [sks, f1, Int.reduceBEq, pCode, pMc, pInts, pI, tvl, simprocAttr]; done)) | (simp (maxSteps := 4000000) only [f1, Int.reduceBEq, pCode, pMc, pInts, pI, tvl, simprocAttr]) | refine ftS (by kernel_rfl) ?_ | refine And.intro (by omega) ?_)
    all_goals (first | rfl | trivial | skip)
  have f2 : (op == 14) = false := by simpa using g2
  rw [if_neg g2]
  repeat (first | (refine aops_fnX rfl ?_ ?_; focus (simp (maxSteps := 4000000) only [sks, f1, f2, pCode, pMc, pInts, pI, tvl, simprocAttr]; done)) | (simp (maxSteps := 4000000) only [f1, f2, pCode, pMc, pInts, pI, tvl, simprocAttr]) | refine ftS (by kernel_rfl) ?_ | refine And.intro (by omega) ?_)
  all_goals (first | rfl | trivial | skip)
set_option maxRecDepth 10000 in
set_option maxHeartbeats 8000000 in
theorem icanStep_ok {rs : List Bt.C4} {h : Int} {m : Bt.Mc} {k : Nat} {kd rep : Int} (hn : rs.length ≤ 1048576) (hk : k < m.ths.length) (h1 : Bt.machOk rs h m = true) : FnOk E.P 148 [pProg rs h, .agg (pMc m), .agg (pCh ⟨k, kd, rep⟩)] (.bool (Bt.stepI rs m m.ths[k] rep)) true := by
  have F := Bt.machOk_facts h1
  have hlo := (Bt.thOk_facts (F.th k hk)).lo
  have e6 : (m.ths.map pTh)[k]? = some (pTh m.ths[k]) := by simp [hk]
  have hB := ibehind_ok (rs := rs) (h := h) (t := m.ths[k])
  have hend := Bt.stepI_end (rs := rs) (m := m) (t := m.ths[k]) (rep := rep)
  have hat := @Bt.stepI_at rs m m.ths[k] rep
  refine fn_ok mixed Try.func148 rfl (by kernel_rfl) _ Try.results148 _ Try.ntmps148 (by simp) (by kernel_rfl) ?_
  by_cases c4 : m.ths[k].pl ≥ (rs.length : Int)
  · have e := hend c4
    rw [decide_eq_true c4] at hB
    rw [e]
    generalize m.ths[k] = t at *
    repeat (first | (refine aops_fnX rfl ?_ ?_; focus (simp (maxSteps := 4000000) only [sks, e6, pTh, pCh, pProg, pMc, pInts, pI, tvl, simprocAttr]; done)) | (simp (maxSteps := 4000000) only [e6, pTh, pCh, pProg, pMc, pInts, pI, tvl, simprocAttr]) | refine ftS (by kernel_rfl) ?_ | refine And.intro (by omega) ?_)
    refine aops_fn (hB) (hidB rfl) rfl ?_
    repeat (first | (refine aops_fnX rfl ?_ ?_; focus (simp (maxSteps := 4000000) only [sks, pTh, pCh, pCode, pProg, pMc, pInts, pI, tvl, simprocAttr]; done)) | (simp (maxSteps := 4000000) only [pTh, pCh, pCode, pProg, pMc, pInts, pI, tvl, simprocAttr]) | refine ftS (by kernel_rfl) ?_ | refine And.intro (by omega) ?_)
    all_goals (first | rfl | trivial | skip)
  · rw [decide_eq_false c4] at hB
    obtain ⟨j, hj⟩ : ∃ j : Nat, m.ths[k].pl = j := ⟨m.ths[k].pl.toNat, by omega⟩
    have hjl : j < rs.length := by omega
    have e := hat hjl hj
    have e7 : (rs.map pCode)[j]? = some (pCode rs[j]) := by simp [hjl]
    have hcd := Bt.progOk_code F.prog hjl
    have hW := iwaits_ok (m := m) (x := rs[j]) F.locks hcd
    have hw := @Bt.canDoI_waits m rs[j] rep
    rw [e]
    generalize m.ths[k] = t at *
    obtain ⟨pl, regs, stack, st⟩ := t
    simp only at hj
    subst hj
    generalize rs[j] = x at *
    obtain ⟨op, a, b, c⟩ := x
    simp only at hw
    repeat (first | (refine aops_fnX rfl ?_ ?_; focus (simp (maxSteps := 4000000) only [sks, e6, pTh, pCh, pProg, pMc, pInts, pI, tvl, simprocAttr]; done)) | (simp (maxSteps := 4000000) only [e6, pTh, pCh, pProg, pMc, pInts, pI, tvl, simprocAttr]) | refine ftS (by kernel_rfl) ?_ | refine And.intro (by omega) ?_)
    refine aops_fn (hB) (hidB rfl) rfl ?_
    by_cases g3 : op = 13
    · subst g3
      rw [Bt.canDoI_ask (x := ⟨13, a, b, c⟩) rfl]
      by_cases g4 : 0 ≤ rep
      · have f4 : decide (rep ≥ 0) = true := by simpa using g4
        have f4' : decide (0 ≤ rep) = true := by simpa using g4
        repeat (first | (refine aops_fnX rfl ?_ ?_; focus (simp (maxSteps := 4000000) only [sks, e7, f4, f4', Int.reduceBEq, Bool.true_and, pTh, pCh, pCode, pProg, pMc, pInts, pI, tvl, simprocAttr]; done)) | (simp (maxSteps := 4000000) only [e7, f4, f4', Int.reduceBEq, Bool.true_and, pTh, pCh, pCode, pProg, pMc, pInts, pI, tvl, simprocAttr]) | refine ftS (by kernel_rfl) ?_ | refine And.intro (by omega) ?_)
        all_goals (first | rfl | trivial | skip)
      · have f4 : decide (rep ≥ 0) = false := by simpa using g4
        have f4' : decide (0 ≤ rep) = false := by simpa using g4
        repeat (first | (refine aops_fnX rfl ?_ ?_; focus (simp (maxSteps := 4000000) only [sks, e7, f4, f4', Int.reduceBEq, Bool.false_and, pTh, pCh, pCode, pProg, pMc, pInts, pI, tvl, simprocAttr]; done)) | (simp (maxSteps := 4000000) only [e7, f4, f4', Int.reduceBEq, Bool.false_and, pTh, pCh, pCode, pProg, pMc, pInts, pI, tvl, simprocAttr]) | refine ftS (by kernel_rfl) ?_ | refine And.intro (by omega) ?_)
        all_goals (first | rfl | trivial | skip)
    have f3 : (op == 13) = false := by simpa using g3
    rw [hw g3]
    cases d : rep == 0
    · repeat (first | (refine aops_fnX rfl ?_ ?_; focus (simp (maxSteps := 4000000) only [sks, e7, f3, d, Bool.false_and, pTh, pCh, pCode, pProg, pMc, pInts, pI, tvl, simprocAttr]; done)) | (simp (maxSteps := 4000000) only [e7, f3, d, Bool.false_and, pTh, pCh, pCode, pProg, pMc, pInts, pI, tvl, simprocAttr]) | refine ftS (by kernel_rfl) ?_ | refine And.intro (by omega) ?_)
      all_goals (first | rfl | trivial | skip)
    · repeat (first | (refine aops_fnX rfl ?_ ?_; focus (simp (maxSteps := 4000000) only [sks, e7, f3, d, pTh, pCh, pCode, pProg, pMc, pInts, pI, tvl, simprocAttr]; done)) | (simp (maxSteps := 4000000) only [e7, f3, d, pTh, pCh, pCode, pProg, pMc, pInts, pI, tvl, simprocAttr]) | refine ftS (by kernel_rfl) ?_ | refine And.intro (by omega) ?_)
      refine aops_fnG (hW) (hidB rfl) rfl rfl (by simp (maxSteps := 4000000) only [d, pMc, pInts, pI, tvs, simprocAttr]) ?_
      repeat (first | (refine aops_fnX rfl ?_ ?_; focus (simp (maxSteps := 4000000) only [sks, d, Bool.true_and, pTh, pCh, pCode, pProg, pMc, pInts, pI, tvl, simprocAttr]; done)) | (simp (maxSteps := 4000000) only [d, Bool.true_and, pTh, pCh, pCode, pProg, pMc, pInts, pI, tvl, simprocAttr]) | refine ftS (by kernel_rfl) ?_ | refine And.intro (by omega) ?_)
      all_goals (first | rfl | trivial | skip)
set_option maxRecDepth 10000 in
set_option maxHeartbeats 8000000 in
theorem ican_ok {rs : List Bt.C4} {h : Int} {m : Bt.Mc} {c : Bt.Ch} (hn : rs.length ≤ 1048576) (hm : Small m) : FnOk E.P 138 [pProg rs h, .agg (pMc m), .agg (pCh c)] (.bool (Bt.canDo rs h m c)) true := by
  obtain ⟨who, kd, rep⟩ := c
  have hM := imach_ok (rs := rs) (h := h) (m := m) hn hm
  have hR := iruns_ok (m := m) (who := who) hm.ths
  have no := @Bt.canDo_no rs h m ⟨who, kd, rep⟩
  simp only at no
  refine fn_ok mixed Try.func138 rfl (by kernel_rfl) _ Try.results138 _ Try.ntmps138 (by simp) (by kernel_rfl) ?_
  repeat (first | (refine aops_fnX rfl ?_ ?_; focus (simp (maxSteps := 4000000) only [sks, pProg, pMc, pCh, pInts, pI, tvl, simprocAttr]; done)) | (simp (maxSteps := 4000000) only [pProg, pMc, pCh, pInts, pI, tvl, simprocAttr]) | refine ftS (by kernel_rfl) ?_ | refine And.intro (by omega) ?_)
  refine aops_fn (hM) (hidB rfl) rfl ?_
  cases h1 : Bt.machOk rs h m
  · have e := no (.inl h1)
    repeat (first | (refine aops_fnX rfl ?_ ?_; focus (simp (maxSteps := 4000000) only [sks, e, pProg, pMc, pCh, pInts, pI, tvl, simprocAttr]; done)) | (simp (maxSteps := 4000000) only [e, pProg, pMc, pCh, pInts, pI, tvl, simprocAttr]) | refine ftS (by kernel_rfl) ?_ | refine And.intro (by omega) ?_)
    all_goals (first | rfl | trivial | skip)
  repeat (first | (refine aops_fnX rfl ?_ ?_; focus (simp (maxSteps := 4000000) only [sks, pProg, pMc, pCh, pInts, pI, tvl, simprocAttr]; done)) | (simp (maxSteps := 4000000) only [pProg, pMc, pCh, pInts, pI, tvl, simprocAttr]) | refine ftS (by kernel_rfl) ?_ | refine And.intro (by omega) ?_)
  refine aops_fnG (hR) (hidB rfl) rfl rfl (by simp (maxSteps := 4000000) only [pMc, pInts, pI, tvs, simprocAttr]) ?_
  cases h2 : Bt.runs m who
  · have e := no (.inr h2)
    repeat (first | (refine aops_fnX rfl ?_ ?_; focus (simp (maxSteps := 4000000) only [sks, e, pProg, pMc, pCh, pInts, pI, tvl, simprocAttr]; done)) | (simp (maxSteps := 4000000) only [e, pProg, pMc, pCh, pInts, pI, tvl, simprocAttr]) | refine ftS (by kernel_rfl) ?_ | refine And.intro (by omega) ?_)
    all_goals (first | rfl | trivial | skip)
  obtain ⟨w0, w1⟩ := Bt.runs_lt h2
  obtain ⟨k, rfl⟩ : ∃ k : Nat, who = k := ⟨who.toNat, by omega⟩
  have hk : k < m.ths.length := by omega
  have hst : m.ths[k].st = 0 := by rw [Bt.runs_in hk, beq_iff_eq] at h2; exact h2
  by_cases c0 : kd = 0
  · subst c0
    have hS := icanStep_ok (rs := rs) (h := h) (m := m) (k := k) (kd := 0) (rep := rep) hn hk h1
    rw [Bt.canDo_step h1 hk hst]
    repeat (first | (refine aops_fnX rfl ?_ ?_; focus (simp (maxSteps := 4000000) only [sks, Int.reduceBEq, pProg, pMc, pCh, pInts, pI, tvl, simprocAttr]; done)) | (simp (maxSteps := 4000000) only [Int.reduceBEq, pProg, pMc, pCh, pInts, pI, tvl, simprocAttr]) | refine ftS (by kernel_rfl) ?_ | refine And.intro (by omega) ?_)
    refine aops_fn (hS) (hidB rfl) rfl ?_
    repeat (first | (refine aops_fnX rfl ?_ ?_; focus (simp (maxSteps := 4000000) only [sks, pProg, pMc, pCh, pInts, pI, tvl, simprocAttr]; done)) | (simp (maxSteps := 4000000) only [pProg, pMc, pCh, pInts, pI, tvl, simprocAttr]) | refine ftS (by kernel_rfl) ?_ | refine And.intro (by omega) ?_)
    all_goals (first | rfl | trivial | skip)
  have d0 : (kd == 0) = false := by simpa using c0
  by_cases c1 : kd = 1
  · subst c1
    have e := Bt.canDo_sig (rep := rep) h1 hk hst
    have e6 : (m.ths.map pTh)[k]? = some (pTh m.ths[k]) := by simp [hk]
    rw [e]
    generalize m.ths[k] = t at *
    by_cases c5 : 0 ≤ h
    · have d5 : decide (h ≥ 0) = true := by simpa using c5
      have d5' : decide (0 ≤ h) = true := by simpa using c5
      by_cases c6 : t.stack.length < 6
      · have d6 : decide ((t.stack.length : Int) < 6) = true := by simp; omega
        have d6' : decide (t.stack.length < 6) = true := by simpa using c6
        repeat (first | (refine aops_fnX rfl ?_ ?_; focus (simp (maxSteps := 4000000) only [sks, d0, e6, d5, d6, d5', d6', Int.reduceBEq, Bool.true_and, pTh, pCh, pProg, pMc, pInts, pI, tvl, simprocAttr]; done)) | (simp (maxSteps := 4000000) only [d0, e6, d5, d6, d5', d6', Int.reduceBEq, Bool.true_and, pTh, pCh, pProg, pMc, pInts, pI, tvl, simprocAttr]) | refine ftS (by kernel_rfl) ?_ | refine And.intro (by omega) ?_)
        all_goals (first | rfl | trivial | skip)
      · have d6 : decide ((t.stack.length : Int) < 6) = false := by simp; omega
        have d6' : decide (t.stack.length < 6) = false := by simpa using c6
        repeat (first | (refine aops_fnX rfl ?_ ?_; focus (simp (maxSteps := 4000000) only [sks, d0, e6, d5, d6, d5', d6', Int.reduceBEq, Bool.false_and, Bool.and_false, pTh, pCh, pProg, pMc, pInts, pI, tvl, simprocAttr]; done)) | (simp (maxSteps := 4000000) only [d0, e6, d5, d6, d5', d6', Int.reduceBEq, Bool.false_and, Bool.and_false, pTh, pCh, pProg, pMc, pInts, pI, tvl, simprocAttr]) | refine ftS (by kernel_rfl) ?_ | refine And.intro (by omega) ?_)
        all_goals (first | rfl | trivial | skip)
    · have d5 : decide (h ≥ 0) = false := by simpa using c5
      have d5' : decide (0 ≤ h) = false := by simpa using c5
      repeat (first | (refine aops_fnX rfl ?_ ?_; focus (simp (maxSteps := 4000000) only [sks, d0, e6, d5, d5', Int.reduceBEq, Bool.false_and, pTh, pCh, pProg, pMc, pInts, pI, tvl, simprocAttr]; done)) | (simp (maxSteps := 4000000) only [d0, e6, d5, d5', Int.reduceBEq, Bool.false_and, pTh, pCh, pProg, pMc, pInts, pI, tvl, simprocAttr]) | refine ftS (by kernel_rfl) ?_ | refine And.intro (by omega) ?_)
      all_goals (first | rfl | trivial | skip)
  have d1 : (kd == 1) = false := by simpa using c1
  have e := Bt.canDo_else (rep := rep) h1 hk hst c1 c0
  repeat (first | (refine aops_fnX rfl ?_ ?_; focus (simp (maxSteps := 4000000) only [sks, d0, d1, e, pProg, pMc, pCh, pInts, pI, tvl, simprocAttr]; done)) | (simp (maxSteps := 4000000) only [d0, d1, e, pProg, pMc, pCh, pInts, pI, tvl, simprocAttr]) | refine ftS (by kernel_rfl) ?_ | refine And.intro (by omega) ?_)
  all_goals (first | rfl | trivial | skip)
end Av
end Go.Proofs.Ytbkbppllcjcmhaa
