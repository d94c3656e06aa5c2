/-
  Whether numbers, threads and machines are the same: both packages.
-/
import Derived.Test.YtbkbppllcjcmhaaGreatC1
import Derived.Test.YtbkbppllcjcmhaaGreatPur
set_option linter.unusedSimpArgs false
set_option linter.unusedVariables false
namespace Go.Proofs.YtbkbppllcjcmhaaGreat
open Go.RowKit
namespace Bt
/-- whether it is so -/
noncomputable def tt (P : Prop) : Bool := @decide P (Classical.propDecidable P)
theorem tt_t {P : Prop} (h : P) : tt P = true := @decide_eq_true P (Classical.propDecidable P) h
theorem tt_f {P : Prop} (h : ¬ P) : tt P = false := @decide_eq_false P (Classical.propDecidable P) h
end Bt
namespace Av
def sBox (m : Bt.Mc) : List AV := [.pv (.lst 115 (m.ths.map pTh)), .pv (.lst 3 (m.cells.map fun x => [.int .i64 x])), .pv (.lst 3 (m.locks.map fun x => [.int .i64 x])), .pv (.lst 3 (m.told.map fun x => [.int .i64 x]))]
set_option maxRecDepth 10000 in
set_option maxHeartbeats 8000000 in
theorem isameN {xs ys : List Int} (h1 : xs.length ≤ 1048576) (h2 : ys.length ≤ 1048576) : FnOk E.P 109 [pInts xs, pInts ys] (.bool (Bt.tt (xs = ys))) true := by
  obtain ⟨z, hz⟩ : ∃ z, z = Bt.tt (xs = ys) := ⟨_, rfl⟩
  rw [← hz]
  have z1 : xs = ys → z = true := fun e => hz.trans (Bt.tt_t e)
  have z2 : ¬ (xs = ys) → z = false := fun e => hz.trans (Bt.tt_f e)
  clear hz
  by_cases c0 : xs.length = ys.length
  rotate_left
  · have d0 : ((xs.length : Int) != (ys.length : Int)) = true := by rw [bne_iff_ne]; omega
    obtain rfl := z2 (fun e => c0 (by rw [e]))
    refine fn_ok mixed Tryz.func109 rfl (by kernel_rfl) _ Tryz.results109 _ Tryz.ntmps109 (by simp) (by kernel_rfl) ?_
    repeat (first | (refine aops_fnX rfl ?_ ?_; focus (simp (maxSteps := 4000000) only [sks, d0, pTh, pMc, pInts, pI, tvl, simprocAttr]; done)) | (simp (maxSteps := 4000000) only [d0, pTh, pMc, pInts, pI, tvl, simprocAttr]) | refine ftS (by kernel_rfl) ?_ | refine And.intro (by omega) ?_)
    all_goals (first | rfl | trivial | skip)
  have d0 : ((xs.length : Int) != (ys.length : Int)) = false := by rw [bne_eq_false_iff_eq]; omega
  refine fn_ok mixed Tryz.func109 rfl (by kernel_rfl) _ Tryz.results109 _ Tryz.ntmps109 (by simp) (by kernel_rfl) ?_
  repeat (first | (refine aops_fnX rfl ?_ ?_; focus (simp (maxSteps := 4000000) only [sks, d0, pTh, pMc, pInts, pI, tvl, simprocAttr]; done)) | (simp (maxSteps := 4000000) only [d0, pTh, pMc, pInts, pI, tvl, simprocAttr]) | refine ftS (by kernel_rfl) ?_ | refine And.intro (by omega) ?_)
  refine awp_loop (X := Nat) (fun k => [(0, .pv (.lst 3 (xs.map fun x => [.int .i64 x]))), (1, .pv (.lst 3 (ys.map fun x => [.int .i64 x]))), (12, .pv (.int .i64 xs.length)), (13, .pv (.int .i64 k))]) (fun k => []) (fun k => k ≤ xs.length ∧ ∀ j, j < k → xs[j]? = ys[j]?) (fun k => xs.length - k) 100 0 ⟨Nat.zero_le _, fun j hj => absurd hj (by omega)⟩ (by simp (maxSteps := 4000000) only [pI, tvl, simprocAttr]; try simp) (fun k hk => ?_)
  obtain ⟨hk, hp⟩ := hk
  by_cases c1 : k < xs.length
  · have c2 : k < ys.length := by omega
    have d1 : decide ((k : Int) < (xs.length : Int)) = true := by simpa using c1
    have e5 : (xs.map fun x => [PV.int .i64 x])[k]? = some [.int .i64 xs[k]] := by simp [c1]
    have e6 : (ys.map fun x => [PV.int .i64 x])[k]? = some [.int .i64 ys[k]] := by simp [c2]
    by_cases c3 : xs[k] = ys[k]
    · have d2 : (xs[k] != ys[k]) = false := by rw [bne_eq_false_iff_eq]; exact c3
      have hn : ∀ j, j < k + 1 → xs[j]? = ys[j]? := fun j hj => by
        rcases Nat.lt_succ_iff_lt_or_eq.1 hj with hj | rfl
        · exact hp j hj
        · rw [List.getElem?_eq_getElem c1, List.getElem?_eq_getElem c2, c3]
      generalize xs[k] = p at *
      generalize ys[k] = q at *
      repeat (first | (refine aops_fnX rfl ?_ ?_; focus (simp (maxSteps := 4000000) only [sks, d0, d1, d2, e5, e6, pTh, pMc, pInts, pI, tvl, simprocAttr]; done)) | (simp (maxSteps := 4000000) only [d0, d1, d2, e5, e6, pTh, pMc, pInts, pI, tvl, simprocAttr]) | refine ftS (by kernel_rfl) ?_ | refine And.intro (by omega) ?_)
      refine ⟨k + 1, ⟨by omega, hn⟩, by omega, ?_⟩
      simp
    · have d2 : (xs[k] != ys[k]) = true := by rw [bne_iff_ne]; exact c3
      obtain rfl := z2 (fun e => c3 (by simp only [e]))
      generalize xs[k] = p at *
      generalize ys[k] = q at *
      repeat (first | (refine aops_fnX rfl ?_ ?_; focus (simp (maxSteps := 4000000) only [sks, d0, d1, d2, e5, e6, pTh, pMc, pInts, pI, tvl, simprocAttr]; done)) | (simp (maxSteps := 4000000) only [d0, d1, d2, e5, e6, pTh, pMc, pInts, pI, tvl, simprocAttr]) | refine ftS (by kernel_rfl) ?_ | refine And.intro (by omega) ?_)
      all_goals (first | rfl | trivial | skip)
  · have d1 : decide ((k : Int) < (xs.length : Int)) = false := by simpa using c1
    obtain rfl := z1 (List.ext_getElem? (fun j => by
      by_cases hj : j < xs.length
      · exact hp j (by omega)
      · rw [List.getElem?_eq_none (by omega), List.getElem?_eq_none (by omega)]))
    repeat (first | (refine aops_fnX rfl ?_ ?_; focus (simp (maxSteps := 4000000) only [sks, d1, pTh, pMc, pInts, pI, tvl, simprocAttr]; done)) | (simp (maxSteps := 4000000) only [d1, pTh, pMc, pInts, pI, tvl, simprocAttr]) | refine ftS (by kernel_rfl) ?_ | refine And.intro (by omega) ?_)
    all_goals (first | rfl | trivial | skip)
set_option maxRecDepth 10000 in
set_option maxHeartbeats 8000000 in
theorem ssameN {xs ys : List Int} (h1 : xs.length ≤ 1048576) (h2 : ys.length ≤ 1048576) : FnOk E.P 102 [pInts xs, pInts ys] (.bool (Bt.tt (xs = ys))) true := by
  obtain ⟨z, hz⟩ : ∃ z, z = Bt.tt (xs = ys) := ⟨_, rfl⟩
  rw [← hz]
  have z1 : xs = ys → z = true := fun e => hz.trans (Bt.tt_t e)
  have z2 : ¬ (xs = ys) → z = false := fun e => hz.trans (Bt.tt_f e)
  clear hz
  by_cases c0 : xs.length = ys.length
  rotate_left
  · have d0 : ((xs.length : Int) != (ys.length : Int)) = true := by rw [bne_iff_ne]; omega
    obtain rfl := z2 (fun e => c0 (by rw [e]))
    refine fn_ok mixed Tryz.func102 rfl (by kernel_rfl) _ Tryz.results102 _ Tryz.ntmps102 (by simp) (by kernel_rfl) ?_
    repeat (first | (refine aops_fnX rfl ?_ ?_; focus (simp (maxSteps := 4000000) only [sks, d0, pTh, pMc, pInts, pI, tvl, simprocAttr]; done)) | (simp (maxSteps := 4000000) only [d0, pTh, pMc, pInts, pI, tvl, simprocAttr]) | refine ftS (by kernel_rfl) ?_ | refine And.intro (by omega) ?_)
    all_goals (first | rfl | trivial | skip)
  have d0 : ((xs.length : Int) != (ys.length : Int)) = false := by rw [bne_eq_false_iff_eq]; omega
  refine fn_ok mixed Tryz.func102 rfl (by kernel_rfl) _ Tryz.results102 _ Tryz.ntmps102 (by simp) (by kernel_rfl) ?_
  repeat (first | (refine aops_fnX rfl ?_ ?_; focus (simp (maxSteps := 4000000) only [sks, d0, pTh, pMc, pInts, pI, tvl, simprocAttr]; done)) | (simp (maxSteps := 4000000) only [d0, pTh, pMc, pInts, pI, tvl, simprocAttr]) | refine ftS (by kernel_rfl) ?_ | refine And.intro (by omega) ?_)
  refine awp_loop (X := Nat) (fun k => [(0, .pv (.lst 3 (xs.map fun x => [.int .i64 x]))), (1, .pv (.lst 3 (ys.map fun x => [.int .i64 x]))), (5, .pv (.int .i64 k))]) (fun k => []) (fun k => k ≤ xs.length ∧ ∀ j, j < k → xs[j]? = ys[j]?) (fun k => xs.length - k) 100 0 ⟨Nat.zero_le _, fun j hj => absurd hj (by omega)⟩ (by simp (maxSteps := 4000000) only [pI, tvl, simprocAttr]; try simp) (fun k hk => ?_)
  obtain ⟨hk, hp⟩ := hk
  by_cases c1 : k < xs.length
  · have c2 : k < ys.length := by omega
    have d1 : decide ((k : Int) < (xs.length : Int)) = true := by simpa using c1
    have e5 : (xs.map fun x => [PV.int .i64 x])[k]? = some [.int .i64 xs[k]] := by simp [c1]
    have e6 : (ys.map fun x => [PV.int .i64 x])[k]? = some [.int .i64 ys[k]] := by simp [c2]
    by_cases c3 : xs[k] = ys[k]
    · have d2 : (xs[k] != ys[k]) = false := by rw [bne_eq_false_iff_eq]; exact c3
      have hn : ∀ j, j < k + 1 → xs[j]? = ys[j]? := fun j hj => by
        rcases Nat.lt_succ_iff_lt_or_eq.1 hj with hj | rfl
        · exact hp j hj
        · rw [List.getElem?_eq_getElem c1, List.getElem?_eq_getElem c2, c3]
      generalize xs[k] = p at *
      generalize ys[k] = q at *
      repeat (first | (refine aops_fnX rfl ?_ ?_; focus (simp (maxSteps := 4000000) only [sks, d0, d1, d2, e5, e6, pTh, pMc, pInts, pI, tvl, simprocAttr]; done)) | (simp (maxSteps := 4000000) only [d0, d1, d2, e5, e6, pTh, pMc, pInts, pI, tvl, simprocAttr]) | refine ftS (by kernel_rfl) ?_ | refine And.intro (by omega) ?_)
      refine ⟨k + 1, ⟨by omega, hn⟩, by omega, ?_⟩
      simp
    · have d2 : (xs[k] != ys[k]) = true := by rw [bne_iff_ne]; exact c3
      obtain rfl := z2 (fun e => c3 (by simp only [e]))
      generalize xs[k] = p at *
      generalize ys[k] = q at *
      repeat (first | (refine aops_fnX rfl ?_ ?_; focus (simp (maxSteps := 4000000) only [sks, d0, d1, d2, e5, e6, pTh, pMc, pInts, pI, tvl, simprocAttr]; done)) | (simp (maxSteps := 4000000) only [d0, d1, d2, e5, e6, pTh, pMc, pInts, pI, tvl, simprocAttr]) | refine ftS (by kernel_rfl) ?_ | refine And.intro (by omega) ?_)
      all_goals (first | rfl | trivial | skip)
  · have d1 : decide ((k : Int) < (xs.length : Int)) = false := by simpa using c1
    obtain rfl := z1 (List.ext_getElem? (fun j => by
      by_cases hj : j < xs.length
      · exact hp j (by omega)
      · rw [List.getElem?_eq_none (by omega), List.getElem?_eq_none (by omega)]))
    repeat (first | (refine aops_fnX rfl ?_ ?_; focus (simp (maxSteps := 4000000) only [sks, d1, pTh, pMc, pInts, pI, tvl, simprocAttr]; done)) | (simp (maxSteps := 4000000) only [d1, pTh, pMc, pInts, pI, tvl, simprocAttr]) | refine ftS (by kernel_rfl) ?_ | refine And.intro (by omega) ?_)
    all_goals (first | rfl | trivial | skip)
set_option maxRecDepth 10000 in
set_option maxHeartbeats 8000000 in
theorem isameT {t u : Bt.Th} (h1 : t.regs.length ≤ 1048576) (h2 : t.stack.length ≤ 1048576) (h3 : u.regs.length ≤ 1048576) (h4 : u.stack.length ≤ 1048576) : FnOk E.P 108 [.agg (pTh t), .agg (pTh u)] (.bool (Bt.tt (t = u))) true := by
  have hR := isameN (xs := t.regs) (ys := u.regs) h1 h3
  have hS := isameN (xs := t.stack) (ys := u.stack) h2 h4
  obtain ⟨pl, regs, stack, st⟩ := t
  obtain ⟨pl', regs', stack', st'⟩ := u
  simp only at hR hS
  obtain ⟨z, hz⟩ : ∃ z, z = Bt.tt ((⟨pl, regs, stack, st⟩ : Bt.Th) = ⟨pl', regs', stack', st'⟩) := ⟨_, rfl⟩
  rw [← hz]
  have z1 : (⟨pl, regs, stack, st⟩ : Bt.Th) = ⟨pl', regs', stack', st'⟩ → z = true := fun e => hz.trans (Bt.tt_t e)
  have z2 : ¬ ((⟨pl, regs, stack, st⟩ : Bt.Th) = ⟨pl', regs', stack', st'⟩) → z = false := fun e => hz.trans (Bt.tt_f e)
  clear hz
  simp only [Bt.Th.mk.injEq] at z1 z2
  by_cases c1 : pl = pl'
  rotate_left
  · have d1 : (pl == pl') = false := by rw [beq_eq_false_iff_ne]; exact c1
    obtain rfl := z2 (fun e => c1 e.1)
    refine fn_ok mixed Tryz.func108 rfl (by kernel_rfl) _ Tryz.results108 _ Tryz.ntmps108 (by simp) (by kernel_rfl) ?_
    repeat (first | (refine aops_fnX rfl ?_ ?_; focus (simp (maxSteps := 4000000) only [sks, d1, pTh, pMc, pInts, pI, tvl, simprocAttr]; done)) | (simp (maxSteps := 4000000) only [d1, pTh, pMc, pInts, pI, tvl, simprocAttr]) | refine ftS (by kernel_rfl) ?_ | refine And.intro (by omega) ?_)
    all_goals (first | rfl | trivial | skip)
  have d1 : (pl == pl') = true := by rw [beq_iff_eq]; exact c1
  by_cases c2 : st = st'
  rotate_left
  · have d2 : (st == st') = false := by rw [beq_eq_false_iff_ne]; exact c2
    obtain rfl := z2 (fun e => c2 e.2.2.2)
    refine fn_ok mixed Tryz.func108 rfl (by kernel_rfl) _ Tryz.results108 _ Tryz.ntmps108 (by simp) (by kernel_rfl) ?_
    repeat (first | (refine aops_fnX rfl ?_ ?_; focus (simp (maxSteps := 4000000) only [sks, d1, d2, pTh, pMc, pInts, pI, tvl, simprocAttr]; done)) | (simp (maxSteps := 4000000) only [d1, d2, pTh, pMc, pInts, pI, tvl, simprocAttr]) | refine ftS (by kernel_rfl) ?_ | refine And.intro (by omega) ?_)
    all_goals (first | rfl | trivial | skip)
  have d2 : (st == st') = true := by rw [beq_iff_eq]; exact c2
  by_cases c3 : regs = regs'
  rotate_left
  · rw [Bt.tt_f c3] at hR
    obtain rfl := z2 (fun e => c3 e.2.1)
    refine fn_ok mixed Tryz.func108 rfl (by kernel_rfl) _ Tryz.results108 _ Tryz.ntmps108 (by simp) (by kernel_rfl) ?_
    repeat (first | (refine aops_fnX rfl ?_ ?_; focus (simp (maxSteps := 4000000) only [sks, d1, d2, pTh, pMc, pInts, pI, tvl, simprocAttr]; done)) | (simp (maxSteps := 4000000) only [d1, d2, pTh, pMc, pInts, pI, tvl, simprocAttr]) | refine ftS (by kernel_rfl) ?_ | refine And.intro (by omega) ?_)
    refine aops_fnG (hR) (hidB rfl) rfl rfl (by simp (maxSteps := 4000000) only [d1, d2, pTh, pMc, pInts, pI, tvs, simprocAttr]) ?_
    repeat (first | (refine aops_fnX rfl ?_ ?_; focus (simp (maxSteps := 4000000) only [sks, d1, d2, pTh, pMc, pInts, pI, tvl, simprocAttr]; done)) | (simp (maxSteps := 4000000) only [d1, d2, pTh, pMc, pInts, pI, tvl, simprocAttr]) | refine ftS (by kernel_rfl) ?_ | refine And.intro (by omega) ?_)
    all_goals (first | rfl | trivial | skip)
  rw [Bt.tt_t c3] at hR
  by_cases c4 : stack = stack'
  · rw [Bt.tt_t c4] at hS
    obtain rfl := z1 ⟨c1, c3, c4, c2⟩
    refine fn_ok mixed Tryz.func108 rfl (by kernel_rfl) _ Tryz.results108 _ Tryz.ntmps108 (by simp) (by kernel_rfl) ?_
    repeat (first | (refine aops_fnX rfl ?_ ?_; focus (simp (maxSteps := 4000000) only [sks, d1, d2, pTh, pMc, pInts, pI, tvl, simprocAttr]; done)) | (simp (maxSteps := 4000000) only [d1, d2, pTh, pMc, pInts, pI, tvl, simprocAttr]) | refine ftS (by kernel_rfl) ?_ | refine And.intro (by omega) ?_)
    refine aops_fnG (hR) (hidB rfl) rfl rfl (by simp (maxSteps := 4000000) only [d1, d2, pTh, pMc, pInts, pI, tvs, simprocAttr]) ?_
    repeat (first | (refine aops_fnX rfl ?_ ?_; focus (simp (maxSteps := 4000000) only [sks, d1, d2, pTh, pMc, pInts, pI, tvl, simprocAttr]; done)) | (simp (maxSteps := 4000000) only [d1, d2, pTh, pMc, pInts, pI, tvl, simprocAttr]) | refine ftS (by kernel_rfl) ?_ | refine And.intro (by omega) ?_)
    refine aops_fnG (hS) (hidB rfl) rfl rfl (by simp (maxSteps := 4000000) only [d1, d2, pTh, pMc, pInts, pI, tvs, simprocAttr]) ?_
    repeat (first | (refine aops_fnX rfl ?_ ?_; focus (simp (maxSteps := 4000000) only [sks, pTh, pMc, pInts, pI, tvl, simprocAttr]; done)) | (simp (maxSteps := 4000000) only [pTh, pMc, pInts, pI, tvl, simprocAttr]) | refine ftS (by kernel_rfl) ?_ | refine And.intro (by omega) ?_)
    all_goals (first | rfl | trivial | skip)
  · rw [Bt.tt_f c4] at hS
    obtain rfl := z2 (fun e => c4 e.2.2.1)
    refine fn_ok mixed Tryz.func108 rfl (by kernel_rfl) _ Tryz.results108 _ Tryz.ntmps108 (by simp) (by kernel_rfl) ?_
    repeat (first | (refine aops_fnX rfl ?_ ?_; focus (simp (maxSteps := 4000000) only [sks, d1, d2, pTh, pMc, pInts, pI, tvl, simprocAttr]; done)) | (simp (maxSteps := 4000000) only [d1, d2, pTh, pMc, pInts, pI, tvl, simprocAttr]) | refine ftS (by kernel_rfl) ?_ | refine And.intro (by omega) ?_)
    refine aops_fnG (hR) (hidB rfl) rfl rfl (by simp (maxSteps := 4000000) only [d1, d2, pTh, pMc, pInts, pI, tvs, simprocAttr]) ?_
    repeat (first | (refine aops_fnX rfl ?_ ?_; focus (simp (maxSteps := 4000000) only [sks, d1, d2, pTh, pMc, pInts, pI, tvl, simprocAttr]; done)) | (simp (maxSteps := 4000000) only [d1, d2, pTh, pMc, pInts, pI, tvl, simprocAttr]) | refine ftS (by kernel_rfl) ?_ | refine And.intro (by omega) ?_)
    refine aops_fnG (hS) (hidB rfl) rfl rfl (by simp (maxSteps := 4000000) only [d1, d2, pTh, pMc, pInts, pI, tvs, simprocAttr]) ?_
    repeat (first | (refine aops_fnX rfl ?_ ?_; focus (simp (maxSteps := 4000000) only [sks, pTh, pMc, pInts, pI, tvl, simprocAttr]; done)) | (simp (maxSteps := 4000000) only [pTh, pMc, pInts, pI, tvl, simprocAttr]) | refine ftS (by kernel_rfl) ?_ | refine And.intro (by omega) ?_)
    all_goals (first | rfl | trivial | skip)
set_option maxRecDepth 10000 in
set_option maxHeartbeats 8000000 in
theorem iSame_ok {a b : Bt.Mc} (ha : Small a) (hb : Small b) : FnOk E.P 82 [.agg (pMc a), .agg (pMc b)] (.bool (Bt.tt (a = b))) true := by
  have hC := isameN (xs := a.cells) (ys := b.cells) ha.cells hb.cells
  have hL := isameN (xs := a.locks) (ys := b.locks) ha.locks hb.locks
  have hT := isameN (xs := a.told) (ys := b.told) ha.told hb.told
  have m1 := ha.ths
  have m2 := hb.ths
  have r1 := ha.regs
  have r2 := ha.stack
  have r3 := hb.regs
  have r4 := hb.stack
  clear ha hb
  obtain ⟨ths, cells, locks, told⟩ := a
  obtain ⟨ths', cells', locks', told'⟩ := b
  simp only at hC hL hT m1 m2 r1 r2 r3 r4
  obtain ⟨z, hz⟩ : ∃ z, z = Bt.tt ((⟨ths, cells, locks, told⟩ : Bt.Mc) = ⟨ths', cells', locks', told'⟩) := ⟨_, rfl⟩
  rw [← hz]
  have z1 : (⟨ths, cells, locks, told⟩ : Bt.Mc) = ⟨ths', cells', locks', told'⟩ → z = true := fun e => hz.trans (Bt.tt_t e)
  have z2 : ¬ ((⟨ths, cells, locks, told⟩ : Bt.Mc) = ⟨ths', cells', locks', told'⟩) → z = false := fun e => hz.trans (Bt.tt_f e)
  clear hz
  simp only [Bt.Mc.mk.injEq] at z1 z2
  by_cases c0 : ths.length = ths'.length
  rotate_left
  · have d0 : ((ths.length : Int) != (ths'.length : Int)) = true := by rw [bne_iff_ne]; omega
    obtain rfl := z2 (fun e => c0 (by rw [e.1]))
    refine fn_ok mixed Tryz.func82 rfl (by kernel_rfl) _ Tryz.results82 _ Tryz.ntmps82 (by simp) (by kernel_rfl) ?_
    repeat (first | (refine aops_fnX rfl ?_ ?_; focus (simp (maxSteps := 4000000) only [sks, d0, pTh, pMc, pInts, pI, tvl, simprocAttr]; done)) | (simp (maxSteps := 4000000) only [d0, pTh, pMc, pInts, pI, tvl, simprocAttr]) | refine ftS (by kernel_rfl) ?_ | refine And.intro (by omega) ?_)
    all_goals (first | rfl | trivial | skip)
  have d0 : ((ths.length : Int) != (ths'.length : Int)) = false := by rw [bne_eq_false_iff_eq]; omega
  refine fn_ok mixed Tryz.func82 rfl (by kernel_rfl) _ Tryz.results82 _ Tryz.ntmps82 (by simp) (by kernel_rfl) ?_
  repeat (first | (refine aops_fnX rfl ?_ ?_; focus (simp (maxSteps := 4000000) only [sks, d0, pTh, pMc, pInts, pI, tvl, simprocAttr]; done)) | (simp (maxSteps := 4000000) only [d0, pTh, pMc, pInts, pI, tvl, simprocAttr]) | refine ftS (by kernel_rfl) ?_ | refine And.intro (by omega) ?_)
  refine awp_loop (X := Nat) (fun k => [(2, .ptr 0 0), (3, .ptr 1 0), (15, .pv (.int .i64 ths.length)), (16, .pv (.int .i64 k))]) (fun k => [(0, .box (sBox ⟨ths, cells, locks, told⟩)), (1, .box (sBox ⟨ths', cells', locks', told'⟩))]) (fun k => k ≤ ths.length ∧ ∀ j, j < k → ths[j]? = ths'[j]?) (fun k => ths.length - k) 100 0 ⟨Nat.zero_le _, fun j hj => absurd hj (by omega)⟩ (by simp (maxSteps := 4000000) only [sBox, pI, tvl, simprocAttr]; try simp) (fun k hk => ?_)
  obtain ⟨hk, hp⟩ := hk
  by_cases c1 : k < ths.length
  · have c2 : k < ths'.length := by omega
    have d1 : decide ((k : Int) < (ths.length : Int)) = true := by simpa using c1
    have e5 : (ths.map pTh)[k]? = some (pTh ths[k]) := by simp [c1]
    have e6 : (ths'.map pTh)[k]? = some (pTh ths'[k]) := by simp [c2]
    have hq := isameT (t := ths[k]) (u := ths'[k]) (r1 k c1) (r2 k c1) (r3 k c2) (r4 k c2)
    by_cases c3 : ths[k] = ths'[k]
    · rw [Bt.tt_t c3] at hq
      have hn : ∀ j, j < k + 1 → ths[j]? = ths'[j]? := fun j hj => by
        rcases Nat.lt_succ_iff_lt_or_eq.1 hj with hj | rfl
        · exact hp j hj
        · rw [List.getElem?_eq_getElem c1, List.getElem?_eq_getElem c2, c3]
      clear r1 r2 r3 r4
      generalize ths[k] = p at *
      generalize ths'[k] = q at *
      repeat (first | (refine aops_fnX rfl ?_ ?_; focus (simp (maxSteps := 4000000) only [sks, d0, d1, e5, e6, sBox, pTh, pMc, pInts, pI, tvl, simprocAttr]; done)) | (simp (maxSteps := 4000000) only [d0, d1, e5, e6, sBox, pTh, pMc, pInts, pI, tvl, simprocAttr]) | refine ftS (by kernel_rfl) ?_ | refine And.intro (by omega) ?_)
      refine aops_fn (hq) (hidB rfl) rfl ?_
      repeat (first | (refine aops_fnX rfl ?_ ?_; focus (simp (maxSteps := 4000000) only [sks, d0, d1, e5, e6, sBox, pTh, pMc, pInts, pI, tvl, simprocAttr]; done)) | (simp (maxSteps := 4000000) only [d0, d1, e5, e6, sBox, pTh, pMc, pInts, pI, tvl, simprocAttr]) | refine ftS (by kernel_rfl) ?_ | refine And.intro (by omega) ?_)
      refine ⟨k + 1, ⟨by omega, hn⟩, by omega, ?_⟩
      simp [sBox]
    · rw [Bt.tt_f c3] at hq
      obtain rfl := z2 (fun e => c3 (by simp only [e.1]))
      clear r1 r2 r3 r4
      generalize ths[k] = p at *
      generalize ths'[k] = q at *
      repeat (first | (refine aops_fnX rfl ?_ ?_; focus (simp (maxSteps := 4000000) only [sks, d0, d1, e5, e6, sBox, pTh, pMc, pInts, pI, tvl, simprocAttr]; done)) | (simp (maxSteps := 4000000) only [d0, d1, e5, e6, sBox, pTh, pMc, pInts, pI, tvl, simprocAttr]) | refine ftS (by kernel_rfl) ?_ | refine And.intro (by omega) ?_)
      refine aops_fn (hq) (hidB rfl) rfl ?_
      repeat (first | (refine aops_fnX rfl ?_ ?_; focus (simp (maxSteps := 4000000) only [sks, d0, d1, e5, e6, sBox, pTh, pMc, pInts, pI, tvl, simprocAttr]; done)) | (simp (maxSteps := 4000000) only [d0, d1, e5, e6, sBox, pTh, pMc, pInts, pI, tvl, simprocAttr]) | refine ftS (by kernel_rfl) ?_ | refine And.intro (by omega) ?_)
      all_goals (first | rfl | trivial | skip)
  · have d1 : decide ((k : Int) < (ths.length : Int)) = false := by simpa using c1
    have ht : ths = ths' := List.ext_getElem? (fun j => by
      by_cases hj : j < ths.length
      · exact hp j (by omega)
      · rw [List.getElem?_eq_none (by omega), List.getElem?_eq_none (by omega)])
    clear r1 r2 r3 r4
    by_cases v1 : cells = cells'
    rotate_left
    · rw [Bt.tt_f v1] at hC
      obtain rfl := z2 (fun e => v1 e.2.1)
      repeat (first | (refine aops_fnX rfl ?_ ?_; focus (simp (maxSteps := 4000000) only [sks, d1, sBox, pTh, pMc, pInts, pI, tvl, simprocAttr]; done)) | (simp (maxSteps := 4000000) only [d1, sBox, pTh, pMc, pInts, pI, tvl, simprocAttr]) | refine ftS (by kernel_rfl) ?_ | refine And.intro (by omega) ?_)
      refine aops_fn (hC) (hidB rfl) rfl ?_
      repeat (first | (refine aops_fnX rfl ?_ ?_; focus (simp (maxSteps := 4000000) only [sks, d1, sBox, pTh, pMc, pInts, pI, tvl, simprocAttr]; done)) | (simp (maxSteps := 4000000) only [d1, sBox, pTh, pMc, pInts, pI, tvl, simprocAttr]) | refine ftS (by kernel_rfl) ?_ | refine And.intro (by omega) ?_)
      all_goals (first | rfl | trivial | skip)
    rw [Bt.tt_t v1] at hC
    by_cases v2 : locks = locks'
    rotate_left
    · rw [Bt.tt_f v2] at hL
      obtain rfl := z2 (fun e => v2 e.2.2.1)
      repeat (first | (refine aops_fnX rfl ?_ ?_; focus (simp (maxSteps := 4000000) only [sks, d1, sBox, pTh, pMc, pInts, pI, tvl, simprocAttr]; done)) | (simp (maxSteps := 4000000) only [d1, sBox, pTh, pMc, pInts, pI, tvl, simprocAttr]) | refine ftS (by kernel_rfl) ?_ | refine And.intro (by omega) ?_)
      refine aops_fn (hC) (hidB rfl) rfl ?_
      repeat (first | (refine aops_fnX rfl ?_ ?_; focus (simp (maxSteps := 4000000) only [sks, d1, sBox, pTh, pMc, pInts, pI, tvl, simprocAttr]; done)) | (simp (maxSteps := 4000000) only [d1, sBox, pTh, pMc, pInts, pI, tvl, simprocAttr]) | refine ftS (by kernel_rfl) ?_ | refine And.intro (by omega) ?_)
      refine aops_fnG (hL) (hidB rfl) rfl rfl (by simp (maxSteps := 4000000) only [sBox, pTh, pMc, pInts, pI, tvs, simprocAttr]) ?_
      repeat (first | (refine aops_fnX rfl ?_ ?_; focus (simp (maxSteps := 4000000) only [sks, sBox, pTh, pMc, pInts, pI, tvl, simprocAttr]; done)) | (simp (maxSteps := 4000000) only [sBox, pTh, pMc, pInts, pI, tvl, simprocAttr]) | refine ftS (by kernel_rfl) ?_ | refine And.intro (by omega) ?_)
      all_goals (first | rfl | trivial | skip)
    rw [Bt.tt_t v2] at hL
    by_cases v3 : told = told'
    · rw [Bt.tt_t v3] at hT
      obtain rfl := z1 ⟨ht, v1, v2, v3⟩
      repeat (first | (refine aops_fnX rfl ?_ ?_; focus (simp (maxSteps := 4000000) only [sks, d1, sBox, pTh, pMc, pInts, pI, tvl, simprocAttr]; done)) | (simp (maxSteps := 4000000) only [d1, sBox, pTh, pMc, pInts, pI, tvl, simprocAttr]) | refine ftS (by kernel_rfl) ?_ | refine And.intro (by omega) ?_)
      refine aops_fn (hC) (hidB rfl) rfl ?_
      repeat (first | (refine aops_fnX rfl ?_ ?_; focus (simp (maxSteps := 4000000) only [sks, d1, sBox, pTh, pMc, pInts, pI, tvl, simprocAttr]; done)) | (simp (maxSteps := 4000000) only [d1, sBox, pTh, pMc, pInts, pI, tvl, simprocAttr]) | refine ftS (by kernel_rfl) ?_ | refine And.intro (by omega) ?_)
      refine aops_fnG (hL) (hidB rfl) rfl rfl (by simp (maxSteps := 4000000) only [sBox, pTh, pMc, pInts, pI, tvs, simprocAttr]) ?_
      repeat (first | (refine aops_fnX rfl ?_ ?_; focus (simp (maxSteps := 4000000) only [sks, sBox, pTh, pMc, pInts, pI, tvl, simprocAttr]; done)) | (simp (maxSteps := 4000000) only [sBox, pTh, pMc, pInts, pI, tvl, simprocAttr]) | refine ftS (by kernel_rfl) ?_ | refine And.intro (by omega) ?_)
      refine aops_fnG (hT) (hidB rfl) rfl rfl (by simp (maxSteps := 4000000) only [sBox, pTh, pMc, pInts, pI, tvs, simprocAttr]) ?_
      repeat (first | (refine aops_fnX rfl ?_ ?_; focus (simp (maxSteps := 4000000) only [sks, sBox, pTh, pMc, pInts, pI, tvl, simprocAttr]; done)) | (simp (maxSteps := 4000000) only [sBox, pTh, pMc, pInts, pI, tvl, simprocAttr]) | refine ftS (by kernel_rfl) ?_ | refine And.intro (by omega) ?_)
      all_goals (first | rfl | trivial | skip)
    · rw [Bt.tt_f v3] at hT
      obtain rfl := z2 (fun e => v3 e.2.2.2)
      repeat (first | (refine aops_fnX rfl ?_ ?_; focus (simp (maxSteps := 4000000) only [sks, d1, sBox, pTh, pMc, pInts, pI, tvl, simprocAttr]; done)) | (simp (maxSteps := 4000000) only [d1, sBox, pTh, pMc, pInts, pI, tvl, simprocAttr]) | refine ftS (by kernel_rfl) ?_ | refine And.intro (by omega) ?_)
      refine aops_fn (hC) (hidB rfl) rfl ?_
      repeat (first | (refine aops_fnX rfl ?_ ?_; focus (simp (maxSteps := 4000000) only [sks, d1, sBox, pTh, pMc, pInts, pI, tvl, simprocAttr]; done)) | (simp (maxSteps := 4000000) only [d1, sBox, pTh, pMc, pInts, pI, tvl, simprocAttr]) | refine ftS (by kernel_rfl) ?_ | refine And.intro (by omega) ?_)
      refine aops_fnG (hL) (hidB rfl) rfl rfl (by simp (maxSteps := 4000000) only [sBox, pTh, pMc, pInts, pI, tvs, simprocAttr]) ?_
      repeat (first | (refine aops_fnX rfl ?_ ?_; focus (simp (maxSteps := 4000000) only [sks, sBox, pTh, pMc, pInts, pI, tvl, simprocAttr]; done)) | (simp (maxSteps := 4000000) only [sBox, pTh, pMc, pInts, pI, tvl, simprocAttr]) | refine ftS (by kernel_rfl) ?_ | refine And.intro (by omega) ?_)
      refine aops_fnG (hT) (hidB rfl) rfl rfl (by simp (maxSteps := 4000000) only [sBox, pTh, pMc, pInts, pI, tvs, simprocAttr]) ?_
      repeat (first | (refine aops_fnX rfl ?_ ?_; focus (simp (maxSteps := 4000000) only [sks, sBox, pTh, pMc, pInts, pI, tvl, simprocAttr]; done)) | (simp (maxSteps := 4000000) only [sBox, pTh, pMc, pInts, pI, tvl, simprocAttr]) | refine ftS (by kernel_rfl) ?_ | refine And.intro (by omega) ?_)
      all_goals (first | rfl | trivial | skip)
set_option maxRecDepth 10000 in
set_option maxHeartbeats 8000000 in
theorem sSame_ok {a b : Bt.Mc} (ha : Small a) (hb : Small b) : FnOk E.P 74 [.agg (pMc a), .agg (pMc b)] (.bool (Bt.tt (a = b))) true := by
  have hC := ssameN (xs := a.cells) (ys := b.cells) ha.cells hb.cells
  have hL := ssameN (xs := a.locks) (ys := b.locks) ha.locks hb.locks
  have hT := ssameN (xs := a.told) (ys := b.told) ha.told hb.told
  have m1 := ha.ths
  have m2 := hb.ths
  have r1 := ha.regs
  have r2 := ha.stack
  have r3 := hb.regs
  have r4 := hb.stack
  clear ha hb
  obtain ⟨ths, cells, locks, told⟩ := a
  obtain ⟨ths', cells', locks', told'⟩ := b
  simp only at hC hL hT m1 m2 r1 r2 r3 r4
  obtain ⟨z, hz⟩ : ∃ z, z = Bt.tt ((⟨ths, cells, locks, told⟩ : Bt.Mc) = ⟨ths', cells', locks', told'⟩) := ⟨_, rfl⟩
  rw [← hz]
  have z1 : (⟨ths, cells, locks, told⟩ : Bt.Mc) = ⟨ths', cells', locks', told'⟩ → z = true := fun e => hz.trans (Bt.tt_t e)
  have z2 : ¬ ((⟨ths, cells, locks, told⟩ : Bt.Mc) = ⟨ths', cells', locks', told'⟩) → z = false := fun e => hz.trans (Bt.tt_f e)
  clear hz
  simp only [Bt.Mc.mk.injEq] at z1 z2
  by_cases c0 : ths.length = ths'.length
  rotate_left
  · have d0 : ((ths.length : Int) != (ths'.length : Int)) = true := by rw [bne_iff_ne]; omega
    obtain rfl := z2 (fun e => c0 (by rw [e.1]))
    refine fn_ok mixed Tryz.func74 rfl (by kernel_rfl) _ Tryz.results74 _ Tryz.ntmps74 (by simp) (by kernel_rfl) ?_
    repeat (first | (refine aops_fnX rfl ?_ ?_; focus (simp (maxSteps := 4000000) only [sks, d0, pTh, pMc, pInts, pI, tvl, simprocAttr]; done)) | (simp (maxSteps := 4000000) only [d0, pTh, pMc, pInts, pI, tvl, simprocAttr]) | refine ftS (by kernel_rfl) ?_ | refine And.intro (by omega) ?_)
    all_goals (first | rfl | trivial | skip)
  have d0 : ((ths.length : Int) != (ths'.length : Int)) = false := by rw [bne_eq_false_iff_eq]; omega
  by_cases v1 : cells = cells'
  rotate_left
  · rw [Bt.tt_f v1] at hC
    obtain rfl := z2 (fun e => v1 e.2.1)
    refine fn_ok mixed Tryz.func74 rfl (by kernel_rfl) _ Tryz.results74 _ Tryz.ntmps74 (by simp) (by kernel_rfl) ?_
    repeat (first | (refine aops_fnX rfl ?_ ?_; focus (simp (maxSteps := 4000000) only [sks, d0, pTh, pMc, pInts, pI, tvl, simprocAttr]; done)) | (simp (maxSteps := 4000000) only [d0, pTh, pMc, pInts, pI, tvl, simprocAttr]) | refine ftS (by kernel_rfl) ?_ | refine And.intro (by omega) ?_)
    refine aops_fnG (hC) (hidB rfl) rfl rfl (by simp (maxSteps := 4000000) only [d0, pTh, pMc, pInts, pI, tvl, simprocAttr]) ?_
    repeat (first | (refine aops_fnX rfl ?_ ?_; focus (simp (maxSteps := 4000000) only [sks, d0, pTh, pMc, pInts, pI, tvl, simprocAttr]; done)) | (simp (maxSteps := 4000000) only [d0, pTh, pMc, pInts, pI, tvl, simprocAttr]) | refine ftS (by kernel_rfl) ?_ | refine And.intro (by omega) ?_)
    all_goals (first | rfl | trivial | skip)
  rw [Bt.tt_t v1] at hC
  by_cases v2 : locks = locks'
  rotate_left
  · rw [Bt.tt_f v2] at hL
    obtain rfl := z2 (fun e => v2 e.2.2.1)
    refine fn_ok mixed Tryz.func74 rfl (by kernel_rfl) _ Tryz.results74 _ Tryz.ntmps74 (by simp) (by kernel_rfl) ?_
    repeat (first | (refine aops_fnX rfl ?_ ?_; focus (simp (maxSteps := 4000000) only [sks, d0, pTh, pMc, pInts, pI, tvl, simprocAttr]; done)) | (simp (maxSteps := 4000000) only [d0, pTh, pMc, pInts, pI, tvl, simprocAttr]) | refine ftS (by kernel_rfl) ?_ | refine And.intro (by omega) ?_)
    refine aops_fnG (hC) (hidB rfl) rfl rfl (by simp (maxSteps := 4000000) only [d0, pTh, pMc, pInts, pI, tvl, simprocAttr]) ?_
    repeat (first | (refine aops_fnX rfl ?_ ?_; focus (simp (maxSteps := 4000000) only [sks, d0, pTh, pMc, pInts, pI, tvl, simprocAttr]; done)) | (simp (maxSteps := 4000000) only [d0, pTh, pMc, pInts, pI, tvl, simprocAttr]) | refine ftS (by kernel_rfl) ?_ | refine And.intro (by omega) ?_)
    refine aops_fnG (hL) (hidB rfl) rfl rfl (by simp (maxSteps := 4000000) only [d0, pTh, pMc, pInts, pI, tvl, simprocAttr]) ?_
    repeat (first | (refine aops_fnX rfl ?_ ?_; focus (simp (maxSteps := 4000000) only [sks, d0, pTh, pMc, pInts, pI, tvl, simprocAttr]; done)) | (simp (maxSteps := 4000000) only [d0, pTh, pMc, pInts, pI, tvl, simprocAttr]) | refine ftS (by kernel_rfl) ?_ | refine And.intro (by omega) ?_)
    all_goals (first | rfl | trivial | skip)
  rw [Bt.tt_t v2] at hL
  by_cases v3 : told = told'
  rotate_left
  · rw [Bt.tt_f v3] at hT
    obtain rfl := z2 (fun e => v3 e.2.2.2)
    refine fn_ok mixed Tryz.func74 rfl (by kernel_rfl) _ Tryz.results74 _ Tryz.ntmps74 (by simp) (by kernel_rfl) ?_
    repeat (first | (refine aops_fnX rfl ?_ ?_; focus (simp (maxSteps := 4000000) only [sks, d0, pTh, pMc, pInts, pI, tvl, simprocAttr]; done)) | (simp (maxSteps := 4000000) only [d0, pTh, pMc, pInts, pI, tvl, simprocAttr]) | refine ftS (by kernel_rfl) ?_ | refine And.intro (by omega) ?_)
    refine aops_fnG (hC) (hidB rfl) rfl rfl (by simp (maxSteps := 4000000) only [d0, pTh, pMc, pInts, pI, tvl, simprocAttr]) ?_
    repeat (first | (refine aops_fnX rfl ?_ ?_; focus (simp (maxSteps := 4000000) only [sks, d0, pTh, pMc, pInts, pI, tvl, simprocAttr]; done)) | (simp (maxSteps := 4000000) only [d0, pTh, pMc, pInts, pI, tvl, simprocAttr]) | refine ftS (by kernel_rfl) ?_ | refine And.intro (by omega) ?_)
    refine aops_fnG (hL) (hidB rfl) rfl rfl (by simp (maxSteps := 4000000) only [d0, pTh, pMc, pInts, pI, tvl, simprocAttr]) ?_
    repeat (first | (refine aops_fnX rfl ?_ ?_; focus (simp (maxSteps := 4000000) only [sks, d0, pTh, pMc, pInts, pI, tvl, simprocAttr]; done)) | (simp (maxSteps := 4000000) only [d0, pTh, pMc, pInts, pI, tvl, simprocAttr]) | refine ftS (by kernel_rfl) ?_ | refine And.intro (by omega) ?_)
    refine aops_fnG (hT) (hidB rfl) rfl rfl (by simp (maxSteps := 4000000) only [d0, pTh, pMc, pInts, pI, tvl, simprocAttr]) ?_
    repeat (first | (refine aops_fnX rfl ?_ ?_; focus (simp (maxSteps := 4000000) only [sks, d0, pTh, pMc, pInts, pI, tvl, simprocAttr]; done)) | (simp (maxSteps := 4000000) only [d0, pTh, pMc, pInts, pI, tvl, simprocAttr]) | refine ftS (by kernel_rfl) ?_ | refine And.intro (by omega) ?_)
    all_goals (first | rfl | trivial | skip)
  rw [Bt.tt_t v3] at hT
  refine fn_ok mixed Tryz.func74 rfl (by kernel_rfl) _ Tryz.results74 _ Tryz.ntmps74 (by simp) (by kernel_rfl) ?_
  repeat (first | (refine aops_fnX rfl ?_ ?_; focus (simp (maxSteps := 4000000) only [sks, d0, pTh, pMc, pInts, pI, tvl, simprocAttr]; done)) | (simp (maxSteps := 4000000) only [d0, pTh, pMc, pInts, pI, tvl, simprocAttr]) | refine ftS (by kernel_rfl) ?_ | refine And.intro (by omega) ?_)
  refine aops_fnG (hC) (hidB rfl) rfl rfl (by simp (maxSteps := 4000000) only [d0, pTh, pMc, pInts, pI, tvl, simprocAttr]) ?_
  repeat (first | (refine aops_fnX rfl ?_ ?_; focus (simp (maxSteps := 4000000) only [sks, d0, pTh, pMc, pInts, pI, tvl, simprocAttr]; done)) | (simp (maxSteps := 4000000) only [d0, pTh, pMc, pInts, pI, tvl, simprocAttr]) | refine ftS (by kernel_rfl) ?_ | refine And.intro (by omega) ?_)
  refine aops_fnG (hL) (hidB rfl) rfl rfl (by simp (maxSteps := 4000000) only [d0, pTh, pMc, pInts, pI, tvl, simprocAttr]) ?_
  repeat (first | (refine aops_fnX rfl ?_ ?_; focus (simp (maxSteps := 4000000) only [sks, d0, pTh, pMc, pInts, pI, tvl, simprocAttr]; done)) | (simp (maxSteps := 4000000) only [d0, pTh, pMc, pInts, pI, tvl, simprocAttr]) | refine ftS (by kernel_rfl) ?_ | refine And.intro (by omega) ?_)
  refine aops_fnG (hT) (hidB rfl) rfl rfl (by simp (maxSteps := 4000000) only [d0, pTh, pMc, pInts, pI, tvl, simprocAttr]) ?_
  repeat (first | (refine aops_fnX rfl ?_ ?_; focus (simp (maxSteps := 4000000) only [sks, d0, pTh, pMc, pInts, pI, tvl, simprocAttr]; done)) | (simp (maxSteps := 4000000) only [d0, pTh, pMc, pInts, pI, tvl, simprocAttr]) | refine ftS (by kernel_rfl) ?_ | refine And.intro (by omega) ?_)
  refine awp_loop (X := Nat) (fun k => [(2, .ptr 0 0), (3, .ptr 1 0), (5, .pv (.int .i64 k))]) (fun k => [(0, .box (sBox ⟨ths, cells, locks, told⟩)), (1, .box (sBox ⟨ths', cells', locks', told'⟩))]) (fun k => k ≤ ths.length ∧ ∀ j, j < k → ths[j]? = ths'[j]?) (fun k => ths.length - k) 100 0 ⟨Nat.zero_le _, fun j hj => absurd hj (by omega)⟩ (by simp (maxSteps := 4000000) only [sBox, pI, tvl, simprocAttr]; try simp) (fun k hk => ?_)
  obtain ⟨hk, hp⟩ := hk
  clear hC hL hT
  by_cases c1 : k < ths.length
  · have c2 : k < ths'.length := by omega
    have d1 : decide ((k : Int) < (ths.length : Int)) = true := by simpa using c1
    obtain ⟨t, ht⟩ : ∃ t, ths[k] = t := ⟨_, rfl⟩
    obtain ⟨u, hu⟩ : ∃ u, ths'[k] = u := ⟨_, rfl⟩
    have e5 : (ths.map pTh)[k]? = some (pTh t) := by rw [← ht]; simp [c1]
    have e6 : (ths'.map pTh)[k]? = some (pTh u) := by rw [← hu]; simp [c2]
    have hn : t = u → ∀ j, j < k + 1 → ths[j]? = ths'[j]? := fun htu j hj => by
      rcases Nat.lt_succ_iff_lt_or_eq.1 hj with hj | rfl
      · exact hp j hj
      · rw [List.getElem?_eq_getElem c1, List.getElem?_eq_getElem c2, ht, hu, htu]
    have hne : t ≠ u → ¬ (ths = ths' ∧ cells = cells' ∧ locks = locks' ∧ told = told') := fun htu e => htu (by rw [← ht, ← hu]; simp only [e.1])
    have hR := ssameN (xs := t.regs) (ys := u.regs) (by rw [← ht]; exact r1 k c1) (by rw [← hu]; exact r3 k c2)
    have hS := ssameN (xs := t.stack) (ys := u.stack) (by rw [← ht]; exact r2 k c1) (by rw [← hu]; exact r4 k c2)
    clear r1 r2 r3 r4 ht hu
    obtain ⟨pl, regs, stack, st⟩ := t
    obtain ⟨pl', regs', stack', st'⟩ := u
    simp only [ne_eq, Bt.Th.mk.injEq] at hR hS hn hne
    by_cases w1 : pl = pl'
    rotate_left
    · have d2 : (pl != pl') = true := by rw [bne_iff_ne]; exact w1
      obtain rfl := z2 (hne (fun e => w1 e.1))
      repeat (first | (refine aops_fnX rfl ?_ ?_; focus (simp (maxSteps := 4000000) only [sks, d0, d1, e5, e6, sBox, d2, pTh, pMc, pInts, pI, tvl, simprocAttr]; done)) | (simp (maxSteps := 4000000) only [d0, d1, e5, e6, sBox, d2, pTh, pMc, pInts, pI, tvl, simprocAttr]) | refine ftS (by kernel_rfl) ?_ | refine And.intro (by omega) ?_)
      all_goals (first | rfl | trivial | skip)
    have d2 : (pl != pl') = false := by rw [bne_eq_false_iff_eq]; exact w1
    by_cases w2 : st = st'
    rotate_left
    · have d3 : (st != st') = true := by rw [bne_iff_ne]; exact w2
      obtain rfl := z2 (hne (fun e => w2 e.2.2.2))
      repeat (first | (refine aops_fnX rfl ?_ ?_; focus (simp (maxSteps := 4000000) only [sks, d0, d1, e5, e6, sBox, d2, d3, pTh, pMc, pInts, pI, tvl, simprocAttr]; done)) | (simp (maxSteps := 4000000) only [d0, d1, e5, e6, sBox, d2, d3, pTh, pMc, pInts, pI, tvl, simprocAttr]) | refine ftS (by kernel_rfl) ?_ | refine And.intro (by omega) ?_)
      all_goals (first | rfl | trivial | skip)
    have d3 : (st != st') = false := by rw [bne_eq_false_iff_eq]; exact w2
    by_cases w3 : regs = regs'
    rotate_left
    · rw [Bt.tt_f w3] at hR
      obtain rfl := z2 (hne (fun e => w3 e.2.1))
      repeat (first | (refine aops_fnX rfl ?_ ?_; focus (simp (maxSteps := 4000000) only [sks, d0, d1, e5, e6, sBox, d2, d3, pTh, pMc, pInts, pI, tvl, simprocAttr]; done)) | (simp (maxSteps := 4000000) only [d0, d1, e5, e6, sBox, d2, d3, pTh, pMc, pInts, pI, tvl, simprocAttr]) | refine ftS (by kernel_rfl) ?_ | refine And.intro (by omega) ?_)
      refine aops_fnG (hR) (hidB rfl) rfl rfl (by simp (maxSteps := 4000000) only [d2, d3, pTh, pMc, pInts, pI, tvs, simprocAttr]) ?_
      repeat (first | (refine aops_fnX rfl ?_ ?_; focus (simp (maxSteps := 4000000) only [sks, d0, d1, e5, e6, sBox, d2, d3, pTh, pMc, pInts, pI, tvl, simprocAttr]; done)) | (simp (maxSteps := 4000000) only [d0, d1, e5, e6, sBox, d2, d3, pTh, pMc, pInts, pI, tvl, simprocAttr]) | refine ftS (by kernel_rfl) ?_ | refine And.intro (by omega) ?_)
      all_goals (first | rfl | trivial | skip)
    rw [Bt.tt_t w3] at hR
    by_cases w4 : stack = stack'
    · rw [Bt.tt_t w4] at hS
      have hn' := hn ⟨w1, w3, w4, w2⟩
      clear hn hne
      repeat (first | (refine aops_fnX rfl ?_ ?_; focus (simp (maxSteps := 4000000) only [sks, d0, d1, e5, e6, sBox, d2, d3, pTh, pMc, pInts, pI, tvl, simprocAttr]; done)) | (simp (maxSteps := 4000000) only [d0, d1, e5, e6, sBox, d2, d3, pTh, pMc, pInts, pI, tvl, simprocAttr]) | refine ftS (by kernel_rfl) ?_ | refine And.intro (by omega) ?_)
      refine aops_fnG (hR) (hidB rfl) rfl rfl (by simp (maxSteps := 4000000) only [d2, d3, pTh, pMc, pInts, pI, tvs, simprocAttr]) ?_
      repeat (first | (refine aops_fnX rfl ?_ ?_; focus (simp (maxSteps := 4000000) only [sks, d0, d1, e5, e6, sBox, d2, d3, pTh, pMc, pInts, pI, tvl, simprocAttr]; done)) | (simp (maxSteps := 4000000) only [d0, d1, e5, e6, sBox, d2, d3, pTh, pMc, pInts, pI, tvl, simprocAttr]) | refine ftS (by kernel_rfl) ?_ | refine And.intro (by omega) ?_)
      refine aops_fnG (hS) (hidB rfl) rfl rfl (by simp (maxSteps := 4000000) only [d2, d3, pTh, pMc, pInts, pI, tvs, simprocAttr]) ?_
      repeat (first | (refine aops_fnX rfl ?_ ?_; focus (simp (maxSteps := 4000000) only [sks, d0, d1, e5, e6, sBox, pTh, pMc, pInts, pI, tvl, simprocAttr]; done)) | (simp (maxSteps := 4000000) only [d0, d1, e5, e6, sBox, pTh, pMc, pInts, pI, tvl, simprocAttr]) | refine ftS (by kernel_rfl) ?_ | refine And.intro (by omega) ?_)
      refine ⟨k + 1, ⟨by omega, hn'⟩, by omega, ?_⟩
      simp [sBox]
    · rw [Bt.tt_f w4] at hS
      obtain rfl := z2 (hne (fun e => w4 e.2.2.1))
      repeat (first | (refine aops_fnX rfl ?_ ?_; focus (simp (maxSteps := 4000000) only [sks, d0, d1, e5, e6, sBox, d2, d3, pTh, pMc, pInts, pI, tvl, simprocAttr]; done)) | (simp (maxSteps := 4000000) only [d0, d1, e5, e6, sBox, d2, d3, pTh, pMc, pInts, pI, tvl, simprocAttr]) | refine ftS (by kernel_rfl) ?_ | refine And.intro (by omega) ?_)
      refine aops_fnG (hR) (hidB rfl) rfl rfl (by simp (maxSteps := 4000000) only [d2, d3, pTh, pMc, pInts, pI, tvs, simprocAttr]) ?_
      repeat (first | (refine aops_fnX rfl ?_ ?_; focus (simp (maxSteps := 4000000) only [sks, d0, d1, e5, e6, sBox, d2, d3, pTh, pMc, pInts, pI, tvl, simprocAttr]; done)) | (simp (maxSteps := 4000000) only [d0, d1, e5, e6, sBox, d2, d3, pTh, pMc, pInts, pI, tvl, simprocAttr]) | refine ftS (by kernel_rfl) ?_ | refine And.intro (by omega) ?_)
      refine aops_fnG (hS) (hidB rfl) rfl rfl (by simp (maxSteps := 4000000) only [d2, d3, pTh, pMc, pInts, pI, tvs, simprocAttr]) ?_
      repeat (first | (refine aops_fnX rfl ?_ ?_; focus (simp (maxSteps := 4000000) only [sks, d0, d1, e5, e6, sBox, pTh, pMc, pInts, pI, tvl, simprocAttr]; done)) | (simp (maxSteps := 4000000) only [d0, d1, e5, e6, sBox, pTh, pMc, pInts, pI, tvl, simprocAttr]) | refine ftS (by kernel_rfl) ?_ | refine And.intro (by omega) ?_)
      all_goals (first | rfl | trivial | skip)
  · have d1 : decide ((k : Int) < (ths.length : Int)) = false := by simpa using c1
    have ht : ths = ths' := List.ext_getElem? (fun j => by
      by_cases hj : j < ths.length
      · exact hp j (by omega)
      · rw [List.getElem?_eq_none (by omega), List.getElem?_eq_none (by omega)])
    obtain rfl := z1 ⟨ht, v1, v2, v3⟩
    repeat (first | (refine aops_fnX rfl ?_ ?_; focus (simp (maxSteps := 4000000) only [sks, d1, sBox, pTh, pMc, pInts, pI, tvl, simprocAttr]; done)) | (simp (maxSteps := 4000000) only [d1, sBox, pTh, pMc, pInts, pI, tvl, simprocAttr]) | refine ftS (by kernel_rfl) ?_ | refine And.intro (by omega) ?_)
    all_goals (first | rfl | trivial | skip)
end Av
end Go.Proofs.YtbkbppllcjcmhaaGreat
