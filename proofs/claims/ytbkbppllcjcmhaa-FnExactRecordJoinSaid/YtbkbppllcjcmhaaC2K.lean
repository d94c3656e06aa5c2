/-
  Chapter 2: numbers and threads that are copied: the program's.
-/
import Derived.Test.YtbkbppllcjcmhaaC2J
import Derived.Test.YtbkbppllcjcmhaaC1
set_option linter.unusedSimpArgs false
set_option linter.unusedVariables false
namespace Go.Proofs.Ytbkbppllcjcmhaa
open Go.RowKit
namespace Av
/-- numbers on the way of being copied -/
def cpy (xs : List Int) (k : Nat) : List (List PV) := (xs.take k).map (fun x => [PV.int .i64 x]) ++ List.replicate (xs.length - k) [PV.int .i64 0]
theorem cpy_zero (xs : List Int) : List.replicate xs.length [PV.int .i64 0] = cpy xs 0 := by simp [cpy]
theorem cpy_end (xs : List Int) : cpy xs xs.length = xs.map (fun x => [PV.int .i64 x]) := by simp [cpy]
theorem cpy_len {xs : List Int} {k : Nat} (hk : k ≤ xs.length) : (cpy xs k).length = xs.length := by simp [cpy]; omega
theorem cpy_at {xs : List Int} {k : Nat} (hk : k < xs.length) : (cpy xs k)[k]? = some [PV.int .i64 0] := by
  unfold cpy
  have hl : ((xs.take k).map (fun x => [PV.int .i64 x])).length = k := by simp; omega
  rw [List.getElem?_append_right (by omega), hl, Nat.sub_self, List.getElem?_replicate, if_pos (by omega)]
theorem cpy_set {xs : List Int} {k : Nat} (hk : k < xs.length) : (cpy xs k).set k [PV.int .i64 xs[k]] = cpy xs (k + 1) := by
  unfold cpy
  have e : xs.length - k = (xs.length - (k + 1)) + 1 := by omega
  have hl : ((xs.take k).map (fun x => [PV.int .i64 x])).length = k := by simp; omega
  rw [e, List.replicate_succ, List.set_append_right _ _ (by omega), hl, Nat.sub_self, List.set_cons_zero, List.take_succ_eq_append_getElem hk, List.map_append, List.append_assoc]
  rfl
set_option maxHeartbeats 4000000 in
theorem copy_ok {xs : List Int} (hl : xs.length ≤ 1048576) : FnOk E.P 74 [pInts xs] (pInts xs) true := by
  refine fn_ok mixed Try.func74 rfl (by kernel_rfl) _ Try.results74 _ Try.ntmps74 (by simp) (by kernel_rfl) ?_
  simp (maxSteps := 4000000) only [pInts, pI, tvl, simprocAttr]
  repeat (first | refine ftS (by kernel_rfl) ?_ | refine And.intro (by omega) ?_)
  refine awp_loop (X := Nat) (fun k => [(0, .pv (.lst 3 (xs.map fun x => [.int .i64 x]))), (3, .sl 0), (9, .pv (.int .i64 xs.length)), (10, .pv (.int .i64 k))])
    (fun k => [(0, .row true 3 (cpy xs k))]) (fun k => k ≤ xs.length) (fun k => xs.length - k) 100 0 (Nat.zero_le _) (by simp (maxSteps := 4000000) only [← cpy_zero, pI, tvl, simprocAttr]; try simp [pI]) (fun k hk => ?_)
  have hlen := cpy_len hk
  by_cases c1 : k < xs.length
  · have d1 : decide ((k : Int) < (xs.length : Int)) = true := by simpa using c1
    have e5 : (xs.map fun x => [PV.int .i64 x])[k]? = some [.int .i64 xs[k]] := by simp [c1]
    have e6 := cpy_at c1
    have e7 := cpy_set c1
    simp (maxSteps := 4000000) only [hlen, d1, e5, e6, e7, pI, tvl, simprocAttr]
    repeat (first | refine ftS (by kernel_rfl) ?_ | refine And.intro (by omega) ?_)
    refine ⟨k + 1, by omega, by omega, ?_⟩
    simp
  · have d1 : decide ((k : Int) < (xs.length : Int)) = false := by simpa using c1
    obtain rfl : k = xs.length := by omega
    have e := cpy_end xs
    simp (maxSteps := 4000000) only [d1, e, pI, tvl, simprocAttr]
    repeat (first | refine ftS (by kernel_rfl) ?_ | refine And.intro (by omega) ?_)
    all_goals (first | rfl | trivial | skip)
set_option maxHeartbeats 4000000 in
theorem with_ok {xs : List Int} {k : Nat} {n : Int} (hl : xs.length ≤ 1048576) (hk : k < xs.length) : FnOk E.P 164 [pInts xs, pI k, pI n] (pInts (xs.set k n)) true := by
  have hC := copy_ok (xs := xs) hl
  have e5 : (xs.map fun x => [PV.int .i64 x])[k]? = some [.int .i64 xs[k]] := by simp [hk]
  have e6 : (xs.map fun x => [PV.int .i64 x]).set k [.int .i64 n] = (xs.set k n).map fun x => [PV.int .i64 x] := by rw [List.map_set]
  refine fn_ok mixed Try.func164 rfl (by kernel_rfl) _ Try.results164 _ Try.ntmps164 (by simp) (by kernel_rfl) ?_
  simp (maxSteps := 4000000) only [pInts, pI, tvl, simprocAttr]
  repeat (first | refine ftS (by kernel_rfl) ?_ | refine And.intro (by omega) ?_)
  refine aops_fn (hC) (hidB rfl) rfl ?_
  simp (maxSteps := 4000000) only [e5, e6, pInts, pI, tvl, simprocAttr]
  repeat (first | refine ftS (by kernel_rfl) ?_ | refine And.intro (by omega) ?_)
  all_goals (first | rfl | trivial | skip)
set_option maxHeartbeats 4000000 in
theorem nums_ok {many n : Int} (hm : many ≤ 1048576) : FnOk E.P 137 [pI many, pI n] (pInts (List.replicate many.toNat n)) true := by
  refine fn_ok mixed Try.func137 rfl (by kernel_rfl) _ Try.results137 _ Try.ntmps137 (by simp) (by kernel_rfl) ?_
  simp (maxSteps := 4000000) only [pInts, pI, tvl, simprocAttr]
  repeat (first | refine ftS (by kernel_rfl) ?_ | refine And.intro (by omega) ?_)
  refine awp_loop (X := Nat) (fun k => [(0, .pv (.int .i64 many)), (1, .pv (.int .i64 n)), (5, .sl 0), (6, .pv (.int .i64 k))])
    (fun k => [(0, .row true 3 ((List.replicate k n).map fun x => [.int .i64 x]))]) (fun k => k ≤ many.toNat) (fun k => many.toNat - k) 100 0 (Nat.zero_le _) (by simp (maxSteps := 4000000) only [List.replicate_zero, List.map_nil, pI, tvs, simprocAttr]; try simp [pI]) (fun k hk => ?_)
  by_cases c1 : k < many.toNat
  · have d1 : decide ((k : Int) < many) = true := by simp; omega
    have e7 : (List.replicate k n).map (fun x => [PV.int .i64 x]) ++ [[.int .i64 n]] = (List.replicate (k + 1) n).map fun x => [PV.int .i64 x] := by rw [List.replicate_succ', List.map_append]; rfl
    simp (maxSteps := 4000000) only [List.length_replicate, d1, e7, pI, tvl, simprocAttr]
    repeat (first | refine ftS (by kernel_rfl) ?_ | refine And.intro (by omega) ?_)
    refine ⟨k + 1, by omega, by omega, ?_⟩
    simp
  · have d1 : decide ((k : Int) < many) = false := by simp; omega
    obtain rfl : k = many.toNat := by omega
    simp (maxSteps := 4000000) only [d1, pI, tvl, simprocAttr]
    repeat (first | refine ftS (by kernel_rfl) ?_ | refine And.intro (by omega) ?_)
    all_goals (first | rfl | trivial | skip)
set_option maxHeartbeats 4000000 in
theorem thAt_ok {at_ : Int} {xs : List Int} (hl : xs.length ≤ 1048576) : FnOk E.P 136 [pI at_, pInts xs] (.agg (pTh ⟨at_, xs, [], 0⟩)) true := by
  have hC := copy_ok (xs := xs) hl
  refine fn_ok mixed Try.func136 rfl (by kernel_rfl) _ Try.results136 _ Try.ntmps136 (by simp) (by kernel_rfl) ?_
  simp (maxSteps := 4000000) only [pTh, pInts, pI, tvl, simprocAttr]
  repeat (first | refine ftS (by kernel_rfl) ?_ | refine And.intro (by omega) ?_)
  refine aops_fn (hC) (hidB rfl) rfl ?_
  simp (maxSteps := 4000000) only [List.map_nil, pTh, pInts, pI, tvl, simprocAttr]
  repeat (first | refine ftS (by kernel_rfl) ?_ | refine And.intro (by omega) ?_)
  all_goals (first | rfl | trivial | skip)
set_option maxHeartbeats 4000000 in
theorem copyTh_ok {t : Bt.Th} (h1 : t.regs.length ≤ 1048576) (h2 : t.stack.length ≤ 1048576) : FnOk E.P 159 [.agg (pTh t)] (.agg (pTh t)) true := by
  have hC := copy_ok (xs := t.regs) h1
  have hS := copy_ok (xs := t.stack) h2
  refine fn_ok mixed Try.func159 rfl (by kernel_rfl) _ Try.results159 _ Try.ntmps159 (by simp) (by kernel_rfl) ?_
  simp (maxSteps := 4000000) only [pTh, pInts, pI, tvl, simprocAttr]
  repeat (first | refine ftS (by kernel_rfl) ?_ | refine And.intro (by omega) ?_)
  refine aops_fn (hC) (hidB rfl) rfl ?_
  simp (maxSteps := 4000000) only [pTh, pInts, pI, tvl, simprocAttr]
  repeat (first | refine ftS (by kernel_rfl) ?_ | refine And.intro (by omega) ?_)
  refine aops_fn (hS) (hidB rfl) rfl ?_
  simp (maxSteps := 4000000) only [pTh, pInts, pI, tvl, simprocAttr]
  repeat (first | refine ftS (by kernel_rfl) ?_ | refine And.intro (by omega) ?_)
  all_goals (first | rfl | trivial | skip)
set_option maxHeartbeats 4000000 in
theorem failed_ok {t : Bt.Th} (h1 : t.regs.length ≤ 1048576) (h2 : t.stack.length ≤ 1048576) : FnOk E.P 142 [.agg (pTh t)] (.agg (pTh ⟨t.pl, t.regs, t.stack, 2⟩)) true := by
  have hC := copy_ok (xs := t.regs) h1
  have hS := copy_ok (xs := t.stack) h2
  refine fn_ok mixed Try.func142 rfl (by kernel_rfl) _ Try.results142 _ Try.ntmps142 (by simp) (by kernel_rfl) ?_
  simp (maxSteps := 4000000) only [pTh, pInts, pI, tvl, simprocAttr]
  repeat (first | refine ftS (by kernel_rfl) ?_ | refine And.intro (by omega) ?_)
  refine aops_fn (hC) (hidB rfl) rfl ?_
  simp (maxSteps := 4000000) only [pTh, pInts, pI, tvl, simprocAttr]
  repeat (first | refine ftS (by kernel_rfl) ?_ | refine And.intro (by omega) ?_)
  refine aops_fn (hS) (hidB rfl) rfl ?_
  simp (maxSteps := 4000000) only [pTh, pInts, pI, tvl, simprocAttr]
  repeat (first | refine ftS (by kernel_rfl) ?_ | refine And.intro (by omega) ?_)
  all_goals (first | rfl | trivial | skip)
set_option maxHeartbeats 4000000 in
theorem signalled_ok {t : Bt.Th} {h : Int} (h1 : t.regs.length ≤ 1048576) (h2 : t.stack.length ≤ 1048576) : FnOk E.P 140 [.agg (pTh t), pI h] (.agg (pTh ⟨h, t.regs, t.stack ++ [t.pl], t.st⟩)) true := by
  have hC := copy_ok (xs := t.regs) h1
  have hS := copy_ok (xs := t.stack) h2
  refine fn_ok mixed Try.func140 rfl (by kernel_rfl) _ Try.results140 _ Try.ntmps140 (by simp) (by kernel_rfl) ?_
  simp (maxSteps := 4000000) only [pTh, pInts, pI, tvl, simprocAttr]
  repeat (first | refine ftS (by kernel_rfl) ?_ | refine And.intro (by omega) ?_)
  refine aops_fn (hC) (hidB rfl) rfl ?_
  simp (maxSteps := 4000000) only [pTh, pInts, pI, tvl, simprocAttr]
  repeat (first | refine ftS (by kernel_rfl) ?_ | refine And.intro (by omega) ?_)
  refine aops_fn (hS) (hidB rfl) rfl ?_
  simp (maxSteps := 4000000) only [List.map_append, List.map_cons, List.map_nil, pTh, pInts, pI, tvl, simprocAttr]
  repeat (first | refine ftS (by kernel_rfl) ?_ | refine And.intro (by omega) ?_)
  all_goals (first | rfl | trivial | skip)
set_option maxRecDepth 10000 in
set_option maxHeartbeats 8000000 in
theorem thsWith_ok {ths : List Bt.Th} {w : Nat} {t : Bt.Th} (h0 : ths.length ≤ 1048576) (h1 : t.regs.length ≤ 1048576) (h2 : t.stack.length ≤ 1048576) (h3 : ∀ i (h : i < ths.length), ths[i].regs.length ≤ 1048576) (h4 : ∀ i (h : i < ths.length), ths[i].stack.length ≤ 1048576) :
    FnOk E.P 149 [.lst 134 (ths.map pTh), pI w, .agg (pTh t)] (.lst 134 ((ths.set w t).map pTh)) true := by
  have hT := copyTh_ok (t := t) h1 h2
  refine fn_ok mixed Try.func149 rfl (by kernel_rfl) _ Try.results149 _ Try.ntmps149 (by simp) (by kernel_rfl) ?_
  simp (maxSteps := 4000000) only [pTh, pInts, pI, tvl, simprocAttr]
  repeat (first | refine ftS (by kernel_rfl) ?_ | refine And.intro (by omega) ?_)
  refine awp_loop (X := Nat) (fun k => [(0, .pv (.lst 134 (ths.map pTh))), (1, .pv (.int .i64 w)), (5, .ptr 0 0), (7, .sl 1), (11, .pv (.int .i64 ths.length)), (12, .pv (.int .i64 k))])
    (fun k => [(0, .box [.pv (.int .i64 t.pl), .pv (.lst 3 (t.regs.map fun x => [.int .i64 x])), .pv (.lst 3 (t.stack.map fun x => [.int .i64 x])), .pv (.int .i64 t.st)]), (1, .row true 134 (((ths.set w t).take k).map pTh))])
    (fun k => k ≤ ths.length) (fun k => ths.length - k) 100 0 (Nat.zero_le _) (by simp (maxSteps := 4000000) only [List.take_zero, List.map_nil, pI, tvl, simprocAttr]; try simp [pI]) (fun k hk => ?_)
  by_cases c1 : k < ths.length
  · have d1 : decide ((k : Int) < (ths.length : Int)) = true := by simpa using c1
    have hlen : (((ths.set w t).take k).map pTh).length = k := by simp; omega
    have hnx : ((ths.set w t).take (k + 1)).map pTh = ((ths.set w t).take k).map pTh ++ [pTh (if w = k then t else ths[k])] := by
      rw [List.take_succ_eq_append_getElem (by simpa using c1), List.map_append, List.getElem_set]
      rfl
    by_cases c2 : k = w
    · have d2 : ((k : Int) == (w : Int)) = true := by rw [beq_iff_eq]; omega
      rw [if_pos c2.symm] at hnx
      simp (maxSteps := 4000000) only [d1, d2, pTh, pInts, pI, tvl, simprocAttr]
      repeat (first | refine ftS (by kernel_rfl) ?_ | refine And.intro (by omega) ?_)
      refine aops_fn (hT) (hidB rfl) rfl ?_
      simp (maxSteps := 4000000) only [hlen, pTh, pInts, pI, tvl, simprocAttr]
      repeat (first | refine ftS (by kernel_rfl) ?_ | refine And.intro (by omega) ?_)
      refine ⟨k + 1, by omega, by omega, ?_⟩
      simp [hnx, pTh, pInts, pI]
    · have d2 : ((k : Int) == (w : Int)) = false := by rw [beq_eq_false_iff_ne]; omega
      rw [if_neg (fun e => c2 e.symm)] at hnx
      have e6 : (ths.map pTh)[k]? = some (pTh ths[k]) := by simp [c1]
      have hU := copyTh_ok (t := ths[k]) (h3 k c1) (h4 k c1)
      generalize ths[k] = u at *
      simp (maxSteps := 4000000) only [d1, d2, e6, pTh, pInts, pI, tvl, simprocAttr]
      repeat (first | refine ftS (by kernel_rfl) ?_ | refine And.intro (by omega) ?_)
      refine aops_fn (hU) (hidB rfl) rfl ?_
      simp (maxSteps := 4000000) only [hlen, pTh, pInts, pI, tvl, simprocAttr]
      repeat (first | refine ftS (by kernel_rfl) ?_ | refine And.intro (by omega) ?_)
      refine ⟨k + 1, by omega, by omega, ?_⟩
      simp [hnx, pTh, pInts, pI]
  · have d1 : decide ((k : Int) < (ths.length : Int)) = false := by simpa using c1
    obtain rfl : k = ths.length := by omega
    have e : (ths.set w t).take ths.length = ths.set w t := List.take_of_length_le (by simp)
    rw [e]
    simp (maxSteps := 4000000) only [d1, pTh, pInts, pI, tvl, simprocAttr]
    repeat (first | refine ftS (by kernel_rfl) ?_ | refine And.intro (by omega) ?_)
    all_goals (first | rfl | trivial | skip)
set_option maxRecDepth 10000 in
set_option maxHeartbeats 8000000 in
theorem withTh_ok {m : Bt.Mc} {w : Nat} {t : Bt.Th} (hm : Small m) (h1 : t.regs.length ≤ 1048576) (h2 : t.stack.length ≤ 1048576) : FnOk E.P 139 [.agg (pMc m), pI w, .agg (pTh t)] (.agg (pMc ⟨m.ths.set w t, m.cells, m.locks, m.told⟩)) true := by
  have hT := thsWith_ok (ths := m.ths) (w := w) (t := t) hm.ths h1 h2 hm.regs hm.stack
  have hC := copy_ok (xs := m.cells) hm.cells
  have hL := copy_ok (xs := m.locks) hm.locks
  have hD := copy_ok (xs := m.told) hm.told
  refine fn_ok mixed Try.func139 rfl (by kernel_rfl) _ Try.results139 _ Try.ntmps139 (by simp) (by kernel_rfl) ?_
  simp (maxSteps := 4000000) only [pTh, pMc, pInts, pI, tvl, simprocAttr]
  repeat (first | refine ftS (by kernel_rfl) ?_ | refine And.intro (by omega) ?_)
  refine aops_fn (hT) (hidB rfl) rfl ?_
  simp (maxSteps := 4000000) only [pTh, pMc, pInts, pI, tvl, simprocAttr]
  repeat (first | refine ftS (by kernel_rfl) ?_ | refine And.intro (by omega) ?_)
  refine aops_fn (hC) (hidB rfl) rfl ?_
  simp (maxSteps := 4000000) only [pTh, pMc, pInts, pI, tvl, simprocAttr]
  repeat (first | refine ftS (by kernel_rfl) ?_ | refine And.intro (by omega) ?_)
  refine aops_fn (hL) (hidB rfl) rfl ?_
  simp (maxSteps := 4000000) only [pTh, pMc, pInts, pI, tvl, simprocAttr]
  repeat (first | refine ftS (by kernel_rfl) ?_ | refine And.intro (by omega) ?_)
  refine aops_fn (hD) (hidB rfl) rfl ?_
  simp (maxSteps := 4000000) only [pTh, pMc, pInts, pI, tvl, simprocAttr]
  repeat (first | refine ftS (by kernel_rfl) ?_ | refine And.intro (by omega) ?_)
  all_goals (first | rfl | trivial | skip)
set_option maxRecDepth 10000 in
set_option maxHeartbeats 8000000 in
theorem new_ok : FnOk E.P 130 [] (.agg (pMc Bt.mcNew)) true := by
  have h4 := nums_ok (many := 4) (n := 0) (by omega)
  have h8 := nums_ok (many := 8) (n := 0) (by omega)
  have h2 := nums_ok (many := 2) (n := -1) (by omega)
  have hT := thAt_ok (at_ := 0) (xs := List.replicate 4 0) (by simp)
  have e4 : (4 : Int).toNat = 4 := rfl
  have e8 : (8 : Int).toNat = 8 := rfl
  have e2 : (2 : Int).toNat = 2 := rfl
  rw [e4] at h4
  rw [e8] at h8
  rw [e2] at h2
  refine fn_ok mixed Try.func130 rfl (by kernel_rfl) _ Try.results130 _ Try.ntmps130 (by simp) (by kernel_rfl) ?_
  simp (maxSteps := 4000000) only [pTh, pMc, pInts, pI, tvs, simprocAttr]
  repeat (first | refine ftS (by kernel_rfl) ?_ | refine And.intro (by omega) ?_)
  refine aops_fn (h4) (hidB rfl) rfl ?_
  simp (maxSteps := 4000000) only [pTh, pMc, pInts, pI, tvs, simprocAttr]
  repeat (first | refine ftS (by kernel_rfl) ?_ | refine And.intro (by omega) ?_)
  refine aops_fn (hT) (hidB rfl) rfl ?_
  simp (maxSteps := 4000000) only [List.length_replicate, pTh, pMc, pInts, pI, tvl, simprocAttr]
  repeat (first | refine ftS (by kernel_rfl) ?_ | refine And.intro (by omega) ?_)
  refine aops_fn (h8) (hidB rfl) rfl ?_
  simp (maxSteps := 4000000) only [List.length_replicate, pTh, pMc, pInts, pI, tvl, simprocAttr]
  repeat (first | refine ftS (by kernel_rfl) ?_ | refine And.intro (by omega) ?_)
  refine aops_fn (h2) (hidB rfl) rfl ?_
  simp (maxSteps := 4000000) only [List.length_replicate, Bt.mcNew, pTh, pMc, pInts, pI, tvl, simprocAttr]
  repeat (first | refine ftS (by kernel_rfl) ?_ | refine And.intro (by omega) ?_)
  all_goals (first | rfl | trivial | skip)
end Av
end Go.Proofs.Ytbkbppllcjcmhaa
