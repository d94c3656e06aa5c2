/-
  Nested parameters of laws: how long they are, and what laws make of them.
-/
import Derived.Test.YtbkbppllcjcmhaaTyN
import Derived.Test.YtbkbppllcjcmhaaTyT
import Derived.Test.YtbkbppllcjcmhaaTyE
set_option linter.unusedSimpArgs false
set_option linter.unusedVariables false
namespace Go.Proofs.Ytbkbppllcjcmhaa
open Go.RowKit
namespace Av
set_option maxRecDepth 10000 in
set_option maxHeartbeats 4000000 in
theorem szThread_ok (x0 : Int) (x1 : List (List PV)) (x2 : List (List PV)) (x3 : Int) (left : Int) (n1 : LoIntS x1) (n2 : LoIntS x2) (h0 : 0 ≤ left) (h1 : left ≤ 1048576) : FnOk E.P 95 [.agg [pI x0, .lst 3 x1, .lst 3 x2, pI x3], pI left] (pI (restI left (x1.length + x2.length))) true := by
  by_cases g0 : left < ((x1.length : Nat) : Int)
  · have r0 : restI (left) (x1.length) = -1 := if_pos g0
    have rT : restI left (x1.length + x2.length) = -1 := if_pos (by omega)
    rw [rT]
    refine fn_ok mixed Try.func95 rfl (by kernel_rfl) _ Try.results95 _ Try.ntmps95 (by simp) (by kernel_rfl) ?_
    simp (maxSteps := 2000000) only [r0, pI, tvs, simprocAttr]
    repeat (first | refine ftS (by kernel_rfl) ?_ | refine And.intro (by omega) ?_)
    refine aops_fn (szIntS_ok x1 (left) n1.1 (by omega) (by omega)) (hidB rfl) rfl ?_
    simp (maxSteps := 2000000) only [r0, pI, tvs, simprocAttr]
    repeat (first | refine ftS (by kernel_rfl) ?_ | refine And.intro (by omega) ?_)
    all_goals (first | rfl | trivial | skip)
  · have r0 : restI (left) (x1.length) = left - ((x1.length : Nat) : Int) := if_neg g0
    have d0 : decide (left - ((x1.length : Nat) : Int) < 0) = false := by simp only [decide_eq_false_iff_not]; omega
    by_cases g1 : left - ((x1.length : Nat) : Int) < ((x2.length : Nat) : Int)
    · have r1 : restI (left - ((x1.length : Nat) : Int)) (x2.length) = -1 := if_pos g1
      have rT : restI left (x1.length + x2.length) = -1 := if_pos (by omega)
      rw [rT]
      refine fn_ok mixed Try.func95 rfl (by kernel_rfl) _ Try.results95 _ Try.ntmps95 (by simp) (by kernel_rfl) ?_
      simp (maxSteps := 2000000) only [r0, d0, r1, pI, tvs, simprocAttr]
      repeat (first | refine ftS (by kernel_rfl) ?_ | refine And.intro (by omega) ?_)
      refine aops_fn (szIntS_ok x1 (left) n1.1 (by omega) (by omega)) (hidB rfl) rfl ?_
      simp (maxSteps := 2000000) only [r0, d0, r1, pI, tvs, simprocAttr]
      repeat (first | refine ftS (by kernel_rfl) ?_ | refine And.intro (by omega) ?_)
      refine aops_fn (szIntS_ok x2 (left - ((x1.length : Nat) : Int)) n2.1 (by omega) (by omega)) (hidB rfl) rfl ?_
      simp (maxSteps := 2000000) only [r0, d0, r1, pI, tvs, simprocAttr]
      repeat (first | refine ftS (by kernel_rfl) ?_ | refine And.intro (by omega) ?_)
      all_goals (first | rfl | trivial | skip)
    · have r1 : restI (left - ((x1.length : Nat) : Int)) (x2.length) = left - ((x1.length : Nat) : Int) - ((x2.length : Nat) : Int) := if_neg g1
      have d1 : decide (left - ((x1.length : Nat) : Int) - ((x2.length : Nat) : Int) < 0) = false := by simp only [decide_eq_false_iff_not]; omega
      have rT : restI left (x1.length + x2.length) = left - ((x1.length : Nat) : Int) - ((x2.length : Nat) : Int) := (if_neg (by omega)).trans (by omega)
      rw [rT]
      refine fn_ok mixed Try.func95 rfl (by kernel_rfl) _ Try.results95 _ Try.ntmps95 (by simp) (by kernel_rfl) ?_
      simp (maxSteps := 2000000) only [r0, d0, r1, d1, pI, tvs, simprocAttr]
      repeat (first | refine ftS (by kernel_rfl) ?_ | refine And.intro (by omega) ?_)
      refine aops_fn (szIntS_ok x1 (left) n1.1 (by omega) (by omega)) (hidB rfl) rfl ?_
      simp (maxSteps := 2000000) only [r0, d0, r1, d1, pI, tvs, simprocAttr]
      repeat (first | refine ftS (by kernel_rfl) ?_ | refine And.intro (by omega) ?_)
      refine aops_fn (szIntS_ok x2 (left - ((x1.length : Nat) : Int)) n2.1 (by omega) (by omega)) (hidB rfl) rfl ?_
      simp (maxSteps := 2000000) only [r0, d0, r1, d1, pI, tvs, simprocAttr]
      repeat (first | refine ftS (by kernel_rfl) ?_ | refine And.intro (by omega) ?_)
      all_goals (first | rfl | trivial | skip)
set_option maxRecDepth 10000 in
set_option maxHeartbeats 4000000 in
theorem szThreadS_ok (R : List (List PV)) (left : Int) (hn : R.length ≤ 9223372036854775807) (hs : ∀ r ∈ R, LoThread r) (h0 : 0 ≤ left) (h1 : left ≤ 1048576) : FnOk E.P 56 [.lst 133 R, pI left] (pI (restI left (totR R))) true := by
  obtain ⟨z, hz⟩ : ∃ z, z = restI left (totR R) := ⟨_, rfl⟩
  rw [← hz]
  have ht := totR_eq R
  have hz1 : left < (totR R : Int) → z = -1 := fun h => hz.trans (if_pos h)
  have hz2 : ¬ left < (totR R : Int) → z = left - totR R := fun h => hz.trans (if_neg h)
  clear hz
  refine fn_ok mixed Try.func56 rfl (by kernel_rfl) _ Try.results56 _ Try.ntmps56 (by simp) (by kernel_rfl) ?_
  simp (maxSteps := 2000000) only [pI, tvs, simprocAttr]
  repeat (first | refine ftS (by kernel_rfl) ?_ | refine And.intro (by omega) ?_)
  by_cases hlt : left < R.length
  · have d1 : decide (left - (R.length : Int) < 0) = true := by simp only [decide_eq_true_eq]; omega
    have ez := hz1 (by omega)
    subst ez
    simp (maxSteps := 2000000) only [d1, pI, tvs, simprocAttr]
    repeat (first | refine ftS (by kernel_rfl) ?_ | refine And.intro (by omega) ?_)
    all_goals (first | rfl | trivial | skip)
  have d1 : decide (left - (R.length : Int) < 0) = false := by simp only [decide_eq_false_iff_not]; omega
  simp (maxSteps := 2000000) only [d1, pI, tvs, simprocAttr]
  repeat (first | refine ftS (by kernel_rfl) ?_ | refine And.intro (by omega) ?_)
  refine awp_loop (X := Nat) (fun k => [(0, .pv (.lst 133 R)), (1, .pv (.int .i64 (left - (R.length : Int) - (totS (R.take k) : Int)))), (5, .pv (.int .i64 k))]) (fun k => []) (fun k => k ≤ R.length ∧ 0 ≤ left - (R.length : Int) - (totS (R.take k) : Int)) (fun k => R.length - k) 100 0 ⟨Nat.zero_le _, by simp only [List.take_zero, totS]; omega⟩ (by simp (maxSteps := 2000000) only [List.take_zero, totS, Int.ofNat_zero, Int.cast_ofNat_Int, Int.sub_zero, pI, tvs, simprocAttr]; try rfl) (fun k hk => ?_)
  obtain ⟨hk, hq0⟩ := hk
  obtain ⟨q, hq⟩ : ∃ q : Int, q = left - (R.length : Int) - (totS (R.take k) : Int) := ⟨_, rfl⟩
  rw [← hq] at hq0
  by_cases hlt2 : k < R.length
  · have d2 : decide ((k : Int) < (R.length : Int)) = true := by simpa using hlt2
    have e1 : R[k]? = some R[k] := List.getElem?_eq_getElem hlt2
    have hr := hs R[k] (List.getElem_mem hlt2)
    have e2 := totS_take e1
    have e3 := totS_mono R (k + 1)
    generalize R[k] = r at e1 hr e2
    obtain ⟨a0, a1, a2, a3, rfl, s1, s2⟩ := hr
    rw [tot_Thread a0 a1 a2 a3 s1 s2] at e2
    have hc := szThread_ok a0 a1 a2 a3 q s1 s2 (by omega) (by omega)
    by_cases g : q < ((a1.length + a2.length : Nat) : Int)
    · have r0 : restI q (a1.length + a2.length) = -1 := if_pos g
      rw [r0] at hc
      have ez := hz1 (by omega)
      subst ez
      simp (maxSteps := 2000000) only [d2, e1, ← hq, pI, tvs, simprocAttr]
      repeat (first | refine ftS (by kernel_rfl) ?_ | refine And.intro (by omega) ?_)
      refine aops_fn hc (hidB rfl) rfl ?_
      simp (maxSteps := 2000000) only [d2, e1, ← hq, pI, tvs, simprocAttr]
      repeat (first | refine ftS (by kernel_rfl) ?_ | refine And.intro (by omega) ?_)
      all_goals (first | rfl | trivial | skip)
    · have r0 : restI q (a1.length + a2.length) = q - ((a1.length + a2.length : Nat) : Int) := if_neg g
      rw [r0] at hc
      have d3 : decide (q - ((a1.length + a2.length : Nat) : Int) < 0) = false := by simp only [decide_eq_false_iff_not]; omega
      simp (maxSteps := 2000000) only [d2, d3, e1, ← hq, pI, tvs, simprocAttr]
      repeat (first | refine ftS (by kernel_rfl) ?_ | refine And.intro (by omega) ?_)
      refine aops_fn hc (hidB rfl) rfl ?_
      simp (maxSteps := 2000000) only [d2, d3, e1, ← hq, pI, tvs, simprocAttr]
      repeat (first | refine ftS (by kernel_rfl) ?_ | refine And.intro (by omega) ?_)
      refine ⟨k + 1, ⟨by omega, by omega⟩, by omega, ?_⟩
      all_goals (first | omega | (refine ⟨?_, ?_⟩ <;> omega) | trivial | rfl)
  · have d2 : decide ((k : Int) < (R.length : Int)) = false := by simpa using hlt2
    have e1 : R.take k = R := List.take_of_length_le (by omega)
    rw [e1] at hq
    have ez := hz2 (by omega)
    have eq' : z = q := by omega
    subst eq'
    rw [e1]
    simp (maxSteps := 2000000) only [d2, ← hq, pI, tvs, simprocAttr]
    repeat (first | refine ftS (by kernel_rfl) ?_ | refine And.intro (by omega) ?_)
    all_goals (first | rfl | trivial | skip)
set_option maxRecDepth 10000 in
set_option maxHeartbeats 4000000 in
theorem szMachine_ok (x0 : List (List PV)) (x1 : List (List PV)) (x2 : List (List PV)) (x3 : List (List PV)) (left : Int) (n0 : LoThreadS x0) (n1 : LoIntS x1) (n2 : LoIntS x2) (n3 : LoIntS x3) (h0 : 0 ≤ left) (h1 : left ≤ 1048576) : FnOk E.P 22 [.agg [.lst 133 x0, .lst 3 x1, .lst 3 x2, .lst 3 x3], pI left] (pI (restI left (totR x0 + x1.length + x2.length + x3.length))) true := by
  by_cases g0 : left < ((totR x0 : Nat) : Int)
  · have r0 : restI (left) (totR x0) = -1 := if_pos g0
    have rT : restI left (totR x0 + x1.length + x2.length + x3.length) = -1 := if_pos (by omega)
    rw [rT]
    refine fn_ok mixed Try.func22 rfl (by kernel_rfl) _ Try.results22 _ Try.ntmps22 (by simp) (by kernel_rfl) ?_
    simp (maxSteps := 2000000) only [r0, pI, tvs, simprocAttr]
    repeat (first | refine ftS (by kernel_rfl) ?_ | refine And.intro (by omega) ?_)
    refine aops_fn (szThreadS_ok x0 (left) n0.1 n0.2 (by omega) (by omega)) (hidB rfl) rfl ?_
    simp (maxSteps := 2000000) only [r0, pI, tvs, simprocAttr]
    repeat (first | refine ftS (by kernel_rfl) ?_ | refine And.intro (by omega) ?_)
    all_goals (first | rfl | trivial | skip)
  · have r0 : restI (left) (totR x0) = left - ((totR x0 : Nat) : Int) := if_neg g0
    have d0 : decide (left - ((totR x0 : Nat) : Int) < 0) = false := by simp only [decide_eq_false_iff_not]; omega
    by_cases g1 : left - ((totR x0 : Nat) : Int) < ((x1.length : Nat) : Int)
    · have r1 : restI (left - ((totR x0 : Nat) : Int)) (x1.length) = -1 := if_pos g1
      have rT : restI left (totR x0 + x1.length + x2.length + x3.length) = -1 := if_pos (by omega)
      rw [rT]
      refine fn_ok mixed Try.func22 rfl (by kernel_rfl) _ Try.results22 _ Try.ntmps22 (by simp) (by kernel_rfl) ?_
      simp (maxSteps := 2000000) only [r0, d0, r1, pI, tvs, simprocAttr]
      repeat (first | refine ftS (by kernel_rfl) ?_ | refine And.intro (by omega) ?_)
      refine aops_fn (szThreadS_ok x0 (left) n0.1 n0.2 (by omega) (by omega)) (hidB rfl) rfl ?_
      simp (maxSteps := 2000000) only [r0, d0, r1, pI, tvs, simprocAttr]
      repeat (first | refine ftS (by kernel_rfl) ?_ | refine And.intro (by omega) ?_)
      refine aops_fn (szIntS_ok x1 (left - ((totR x0 : Nat) : Int)) n1.1 (by omega) (by omega)) (hidB rfl) rfl ?_
      simp (maxSteps := 2000000) only [r0, d0, r1, pI, tvs, simprocAttr]
      repeat (first | refine ftS (by kernel_rfl) ?_ | refine And.intro (by omega) ?_)
      all_goals (first | rfl | trivial | skip)
    · have r1 : restI (left - ((totR x0 : Nat) : Int)) (x1.length) = left - ((totR x0 : Nat) : Int) - ((x1.length : Nat) : Int) := if_neg g1
      have d1 : decide (left - ((totR x0 : Nat) : Int) - ((x1.length : Nat) : Int) < 0) = false := by simp only [decide_eq_false_iff_not]; omega
      by_cases g2 : left - ((totR x0 : Nat) : Int) - ((x1.length : Nat) : Int) < ((x2.length : Nat) : Int)
      · have r2 : restI (left - ((totR x0 : Nat) : Int) - ((x1.length : Nat) : Int)) (x2.length) = -1 := if_pos g2
        have rT : restI left (totR x0 + x1.length + x2.length + x3.length) = -1 := if_pos (by omega)
        rw [rT]
        refine fn_ok mixed Try.func22 rfl (by kernel_rfl) _ Try.results22 _ Try.ntmps22 (by simp) (by kernel_rfl) ?_
        simp (maxSteps := 2000000) only [r0, d0, r1, d1, r2, pI, tvs, simprocAttr]
        repeat (first | refine ftS (by kernel_rfl) ?_ | refine And.intro (by omega) ?_)
        refine aops_fn (szThreadS_ok x0 (left) n0.1 n0.2 (by omega) (by omega)) (hidB rfl) rfl ?_
        simp (maxSteps := 2000000) only [r0, d0, r1, d1, r2, pI, tvs, simprocAttr]
        repeat (first | refine ftS (by kernel_rfl) ?_ | refine And.intro (by omega) ?_)
        refine aops_fn (szIntS_ok x1 (left - ((totR x0 : Nat) : Int)) n1.1 (by omega) (by omega)) (hidB rfl) rfl ?_
        simp (maxSteps := 2000000) only [r0, d0, r1, d1, r2, pI, tvs, simprocAttr]
        repeat (first | refine ftS (by kernel_rfl) ?_ | refine And.intro (by omega) ?_)
        refine aops_fn (szIntS_ok x2 (left - ((totR x0 : Nat) : Int) - ((x1.length : Nat) : Int)) n2.1 (by omega) (by omega)) (hidB rfl) rfl ?_
        simp (maxSteps := 2000000) only [r0, d0, r1, d1, r2, pI, tvs, simprocAttr]
        repeat (first | refine ftS (by kernel_rfl) ?_ | refine And.intro (by omega) ?_)
        all_goals (first | rfl | trivial | skip)
      · have r2 : restI (left - ((totR x0 : Nat) : Int) - ((x1.length : Nat) : Int)) (x2.length) = left - ((totR x0 : Nat) : Int) - ((x1.length : Nat) : Int) - ((x2.length : Nat) : Int) := if_neg g2
        have d2 : decide (left - ((totR x0 : Nat) : Int) - ((x1.length : Nat) : Int) - ((x2.length : Nat) : Int) < 0) = false := by simp only [decide_eq_false_iff_not]; omega
        by_cases g3 : left - ((totR x0 : Nat) : Int) - ((x1.length : Nat) : Int) - ((x2.length : Nat) : Int) < ((x3.length : Nat) : Int)
        · have r3 : restI (left - ((totR x0 : Nat) : Int) - ((x1.length : Nat) : Int) - ((x2.length : Nat) : Int)) (x3.length) = -1 := if_pos g3
          have rT : restI left (totR x0 + x1.length + x2.length + x3.length) = -1 := if_pos (by omega)
          rw [rT]
          refine fn_ok mixed Try.func22 rfl (by kernel_rfl) _ Try.results22 _ Try.ntmps22 (by simp) (by kernel_rfl) ?_
          simp (maxSteps := 2000000) only [r0, d0, r1, d1, r2, d2, r3, pI, tvs, simprocAttr]
          repeat (first | refine ftS (by kernel_rfl) ?_ | refine And.intro (by omega) ?_)
          refine aops_fn (szThreadS_ok x0 (left) n0.1 n0.2 (by omega) (by omega)) (hidB rfl) rfl ?_
          simp (maxSteps := 2000000) only [r0, d0, r1, d1, r2, d2, r3, pI, tvs, simprocAttr]
          repeat (first | refine ftS (by kernel_rfl) ?_ | refine And.intro (by omega) ?_)
          refine aops_fn (szIntS_ok x1 (left - ((totR x0 : Nat) : Int)) n1.1 (by omega) (by omega)) (hidB rfl) rfl ?_
          simp (maxSteps := 2000000) only [r0, d0, r1, d1, r2, d2, r3, pI, tvs, simprocAttr]
          repeat (first | refine ftS (by kernel_rfl) ?_ | refine And.intro (by omega) ?_)
          refine aops_fn (szIntS_ok x2 (left - ((totR x0 : Nat) : Int) - ((x1.length : Nat) : Int)) n2.1 (by omega) (by omega)) (hidB rfl) rfl ?_
          simp (maxSteps := 2000000) only [r0, d0, r1, d1, r2, d2, r3, pI, tvs, simprocAttr]
          repeat (first | refine ftS (by kernel_rfl) ?_ | refine And.intro (by omega) ?_)
          refine aops_fn (szIntS_ok x3 (left - ((totR x0 : Nat) : Int) - ((x1.length : Nat) : Int) - ((x2.length : Nat) : Int)) n3.1 (by omega) (by omega)) (hidB rfl) rfl ?_
          simp (maxSteps := 2000000) only [r0, d0, r1, d1, r2, d2, r3, pI, tvs, simprocAttr]
          repeat (first | refine ftS (by kernel_rfl) ?_ | refine And.intro (by omega) ?_)
          all_goals (first | rfl | trivial | skip)
        · have r3 : restI (left - ((totR x0 : Nat) : Int) - ((x1.length : Nat) : Int) - ((x2.length : Nat) : Int)) (x3.length) = left - ((totR x0 : Nat) : Int) - ((x1.length : Nat) : Int) - ((x2.length : Nat) : Int) - ((x3.length : Nat) : Int) := if_neg g3
          have d3 : decide (left - ((totR x0 : Nat) : Int) - ((x1.length : Nat) : Int) - ((x2.length : Nat) : Int) - ((x3.length : Nat) : Int) < 0) = false := by simp only [decide_eq_false_iff_not]; omega
          have rT : restI left (totR x0 + x1.length + x2.length + x3.length) = left - ((totR x0 : Nat) : Int) - ((x1.length : Nat) : Int) - ((x2.length : Nat) : Int) - ((x3.length : Nat) : Int) := (if_neg (by omega)).trans (by omega)
          rw [rT]
          refine fn_ok mixed Try.func22 rfl (by kernel_rfl) _ Try.results22 _ Try.ntmps22 (by simp) (by kernel_rfl) ?_
          simp (maxSteps := 2000000) only [r0, d0, r1, d1, r2, d2, r3, d3, pI, tvs, simprocAttr]
          repeat (first | refine ftS (by kernel_rfl) ?_ | refine And.intro (by omega) ?_)
          refine aops_fn (szThreadS_ok x0 (left) n0.1 n0.2 (by omega) (by omega)) (hidB rfl) rfl ?_
          simp (maxSteps := 2000000) only [r0, d0, r1, d1, r2, d2, r3, d3, pI, tvs, simprocAttr]
          repeat (first | refine ftS (by kernel_rfl) ?_ | refine And.intro (by omega) ?_)
          refine aops_fn (szIntS_ok x1 (left - ((totR x0 : Nat) : Int)) n1.1 (by omega) (by omega)) (hidB rfl) rfl ?_
          simp (maxSteps := 2000000) only [r0, d0, r1, d1, r2, d2, r3, d3, pI, tvs, simprocAttr]
          repeat (first | refine ftS (by kernel_rfl) ?_ | refine And.intro (by omega) ?_)
          refine aops_fn (szIntS_ok x2 (left - ((totR x0 : Nat) : Int) - ((x1.length : Nat) : Int)) n2.1 (by omega) (by omega)) (hidB rfl) rfl ?_
          simp (maxSteps := 2000000) only [r0, d0, r1, d1, r2, d2, r3, d3, pI, tvs, simprocAttr]
          repeat (first | refine ftS (by kernel_rfl) ?_ | refine And.intro (by omega) ?_)
          refine aops_fn (szIntS_ok x3 (left - ((totR x0 : Nat) : Int) - ((x1.length : Nat) : Int) - ((x2.length : Nat) : Int)) n3.1 (by omega) (by omega)) (hidB rfl) rfl ?_
          simp (maxSteps := 2000000) only [r0, d0, r1, d1, r2, d2, r3, d3, pI, tvs, simprocAttr]
          repeat (first | refine ftS (by kernel_rfl) ?_ | refine And.intro (by omega) ?_)
          all_goals (first | rfl | trivial | skip)
set_option maxRecDepth 10000 in
set_option maxHeartbeats 4000000 in
theorem toThread_ok (a0 : Int) (a1 : List (List PV)) (a2 : List (List PV)) (a3 : Int) (s1 : ShIntS a1) (s2 : ShIntS a2) : FnOk E.P 96 [.agg [pI a0, .lst 3 a1, .lst 3 a2, pI a3]] (.agg [pI a0, .lst 3 a1, .lst 3 a2, pI a3]) true := by
  refine fn_ok mixed Try.func96 rfl (by kernel_rfl) _ Try.results96 _ Try.ntmps96 (by simp) (by kernel_rfl) ?_
  simp (maxSteps := 2000000) only [pI, tvs, simprocAttr]
  repeat (first | refine ftS (by kernel_rfl) ?_ | refine And.intro (by omega) ?_)
  refine aops_fn (toIntS_ok a1 s1) (hidB rfl) rfl ?_
  simp (maxSteps := 2000000) only [pI, tvs, simprocAttr]
  repeat (first | refine ftS (by kernel_rfl) ?_ | refine And.intro (by omega) ?_)
  refine aops_fn (toIntS_ok a2 s2) (hidB rfl) rfl ?_
  simp (maxSteps := 2000000) only [pI, tvs, simprocAttr]
  repeat (first | refine ftS (by kernel_rfl) ?_ | refine And.intro (by omega) ?_)
  all_goals (first | rfl | trivial | skip)
set_option maxRecDepth 10000 in
set_option maxHeartbeats 4000000 in
theorem toThreadS_ok (R : List (List PV)) (hs : ShThreadS R) : FnOk E.P 61 [.lst 133 R] (.lst 134 R) true := by
  obtain ⟨hn, hs⟩ := hs
  refine fn_ok mixed Try.func61 rfl (by kernel_rfl) _ Try.results61 _ Try.ntmps61 (by simp) (by kernel_rfl) ?_
  simp (maxSteps := 2000000) only [pI, tvs, simprocAttr]
  repeat (first | refine ftS (by kernel_rfl) ?_ | refine And.intro (by omega) ?_)
  refine awp_loop (X := Nat) (fun k => [(0, .pv (.lst 133 R)), (3, .sl 0), (4, .pv (.int .i64 k))]) (fun k => [(0, .row true 134 (fillR R k [.int .i64 0, .lst 3 [], .lst 3 [], .int .i64 0]))]) (fun k => k ≤ R.length) (fun k => R.length - k) 100 0 (Nat.zero_le _) (by simp (maxSteps := 2000000) only [zp, pI, tvs, simprocAttr]; simp [fillR]) (fun k hk => ?_)
  have hl : (fillR R k [.int .i64 0, .lst 3 [], .lst 3 [], .int .i64 0]).length = R.length := by simp [fillR]; omega
  by_cases hlt : k < R.length
  · have d1 : decide ((k : Int) < (R.length : Int)) = true := by simpa using hlt
    have e1 : R[k]? = some R[k] := List.getElem?_eq_getElem hlt
    have e2 : (fillR R k [.int .i64 0, .lst 3 [], .lst 3 [], .int .i64 0])[k]? = some [.int .i64 0, .lst 3 [], .lst 3 [], .int .i64 0] := fillR_at hlt _
    have e3 := fillR_set (z := [.int .i64 0, .lst 3 [], .lst 3 [], .int .i64 0]) e1
    have hr := hs R[k] (List.getElem_mem hlt)
    generalize R[k] = r at e1 hr e3
    obtain ⟨a0, a1, a2, a3, rfl, s1, s2⟩ := hr
    simp only [pI] at e1 e3
    simp (maxSteps := 2000000) only [d1, e1, e2, hl, pI, tvs, simprocAttr]
    repeat (first | refine ftS (by kernel_rfl) ?_ | refine And.intro (by omega) ?_)
    refine aops_fn (toThread_ok a0 a1 a2 a3 s1 s2) (hidB rfl) rfl ?_
    simp (maxSteps := 2000000) only [d1, e1, e2, hl, pI, tvs, simprocAttr]
    repeat (first | refine ftS (by kernel_rfl) ?_ | refine And.intro (by omega) ?_)
    refine ⟨k + 1, ?_, ?_, ?_⟩
    · omega
    · omega
    · simp only [e3]
      first | omega | (refine ⟨by omega, ?_⟩; simp; done) | (simp; done)
  · have d1 : decide ((k : Int) < (R.length : Int)) = false := by simpa using hlt
    have e1 : fillR R k [.int .i64 0, .lst 3 [], .lst 3 [], .int .i64 0] = R := by simp [fillR, List.take_of_length_le (show R.length ≤ k by omega)]; omega
    simp (maxSteps := 2000000) only [d1, e1, pI, tvs, simprocAttr]
    repeat (first | refine ftS (by kernel_rfl) ?_ | refine And.intro (by omega) ?_)
    all_goals (first | rfl | trivial | skip)
set_option maxRecDepth 10000 in
set_option maxHeartbeats 4000000 in
theorem toMachine_ok (a0 : List (List PV)) (a1 : List (List PV)) (a2 : List (List PV)) (a3 : List (List PV)) (s0 : ShThreadS a0) (s1 : ShIntS a1) (s2 : ShIntS a2) (s3 : ShIntS a3) : FnOk E.P 24 [.agg [.lst 133 a0, .lst 3 a1, .lst 3 a2, .lst 3 a3]] (.agg [.lst 134 a0, .lst 3 a1, .lst 3 a2, .lst 3 a3]) true := by
  refine fn_ok mixed Try.func24 rfl (by kernel_rfl) _ Try.results24 _ Try.ntmps24 (by simp) (by kernel_rfl) ?_
  simp (maxSteps := 2000000) only [pI, tvs, simprocAttr]
  repeat (first | refine ftS (by kernel_rfl) ?_ | refine And.intro (by omega) ?_)
  refine aops_fn (toThreadS_ok a0 s0) (hidB rfl) rfl ?_
  simp (maxSteps := 2000000) only [pI, tvs, simprocAttr]
  repeat (first | refine ftS (by kernel_rfl) ?_ | refine And.intro (by omega) ?_)
  refine aops_fn (toIntS_ok a1 s1) (hidB rfl) rfl ?_
  simp (maxSteps := 2000000) only [pI, tvs, simprocAttr]
  repeat (first | refine ftS (by kernel_rfl) ?_ | refine And.intro (by omega) ?_)
  refine aops_fn (toIntS_ok a2 s2) (hidB rfl) rfl ?_
  simp (maxSteps := 2000000) only [pI, tvs, simprocAttr]
  repeat (first | refine ftS (by kernel_rfl) ?_ | refine And.intro (by omega) ?_)
  refine aops_fn (toIntS_ok a3 s3) (hidB rfl) rfl ?_
  simp (maxSteps := 2000000) only [pI, tvs, simprocAttr]
  repeat (first | refine ftS (by kernel_rfl) ?_ | refine And.intro (by omega) ?_)
  all_goals (first | rfl | trivial | skip)
end Av
end Go.Proofs.Ytbkbppllcjcmhaa
