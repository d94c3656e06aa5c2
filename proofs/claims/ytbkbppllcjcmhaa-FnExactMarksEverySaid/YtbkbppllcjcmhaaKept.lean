/-
  Chapter 6: which marks are kept, in both packages.
-/
import Derived.Test.YtbkbppllcjcmhaaTy
import Derived.Test.YtbkbppllcjcmhaaAvY
set_option linter.unusedSimpArgs false
set_option linter.unusedVariables false
namespace Go.Proofs.Ytbkbppllcjcmhaa
open Go.RowKit
namespace Bt
/-- the greatest power of 2 that divides a number above 0 -/
def lowP (n : Nat) : Nat := if n % 2 = 0 ∧ 0 < n then 2 * lowP (n / 2) else 1
termination_by n
decreasing_by omega
theorem lowP_even {n : Nat} (h : n % 2 = 0) (h0 : 0 < n) : lowP n = 2 * lowP (n / 2) := by rw [lowP, if_pos ⟨h, h0⟩]
theorem lowP_odd {n : Nat} (h : n % 2 ≠ 0) : lowP n = 1 := by rw [lowP, if_neg (fun hh => h hh.1)]
theorem lowP_le (n : Nat) (h0 : 0 < n) : 1 ≤ lowP n ∧ lowP n ≤ n := by
  induction n using Nat.strongRecOn with
  | _ n ih =>
    by_cases h : n % 2 = 0
    · have := ih (n / 2) (by omega) (by omega)
      rw [lowP_even h h0]
      omega
    · rw [lowP_odd h]
      omega
/-- the lowest bit alone is in a number and not in the one before it -/
theorem lowP_bit (n : Nat) (h0 : 0 < n) : ∀ i, (n.testBit i && !(n - 1).testBit i) = (lowP n).testBit i := by
  induction n using Nat.strongRecOn with
  | _ n ih =>
    intro i
    by_cases h : n % 2 = 0
    · rw [lowP_even h h0]
      cases i with
      | zero =>
        simp [Nat.testBit_zero, h]
      | succ i =>
        have := ih (n / 2) (by omega) (by omega) i
        rw [Nat.testBit_succ, Nat.testBit_succ, Nat.testBit_succ, show (n - 1) / 2 = n / 2 - 1 by omega, show 2 * lowP (n / 2) / 2 = lowP (n / 2) by omega]
        exact this
    · rw [lowP_odd h]
      cases i with
      | zero =>
        have h1 : n % 2 = 1 := by omega
        have h2 : (n - 1) % 2 = 0 := by omega
        simp [Nat.testBit_zero, h1, h2]
      | succ i =>
        rw [Nat.testBit_succ, Nat.testBit_succ, Nat.testBit_succ, show (n - 1) / 2 = n / 2 by omega]
        simp
theorem lowP_and {n w : Nat} (h0 : 0 < n) (hn : n < 2 ^ w) : n &&& (2 ^ w - n) = lowP n := by
  apply Nat.eq_of_testBit_eq
  intro i
  have h := lowP_bit n h0 i
  have h1 : (2 ^ w - n).testBit i = (decide (i < w) && !(n - 1).testBit i) := by
    have := Nat.testBit_two_pow_sub_succ (x := n - 1) (n := w) (by omega) i
    rw [show n - 1 + 1 = n by omega] at this
    exact this
  rw [Nat.testBit_and, h1, ← h]
  by_cases c : i < w
  · simp [c]
  · have : n.testBit i = false := Nat.testBit_lt_two_pow (Nat.lt_of_lt_of_le hn (Nat.pow_le_pow_right (by omega) (by omega)))
    simp [this]
/-- a mark is kept -/
def kept (a b : Int) : Bool := decide (0 ≤ a) && decide (a ≤ b) && (a == 0 || a == b || decide (((lowP a.toNat : Nat) : Int) > (b - a) / 4))
end Bt
namespace Av
theorem andW_low {n : Nat} (h0 : 0 < n) (hn : n < 9223372036854775808) : andW .i64 (n : Int) (0 - (n : Int)) = ((Bt.lowP n : Nat) : Int) := by
  have h1 : (BitVec.ofInt 64 (n : Int) &&& BitVec.ofInt 64 (0 - (n : Int))).toNat = Bt.lowP n := by
    rw [BitVec.toNat_and, BitVec.toNat_ofInt, BitVec.toNat_ofInt]
    have e1 : ((n : Int) % ((2 ^ 64 : Nat) : Int)).toNat = n := by omega
    have e2 : ((0 - (n : Int)) % ((2 ^ 64 : Nat) : Int)).toNat = 2 ^ 64 - n := by omega
    rw [e1, e2]
    exact Bt.lowP_and h0 (by omega)
  have h2 := Bt.lowP_le n h0
  unfold andW
  rw [show (IntKind.i64.bits) = 64 from rfl]
  rw [h1]
  exact wrap_in (k := .i64) ⟨by omega, by omega⟩
set_option maxHeartbeats 4000000 in
theorem powerIn_ok {n : Nat} (h0 : 0 < n) (hn : n < 9223372036854775808) : FnOk E.P 117 [pI n] (pI (Bt.lowP n : Nat)) true := by
  have e := andW_low h0 hn
  refine fn_ok mixed Try.func117 rfl (by kernel_rfl) _ Try.results117 _ Try.ntmps117 (by simp) (by kernel_rfl) ?_
  simp (maxSteps := 4000000) only [e, pI, tvs, simprocAttr]
  repeat (first | refine ftS (by kernel_rfl) ?_ | refine And.intro (by omega) ?_)
  all_goals (first | rfl | trivial | skip)
set_option maxHeartbeats 4000000 in
theorem even_ok {N : Nat} (h0 : 0 < N) (hn : N < 9223372036854775808) : FnOk E.P 116 [pI N] (pI (Bt.lowP N : Nat)) true := by
  have hle := Bt.lowP_le N h0
  refine fn_ok mixed Try.func116 rfl (by kernel_rfl) _ Try.results116 _ Try.ntmps116 (by simp) (by kernel_rfl) ?_
  simp (maxSteps := 4000000) only [pI, tvs, simprocAttr]
  repeat (first | refine ftS (by kernel_rfl) ?_ | refine And.intro (by omega) ?_)
  refine awp_loop (X := Nat × Nat) (fun x => [(0, .pv (.int .i64 (x.1 : Nat))), (3, .pv (.int .i64 (x.2 : Nat)))]) (fun _ => [])
    (fun x => 0 < x.1 ∧ x.1 ≤ N ∧ 1 ≤ x.2 ∧ x.2 * Bt.lowP x.1 = Bt.lowP N) (fun x => x.1) 100 (N, 1) ⟨h0, Nat.le_refl _, Nat.le_refl _, Nat.one_mul _⟩ (by simp (maxSteps := 4000000) only [pI, tvs, simprocAttr]; try simp [pI]) (fun x H => ?_)
  obtain ⟨n, b⟩ := x
  obtain ⟨i1, i2, i3, i4⟩ := H
  simp only at i1 i2 i3 i4
  have e2 : (n : Int).tmod 2 = ((n % 2 : Nat) : Int) := by rw [Int.tmod_eq_emod_of_nonneg (by omega)]; omega
  have e3 : (n : Int).tdiv 2 = ((n / 2 : Nat) : Int) := by rw [Int.tdiv_eq_ediv_of_nonneg (by omega)]; omega
  by_cases c : n % 2 = 0
  · have d1 : (((n % 2 : Nat) : Int) == 0) = true := by rw [beq_iff_eq]; omega
    rw [Bt.lowP_even c i1] at i4
    have hq := Bt.lowP_le (n / 2) (by omega)
    have hb : b * 2 ≤ Bt.lowP N := by
      rw [← i4]
      have := Nat.mul_le_mul_left b (show 2 ≤ 2 * Bt.lowP (n / 2) by omega)
      exact this
    have mw : mulW .i64 (b : Int) 2 = (b : Int) * 2 := mulW_in ⟨by omega, by omega⟩
    simp (maxSteps := 4000000) only [e2, e3, d1, mw, pI, tvs, simprocAttr]
    repeat (first | refine ftS (by kernel_rfl) ?_ | refine And.intro (by omega) ?_)
    refine ⟨(n / 2, b * 2), ⟨by simp only; omega, by simp only; omega, by simp only; omega, by simp only; rw [← i4, Nat.mul_assoc]⟩, by simp only; omega, ?_⟩
    simp
  · have d1 : (((n % 2 : Nat) : Int) == 0) = false := by rw [beq_eq_false_iff_ne]; omega
    rw [Bt.lowP_odd c, Nat.mul_one] at i4
    rw [← i4]
    simp (maxSteps := 4000000) only [e2, d1, pI, tvs, simprocAttr]
    repeat (first | refine ftS (by kernel_rfl) ?_ | refine And.intro (by omega) ?_)
    all_goals (first | rfl | trivial | skip)
theorem kept_neg {a b : Int} (h : a < 0 ∨ a > b) : Bt.kept a b = false := by
  unfold Bt.kept
  rcases h with h | h
  · simp; omega
  · have : decide (a ≤ b) = false := by simp; omega
    simp [this]
theorem kept_in {a b : Int} (h0 : 0 ≤ a) (h1 : a ≤ b) : Bt.kept a b = (a == 0 || a == b || decide (((Bt.lowP a.toNat : Nat) : Int) > (b - a) / 4)) := by
  unfold Bt.kept
  simp [h0, h1]
set_option maxHeartbeats 8000000 in
theorem ikept_ok {a b : Int} (hb : b ≤ 9223372036854775807) : FnOk E.P 93 [pI a, pI b] (.bool (Bt.kept a b)) true := by
  by_cases c0 : a < 0
  · have d0 : decide (a < 0) = true := by simpa using c0
    rw [kept_neg (.inl c0)]
    refine fn_ok mixed Try.func93 rfl (by kernel_rfl) _ Try.results93 _ Try.ntmps93 (by simp) (by kernel_rfl) ?_
    repeat (first | (refine aops_fnX rfl ?_ ?_; focus (simp (maxSteps := 4000000) only [sks, d0, pI, tvs, simprocAttr]; done)) | (simp (maxSteps := 4000000) only [d0, pI, tvs, simprocAttr]) | refine ftS (by kernel_rfl) ?_ | refine And.intro (by omega) ?_)
    all_goals (first | rfl | trivial | skip)
  have d0 : decide (a < 0) = false := by simpa using c0
  by_cases c1 : a > b
  · have d1 : decide (a > b) = true := by simpa using c1
    rw [kept_neg (.inr c1)]
    refine fn_ok mixed Try.func93 rfl (by kernel_rfl) _ Try.results93 _ Try.ntmps93 (by simp) (by kernel_rfl) ?_
    repeat (first | (refine aops_fnX rfl ?_ ?_; focus (simp (maxSteps := 4000000) only [sks, d0, d1, pI, tvs, simprocAttr]; done)) | (simp (maxSteps := 4000000) only [d0, d1, pI, tvs, simprocAttr]) | refine ftS (by kernel_rfl) ?_ | refine And.intro (by omega) ?_)
    all_goals (first | rfl | trivial | skip)
  have d1 : decide (a > b) = false := by simpa using c1
  rw [kept_in (by omega) (by omega)]
  cases c2 : a == 0
  · cases c3 : a == b
    · obtain ⟨n, rfl⟩ : ∃ n : Nat, a = n := ⟨a.toNat, by omega⟩
      have hn : n ≠ 0 := by rintro rfl; simp at c2
      have hP := powerIn_ok (n := n) (by omega) (by omega)
      have e3 : (b - (n : Int)).tdiv 4 = (b - (n : Int)) / 4 := Int.tdiv_eq_ediv_of_nonneg (by omega)
      simp only [Int.toNat_natCast, Bool.false_or]
      refine fn_ok mixed Try.func93 rfl (by kernel_rfl) _ Try.results93 _ Try.ntmps93 (by simp) (by kernel_rfl) ?_
      simp (maxSteps := 4000000) only [d0, d1, c2, c3, pI, tvs, simprocAttr]
      repeat (first | refine ftS (by kernel_rfl) ?_ | refine And.intro (by omega) ?_)
      refine aops_fn (hP) (hidB rfl) rfl ?_
      simp (maxSteps := 4000000) only [e3, pI, tvs, simprocAttr]
      repeat (first | refine ftS (by kernel_rfl) ?_ | refine And.intro (by omega) ?_)
      all_goals (first | rfl | trivial | skip)
    · simp only [Bool.false_or, Bool.true_or]
      refine fn_ok mixed Try.func93 rfl (by kernel_rfl) _ Try.results93 _ Try.ntmps93 (by simp) (by kernel_rfl) ?_
      repeat (first | (refine aops_fnX rfl ?_ ?_; focus (simp (maxSteps := 4000000) only [sks, d0, d1, c2, c3, pI, tvs, simprocAttr]; done)) | (simp (maxSteps := 4000000) only [d0, d1, c2, c3, pI, tvs, simprocAttr]) | refine ftS (by kernel_rfl) ?_ | refine And.intro (by omega) ?_)
      all_goals (first | rfl | trivial | skip)
  · simp only [Bool.true_or]
    refine fn_ok mixed Try.func93 rfl (by kernel_rfl) _ Try.results93 _ Try.ntmps93 (by simp) (by kernel_rfl) ?_
    repeat (first | (refine aops_fnX rfl ?_ ?_; focus (simp (maxSteps := 4000000) only [sks, d0, d1, c2, pI, tvs, simprocAttr]; done)) | (simp (maxSteps := 4000000) only [d0, d1, c2, pI, tvs, simprocAttr]) | refine ftS (by kernel_rfl) ?_ | refine And.intro (by omega) ?_)
    all_goals (first | rfl | trivial | skip)
set_option maxHeartbeats 8000000 in
theorem skept_ok {a b : Int} (hb : b ≤ 9223372036854775807) : FnOk E.P 92 [pI a, pI b] (.bool (Bt.kept a b)) true := by
  by_cases c0 : a < 0
  · have d0 : decide (a < 0) = true := by simpa using c0
    rw [kept_neg (.inl c0)]
    refine fn_ok mixed Try.func92 rfl (by kernel_rfl) _ Try.results92 _ Try.ntmps92 (by simp) (by kernel_rfl) ?_
    repeat (first | (refine aops_fnX rfl ?_ ?_; focus (simp (maxSteps := 4000000) only [sks, d0, pI, tvs, simprocAttr]; done)) | (simp (maxSteps := 4000000) only [d0, pI, tvs, simprocAttr]) | refine ftS (by kernel_rfl) ?_ | refine And.intro (by omega) ?_)
    all_goals (first | rfl | trivial | skip)
  have d0 : decide (a < 0) = false := by simpa using c0
  by_cases c9 : b < 0
  · have d9 : decide (b < 0) = true := by simpa using c9
    rw [kept_neg (.inr (by omega))]
    refine fn_ok mixed Try.func92 rfl (by kernel_rfl) _ Try.results92 _ Try.ntmps92 (by simp) (by kernel_rfl) ?_
    repeat (first | (refine aops_fnX rfl ?_ ?_; focus (simp (maxSteps := 4000000) only [sks, d0, d9, pI, tvs, simprocAttr]; done)) | (simp (maxSteps := 4000000) only [d0, d9, pI, tvs, simprocAttr]) | refine ftS (by kernel_rfl) ?_ | refine And.intro (by omega) ?_)
    all_goals (first | rfl | trivial | skip)
  have d9 : decide (b < 0) = false := by simpa using c9
  by_cases c1 : a > b
  · have d1 : decide (a > b) = true := by simpa using c1
    rw [kept_neg (.inr c1)]
    refine fn_ok mixed Try.func92 rfl (by kernel_rfl) _ Try.results92 _ Try.ntmps92 (by simp) (by kernel_rfl) ?_
    repeat (first | (refine aops_fnX rfl ?_ ?_; focus (simp (maxSteps := 4000000) only [sks, d0, d9, d1, pI, tvs, simprocAttr]; done)) | (simp (maxSteps := 4000000) only [d0, d9, d1, pI, tvs, simprocAttr]) | refine ftS (by kernel_rfl) ?_ | refine And.intro (by omega) ?_)
    all_goals (first | rfl | trivial | skip)
  have d1 : decide (a > b) = false := by simpa using c1
  rw [kept_in (by omega) (by omega)]
  cases c2 : a == 0
  · cases c3 : a == b
    · obtain ⟨n, rfl⟩ : ∃ n : Nat, a = n := ⟨a.toNat, by omega⟩
      have hn : n ≠ 0 := by rintro rfl; simp at c2
      have hP := even_ok (N := n) (by omega) (by omega)
      have e3 : (b - (n : Int)).tdiv 4 = (b - (n : Int)) / 4 := Int.tdiv_eq_ediv_of_nonneg (by omega)
      simp only [Int.toNat_natCast, Bool.false_or]
      refine fn_ok mixed Try.func92 rfl (by kernel_rfl) _ Try.results92 _ Try.ntmps92 (by simp) (by kernel_rfl) ?_
      simp (maxSteps := 4000000) only [d0, d9, d1, c2, c3, pI, tvs, simprocAttr]
      repeat (first | refine ftS (by kernel_rfl) ?_ | refine And.intro (by omega) ?_)
      refine aops_fnG (hP) (hidB rfl) rfl rfl (by simp (maxSteps := 4000000) only [c2, c3, pI, tvs, simprocAttr]) ?_
      simp (maxSteps := 4000000) only [e3, pI, tvs, simprocAttr]
      repeat (first | refine ftS (by kernel_rfl) ?_ | refine And.intro (by omega) ?_)
      all_goals (first | rfl | trivial | skip)
    · simp only [Bool.false_or, Bool.true_or]
      refine fn_ok mixed Try.func92 rfl (by kernel_rfl) _ Try.results92 _ Try.ntmps92 (by simp) (by kernel_rfl) ?_
      repeat (first | (refine aops_fnX rfl ?_ ?_; focus (simp (maxSteps := 4000000) only [sks, d0, d9, d1, c2, c3, pI, tvs, simprocAttr]; done)) | (simp (maxSteps := 4000000) only [d0, d9, d1, c2, c3, pI, tvs, simprocAttr]) | refine ftS (by kernel_rfl) ?_ | refine And.intro (by omega) ?_)
      all_goals (first | rfl | trivial | skip)
  · simp only [Bool.true_or]
    refine fn_ok mixed Try.func92 rfl (by kernel_rfl) _ Try.results92 _ Try.ntmps92 (by simp) (by kernel_rfl) ?_
    repeat (first | (refine aops_fnX rfl ?_ ?_; focus (simp (maxSteps := 4000000) only [sks, d0, d9, d1, c2, pI, tvs, simprocAttr]; done)) | (simp (maxSteps := 4000000) only [d0, d9, d1, c2, pI, tvs, simprocAttr]) | refine ftS (by kernel_rfl) ?_ | refine And.intro (by omega) ?_)
    all_goals (first | rfl | trivial | skip)
end Av
end Go.Proofs.Ytbkbppllcjcmhaa
