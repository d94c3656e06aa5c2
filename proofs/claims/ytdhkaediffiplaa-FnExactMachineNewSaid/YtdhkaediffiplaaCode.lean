/-
  What the functions of the first chapter that only compute answer, in both packages: contracts for every argument.
-/
import Derived.Test.YtdhkaediffiplaaPlain
import Derived.Test.YtdhkaediffiplaaRows
import Derived.Test.YtdhkaediffiplaaKit
namespace Go.Proofs.Ytdhkaediffiplaa
open Go.RowKit

/-- no instruction: none of the 18 tests says yes -/
theorem ops_none {op : Int} (h : op < 0 ∨ 17 < op) (k : Int) (h0 : 0 ≤ k) (h1 : k ≤ 17) : (op == k) = false := by
  rw [beq_eq_false_iff_ne]; omega

set_option maxHeartbeats 1000000 in
theorem uses_any (op : Int) (w : World) :
    Calls Try.prog 86 #[.int .i64 op] w fun e w' => e = .returned (.tuple #[.bool (Bt.uA op), .bool (Bt.uB op), .int .i64 (Bt.uC op), .bool (Bt.uOk op)]) ∧ w = w' := by
  rcases Bt.ops op with h | h | h | h | h | h | h | h | h | h | h | h | h | h | h | h | h | h | h
  case inr.inr.inr.inr.inr.inr.inr.inr.inr.inr.inr.inr.inr.inr.inr.inr.inr.inr =>
    have hE : Ending.returned (.tuple #[.bool (Bt.uA op), .bool (Bt.uB op), .int .i64 (Bt.uC op), .bool (Bt.uOk op)]) = Ending.returned (.tuple #[.bool false, .bool false, .int .i64 0, .bool false]) := by
      have e1 : Bt.uA op = false := by simp only [Bt.uA, decide_eq_false_iff_not]; omega
      have e2 : Bt.uB op = false := by simp only [Bt.uB, decide_eq_false_iff_not]; omega
      have e3 : Bt.uOk op = false := by simp only [Bt.uOk, decide_eq_false_iff_not]; omega
      have e4 : Bt.uC op = 0 := by unfold Bt.uC; repeat (rw [if_neg (by omega)])
      rw [e1, e2, e3, e4]
    rw [hE]
    have t0 := ops_none h 0 (by decide) (by decide)
    have t1 := ops_none h 1 (by decide) (by decide)
    have t2 := ops_none h 2 (by decide) (by decide)
    have t3 := ops_none h 3 (by decide) (by decide)
    have t4 := ops_none h 4 (by decide) (by decide)
    have t5 := ops_none h 5 (by decide) (by decide)
    have t6 := ops_none h 6 (by decide) (by decide)
    have t7 := ops_none h 7 (by decide) (by decide)
    have t8 := ops_none h 8 (by decide) (by decide)
    have t9 := ops_none h 9 (by decide) (by decide)
    have t10 := ops_none h 10 (by decide) (by decide)
    have t11 := ops_none h 11 (by decide) (by decide)
    have t12 := ops_none h 12 (by decide) (by decide)
    have t13 := ops_none h 13 (by decide) (by decide)
    have t14 := ops_none h 14 (by decide) (by decide)
    have t15 := ops_none h 15 (by decide) (by decide)
    have t16 := ops_none h 16 (by decide) (by decide)
    have t17 := ops_none h 17 (by decide) (by decide)
    clear hE h
    go_enter Try.func86, Try.ntmps86
    go_wp2
    exact bodyPost_ret (by simp [results, Try.results86, go_sem]) rfl ⟨rfl, rfl⟩
  all_goals
    subst h
    go_enter Try.func86, Try.ntmps86
    go_wp2
    exact bodyPost_ret (by simp [results, Try.results86, go_sem]; decide) rfl ⟨rfl, rfl⟩

set_option maxHeartbeats 1000000 in
theorem below_any (n top : Int) (u : Bool) (w : World) :
    Calls Try.prog 91 #[.int .i64 n, .int .i64 top, .bool u] w fun e w' => e = .returned (.bool (Bt.below n top u)) ∧ w = w' := by
  cases u
  · have hE : Bt.below n top false = (n == 0) := rfl
    rw [hE]
    go_enter Try.func91, Try.ntmps91
    go_wp2
    go_ret
    exact ⟨rfl, rfl⟩
  · by_cases h : 0 ≤ n
    · have hE : Bt.below n top true = decide (n < top) := by simp [Bt.below, h]
      rw [hE]
      go_enter Try.func91, Try.ntmps91
      go_wp2
      go_ret
      exact ⟨rfl, rfl⟩
    · have hE : Bt.below n top true = false := by simp [Bt.below, h]
      rw [hE]
      go_enter Try.func91, Try.ntmps91
      go_wp2
      go_ret
      exact ⟨rfl, rfl⟩

set_option maxHeartbeats 1000000 in
theorem ftop_any (k : Int) (w : World) :
    Calls Try.prog 101 #[.int .i64 k] w fun e w' => e = .returned (.int .i64 (Bt.fTop k)) ∧ w = w' := by
  by_cases h : 1 ≤ k ∧ k ≤ 5
  · rcases (show k = 1 ∨ k = 2 ∨ k = 3 ∨ k = 4 ∨ k = 5 by omega) with rfl | rfl | rfl | rfl | rfl
    all_goals
      go_enter Try.func101, Try.ntmps101
      go_wp2
      go_ret
      exact ⟨rfl, rfl⟩
  · have hE : Bt.fTop k = 1 := by unfold Bt.fTop; repeat (rw [if_neg (by omega)])
    rw [hE]
    have t1 : (k == 1) = false := by rw [beq_eq_false_iff_ne]; omega
    have t2 : (k == 2) = false := by rw [beq_eq_false_iff_ne]; omega
    have t3 : (k == 3) = false := by rw [beq_eq_false_iff_ne]; omega
    have t4 : (k == 4) = false := by rw [beq_eq_false_iff_ne]; omega
    have t5 : (k == 5) = false := by rw [beq_eq_false_iff_ne]; omega
    clear h hE
    go_enter Try.func101, Try.ntmps101
    go_wp2
    go_ret
    exact ⟨rfl, rfl⟩

set_option maxHeartbeats 1000000 in
theorem fok_any (n k : Int) (w : World) :
    Calls Try.prog 92 #[.int .i64 n, .int .i64 k] w fun e w' => e = .returned (.bool (Bt.fOk n k)) ∧ w = w' := by
  by_cases h : 0 ≤ n
  · have hE : Bt.fOk n k = decide (n < Bt.fTop k) := by simp [Bt.fOk, h]
    rw [hE]
    go_enter Try.func92, Try.ntmps92
    go_wp2_with (go_at_call 101; refine (ftop_any _ _).mono ?_; rintro e w' ⟨rfl, rfl⟩)
    go_ret
    exact ⟨rfl, rfl⟩
  · have hE : Bt.fOk n k = false := by simp [Bt.fOk, h]
    rw [hE]
    go_enter Try.func92, Try.ntmps92
    go_wp2
    go_ret
    exact ⟨rfl, rfl⟩
end Go.Proofs.Ytdhkaediffiplaa
