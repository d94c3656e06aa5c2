/-
  What the functions of the first chapter that only compute answer, in both packages: contracts for every argument.
  When an instruction is one, in both packages: contracts for every instruction.
  When an instruction is one, in both packages: contracts for every instruction.
-/
import Derived.Test.YtolbihilggkldaaPlain
import Derived.Test.YtolbihilggkldaaRows
import Derived.Test.YtolbihilggkldaaKit
import Derived.Lib.SmallJoins
namespace Go.Proofs.Ytolbihilggkldaa
open Go.RowKit

/-- no instruction: none of the 18 tests says yes -/
theorem ops_none {op : Int} (h : op < 0 ∨ 17 < op) (k : Int) (h0 : 0 ≤ k) (h1 : k ≤ 17) : (op == k) = false := by
  rw [beq_eq_false_iff_ne]; omega

set_option maxHeartbeats 1000000 in
theorem uses_any (op : Int) (w : World) :
    Calls Try.prog 61 #[.int .i64 op] w fun e w' => e = .returned (.tuple #[.bool (Bt.uA op), .bool (Bt.uB op), .int .i64 (Bt.uC op), .bool (Bt.uOk op)]) ∧ w = w' := by
  rcases Bt.ops op with h | h | h | h | h | h | h | h | h | h | h | h | h | h | h | h | h | h | h
  case inr.inr.inr.inr.inr.inr.inr.inr.inr.inr.inr.inr.inr.inr.inr.inr.inr.inr =>
    have hE : Ending.returned (.tuple #[.bool (Bt.uA op), .bool (Bt.uB op), .int .i64 (Bt.uC op), .bool (Bt.uOk op)]) = Ending.returned (.tuple #[.bool false, .bool false, .int .i64 0, .bool false]) := by
      have e1 : Bt.uA op = false := by simp only [Bt.uA, decide_eq_false_iff_not]; omega
      have e2 : Bt.uB op = false := by simp only [Bt.uB, decide_eq_false_iff_not]; omega
      have e3 : Bt.uOk op = false := by simp only [Bt.uOk, decide_eq_false_iff_not]; omega
      have e4 : Bt.uC op = 0 := by unfold Bt.uC; repeat (rw [if_neg (by omega)])
      rw [e1, e2, e3, e4]
    rw [hE]
    have t0 := ops_none h 0 (by decide) (by decide)
    have t1 := ops_none h 1 (by decide) (by decide)
    have t2 := ops_none h 2 (by decide) (by decide)
    have t3 := ops_none h 3 (by decide) (by decide)
    have t4 := ops_none h 4 (by decide) (by decide)
    have t5 := ops_none h 5 (by decide) (by decide)
    have t6 := ops_none h 6 (by decide) (by decide)
    have t7 := ops_none h 7 (by decide) (by decide)
    have t8 := ops_none h 8 (by decide) (by decide)
    have t9 := ops_none h 9 (by decide) (by decide)
    have t10 := ops_none h 10 (by decide) (by decide)
    have t11 := ops_none h 11 (by decide) (by decide)
    have t12 := ops_none h 12 (by decide) (by decide)
    have t13 := ops_none h 13 (by decide) (by decide)
    have t14 := ops_none h 14 (by decide) (by decide)
    have t15 := ops_none h 15 (by decide) (by decide)
    have t16 := ops_none h 16 (by decide) (by decide)
    have t17 := ops_none h 17 (by decide) (by decide)
    clear hE h
    go_enter Try.func61, Try.ntmps61
    go_wp2
    exact bodyPost_ret (by simp [results, Try.results61, go_sem]) rfl ⟨rfl, rfl⟩
  all_goals
    subst h
    go_enter Try.func61, Try.ntmps61
    go_wp2
    exact bodyPost_ret (by simp [results, Try.results61, go_sem]; decide) rfl ⟨rfl, rfl⟩

set_option maxHeartbeats 1000000 in
theorem below_any (n top : Int) (u : Bool) (w : World) :
    Calls Try.prog 81 #[.int .i64 n, .int .i64 top, .bool u] w fun e w' => e = .returned (.bool (Bt.below n top u)) ∧ w = w' := by
  cases u
  · have hE : Bt.below n top false = (n == 0) := rfl
    rw [hE]
    go_enter Try.func81, Try.ntmps81
    go_wp2
    go_ret
    exact ⟨rfl, rfl⟩
  · by_cases h : 0 ≤ n
    · have hE : Bt.below n top true = decide (n < top) := by simp [Bt.below, h]
      rw [hE]
      go_enter Try.func81, Try.ntmps81
      go_wp2
      go_ret
      exact ⟨rfl, rfl⟩
    · have hE : Bt.below n top true = false := by simp [Bt.below, h]
      rw [hE]
      go_enter Try.func81, Try.ntmps81
      go_wp2
      go_ret
      exact ⟨rfl, rfl⟩

set_option maxHeartbeats 1000000 in
theorem ftop_any (k : Int) (w : World) :
    Calls Try.prog 98 #[.int .i64 k] w fun e w' => e = .returned (.int .i64 (Bt.fTop k)) ∧ w = w' := by
  by_cases h : 1 ≤ k ∧ k ≤ 5
  · rcases (show k = 1 ∨ k = 2 ∨ k = 3 ∨ k = 4 ∨ k = 5 by omega) with rfl | rfl | rfl | rfl | rfl
    all_goals
      go_enter Try.func98, Try.ntmps98
      go_wp2
      go_ret
      exact ⟨rfl, rfl⟩
  · have hE : Bt.fTop k = 1 := by unfold Bt.fTop; repeat (rw [if_neg (by omega)])
    rw [hE]
    have t1 : (k == 1) = false := by rw [beq_eq_false_iff_ne]; omega
    have t2 : (k == 2) = false := by rw [beq_eq_false_iff_ne]; omega
    have t3 : (k == 3) = false := by rw [beq_eq_false_iff_ne]; omega
    have t4 : (k == 4) = false := by rw [beq_eq_false_iff_ne]; omega
    have t5 : (k == 5) = false := by rw [beq_eq_false_iff_ne]; omega
    clear h hE
    go_enter Try.func98, Try.ntmps98
    go_wp2
    go_ret
    exact ⟨rfl, rfl⟩

set_option maxHeartbeats 1000000 in
theorem fok_any (n k : Int) (w : World) :
    Calls Try.prog 87 #[.int .i64 n, .int .i64 k] w fun e w' => e = .returned (.bool (Bt.fOk n k)) ∧ w = w' := by
  by_cases h : 0 ≤ n
  · have hE : Bt.fOk n k = decide (n < Bt.fTop k) := by simp [Bt.fOk, h]
    rw [hE]
    go_enter Try.func87, Try.ntmps87
    go_wp2_with (go_at_call 98; refine (ftop_any _ _).mono ?_; rintro e w' ⟨rfl, rfl⟩)
    go_ret
    exact ⟨rfl, rfl⟩
  · have hE : Bt.fOk n k = false := by simp [Bt.fOk, h]
    rw [hE]
    go_enter Try.func87, Try.ntmps87
    go_wp2
    go_ret
    exact ⟨rfl, rfl⟩
end Go.Proofs.Ytolbihilggkldaa

namespace Go.Proofs.Ytolbihilggkldaa
open Go.RowKit

set_option maxHeartbeats 1000000 in
theorem toCode_any (op a b c : Int) (w : World) :
    Calls Try.prog 66 #[.agg #[.int .i64 op, .int .i64 a, .int .i64 b, .int .i64 c]] w fun e w' => e = .returned (.agg #[.int .i64 op, .int .i64 a, .int .i64 b, .int .i64 c]) ∧ Below w.heap.size w w' := by
  go_enter Try.func66, Try.ntmps66
  go_wp2
  refine bodyPost_ret (v := .agg #[.int .i64 op, .int .i64 a, .int .i64 b, .int .i64 c]) (by simp [results, Try.results66, go_sem]) rfl ⟨rfl, ?_⟩
  repeat (first | exact Below.refl _ _ | (refine Below.alloc ?_ (by simp <;> omega) _))

set_option maxHeartbeats 1000000 in
theorem formOf_any (op : Int) (w : World) :
    Calls Try.prog 72 #[.int .i64 op] w fun e w' => e = .returned (.agg #[.string ⟨(Bt.name op).toArray⟩, .int .i64 (Bt.fA op), .int .i64 (Bt.fB op), .int .i64 (Bt.fC op)]) ∧ Below w.heap.size w w' := by
  rcases Bt.ops op with h | h | h | h | h | h | h | h | h | h | h | h | h | h | h | h | h | h | h
  case inr.inr.inr.inr.inr.inr.inr.inr.inr.inr.inr.inr.inr.inr.inr.inr.inr.inr =>
    have t0 := ops_none h 0 (by decide) (by decide)
    have t1 := ops_none h 1 (by decide) (by decide)
    have t2 := ops_none h 2 (by decide) (by decide)
    have t3 := ops_none h 3 (by decide) (by decide)
    have t4 := ops_none h 4 (by decide) (by decide)
    have t5 := ops_none h 5 (by decide) (by decide)
    have t6 := ops_none h 6 (by decide) (by decide)
    have t7 := ops_none h 7 (by decide) (by decide)
    have t8 := ops_none h 8 (by decide) (by decide)
    have t9 := ops_none h 9 (by decide) (by decide)
    have t10 := ops_none h 10 (by decide) (by decide)
    have t11 := ops_none h 11 (by decide) (by decide)
    have t12 := ops_none h 12 (by decide) (by decide)
    have t13 := ops_none h 13 (by decide) (by decide)
    have t14 := ops_none h 14 (by decide) (by decide)
    have t15 := ops_none h 15 (by decide) (by decide)
    have t16 := ops_none h 16 (by decide) (by decide)
    have t17 := ops_none h 17 (by decide) (by decide)
    go_enter Try.func72, Try.ntmps72
    go_wp2
    refine bodyPost_ret (v := .agg #[.string ⟨#[]⟩, .int .i64 0, .int .i64 0, .int .i64 0]) (by simp [results, Try.results72, go_sem]) rfl ⟨?_, (Below.refl _ _).alloc (Nat.le_refl _) _⟩
    have e1 : Bt.uA op = false := by simp only [Bt.uA, decide_eq_false_iff_not]; omega
    have e2 : Bt.uB op = false := by simp only [Bt.uB, decide_eq_false_iff_not]; omega
    have e4 : Bt.uC op = 0 := by unfold Bt.uC; repeat (rw [if_neg (by omega)])
    simp [Bt.name_none h, Bt.fA, Bt.fB, Bt.fC, e1, e2, e4]
  all_goals
    subst h
    go_enter Try.func72, Try.ntmps72
    go_wp2
    exact bodyPost_ret (by simp [results, Try.results72, go_sem]; decide) rfl ⟨rfl, (Below.refl _ _).alloc (Nat.le_refl _) _⟩
end Go.Proofs.Ytolbihilggkldaa

namespace Go.Proofs.Ytolbihilggkldaa
open Go.RowKit

theorem below_q (n top : Int) (u : Bool) (w : World) :
    Calls Try.prog 81 #[.int .i64 n, .int .i64 top, .bool u] w fun e w' => e = .returned (.bool (Bt.below n top u)) ∧ w' = w :=
  (below_any n top u w).mono fun _ _ ⟨he, hw⟩ => ⟨he, hw.symm⟩

set_option maxHeartbeats 1000000 in
theorem specCodeOk_any (op a b c : Int) (w : World) :
    Calls Try.prog 62 #[.agg #[.int .i64 op, .int .i64 a, .int .i64 b, .int .i64 c]] w fun e w' => e = .returned (.bool (Bt.codeOk op a b c)) ∧ Below w.heap.size w w' := by
  have hk : Bt.uC op = 0 ∨ Bt.uC op = 1 ∨ Bt.uC op = 2 ∨ Bt.uC op = 3 ∨ Bt.uC op = 4 := by unfold Bt.uC; omega
  cases hu : Bt.uOk op
  · have hE : Bt.codeOk op a b c = false := by simp [Bt.codeOk, hu]
    rw [hE]
    clear hk hE
    go_enter Try.func62, Try.ntmps62
    go_wp2_with (go_at_call 61; refine (uses_any _ _).mono ?_; rintro e w' ⟨rfl, rfl⟩)
    go_quiet (fail)
    go_wp2
    go_ret
    exact ⟨rfl, bDrewN (((Below.refl _ _).alloc (Nat.le_refl _) _).alloc (by simp) _) _⟩
  · cases hA : Bt.below a 4 (Bt.uA op)
    · have hE : Bt.codeOk op a b c = false := by simp [Bt.codeOk, hA]
      rw [hE]
      clear hk hE
      go_enter Try.func62, Try.ntmps62
      go_wp2_with (go_at_call 61; refine (uses_any _ _).mono ?_; rintro e w' ⟨rfl, rfl⟩)
      go_quiet ((go_at_call 81; exact Calls.quiet_of_same (below_q _ _ _ _)))
      go_wp2
      go_ret
      exact ⟨rfl, bDrewN (((Below.refl _ _).alloc (Nat.le_refl _) _).alloc (by simp) _) _⟩
    · cases hB : Bt.below b 4 (Bt.uB op)
      · have hE : Bt.codeOk op a b c = false := by simp [Bt.codeOk, hB]
        rw [hE]
        clear hk hE
        go_enter Try.func62, Try.ntmps62
        go_wp2_with (go_at_call 61; refine (uses_any _ _).mono ?_; rintro e w' ⟨rfl, rfl⟩)
        go_quiet ((go_at_call 81; exact Calls.quiet_of_same (below_q _ _ _ _)))
        go_wp2
        go_ret
        exact ⟨rfl, bDrewN (((Below.refl _ _).alloc (Nat.le_refl _) _).alloc (by simp) _) _⟩
      · have hE : Bt.codeOk op a b c = Bt.below c (Bt.topC (Bt.uC op)) (decide (0 < Bt.uC op)) := by simp [Bt.codeOk, hu, hA, hB]
        rw [hE]
        clear hE
        rcases hk with hk | hk | hk | hk | hk
        all_goals
          rw [hk]
          simp only [Bt.topC]
          go_enter Try.func62, Try.ntmps62
          go_wp2_with (go_at_call 61; refine (uses_any _ _).mono ?_; rintro e w' ⟨rfl, rfl⟩)
          go_quiet ((go_at_call 81; exact Calls.quiet_of_same (below_q _ _ _ _)))
          go_wp2
          go_ret
          exact ⟨rfl, bDrewN (((Below.refl _ _).alloc (Nat.le_refl _) _).alloc (by simp) _) _⟩

theorem fok_q (n k : Int) (w : World) :
    Calls Try.prog 87 #[.int .i64 n, .int .i64 k] w fun e w' => e = .returned (.bool (Bt.fOk n k)) ∧ w' = w :=
  (fok_any n k w).mono fun _ _ ⟨he, hw⟩ => ⟨he, hw.symm⟩

set_option maxHeartbeats 1000000 in
theorem implCodeOk_any (op a b c : Int) (w : World) :
    Calls Try.prog 71 #[.agg #[.int .i64 op, .int .i64 a, .int .i64 b, .int .i64 c]] w fun e w' => e = .returned (.bool (Bt.codeOk op a b c)) ∧ Below w.heap.size w w' := by
  rw [← Bt.codeOk_eq]
  by_cases hop : 0 ≤ op ∧ op ≤ 17
  · have hu : Bt.uOk op = true := by simp only [Bt.uOk, decide_eq_true_eq]; omega
    have hn : (Bt.name op).isEmpty = false := by
      rcases (show op = 0 ∨ op = 1 ∨ op = 2 ∨ op = 3 ∨ op = 4 ∨ op = 5 ∨ op = 6 ∨ op = 7 ∨ op = 8 ∨ op = 9 ∨ op = 10 ∨ op = 11 ∨ op = 12 ∨ op = 13 ∨ op = 14 ∨ op = 15 ∨ op = 16 ∨ op = 17 by omega) with rfl | rfl | rfl | rfl | rfl | rfl | rfl | rfl | rfl | rfl | rfl | rfl | rfl | rfl | rfl | rfl | rfl | rfl
      all_goals decide
    rw [hu, Bool.true_and]
    clear hop hu
    cases hA : Bt.fOk a (Bt.fA op)
    · rw [Bool.false_and, Bool.false_and]
      go_enter Try.func71, Try.ntmps71
      go_wp2_with (first | (go_at_call 72; refine (formOf_any _ _).mono ?_; rintro e w1 ⟨rfl, hb⟩; obtain ⟨hc, hf⟩ := bcell hb; have hz : w.heap.size < w1.heap.size := (by have := hb.size; simp at this; omega)) | (go_at_call 87; refine (fok_any _ _ _).mono ?_; rintro e w' ⟨rfl, rfl⟩))
      go_ret
      exact ⟨rfl, (((Below.refl _ _).alloc (Nat.le_refl _) _).trans (hb.mono (by simp))).alloc (by omega) _⟩
    · rw [Bool.true_and]
      cases hB : Bt.fOk b (Bt.fB op)
      · rw [Bool.false_and]
        go_enter Try.func71, Try.ntmps71
        go_wp2_with (first | (go_at_call 72; refine (formOf_any _ _).mono ?_; rintro e w1 ⟨rfl, hb⟩; obtain ⟨hc, hf⟩ := bcell hb; have hz : w.heap.size < w1.heap.size := (by have := hb.size; simp at this; omega)) | (go_at_call 87; refine (fok_any _ _ _).mono ?_; rintro e w' ⟨rfl, rfl⟩))
        go_ret
        exact ⟨rfl, (((Below.refl _ _).alloc (Nat.le_refl _) _).trans (hb.mono (by simp))).alloc (by omega) _⟩
      · rw [Bool.true_and]
        go_enter Try.func71, Try.ntmps71
        go_wp2_with (first | (go_at_call 72; refine (formOf_any _ _).mono ?_; rintro e w1 ⟨rfl, hb⟩; obtain ⟨hc, hf⟩ := bcell hb; have hz : w.heap.size < w1.heap.size := (by have := hb.size; simp at this; omega)) | (go_at_call 87; refine (fok_any _ _ _).mono ?_; rintro e w' ⟨rfl, rfl⟩))
        go_ret
        exact ⟨rfl, (((Below.refl _ _).alloc (Nat.le_refl _) _).trans (hb.mono (by simp))).alloc (by omega) _⟩
  · have hu : Bt.uOk op = false := by simp only [Bt.uOk, decide_eq_false_iff_not]; omega
    have hn : (Bt.name op) = [] := Bt.name_none (by omega)
    rw [hu, Bool.false_and]
    clear hop hu
    go_enter Try.func71, Try.ntmps71
    go_wp2_with (go_at_call 72; refine (formOf_any _ _).mono ?_; rintro e w1 ⟨rfl, hb⟩; obtain ⟨hc, hf⟩ := bcell hb; have hz : w.heap.size < w1.heap.size := (by have := hb.size; simp at this; omega))
    go_ret
    exact ⟨rfl, (((Below.refl _ _).alloc (Nat.le_refl _) _).trans (hb.mono (by simp))).alloc (by omega) _⟩
end Go.Proofs.Ytolbihilggkldaa
