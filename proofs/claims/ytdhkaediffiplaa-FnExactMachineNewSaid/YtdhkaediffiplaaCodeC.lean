/-
  When an instruction is one, in both packages: contracts for every instruction.
-/
import Derived.Test.YtdhkaediffiplaaCodeB
namespace Go.Proofs.Ytdhkaediffiplaa
open Go.RowKit

theorem below_q (n top : Int) (u : Bool) (w : World) :
    Calls Try.prog 91 #[.int .i64 n, .int .i64 top, .bool u] w fun e w' => e = .returned (.bool (Bt.below n top u)) ∧ w' = w :=
  (below_any n top u w).mono fun _ _ ⟨he, hw⟩ => ⟨he, hw.symm⟩

set_option maxHeartbeats 1000000 in
theorem specCodeOk_any (op a b c : Int) (w : World) :
    Calls Try.prog 70 #[.agg #[.int .i64 op, .int .i64 a, .int .i64 b, .int .i64 c]] w fun e w' => e = .returned (.bool (Bt.codeOk op a b c)) ∧ Below w.heap.size w w' := by
  have hk : Bt.uC op = 0 ∨ Bt.uC op = 1 ∨ Bt.uC op = 2 ∨ Bt.uC op = 3 ∨ Bt.uC op = 4 := by unfold Bt.uC; omega
  cases hu : Bt.uOk op
  · have hE : Bt.codeOk op a b c = false := by simp [Bt.codeOk, hu]
    rw [hE]
    clear hk hE
    go_enter Try.func70, Try.ntmps70
    go_wp2_with (go_at_call 86; refine (uses_any _ _).mono ?_; rintro e w' ⟨rfl, rfl⟩)
    go_quiet (fail)
    go_wp2
    go_ret
    exact ⟨rfl, bDrewN (((Below.refl _ _).alloc (Nat.le_refl _) _).alloc (by simp) _) _⟩
  · cases hA : Bt.below a 4 (Bt.uA op)
    · have hE : Bt.codeOk op a b c = false := by simp [Bt.codeOk, hA]
      rw [hE]
      clear hk hE
      go_enter Try.func70, Try.ntmps70
      go_wp2_with (go_at_call 86; refine (uses_any _ _).mono ?_; rintro e w' ⟨rfl, rfl⟩)
      go_quiet ((go_at_call 91; exact Calls.quiet_of_same (below_q _ _ _ _)))
      go_wp2
      go_ret
      exact ⟨rfl, bDrewN (((Below.refl _ _).alloc (Nat.le_refl _) _).alloc (by simp) _) _⟩
    · cases hB : Bt.below b 4 (Bt.uB op)
      · have hE : Bt.codeOk op a b c = false := by simp [Bt.codeOk, hB]
        rw [hE]
        clear hk hE
        go_enter Try.func70, Try.ntmps70
        go_wp2_with (go_at_call 86; refine (uses_any _ _).mono ?_; rintro e w' ⟨rfl, rfl⟩)
        go_quiet ((go_at_call 91; exact Calls.quiet_of_same (below_q _ _ _ _)))
        go_wp2
        go_ret
        exact ⟨rfl, bDrewN (((Below.refl _ _).alloc (Nat.le_refl _) _).alloc (by simp) _) _⟩
      · have hE : Bt.codeOk op a b c = Bt.below c (Bt.topC (Bt.uC op)) (decide (0 < Bt.uC op)) := by simp [Bt.codeOk, hu, hA, hB]
        rw [hE]
        clear hE
        rcases hk with hk | hk | hk | hk | hk
        all_goals
          rw [hk]
          simp only [Bt.topC]
          go_enter Try.func70, Try.ntmps70
          go_wp2_with (go_at_call 86; refine (uses_any _ _).mono ?_; rintro e w' ⟨rfl, rfl⟩)
          go_quiet ((go_at_call 91; exact Calls.quiet_of_same (below_q _ _ _ _)))
          go_wp2
          go_ret
          exact ⟨rfl, bDrewN (((Below.refl _ _).alloc (Nat.le_refl _) _).alloc (by simp) _) _⟩

theorem fok_q (n k : Int) (w : World) :
    Calls Try.prog 92 #[.int .i64 n, .int .i64 k] w fun e w' => e = .returned (.bool (Bt.fOk n k)) ∧ w' = w :=
  (fok_any n k w).mono fun _ _ ⟨he, hw⟩ => ⟨he, hw.symm⟩

set_option maxHeartbeats 1000000 in
theorem implCodeOk_any (op a b c : Int) (w : World) :
    Calls Try.prog 71 #[.agg #[.int .i64 op, .int .i64 a, .int .i64 b, .int .i64 c]] w fun e w' => e = .returned (.bool (Bt.codeOk op a b c)) ∧ Below w.heap.size w w' := by
  rw [← Bt.codeOk_eq]
  by_cases hop : 0 ≤ op ∧ op ≤ 17
  · have hu : Bt.uOk op = true := by simp only [Bt.uOk, decide_eq_true_eq]; omega
    have hn : (Bt.name op).isEmpty = false := by
      rcases (show op = 0 ∨ op = 1 ∨ op = 2 ∨ op = 3 ∨ op = 4 ∨ op = 5 ∨ op = 6 ∨ op = 7 ∨ op = 8 ∨ op = 9 ∨ op = 10 ∨ op = 11 ∨ op = 12 ∨ op = 13 ∨ op = 14 ∨ op = 15 ∨ op = 16 ∨ op = 17 by omega) with rfl | rfl | rfl | rfl | rfl | rfl | rfl | rfl | rfl | rfl | rfl | rfl | rfl | rfl | rfl | rfl | rfl | rfl
      all_goals decide
    rw [hu, Bool.true_and]
    clear hop hu
    cases hA : Bt.fOk a (Bt.fA op)
    · rw [Bool.false_and, Bool.false_and]
      go_enter Try.func71, Try.ntmps71
      go_wp2_with (first | (go_at_call 88; refine (formOf_any _ _).mono ?_; rintro e w1 ⟨rfl, hb⟩; obtain ⟨hc, hf⟩ := bcell hb; have hz : w.heap.size < w1.heap.size := (by have := hb.size; simp at this; omega)) | (go_at_call 92; refine (fok_any _ _ _).mono ?_; rintro e w' ⟨rfl, rfl⟩))
      go_ret
      exact ⟨rfl, (((Below.refl _ _).alloc (Nat.le_refl _) _).trans (hb.mono (by simp))).alloc (by omega) _⟩
    · rw [Bool.true_and]
      cases hB : Bt.fOk b (Bt.fB op)
      · rw [Bool.false_and]
        go_enter Try.func71, Try.ntmps71
        go_wp2_with (first | (go_at_call 88; refine (formOf_any _ _).mono ?_; rintro e w1 ⟨rfl, hb⟩; obtain ⟨hc, hf⟩ := bcell hb; have hz : w.heap.size < w1.heap.size := (by have := hb.size; simp at this; omega)) | (go_at_call 92; refine (fok_any _ _ _).mono ?_; rintro e w' ⟨rfl, rfl⟩))
        go_ret
        exact ⟨rfl, (((Below.refl _ _).alloc (Nat.le_refl _) _).trans (hb.mono (by simp))).alloc (by omega) _⟩
      · rw [Bool.true_and]
        go_enter Try.func71, Try.ntmps71
        go_wp2_with (first | (go_at_call 88; refine (formOf_any _ _).mono ?_; rintro e w1 ⟨rfl, hb⟩; obtain ⟨hc, hf⟩ := bcell hb; have hz : w.heap.size < w1.heap.size := (by have := hb.size; simp at this; omega)) | (go_at_call 92; refine (fok_any _ _ _).mono ?_; rintro e w' ⟨rfl, rfl⟩))
        go_ret
        exact ⟨rfl, (((Below.refl _ _).alloc (Nat.le_refl _) _).trans (hb.mono (by simp))).alloc (by omega) _⟩
  · have hu : Bt.uOk op = false := by simp only [Bt.uOk, decide_eq_false_iff_not]; omega
    have hn : (Bt.name op) = [] := Bt.name_none (by omega)
    rw [hu, Bool.false_and]
    clear hop hu
    go_enter Try.func71, Try.ntmps71
    go_wp2_with (go_at_call 88; refine (formOf_any _ _).mono ?_; rintro e w1 ⟨rfl, hb⟩; obtain ⟨hc, hf⟩ := bcell hb; have hz : w.heap.size < w1.heap.size := (by have := hb.size; simp at this; omega))
    go_ret
    exact ⟨rfl, (((Below.refl _ _).alloc (Nat.le_refl _) _).trans (hb.mono (by simp))).alloc (by omega) _⟩
end Go.Proofs.Ytdhkaediffiplaa
