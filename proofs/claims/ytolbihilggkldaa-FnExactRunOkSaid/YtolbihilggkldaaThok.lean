/-
  When a thread is one, in the program's own package: a contract.
-/
import Derived.Test.YtolbihilggkldaaMem
namespace Go.Proofs.Ytolbihilggkldaa
open Go.RowKit

namespace Bt
theorem thOk_no {n : Int} {t : Th} (h : t.pl < 0 ∨ n < t.pl ∨ 6 < t.stack.length ∨ t.st < 0 ∨ 2 < t.st ∨ regsOk t.regs = false ∨ inR 0 (n + 1) t.stack = false) : thOk n t = false := by
  refine false_of (fun e => ?_)
  have f := thOk_facts e
  rcases h with h | h | h | h | h | h | h
  · have := f.lo; omega
  · have := f.hi; omega
  · have := f.top; omega
  · have := f.stLo; omega
  · have := f.stHi; omega
  · rw [f.regs] at h; cases h
  · rw [f.stack] at h; cases h
end Bt

set_option maxHeartbeats 1000000 in
theorem threadOk_any {AR AS : Option Addr} {nr cr ns cs : Nat} {t : Bt.Th} (n : Int) (w : World) (H : ArgTh w AR nr cr AS ns cs t) (hr : nr ≤ 1048576) (hs : ns ≤ 1048576) (h0 : 0 ≤ n) (h1 : n ≤ 1048576) :
    Calls Try.prog 95 #[.agg #[.int .i64 t.pl, .slice AR nr cr, .slice AS ns cs, .int .i64 t.st], .int .i64 n] w fun e w' => e = .returned (.bool (Bt.thOk n t)) ∧ Below w.heap.size w w' := by
  have HH := Lib.hid H
  have hS := H.nS
  clear H
  by_cases c1 : t.pl < 0
  · rw [Bt.thOk_no (.inl c1)]
    clear hS
    generalize t.pl = pl at *
    go_enter Try.func95, Try.ntmps95
    go_wp2
    go_ret
    exact ⟨rfl, (Below.refl _ _).alloc (Nat.le_refl _) _⟩
  · by_cases c2 : n < t.pl
    · rw [Bt.thOk_no (.inr (.inl c2))]
      clear hS
      generalize t.pl = pl at *
      go_enter Try.func95, Try.ntmps95
      go_wp2
      go_ret
      exact ⟨rfl, (Below.refl _ _).alloc (Nat.le_refl _) _⟩
    · by_cases c3 : 6 < ns
      · rw [Bt.thOk_no (.inr (.inr (.inl (by omega))))]
        clear hS
        generalize t.pl = pl at *
        go_enter Try.func95, Try.ntmps95
        go_wp2
        go_ret
        exact ⟨rfl, (Below.refl _ _).alloc (Nat.le_refl _) _⟩
      · by_cases c4 : t.st = 0 ∨ t.st = 1 ∨ t.st = 2
        · have HE : Hid (Bt.thOk n t = (Bt.regsOk t.regs && Bt.inR 0 (n + 1) t.stack)) := Lib.hid (by simp only [Bt.thOk]; rw [decide_eq_true (by omega), Bool.true_and])
          rw [HE.out]
          clear hS
          generalize hst : t.st = st at *
          clear hst
          generalize t.pl = pl at *
          cases hR : Bt.regsOk t.regs
          · rw [Bool.false_and]
            rcases c4 with rfl | rfl | rfl
            all_goals
              go_enter Try.func95, Try.ntmps95
              go_wp2_with (go_at_call 106; refine (regsOk_any _ t.regs _ (le40 (HH.out.nR ▸ hr)) (HH.out.regs.keep ((Below.refl _ _).alloc (Nat.le_refl _) _))).mono ?_; rintro e w' ⟨rfl, rfl⟩)
              go_ret
              exact ⟨rfl, (Below.refl _ _).alloc (Nat.le_refl _) _⟩
          · rw [Bool.true_and]
            rcases c4 with rfl | rfl | rfl
            all_goals
              go_enter Try.func95, Try.ntmps95
              go_wp2_with (first | (go_at_call 106; refine (regsOk_any _ t.regs _ (le40 (HH.out.nR ▸ hr)) (HH.out.regs.keep ((Below.refl _ _).alloc (Nat.le_refl _) _))).mono ?_; rintro e w' ⟨rfl, rfl⟩) | (go_at_call 96; refine (within_any _ t.stack _ _ _ (le40 (HH.out.nS ▸ hs)) (HH.out.stack.keep ((Below.refl _ _).alloc (Nat.le_refl _) _))).mono ?_; rintro e w' ⟨rfl, rfl⟩))
              go_ret
              exact ⟨rfl, (Below.refl _ _).alloc (Nat.le_refl _) _⟩
        · rw [Bt.thOk_no (by omega)]
          clear hS
          generalize t.st = st at *
          have n0 : (st != 0) = true := by rw [bne_iff_ne]; omega
          have n1 : (st != 1) = true := by rw [bne_iff_ne]; omega
          have n2 : (st != 2) = true := by rw [bne_iff_ne]; omega
          generalize t.pl = pl at *
          clear c4
          go_enter Try.func95, Try.ntmps95
          go_wp2
          go_ret
          exact ⟨rfl, (Below.refl _ _).alloc (Nat.le_refl _) _⟩
end Go.Proofs.Ytolbihilggkldaa
