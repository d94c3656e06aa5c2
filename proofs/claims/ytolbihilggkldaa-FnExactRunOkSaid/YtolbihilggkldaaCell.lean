/-
  Which cell an instruction uses, in both packages; whether two rows of numbers are equal: contracts.
-/
import Derived.Test.YtolbihilggkldaaRng
import Derived.IntWalk
namespace Go.Proofs.Ytolbihilggkldaa
open Go.RowKit

theorem l2n_regs (v : Value) (xs : List Int) (w : World) (hn : xs.length ≤ 1099511627776) (hv : ArgInts w v xs) :
    Calls Try.prog 83 #[v, .int .i64 4] w fun e w' => e = .returned (.bool (Bt.regsOk xs)) ∧ w = w' := l2n_any v xs 4 w hn hv

namespace Bt
theorem cellOf_bad {r : C4} {xs : List Int} (h : codeOk r.op r.a r.b r.c = false ∨ ¬ (r.op = 7 ∨ r.op = 8) ∨ regsOk xs = false) : cellOf r xs = -1 := by
  unfold cellOf
  rw [if_neg]
  simp only [Bool.and_eq_true, Bool.or_eq_true, decide_eq_true_eq]
  rintro ⟨⟨h1, h2⟩, h3⟩
  rcases h with h | h | h
  · rw [h1] at h; cases h
  · exact h h2
  · rw [h3] at h; cases h
theorem cellOf_good {r : C4} {xs : List Int} {k : Nat} (hk : k < xs.length) (hb : r.b = k) (h1 : codeOk r.op r.a r.b r.c = true) (h2 : r.op = 7 ∨ r.op = 8) (h3 : regsOk xs = true) : cellOf r xs = (xs[k] + r.c) % 8 := by
  unfold cellOf
  rw [if_pos (by simp only [Bool.and_eq_true, Bool.or_eq_true, decide_eq_true_eq]; exact ⟨⟨h1, h2⟩, h3⟩), hb]
  simp [hk]
theorem mem_bounds {op a b c : Int} (h : codeOk op a b c = true) (h2 : op = 7 ∨ op = 8) : (0 ≤ a ∧ a < 4) ∧ (0 ≤ b ∧ b < 4) ∧ (0 ≤ c ∧ c < 8) := by
  rcases h2 with rfl | rfl <;> simp [codeOk, uOk, uA, uB, uC, topC, below] at h <;> omega
end Bt

set_option maxHeartbeats 1000000 in
theorem specCellOf_any (op a b c : Int) (v : Value) (xs : List Int) (w : World) (hn : xs.length ≤ 1099511627776) (hv : ArgInts w v xs) :
    Calls Try.prog 65 #[.agg #[.int .i64 op, .int .i64 a, .int .i64 b, .int .i64 c], v] w fun e w' => e = .returned (.int .i64 (Bt.cellOf ⟨op, a, b, c⟩ xs)) ∧ Below w.heap.size w w' := by
  obtain ⟨A, cap, rfl, hv⟩ := hv.form
  have HV := Lib.hid hv; have HNN := Lib.hid hn
  cases hk : Bt.codeOk op a b c
  · rw [Bt.cellOf_bad (.inl hk)]
    clear hn hv
    go_enter Try.func65, Try.ntmps65
    go_wp2_with (go_at_call 62; refine (specCodeOk_any _ _ _ _ _).mono ?_; rintro e w1 ⟨rfl, hb⟩; obtain ⟨hc, hf⟩ := bcell hb; have hz : w.heap.size < w1.heap.size := (by have := hb.size; simp at this; omega))
    go_ret
    exact ⟨rfl, ((Below.refl _ _).alloc (Nat.le_refl _) _).trans (hb.mono (by simp))⟩
  · by_cases h78 : op = 7 ∨ op = 8
    · obtain ⟨_, ⟨b0, b1⟩, c0, c1⟩ := Bt.mem_bounds hk h78
      cases hr : Bt.regsOk xs
      · rw [Bt.cellOf_bad (.inr (.inr hr))]
        clear hn hv b0 b1 c0 c1
        rcases h78 with rfl | rfl
        all_goals
          go_enter Try.func65, Try.ntmps65
          go_wp2_with (first | (go_at_call 62; refine (specCodeOk_any _ _ _ _ _).mono ?_; rintro e w1 ⟨rfl, hb⟩; obtain ⟨hc, hf⟩ := bcell hb; have hz : w.heap.size < w1.heap.size := (by have := hb.size; simp at this; omega)) | (go_at_call 83; refine (l2n_regs _ xs _ HNN.out (HV.out.keep (((Below.refl _ _).alloc (Nat.le_refl _) _).trans (hb.mono (by simp))))).mono ?_; rintro e w' ⟨rfl, rfl⟩))
          go_ret
          exact ⟨rfl, ((Below.refl _ _).alloc (Nat.le_refl _) _).trans (hb.mono (by simp))⟩
      · obtain ⟨k, rfl⟩ : ∃ k : Nat, b = k := ⟨b.toNat, by omega⟩
        have hlen := Bt.regsOk_len hr
        have hkl : k < xs.length := by omega
        have hE := Bt.cellOf_good (r := ⟨op, a, (k : Int), c⟩) hkl rfl hk h78 hr
        have hq := Bt.regsOk_at hr hkl
        obtain ⟨hcap, hat⟩ := hv.at_ rfl
        obtain ⟨bb, o, rfl, f0⟩ := hat k hkl
        rw [hE]
        clear hat hE
        generalize xs[k] = q at *
        have e1 : IntKind.i64.wrap (q + c) = q + c := IntWalk.i64_in _ (by omega)
        have e2 : (q + c).tmod 8 = (q + c) % 8 := by rw [Int.tmod_eq_emod_of_nonneg (by omega)]
        have hcap4 : 4 ≤ cap := by omega
        have HV4 : Hid (ArgInts w (.slice (some ⟨bb, o, none⟩) 4 cap) xs) := Lib.hid (by have h := hv; rw [hlen] at h; exact h)
        have k4 : k < 4 := by omega
        rw [hlen]
        clear hlen hn hkl hv HV b0 b1 hcap
        rcases h78 with rfl | rfl
        all_goals
          go_enter Try.func65, Try.ntmps65
          go_wp2_with (first | (go_at_call 62; refine (specCodeOk_any _ _ _ _ _).mono ?_; rintro e w1 ⟨rfl, hb⟩; obtain ⟨hc, hf⟩ := bcell hb; have hz : w.heap.size < w1.heap.size := (by have := hb.size; simp at this; omega); have f1 := keeps (((Below.refl _ _).alloc (Nat.le_refl _) _).trans (hb.mono (by simp))) f0) | (go_at_call 83; refine (l2n_regs _ xs _ HNN.out (HV4.out.keep (((Below.refl _ _).alloc (Nat.le_refl _) _).trans (hb.mono (by simp))))).mono ?_; rintro e w' ⟨rfl, rfl⟩))
          go_quiet (fail)
          go_wp2
          go_ret
          exact ⟨rfl, bDrewN (((Below.refl _ _).alloc (Nat.le_refl _) _).trans (hb.mono (by simp))) _⟩
    · have o7 : (op != 7) = true := by rw [bne_iff_ne]; omega
      have o8 : (op != 8) = true := by rw [bne_iff_ne]; omega
      rw [Bt.cellOf_bad (.inr (.inl h78))]
      clear hn hv h78
      go_enter Try.func65, Try.ntmps65
      go_wp2_with (go_at_call 62; refine (specCodeOk_any _ _ _ _ _).mono ?_; rintro e w1 ⟨rfl, hb⟩; obtain ⟨hc, hf⟩ := bcell hb; have hz : w.heap.size < w1.heap.size := (by have := hb.size; simp at this; omega))
      go_ret
      exact ⟨rfl, ((Below.refl _ _).alloc (Nat.le_refl _) _).trans (hb.mono (by simp))⟩
set_option maxHeartbeats 1000000 in
theorem implCellOf_any (op a b c : Int) (v : Value) (xs : List Int) (w : World) (hn : xs.length ≤ 1099511627776) (hv : ArgInts w v xs) :
    Calls Try.prog 105 #[.agg #[.int .i64 op, .int .i64 a, .int .i64 b, .int .i64 c], v] w fun e w' => e = .returned (.int .i64 (Bt.cellOf ⟨op, a, b, c⟩ xs)) ∧ Below w.heap.size w w' := by
  obtain ⟨A, cap, rfl, hv⟩ := hv.form
  have HV := Lib.hid hv; have HNN := Lib.hid hn
  by_cases h78 : op = 7 ∨ op = 8
  · cases hk : Bt.codeOk op a b c
    · rw [Bt.cellOf_bad (.inl hk)]
      clear hn hv
      rcases h78 with rfl | rfl
      all_goals
        go_enter Try.func105, Try.ntmps105
        go_wp2_with (go_at_call 71; refine (implCodeOk_any _ _ _ _ _).mono ?_; rintro e w1 ⟨rfl, hb⟩; obtain ⟨hc, hf⟩ := bcell hb; have hz : w.heap.size < w1.heap.size := (by have := hb.size; simp at this; omega))
        go_ret
        exact ⟨rfl, ((Below.refl _ _).alloc (Nat.le_refl _) _).trans (hb.mono (by simp))⟩
    · obtain ⟨_, ⟨b0, b1⟩, c0, c1⟩ := Bt.mem_bounds hk h78
      cases hr : Bt.regsOk xs
      · rw [Bt.cellOf_bad (.inr (.inr hr))]
        clear hn hv b0 b1 c0 c1
        rcases h78 with rfl | rfl
        all_goals
          go_enter Try.func105, Try.ntmps105
          go_wp2_with (first | (go_at_call 71; refine (implCodeOk_any _ _ _ _ _).mono ?_; rintro e w1 ⟨rfl, hb⟩; obtain ⟨hc, hf⟩ := bcell hb; have hz : w.heap.size < w1.heap.size := (by have := hb.size; simp at this; omega)) | (go_at_call 106; refine (regsOk_any _ xs _ HNN.out (HV.out.keep (((Below.refl _ _).alloc (Nat.le_refl _) _).trans (hb.mono (by simp))))).mono ?_; rintro e w' ⟨rfl, rfl⟩))
          go_ret
          exact ⟨rfl, ((Below.refl _ _).alloc (Nat.le_refl _) _).trans (hb.mono (by simp))⟩
      · obtain ⟨k, rfl⟩ : ∃ k : Nat, b = k := ⟨b.toNat, by omega⟩
        have hlen := Bt.regsOk_len hr
        have hkl : k < xs.length := by omega
        have hE := Bt.cellOf_good (r := ⟨op, a, (k : Int), c⟩) hkl rfl hk h78 hr
        have hq := Bt.regsOk_at hr hkl
        obtain ⟨hcap, hat⟩ := hv.at_ rfl
        obtain ⟨bb, o, rfl, f0⟩ := hat k hkl
        rw [hE]
        clear hat hE
        generalize xs[k] = q at *
        have e1 : IntKind.i64.wrap (q + c) = q + c := IntWalk.i64_in _ (by omega)
        have e2 : (q + c).tmod 8 = (q + c) % 8 := by rw [Int.tmod_eq_emod_of_nonneg (by omega)]
        have hcap4 : 4 ≤ cap := by omega
        have HV4 : Hid (ArgInts w (.slice (some ⟨bb, o, none⟩) 4 cap) xs) := Lib.hid (by have h := hv; rw [hlen] at h; exact h)
        have k4 : k < 4 := by omega
        rw [hlen]
        clear hlen hn hkl hv HV b0 b1 hcap
        rcases h78 with rfl | rfl
        all_goals
          go_enter Try.func105, Try.ntmps105
          go_wp2_with (first | (go_at_call 71; refine (implCodeOk_any _ _ _ _ _).mono ?_; rintro e w1 ⟨rfl, hb⟩; obtain ⟨hc, hf⟩ := bcell hb; have hz : w.heap.size < w1.heap.size := (by have := hb.size; simp at this; omega); have f1 := keeps (((Below.refl _ _).alloc (Nat.le_refl _) _).trans (hb.mono (by simp))) f0) | (go_at_call 106; refine (regsOk_any _ xs _ HNN.out (HV4.out.keep (((Below.refl _ _).alloc (Nat.le_refl _) _).trans (hb.mono (by simp))))).mono ?_; rintro e w' ⟨rfl, rfl⟩))
          go_quiet (fail)
          go_wp2
          go_ret
          exact ⟨rfl, bDrewN (((Below.refl _ _).alloc (Nat.le_refl _) _).trans (hb.mono (by simp))) _⟩
  · have o7 : (op != 7) = true := by rw [bne_iff_ne]; omega
    have o8 : (op != 8) = true := by rw [bne_iff_ne]; omega
    rw [Bt.cellOf_bad (.inr (.inl h78))]
    clear hn hv h78
    go_enter Try.func105, Try.ntmps105
    go_wp2
    go_ret
    exact ⟨rfl, (Below.refl _ _).alloc (Nat.le_refl _) _⟩
end Go.Proofs.Ytolbihilggkldaa
