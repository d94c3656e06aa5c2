/-
  How the laws count and compare threads and machines: contracts.
-/
import Derived.Test.YtdhkaediffiplaaMem
import Derived.Test.YtdhkaediffiplaaPlaw
namespace Go.Proofs.Ytdhkaediffiplaa
open Go.RowKit

namespace Bt
/-- how many numbers the rows of threads hold -/
def sumTh (ts : List Th) : Nat := (ts.map fun t => t.regs.length + t.stack.length).sum
theorem sumTh_zero (ts : List Th) : sumTh (ts.take 0) = 0 := by simp [sumTh]
theorem sumTh_succ {ts : List Th} {k : Nat} (h : k < ts.length) : sumTh (ts.take (k + 1)) = sumTh (ts.take k) + (ts[k].regs.length + ts[k].stack.length) := by
  unfold sumTh
  rw [List.take_succ_eq_append_getElem h, List.map_append, List.sum_append]
  simp
theorem sumTh_le (ts : List Th) (k : Nat) : sumTh (ts.take k) ≤ sumTh ts := by
  have h : sumTh ts = sumTh (ts.take k) + sumTh (ts.drop k) := by
    unfold sumTh
    rw [← List.sum_append, ← List.map_append, List.take_append_drop]
  omega
theorem sumTh_at {ts : List Th} {k : Nat} (h : k < ts.length) : ts[k].regs.length + ts[k].stack.length ≤ sumTh ts := by
  have h1 := sumTh_succ h
  have h2 := sumTh_le ts (k + 1)
  omega
/-- how many numbers and rows a machine holds -/
def mcSz (m : Mc) : Nat := m.ths.length + sumTh m.ths + m.cells.length + m.locks.length + m.told.length
end Bt

/-- what the rows of an argument are shorter than -/
structure Lens (m : Bt.Mc) : Prop where
  ths : m.ths.length ≤ maxLen
  cells : m.cells.length ≤ maxLen
  locks : m.locks.length ≤ maxLen
  told : m.told.length ≤ maxLen
  regs : ∀ i (h : i < m.ths.length), m.ths[i].regs.length ≤ maxLen
  stack : ∀ i (h : i < m.ths.length), m.ths[i].stack.length ≤ maxLen
theorem Small.of {m : Bt.Mc} (h : Bt.mcSz m ≤ 1048576) : Small m := by
  unfold Bt.mcSz at h
  refine ⟨by omega, by omega, by omega, by omega, fun i hi => ?_, fun i hi => ?_⟩
  · have := Bt.sumTh_at hi; omega
  · have := Bt.sumTh_at hi; omega
/-- what is left of a number when another one is taken from it -/
def rest (left : Int) (n : Nat) : Int := if left < n then -1 else left - n
theorem rest_neg {left : Int} {n : Nat} (h : left < n) : rest left n = -1 := if_pos h
theorem rest_pos {left : Int} {n : Nat} (h : ¬ left < n) : rest left n = left - n := if_neg h

set_option maxHeartbeats 1000000 in
theorem szInts_any (A : Option Addr) (n cap : Nat) (left : Int) (w : World) (hn : n ≤ maxLen) (h0 : 0 ≤ left) (h1 : left ≤ 1048576) :
    Calls Try.prog 49 #[.slice A n cap, .int .i64 left] w fun e w' => e = .returned (.int .i64 (rest left n)) ∧ w = w' := by
  unfold maxLen at hn
  by_cases hlt : left < n
  · rw [rest_neg hlt]
    go_enter Try.func49, Try.ntmps49
    go_wp2
    go_ret
    exact ⟨rfl, rfl⟩
  · rw [rest_pos hlt]
    go_enter Try.func49, Try.ntmps49
    go_wp2
    go_ret
    exact ⟨rfl, rfl⟩

set_option maxHeartbeats 1000000 in
theorem szThread_any (pl st : Int) (AR AS : Option Addr) (nr cr ns cs : Nat) (left : Int) (w : World) (hr : nr ≤ maxLen) (hs : ns ≤ maxLen) (h0 : 0 ≤ left) (h1 : left ≤ 1048576) :
    Calls Try.prog 85 #[.agg #[.int .i64 pl, .slice AR nr cr, .slice AS ns cs, .int .i64 st], .int .i64 left] w fun e w' => e = .returned (.int .i64 (rest left (nr + ns))) ∧ Below w.heap.size w w' := by
  by_cases c1 : left < nr
  · rw [rest_neg (by omega)]
    go_enter Try.func85, Try.ntmps85
    go_wp2_with (go_at_call 49; refine (szInts_any _ _ _ _ _ hr h0 h1).mono ?_; rw [rest_neg c1]; rintro e w' ⟨rfl, rfl⟩)
    go_ret
    exact ⟨rfl, (Below.refl _ _).alloc (Nat.le_refl _) _⟩
  · have E1 := Lib.hid (rest_pos c1)
    by_cases c2 : left - nr < ns
    · have E2 := Lib.hid (rest_neg c2)
      rw [rest_neg (by omega)]
      go_enter Try.func85, Try.ntmps85
      go_wp2_with fail
      refine (szInts_any _ _ _ _ _ hr h0 h1).mono ?_
      rw [E1.out]
      rintro e w' ⟨rfl, rfl⟩
      go_wp2_with fail
      refine (szInts_any _ _ _ _ _ hs (by omega) (by omega)).mono ?_
      rw [E2.out]
      rintro e w' ⟨rfl, rfl⟩
      go_wp2
      go_ret
      exact ⟨rfl, (Below.refl _ _).alloc (Nat.le_refl _) _⟩
    · have E2 := Lib.hid (rest_pos c2)
      rw [rest_pos (by omega)]
      have e : left - ((nr + ns : Nat) : Int) = left - nr - ns := by omega
      rw [e]
      clear e
      go_enter Try.func85, Try.ntmps85
      go_wp2_with fail
      refine (szInts_any _ _ _ _ _ hr h0 h1).mono ?_
      rw [E1.out]
      rintro e w' ⟨rfl, rfl⟩
      go_wp2_with fail
      refine (szInts_any _ _ _ _ _ hs (by omega) (by omega)).mono ?_
      rw [E2.out]
      rintro e w' ⟨rfl, rfl⟩
      go_wp2
      go_ret
      exact ⟨rfl, (Below.refl _ _).alloc (Nat.le_refl _) _⟩

set_option maxHeartbeats 1000000 in
theorem szThreads_any (A : Option Addr) (n cap : Nat) (ts : List Bt.Th) (left : Int) (w : World) (H : ArgThs w A n cap ts) (hn : n ≤ maxLen) (hL : ∀ i (h : i < ts.length), ts[i].regs.length ≤ maxLen ∧ ts[i].stack.length ≤ maxLen) (h0 : 0 ≤ left) (h1 : left ≤ 1048576) :
    Calls Try.prog 48 #[.slice A n cap, .int .i64 left] w fun e w' => e = .returned (.int .i64 (rest left (n + Bt.sumTh ts))) ∧ Below w.heap.size w w' := by
  have hm := hn
  unfold maxLen at hm
  have hT := Lib.hid H.1
  have hcap := H.2.1
  have HH := Lib.hid H; clear H
  have HL := Lib.hid hL; clear hL
  by_cases c0 : left < n
  · rw [rest_neg (by omega)]
    go_enter Try.func48, Try.ntmps48
    go_wp2
    go_ret
    exact ⟨rfl, Below.refl _ _⟩
  · go_enter Try.func48, Try.ntmps48
    go_wp2
    go_loopw [1, 5] (fun l i wr => ∃ k : Nat, k ≤ n ∧ i = .int .i64 k ∧ (∃ q : Int, l = .int .i64 q ∧ 0 ≤ q ∧ q ≤ 1048576 ∧ q + n + Bt.sumTh (ts.take k) = left) ∧ Below w.heap.size w wr) (fun _ i _ => n - (intOf i).toNat)
    case atStart => exact ⟨0, Nat.zero_le _, rfl, ⟨_, rfl, by omega, by omega, by rw [Bt.sumTh_zero]; omega⟩, Below.refl _ _⟩
    case round =>
      obtain ⟨k, hk, rfl, ⟨q, rfl, q0, q1, q2⟩, hb⟩ := hrel
      have Q2 := Lib.hid q2; clear q2
      by_cases hlt : k < n
      · have hlt' : k < ts.length := by rw [hT.out]; exact hlt
        obtain ⟨bt, ot, rfl, ht⟩ := (HH.out.keep hb).2.2 k hlt'
        obtain ⟨AR, cr, AS, cs, HT, f0, f1, f2, f3⟩ := ht.open
        obtain ⟨lr, ls⟩ := HL.out k hlt'
        have hsum := Lib.hid (Bt.sumTh_succ hlt')
        have hsle := Lib.hid (Bt.sumTh_le ts (k + 1))
        clear ht HT
        generalize ts[k] = th at *
        generalize th.regs.length = nr at *
        generalize th.stack.length = ns at *
        generalize th.pl = pl at *
        generalize th.st = st at *
        by_cases c1 : q < ((nr + ns : Nat) : Int)
        · have HF : Hid (rest left (n + Bt.sumTh ts) = -1) := Lib.hid (rest_neg (by have := Q2.out; have := hsum.out; have := hsle.out; omega))
          go_wp2_with (go_at_call 85; refine (szThread_any _ _ _ _ _ _ _ _ _ _ lr ls q0 q1).mono ?_; rw [rest_neg c1]; rintro e w2 ⟨rfl, hb2⟩)
          go_ret
          exact ⟨ret_int HF.out.symm, hb.trans (hb2.mono hb.size)⟩
        · go_wp2_with (go_at_call 85; refine (szThread_any _ _ _ _ _ _ _ _ _ _ lr ls q0 q1).mono ?_; rw [rest_pos c1]; have q5 : 0 ≤ q - ((nr + ns : Nat) : Int) := (by omega); generalize hq' : q - ((nr + ns : Nat) : Int) = q' at *; have HQ' := Lib.hid hq'; clear hq'; rintro e w2 ⟨rfl, hb2⟩)
          go_roundw
          case rel => exact ⟨k + 1, by omega, by go_num, ⟨q', rfl, q5, by have := HQ'.out; omega, by have := Q2.out; have := hsum.out; have := HQ'.out; omega⟩, hb.trans (hb2.mono hb.size)⟩
          case measure => simp [intOf]; omega
      · obtain rfl : k = n := by omega
        have HE : Hid (rest left (k + Bt.sumTh ts) = q) := Lib.hid (by
          have h1 := Q2.out
          rw [List.take_of_length_le (by rw [hT.out]; omega)] at h1
          rw [rest_pos (by omega)]; omega)
        go_wp2
        go_ret
        exact ⟨ret_int HE.out.symm, hb⟩
end Go.Proofs.Ytdhkaediffiplaa
