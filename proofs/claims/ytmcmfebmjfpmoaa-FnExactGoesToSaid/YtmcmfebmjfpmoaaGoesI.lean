/-
  Where a thread may go on, in the program's own package: a contract for every program in memory and every place.
-/
import Derived.Test.YtmcmfebmjfpmoaaGoes
namespace Go.Proofs.Ytmcmfebmjfpmoaa
open Go.RowKit

namespace Bt
theorem goes_both {r : C4} {t : Int} (hn : gNext r.op = true) (ha : gAway r.op = true) : goes r t = if r.c = t + 1 then [r.c] else if r.c < t + 1 then [r.c, t + 1] else [t + 1, r.c] := by
  unfold goes
  rw [hn, ha, if_pos rfl, if_pos rfl]
  split
  · rename_i h; rw [h]
  · rfl
theorem goes_next {r : C4} {t : Int} (hn : gNext r.op = true) (ha : gAway r.op = false) : goes r t = [t + 1] := by simp [goes, hn, ha]
theorem goes_away {r : C4} {t : Int} (hn : gNext r.op = false) (ha : gAway r.op = true) : goes r t = [r.c] := by simp [goes, hn, ha]
theorem goes_none {r : C4} {t : Int} (hn : gNext r.op = false) (ha : gAway r.op = false) : goes r t = [] := by simp [goes, hn, ha]
end Bt

set_option maxHeartbeats 1000000 in
theorem goesNext_any (op : Int) (w : World) : Calls Try.prog 34 #[.int .i64 op] w fun e w' => e = .returned (.bool (Bt.gNext op)) ∧ w = w' := by
  by_cases h0 : op = 0
  · subst h0
    go_enter Try.func34, Try.ntmps34
    go_wp2
    go_ret
    exact ⟨rfl, rfl⟩
  · by_cases h9 : op = 9
    · subst h9
      go_enter Try.func34, Try.ntmps34
      go_wp2
      go_ret
      exact ⟨rfl, rfl⟩
    · by_cases h11 : op = 11
      · subst h11
        go_enter Try.func34, Try.ntmps34
        go_wp2
        go_ret
        exact ⟨rfl, rfl⟩
      · by_cases h12 : op = 12
        · subst h12
          go_enter Try.func34, Try.ntmps34
          go_wp2
          go_ret
          exact ⟨rfl, rfl⟩
        · have HF : Hid (Bt.gNext op = true) := Lib.hid (by simp [Bt.gNext, h0, h9, h11, h12])
          have n0 : (op != 0) = true := by rw [bne_iff_ne]; exact h0
          have n9 : (op != 9) = true := by rw [bne_iff_ne]; exact h9
          have n11 : (op != 11) = true := by rw [bne_iff_ne]; exact h11
          have n12 : (op != 12) = true := by rw [bne_iff_ne]; exact h12
          clear h0 h9 h11 h12
          go_enter Try.func34, Try.ntmps34
          go_wp2
          go_ret
          exact ⟨ret_bool HF.out.symm, rfl⟩

set_option maxHeartbeats 1000000 in
theorem goesAway_any (op : Int) (w : World) : Calls Try.prog 35 #[.int .i64 op] w fun e w' => e = .returned (.bool (Bt.gAway op)) ∧ w = w' := by
  by_cases h9 : op = 9
  · subst h9
    go_enter Try.func35, Try.ntmps35
    go_wp2
    go_ret
    exact ⟨rfl, rfl⟩
  · by_cases h10 : op = 10
    · subst h10
      go_enter Try.func35, Try.ntmps35
      go_wp2
      go_ret
      exact ⟨rfl, rfl⟩
    · by_cases h11 : op = 11
      · subst h11
        go_enter Try.func35, Try.ntmps35
        go_wp2
        go_ret
        exact ⟨rfl, rfl⟩
      · have HF : Hid (Bt.gAway op = false) := Lib.hid (by simp [Bt.gAway, h9, h10, h11])
        have n9 : (op == 9) = false := by rw [beq_eq_false_iff_ne]; exact h9
        have n10 : (op == 10) = false := by rw [beq_eq_false_iff_ne]; exact h10
        have n11 : (op == 11) = false := by rw [beq_eq_false_iff_ne]; exact h11
        clear h9 h10 h11
        go_enter Try.func35, Try.ntmps35
        go_wp2
        go_ret
        exact ⟨ret_bool HF.out.symm, rfl⟩

set_option maxHeartbeats 1000000 in
theorem bothPlaces_any (a b : Int) (w : World) : Calls Try.prog 36 #[.int .i64 a, .int .i64 b] w (IntsMade (if a = b then [a] else if a < b then [a, b] else [b, a]) w) := by
  by_cases h : a = b
  · subst h
    rw [if_pos rfl]
    go_enter Try.func36, Try.ntmps36
    go_wp2
    go_ret
    exact ⟨_, rfl, IntRow.lit w [a] (by simp [maxLen]), (Below.refl _ _).alloc (Nat.le_refl _) _⟩
  · rw [if_neg h]
    have n0 : (a == b) = false := by rw [beq_eq_false_iff_ne]; exact h
    clear h
    by_cases h1 : a < b
    · rw [if_pos h1]
      go_enter Try.func36, Try.ntmps36
      go_wp2
      go_ret
      exact ⟨_, rfl, IntRow.lit w [a, b] (by simp [maxLen]), (Below.refl _ _).alloc (Nat.le_refl _) _⟩
    · rw [if_neg h1]
      go_enter Try.func36, Try.ntmps36
      go_wp2
      go_ret
      exact ⟨_, rfl, IntRow.lit w [b, a] (by simp [maxLen]), (Below.refl _ _).alloc (Nat.le_refl _) _⟩

set_option maxHeartbeats 1000000 in
theorem implGoesTo_any (b o cap : Nat) (rs : List Bt.C4) (h t : Int) (w : World) (hn : rs.length ≤ 1048576) (hcap : rs.length ≤ cap) (hrs : CodesAt w b o rs) :
    Calls Try.prog 17 #[.agg #[.slice (some ⟨b, o, none⟩) rs.length cap, .int .i64 h], .int .i64 t] w (IntsMade (Bt.goesTo rs h t) w) := by
  have HC := Lib.hid hrs; clear hrs
  cases hp : Bt.progOk rs h
  · have HF : Hid (Bt.goesTo rs h t = []) := Lib.hid (Bt.goesTo_bad hp)
    go_enter Try.func17, Try.ntmps17
    go_wp2_with fail
    refine (implProgramOk_any _ _ _ rs _ _ hn hcap (HC.out.keep ((Below.refl _ _).alloc (Nat.le_refl _) _))).mono ?_
    rw [hp]
    rintro e w1 ⟨rfl, hb1⟩
    have B1 : Below w.heap.size w w1 := ((Below.refl _ _).alloc (Nat.le_refl _) _).trans (hb1.mono (by simp))
    go_wp2
    go_ret
    exact ⟨_, rfl, by rw [HF.out]; exact IntRow.nil _ _, B1⟩
  · by_cases h0 : 0 ≤ t
    · obtain ⟨k, rfl⟩ := Int.eq_ofNat_of_zero_le h0
      by_cases hk : k < rs.length
      · have h60 := Bt.progOk_len hp
        have HF0 : Hid (Bt.goesTo rs h k = Bt.goes rs[k] k) := Lib.hid (Bt.goesTo_at hp hk)
        obtain ⟨r, hr⟩ : ∃ r, rs[k] = r := ⟨_, rfl⟩
        have HR := Lib.hid hr; clear hr
        cases hN : Bt.gNext r.op <;> cases hA : Bt.gAway r.op
        case false.false =>
          have HF : Hid (Bt.goesTo rs h k = []) := Lib.hid (by rw [HF0.out, HR.out]; exact Bt.goes_none hN hA)
          go_enter Try.func17, Try.ntmps17
          go_wp2_with fail
          refine (implProgramOk_any _ _ _ rs _ _ hn hcap (HC.out.keep ((Below.refl _ _).alloc (Nat.le_refl _) _))).mono ?_
          rw [hp]
          rintro e w1 ⟨rfl, hb1⟩
          have hz1 : w.heap.size < w1.heap.size := by have := hb1.size; simp at this; omega
          have B1 : Below w.heap.size w w1 := ((Below.refl _ _).alloc (Nat.le_refl _) _).trans (hb1.mono (by simp))
          obtain ⟨hc1, hf1⟩ := bcell hb1
          obtain ⟨f0, f1, f2, f3⟩ := (HC.out.keep B1) k hk
          rw [HR.out] at f0 f1 f2 f3
          go_wp2_with (first | (go_at_call 34; refine (goesNext_any _ _).mono ?_; rw [hN]; rintro e w' ⟨rfl, rfl⟩) | (go_at_call 35; refine (goesAway_any _ _).mono ?_; rw [hA]; rintro e w' ⟨rfl, rfl⟩))
          go_ret
          exact ⟨_, rfl, by rw [HF.out]; exact IntRow.nil _ _, B1.alloc (by omega) _⟩
        case false.true =>
          have HF : Hid (Bt.goesTo rs h k = [r.c]) := Lib.hid (by rw [HF0.out, HR.out]; exact Bt.goes_away hN hA)
          go_enter Try.func17, Try.ntmps17
          go_wp2_with fail
          refine (implProgramOk_any _ _ _ rs _ _ hn hcap (HC.out.keep ((Below.refl _ _).alloc (Nat.le_refl _) _))).mono ?_
          rw [hp]
          rintro e w1 ⟨rfl, hb1⟩
          have hz1 : w.heap.size < w1.heap.size := by have := hb1.size; simp at this; omega
          have B1 : Below w.heap.size w w1 := ((Below.refl _ _).alloc (Nat.le_refl _) _).trans (hb1.mono (by simp))
          obtain ⟨hc1, hf1⟩ := bcell hb1
          obtain ⟨f0, f1, f2, f3⟩ := (HC.out.keep B1) k hk
          rw [HR.out] at f0 f1 f2 f3
          go_wp2_with (first | (go_at_call 34; refine (goesNext_any _ _).mono ?_; rw [hN]; rintro e w' ⟨rfl, rfl⟩) | (go_at_call 35; refine (goesAway_any _ _).mono ?_; rw [hA]; rintro e w' ⟨rfl, rfl⟩))
          go_ret
          exact ⟨_, rfl, by rw [HF.out]; have hl := (IntRow.lit (w1.alloc (.cells #[.int .i64 r.op, .int .i64 r.a, .int .i64 r.b, .int .i64 r.c] 25)) [r.c] (by simp [maxLen])).mono (base' := w.heap.size) (by simp; omega); simpa using hl, (B1.alloc (by omega) _).alloc (by simp; omega) _⟩
        case true.false =>
          have HF : Hid (Bt.goesTo rs h k = [(k : Int) + 1]) := Lib.hid (by rw [HF0.out, HR.out]; exact Bt.goes_next hN hA)
          go_enter Try.func17, Try.ntmps17
          go_wp2_with fail
          refine (implProgramOk_any _ _ _ rs _ _ hn hcap (HC.out.keep ((Below.refl _ _).alloc (Nat.le_refl _) _))).mono ?_
          rw [hp]
          rintro e w1 ⟨rfl, hb1⟩
          have hz1 : w.heap.size < w1.heap.size := by have := hb1.size; simp at this; omega
          have B1 : Below w.heap.size w w1 := ((Below.refl _ _).alloc (Nat.le_refl _) _).trans (hb1.mono (by simp))
          obtain ⟨hc1, hf1⟩ := bcell hb1
          obtain ⟨f0, f1, f2, f3⟩ := (HC.out.keep B1) k hk
          rw [HR.out] at f0 f1 f2 f3
          go_wp2_with (first | (go_at_call 34; refine (goesNext_any _ _).mono ?_; rw [hN]; rintro e w' ⟨rfl, rfl⟩) | (go_at_call 35; refine (goesAway_any _ _).mono ?_; rw [hA]; rintro e w' ⟨rfl, rfl⟩))
          go_ret
          exact ⟨_, rfl, by rw [HF.out]; have hl := (IntRow.lit (w1.alloc (.cells #[.int .i64 r.op, .int .i64 r.a, .int .i64 r.b, .int .i64 r.c] 25)) [(k : Int) + 1] (by simp [maxLen])).mono (base' := w.heap.size) (by simp; omega); simpa using hl, (B1.alloc (by omega) _).alloc (by simp; omega) _⟩
        case true.true =>
          have HF : Hid (Bt.goesTo rs h k = if r.c = (k : Int) + 1 then [r.c] else if r.c < (k : Int) + 1 then [r.c, (k : Int) + 1] else [(k : Int) + 1, r.c]) := Lib.hid (by rw [HF0.out, HR.out]; exact Bt.goes_both hN hA)
          go_enter Try.func17, Try.ntmps17
          go_wp2_with fail
          refine (implProgramOk_any _ _ _ rs _ _ hn hcap (HC.out.keep ((Below.refl _ _).alloc (Nat.le_refl _) _))).mono ?_
          rw [hp]
          rintro e w1 ⟨rfl, hb1⟩
          have hz1 : w.heap.size < w1.heap.size := by have := hb1.size; simp at this; omega
          have B1 : Below w.heap.size w w1 := ((Below.refl _ _).alloc (Nat.le_refl _) _).trans (hb1.mono (by simp))
          obtain ⟨hc1, hf1⟩ := bcell hb1
          obtain ⟨f0, f1, f2, f3⟩ := (HC.out.keep B1) k hk
          rw [HR.out] at f0 f1 f2 f3
          go_wp2_with (first | (go_at_call 34; refine (goesNext_any _ _).mono ?_; rw [hN]; rintro e w' ⟨rfl, rfl⟩) | (go_at_call 35; refine (goesAway_any _ _).mono ?_; rw [hA]; rintro e w' ⟨rfl, rfl⟩) | (go_at_call 36; refine (bothPlaces_any _ _ _).mono ?_; rintro e w2 hm; obtain ⟨v2, rfl, hr2, hb2⟩ := hm; have HR2 := Lib.hid hr2; clear hr2))
          go_ret
          exact ⟨_, rfl, by rw [HF.out]; exact HR2.out.mono (by simp; omega), (B1.alloc (by omega) _).trans (hb2.mono (by simp; omega))⟩
      · have HF : Hid (Bt.goesTo rs h k = []) := Lib.hid (Bt.goesTo_out (by omega))
        go_enter Try.func17, Try.ntmps17
        go_wp2_with fail
        refine (implProgramOk_any _ _ _ rs _ _ hn hcap (HC.out.keep ((Below.refl _ _).alloc (Nat.le_refl _) _))).mono ?_
        rw [hp]
        rintro e w1 ⟨rfl, hb1⟩
        have hz1 : w.heap.size < w1.heap.size := by have := hb1.size; simp at this; omega
        have B1 : Below w.heap.size w w1 := ((Below.refl _ _).alloc (Nat.le_refl _) _).trans (hb1.mono (by simp))
        obtain ⟨hc1, hf1⟩ := bcell hb1
        go_wp2
        go_ret
        exact ⟨_, rfl, by rw [HF.out]; exact IntRow.nil _ _, B1⟩
    · have HF : Hid (Bt.goesTo rs h t = []) := Lib.hid (Bt.goesTo_neg (by omega))
      go_enter Try.func17, Try.ntmps17
      go_wp2_with fail
      refine (implProgramOk_any _ _ _ rs _ _ hn hcap (HC.out.keep ((Below.refl _ _).alloc (Nat.le_refl _) _))).mono ?_
      rw [hp]
      rintro e w1 ⟨rfl, hb1⟩
      have B1 : Below w.heap.size w w1 := ((Below.refl _ _).alloc (Nat.le_refl _) _).trans (hb1.mono (by simp))
      go_wp2
      go_ret
      exact ⟨_, rfl, by rw [HF.out]; exact IntRow.nil _ _, B1⟩
end Go.Proofs.Ytmcmfebmjfpmoaa
