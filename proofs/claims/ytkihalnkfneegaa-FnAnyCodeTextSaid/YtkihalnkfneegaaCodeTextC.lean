/-
  The text of an instruction, in the program's own package: a contract for every instruction.
-/
import Derived.Test.YtkihalnkfneegaaCodeTextB
namespace Go.Proofs.Ytkihalnkfneegaa
open Go.RowKit

namespace Bt
theorem fA_used (op : Int) : uA op = !(fA op == 0) := by unfold fA; cases uA op <;> simp
theorem fB_used (op : Int) : uB op = !(fB op == 0) := by unfold fB; cases uB op <;> simp
theorem fC_used (op : Int) : decide (0 < uC op) = !(fC op == 0) := by
  have h : 0 ≤ uC op := by unfold uC; repeat' split
                           all_goals omega
  unfold fC
  split
  · rename_i h0; rw [h0]; rfl
  · have h1 : 0 < uC op := by omega
    have h2 : (uC op + 1 == 0) = false := by rw [beq_eq_false_iff_ne]; omega
    simp [h1, h2]
end Bt

set_option maxHeartbeats 1000000 in
theorem implCodeText_any (op a b c : Int) (w : World) :
    Calls Try.prog 4 #[.agg #[.int .i64 op, .int .i64 a, .int .i64 b, .int .i64 c]] w fun e w' => e = .returned (.string ⟨(Bt.codeText op a b c).toArray⟩) ∧ Below w.heap.size w w' := by
  cases hok : Bt.codeOk op a b c
  · have HF : Hid (Bt.codeText op a b c = []) := Lib.hid (by unfold Bt.codeText; rw [hok]; rfl)
    go_enter Try.func4, Try.ntmps4
    go_wp2_with (go_at_call 7; refine (implCodeOk_any _ _ _ _ _).mono ?_; rw [hok]; rintro e w1 ⟨rfl, hb1⟩)
    go_ret
    exact ⟨by rw [HF.out]; rfl, ((Below.refl _ _).alloc (Nat.le_refl _) _).trans (hb1.mono (by simp))⟩
  · obtain ⟨⟨ha0, ha1⟩, ⟨hb0, hb1⟩, hc0, hc1⟩ := Bt.codeOk_nums hok
    have HF := Lib.hid (Bt.text_of hok)
    obtain ⟨a, rfl⟩ := Int.eq_ofNat_of_zero_le ha0
    obtain ⟨b, rfl⟩ := Int.eq_ofNat_of_zero_le hb0
    obtain ⟨c, rfl⟩ := Int.eq_ofNat_of_zero_le hc0
    have la : (Bt.ft (Bt.uA op) a).length ≤ 100000 := by have := Bt.dec_len a; unfold Bt.ft; split <;> simp <;> omega
    have lb : (Bt.ft (Bt.uB op) b).length ≤ 100000 := by have := Bt.dec_len b; unfold Bt.ft; split <;> simp <;> omega
    have lc : (Bt.ft (decide (0 < Bt.uC op)) c).length ≤ 100000 := by have := Bt.dec_len c; unfold Bt.ft; split <;> simp <;> omega
    have ln := Bt.name_len op
    have UA := Lib.hid (Bt.fA_used op)
    have UB := Lib.hid (Bt.fB_used op)
    have UC := Lib.hid (Bt.fC_used op)
    go_enter Try.func4, Try.ntmps4
    go_wp2_with fail
    refine (implCodeOk_any _ _ _ _ _).mono ?_
    rw [hok]
    rintro e w1 ⟨rfl, hb1⟩
    have hc1 := (bcell hb1).1
    have hz1 : w.heap.size < w1.heap.size := by have := hb1.size; simp at this; omega
    have B1 : Below w.heap.size w w1 := ((Below.refl _ _).alloc (Nat.le_refl _) _).trans (hb1.mono (by simp))
    go_wp2_with fail
    refine (formOf_any _ _).mono ?_
    rintro e w2 ⟨rfl, hb2⟩
    have x0 := keeps hb2 (keeps hb1 (p := ⟨w.heap.size, 0, none⟩) (v := .int .i64 op) (by simp))
    have x1 := keeps hb2 (keeps hb1 (p := ⟨w.heap.size, 1, none⟩) (v := .int .i64 a) (by simp))
    have x2 := keeps hb2 (keeps hb1 (p := ⟨w.heap.size, 2, none⟩) (v := .int .i64 b) (by simp))
    have x3 := keeps hb2 (keeps hb1 (p := ⟨w.heap.size, 3, none⟩) (v := .int .i64 c) (by simp))
    have B2 : Below w.heap.size w w2 := B1.trans (hb2.mono (by omega))
    have hz2 : w.heap.size < w2.heap.size := by have := hb2.size; omega
    clear hc1
    go_wp2_with fail
    have k1 := Below.alloc (Below.refl w2.heap.size w2) (Nat.le_refl _) (.cells #[.string ⟨(Bt.name op).toArray⟩, .int .i64 (Bt.fA op), .int .i64 (Bt.fB op), .int .i64 (Bt.fC op)] 30)
    have q1 := Cls.keeps (keeps k1 x1)
    have q2 := Cls.keeps (keeps k1 x2)
    have q3 := Cls.keeps (keeps k1 x3)
    have p0 := Cls.keeps (W := w2.alloc (.cells #[.string ⟨(Bt.name op).toArray⟩, .int .i64 (Bt.fA op), .int .i64 (Bt.fB op), .int .i64 (Bt.fC op)] 30)) (p := ⟨w2.heap.size, 0, none⟩) (v := .string ⟨(Bt.name op).toArray⟩) (by simp)
    have p1 := Cls.keeps (W := w2.alloc (.cells #[.string ⟨(Bt.name op).toArray⟩, .int .i64 (Bt.fA op), .int .i64 (Bt.fB op), .int .i64 (Bt.fC op)] 30)) (p := ⟨w2.heap.size, 1, none⟩) (v := .int .i64 (Bt.fA op)) (by simp)
    have p2 := Cls.keeps (W := w2.alloc (.cells #[.string ⟨(Bt.name op).toArray⟩, .int .i64 (Bt.fA op), .int .i64 (Bt.fB op), .int .i64 (Bt.fC op)] 30)) (p := ⟨w2.heap.size, 2, none⟩) (v := .int .i64 (Bt.fB op)) (by simp)
    have p3 := Cls.keeps (W := w2.alloc (.cells #[.string ⟨(Bt.name op).toArray⟩, .int .i64 (Bt.fA op), .int .i64 (Bt.fB op), .int .i64 (Bt.fC op)] 30)) (p := ⟨w2.heap.size, 3, none⟩) (v := .int .i64 (Bt.fC op)) (by simp)
    clear x0 x1 x2 x3
    have HA := Lib.hid (show ∀ x : Cls (w2.alloc (.cells #[.string ⟨(Bt.name op).toArray⟩, .int .i64 (Bt.fA op), .int .i64 (Bt.fB op), .int .i64 (Bt.fC op)] 30)), Calls Try.prog 10 #[.int .i64 a, .int .i64 (Bt.fA op)] x.val fun e w'' => e = .returned (.string ⟨(Bt.ft (Bt.uA op) a).toArray⟩) ∧ ∃ y : Cls (w2.alloc (.cells #[.string ⟨(Bt.name op).toArray⟩, .int .i64 (Bt.fA op), .int .i64 (Bt.fB op), .int .i64 (Bt.fC op)] 30)), w'' = y.val from
      fun x => cls_of (fieldText_any a (Bt.fA op) (Bt.uA op) UA.out (by omega) x.val))
    have HB := Lib.hid (show ∀ x : Cls (w2.alloc (.cells #[.string ⟨(Bt.name op).toArray⟩, .int .i64 (Bt.fA op), .int .i64 (Bt.fB op), .int .i64 (Bt.fC op)] 30)), Calls Try.prog 10 #[.int .i64 b, .int .i64 (Bt.fB op)] x.val fun e w'' => e = .returned (.string ⟨(Bt.ft (Bt.uB op) b).toArray⟩) ∧ ∃ y : Cls (w2.alloc (.cells #[.string ⟨(Bt.name op).toArray⟩, .int .i64 (Bt.fA op), .int .i64 (Bt.fB op), .int .i64 (Bt.fC op)] 30)), w'' = y.val from
      fun x => cls_of (fieldText_any b (Bt.fB op) (Bt.uB op) UB.out (by omega) x.val))
    have HC := Lib.hid (show ∀ x : Cls (w2.alloc (.cells #[.string ⟨(Bt.name op).toArray⟩, .int .i64 (Bt.fA op), .int .i64 (Bt.fB op), .int .i64 (Bt.fC op)] 30)), Calls Try.prog 10 #[.int .i64 c, .int .i64 (Bt.fC op)] x.val fun e w'' => e = .returned (.string ⟨(Bt.ft (decide (0 < Bt.uC op)) c).toArray⟩) ∧ ∃ y : Cls (w2.alloc (.cells #[.string ⟨(Bt.name op).toArray⟩, .int .i64 (Bt.fA op), .int .i64 (Bt.fB op), .int .i64 (Bt.fC op)] 30)), w'' = y.val from
      fun x => cls_of (fieldText_any c (Bt.fC op) (decide (0 < Bt.uC op)) UC.out (by omega) x.val))
    refine wp_region_cls (by kernel_rfl) (by kernel_rfl) ?_
    repeat (go_big_quiet_step ((go_at_call 10; first | (with_reducible exact HA.out _) | (with_reducible exact HB.out _) | (with_reducible exact HC.out _))))
    refine wpQuiet_nil ?_
    intro w3' hw3'
    obtain ⟨⟨w3, hb3⟩, rfl⟩ := hw3'
    go_wp2
    go_ret
    exact ⟨ret_str (by rw [HF.out]; apply ByteArray.ext; simp [ByteArray.data_append]), (B2.alloc (by omega) _).trans (hb3.mono (by simp; omega))⟩
end Go.Proofs.Ytkihalnkfneegaa
