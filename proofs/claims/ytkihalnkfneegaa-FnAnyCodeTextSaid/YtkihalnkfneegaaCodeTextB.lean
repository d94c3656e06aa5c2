/-
  The text of an instruction, in both packages: contracts for every instruction.
-/
import Derived.Test.YtkihalnkfneegaaCodeText
namespace Go.Proofs.Ytkihalnkfneegaa
open Go.RowKit

theorem Bt.text_of {op a b c : Int} (h : Bt.codeOk op a b c = true) : Bt.codeText op a b c = Bt.name op ++ Bt.ft (Bt.uA op) a ++ Bt.ft (Bt.uB op) b ++ Bt.ft (decide (0 < Bt.uC op)) c := by
  unfold Bt.codeText; rw [if_pos h]

set_option maxHeartbeats 4000000 in
theorem specCodeText_any (op a b c : Int) (w : World) :
    Calls Try.prog 5 #[.agg #[.int .i64 op, .int .i64 a, .int .i64 b, .int .i64 c]] w fun e w' => e = .returned (.string ⟨(Bt.codeText op a b c).toArray⟩) ∧ Below w.heap.size w w' := by
  cases hok : Bt.codeOk op a b c
  · have HF : Hid (Bt.codeText op a b c = []) := Lib.hid (by unfold Bt.codeText; rw [hok]; rfl)
    go_enter Try.func5, Try.ntmps5
    go_wp2_with (go_at_call 11; refine (specCodeOk_any _ _ _ _ _).mono ?_; rw [hok]; rintro e w1 ⟨rfl, hb1⟩)
    go_ret
    exact ⟨by rw [HF.out]; rfl, ((Below.refl _ _).alloc (Nat.le_refl _) _).trans (hb1.mono (by simp))⟩
  · have hop := Bt.codeOk_op hok
    obtain ⟨⟨ha0, ha1⟩, ⟨hb0, hb1⟩, hc0, hc1⟩ := Bt.codeOk_nums hok
    have HT := Lib.hid (Bt.text_of hok)
    obtain ⟨a, rfl⟩ := Int.eq_ofNat_of_zero_le ha0
    obtain ⟨b, rfl⟩ := Int.eq_ofNat_of_zero_le hb0
    obtain ⟨c, rfl⟩ := Int.eq_ofNat_of_zero_le hc0
    have la := Bt.dec_len a
    have lb := Bt.dec_len b
    have lc := Bt.dec_len c
    have ln := Bt.name_len op
    cases hA : Bt.uA op <;> cases hB : Bt.uB op <;> cases hC : decide (0 < Bt.uC op)
    all_goals
      have HF : Hid (Bt.codeText op a b c = Bt.name op ++ Bt.ft (Bt.uA op) a ++ Bt.ft (Bt.uB op) b ++ Bt.ft (decide (0 < Bt.uC op)) c) := HT
      rw [hA, hB, hC] at HF
      clear HT
      have B : Below w.heap.size w (w.alloc (.cells #[.int .i64 op, .int .i64 a, .int .i64 b, .int .i64 c] 23)) := (Below.refl _ _).alloc (Nat.le_refl _) _
      go_enter Try.func5, Try.ntmps5
      go_wp2_with (first | (go_at_call 11; refine (specCodeOk_any _ _ _ _ _).mono ?_; rw [hok]; rintro e w1 ⟨rfl, hb⟩; have hc := (bcell hb).1; have hz : w.heap.size < w1.heap.size := (by have := hb.size; simp at this; omega); have B := B.trans (hb.mono B.size)) | (go_at_call 12; refine (uses_any _ _).mono ?_; rw [hA, hB]; rintro e w' ⟨rfl, rfl⟩) | (go_at_call 13; refine (specName_any _ hop _).mono ?_; rintro e w2 ⟨rfl, hb⟩; have hc := (bcell hb).1; have hz : w.heap.size < w2.heap.size := (by have := hb.size; omega); have B := B.trans (hb.mono B.size)) | (go_at_call 14; refine (specNumber_any _ _ _ (Nat.lt_succ_self _) (by omega)).mono ?_; rintro e w3 ⟨rfl, hb⟩; have hc := (bcell hb).1; have hz : w.heap.size < w3.heap.size := (by have := hb.size; omega); have B := B.trans (hb.mono B.size)))
      go_ret
      exact ⟨ret_str (by rw [HF.out]; apply ByteArray.ext; simp [Bt.ft, ByteArray.data_append]), B⟩
end Go.Proofs.Ytkihalnkfneegaa
