/-
  The text of an instruction, in both packages: contracts for every instruction.
-/
import Derived.Test.YtkihalnkfneegaaText
namespace Go.Proofs.Ytkihalnkfneegaa
open Go.RowKit

namespace Bt
/-- a field's text, with a space ahead -/
def ft (used : Bool) (n : Int) : List UInt8 := if used then 32 :: dec n.toNat else []
/-- the text of an instruction -/
def codeText (op a b c : Int) : List UInt8 := if codeOk op a b c then name op ++ ft (uA op) a ++ ft (uB op) b ++ ft (decide (0 < uC op)) c else []
theorem below_pos {n top : Int} {u : Bool} (h : below n top u = true) : 0 ≤ n := by
  unfold below at h
  split at h
  · exact (of_decide_eq_true h).1
  · have := of_decide_eq_true h; omega
theorem below_top {n top : Int} {u : Bool} (h : below n top u = true) (ht : 0 < top) : n < top := by
  unfold below at h
  split at h
  · exact (of_decide_eq_true h).2
  · have := of_decide_eq_true h; omega
theorem codeOk_nums {op a b c : Int} (h : codeOk op a b c = true) : (0 ≤ a ∧ a < 4) ∧ (0 ≤ b ∧ b < 4) ∧ (0 ≤ c ∧ c < 10000) := by
  simp only [codeOk, Bool.and_eq_true] at h
  obtain ⟨⟨⟨_, ha⟩, hb⟩, hc⟩ := h
  refine ⟨⟨below_pos ha, below_top ha (by decide)⟩, ⟨below_pos hb, below_top hb (by decide)⟩, below_pos hc, ?_⟩
  unfold below at hc
  split at hc
  · have h1 := (of_decide_eq_true hc).2
    have h2 : topC (uC op) ≤ 10000 := by unfold topC; repeat' split
                                         all_goals omega
    omega
  · have := of_decide_eq_true hc; omega
theorem codeOk_op {op a b c : Int} (h : codeOk op a b c = true) : 0 ≤ op ∧ op ≤ 17 := by
  simp only [codeOk, Bool.and_eq_true] at h
  exact of_decide_eq_true h.1.1.1
theorem name_len (op : Int) : (name op).length ≤ 5 := by
  rcases ops op with h | h | h | h | h | h | h | h | h | h | h | h | h | h | h | h | h | h | h
  case inr.inr.inr.inr.inr.inr.inr.inr.inr.inr.inr.inr.inr.inr.inr.inr.inr.inr => rw [name_none h]; decide
  all_goals subst h; decide
end Bt

set_option maxHeartbeats 2000000 in
theorem specName_any (op : Int) (h : 0 ≤ op ∧ op ≤ 17) (w : World) :
    Calls Try.prog 13 #[.int .i64 op] w fun e w' => e = .returned (.string ⟨(Bt.name op).toArray⟩) ∧ Below w.heap.size w w' := by
  rcases (show op = 0 ∨ op = 1 ∨ op = 2 ∨ op = 3 ∨ op = 4 ∨ op = 5 ∨ op = 6 ∨ op = 7 ∨ op = 8 ∨ op = 9 ∨ op = 10 ∨ op = 11 ∨ op = 12 ∨ op = 13 ∨ op = 14 ∨ op = 15 ∨ op = 16 ∨ op = 17 by omega) with rfl | rfl | rfl | rfl | rfl | rfl | rfl | rfl | rfl | rfl | rfl | rfl | rfl | rfl | rfl | rfl | rfl | rfl
  all_goals
    clear h
    go_enter Try.func13, Try.ntmps13
    go_wp2
    go_ret
    exact ⟨rfl, (Below.refl _ _).alloc (Nat.le_refl _) _⟩

set_option maxHeartbeats 1000000 in
theorem fieldText_any (n : Nat) (k : Int) (u : Bool) (hk : u = !(k == 0)) (hn : n ≤ 1099511627776) (w : World) :
    Calls Try.prog 10 #[.int .i64 n, .int .i64 k] w fun e w' => e = .returned (.string ⟨(Bt.ft u n).toArray⟩) ∧ Below w.heap.size w w' := by
  have hl := Bt.dec_len n
  cases u
  · have h0 : (k == 0) = true := by simpa using hk
    clear hk
    go_enter Try.func10, Try.ntmps10
    go_wp2
    go_ret
    exact ⟨rfl, Below.refl _ _⟩
  · have h0 : (k == 0) = false := by simpa using hk
    clear hk
    go_enter Try.func10, Try.ntmps10
    go_wp2_with fail
    refine (implNumber_any _ n _ (Nat.lt_succ_self n) hn).mono ?_
    rintro e w1 ⟨rfl, hb1⟩
    go_wp2_with fail
    go_ret
    exact ⟨ret_str (str_add [32] (Bt.dec n)), hb1⟩
end Go.Proofs.Ytkihalnkfneegaa
