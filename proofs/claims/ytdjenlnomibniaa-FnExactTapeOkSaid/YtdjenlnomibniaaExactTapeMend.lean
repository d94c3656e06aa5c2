/-
  The exact law of TapeMend.
-/
import Derived.Test.YtdjenlnomibniaaTyE
import Derived.Test.YtdjenlnomibniaaTyT
set_option linter.unusedSimpArgs false
set_option linter.unusedVariables false
namespace Go.Proofs.Ytdjenlnomibniaa
open Go.RowKit
namespace Av
/-- what both packages answer -/
def exactTapeMend_both (R0_0 : List (List PV)) (h0_1 : Int) (s1 : ByteArray) : Prop := ∃ (v0 : ByteArray), FnOk E.P 32 [.agg [.lst 153 R0_0, pI h0_1], .str s1] (.str v0) false ∧ FnOk E.P 33 [.agg [.lst 153 R0_0, pI h0_1], .str s1] (.str v0) true
set_option maxRecDepth 100000 in
set_option maxHeartbeats 40000000 in
theorem exactTapeMend_law (R0_0 : List (List PV)) (h0_1 : Int) (s1 : ByteArray) (hlR0_0 : R0_0.length ≤ 9223372036854775807) (hsR0_0 : ∀ r ∈ R0_0, ShCode r)
    (H : s1.size ≤ 1048576 → R0_0.length ≤ 1048576 → exactTapeMend_both R0_0 h0_1 s1) : FnOk E.P 6 [.agg [.lst 168 R0_0, pI h0_1], .str s1] (.bool true) true := by
  by_cases c_s1 : (s1.size : Int) > 1048576
  · have d_s1 : decide ((s1.size : Int) > 1048576) = true := by rw [decide_eq_true_eq]; omega
    refine fn_ok (E := EL) mixedL Try.func6 rfl (by kernel_rfl) _ Try.results6 _ Try.ntmps6 (by simp) (by kernel_rfl) ?_
    simp (maxSteps := 4000000) only [d_s1, pI, el_tb, freezeT, plainT, treeU, putT, putL, snapT, snapTs, snapTA, snapTAs, AV.ownArg, AV.ownLeaf, tvs, simprocAttr]
    repeat (first | refine ftS (by kernel_rfl) ?_ | refine And.intro (by omega) ?_)
    all_goals (first | rfl | trivial | skip)
  · have d_s1 : decide ((s1.size : Int) > 1048576) = false := by rw [decide_eq_false_iff_not]; omega
    by_cases g0 : ((1048576 : Int) : Int) < R0_0.length
    · have r0 : restI ((1048576 : Int)) R0_0.length = -1 := if_pos g0
      refine fn_ok (E := EL) mixedL Try.func6 rfl (by kernel_rfl) _ Try.results6 _ Try.ntmps6 (by simp) (by kernel_rfl) ?_
      simp (maxSteps := 4000000) only [d_s1, r0, pI, el_tb, freezeT, plainT, treeU, putT, putL, snapT, snapTs, snapTA, snapTAs, AV.ownArg, AV.ownLeaf, tvs, simprocAttr]
      repeat (first | refine ftS (by kernel_rfl) ?_ | refine And.intro (by omega) ?_)
      refine aopsL_fn (E := EL) (szProgram_ok R0_0 h0_1 ((1048576 : Int)) hlR0_0 (by omega) (by omega)) rfl (hidB rfl) rfl ?_
      simp (maxSteps := 4000000) only [d_s1, r0, pI, el_tb, freezeT, plainT, treeU, putT, putL, snapT, snapTs, snapTA, snapTAs, AV.ownArg, AV.ownLeaf, tvs, simprocAttr]
      repeat (first | refine ftS (by kernel_rfl) ?_ | refine And.intro (by omega) ?_)
      all_goals (first | rfl | trivial | skip)
    · have r0 : restI ((1048576 : Int)) R0_0.length = (1048576 : Int) - R0_0.length := if_neg g0
      have d0 : decide ((1048576 : Int) - R0_0.length < 0) = false := by simp; omega
      have shR0_0 : ShCodeS R0_0 := ⟨by omega, hsR0_0⟩
      obtain ⟨v0, HS, HI⟩ := H (by omega) (by omega)
      refine fn_ok (E := EL) mixedL Try.func6 rfl (by kernel_rfl) _ Try.results6 _ Try.ntmps6 (by simp) (by kernel_rfl) ?_
      simp (maxSteps := 4000000) only [d_s1, r0, d0, beq_self_eq_true, Bool.not_true, pI, el_tb, freezeT, plainT, treeU, putT, putL, snapT, snapTs, snapTA, snapTAs, AV.ownArg, AV.ownLeaf, tvs, simprocAttr]
      repeat (first | refine ftS (by kernel_rfl) ?_ | refine And.intro (by omega) ?_)
      refine aopsL_fn (E := EL) (szProgram_ok R0_0 h0_1 ((1048576 : Int)) hlR0_0 (by omega) (by omega)) rfl (hidB rfl) rfl ?_
      simp (maxSteps := 4000000) only [d_s1, r0, d0, beq_self_eq_true, Bool.not_true, pI, el_tb, freezeT, plainT, treeU, putT, putL, snapT, snapTs, snapTA, snapTAs, AV.ownArg, AV.ownLeaf, tvs, simprocAttr]
      repeat (first | refine ftS (by kernel_rfl) ?_ | refine And.intro (by omega) ?_)
      refine aopsL_fn (E := EL) (toProgram_ok R0_0 h0_1 shR0_0) rfl (hidB rfl) rfl ?_
      simp (maxSteps := 4000000) only [d_s1, r0, d0, beq_self_eq_true, Bool.not_true, pI, el_tb, freezeT, plainT, treeU, putT, putL, snapT, snapTs, snapTA, snapTAs, AV.ownArg, AV.ownLeaf, tvs, simprocAttr]
      repeat (first | refine ftS (by kernel_rfl) ?_ | refine And.intro (by omega) ?_)
      refine aopsL_rd (E := EL) (HS) rfl ?_
      simp (maxSteps := 4000000) only [d_s1, r0, d0, beq_self_eq_true, Bool.not_true, pI, el_tb, freezeT, plainT, treeU, putT, putL, snapT, snapTs, snapTA, snapTAs, AV.ownArg, AV.ownLeaf, tvs, simprocAttr]
      repeat (first | refine ftS (by kernel_rfl) ?_ | refine And.intro (by omega) ?_)
      refine aopsL_fn (E := EL) (toProgram_ok R0_0 h0_1 shR0_0) rfl (hidB rfl) rfl ?_
      simp (maxSteps := 4000000) only [d_s1, r0, d0, beq_self_eq_true, Bool.not_true, pI, el_tb, freezeT, plainT, treeU, putT, putL, snapT, snapTs, snapTA, snapTAs, AV.ownArg, AV.ownLeaf, tvs, simprocAttr]
      repeat (first | refine ftS (by kernel_rfl) ?_ | refine And.intro (by omega) ?_)
      refine aopsL_fn (E := EL) (HI) rfl (hidB rfl) rfl ?_
      simp (maxSteps := 4000000) only [d_s1, r0, d0, beq_self_eq_true, Bool.not_true, pI, el_tb, freezeT, plainT, treeU, putT, putL, snapT, snapTs, snapTA, snapTAs, AV.ownArg, AV.ownLeaf, tvs, simprocAttr]
      repeat (first | refine ftS (by kernel_rfl) ?_ | refine And.intro (by omega) ?_)
      refine aopsL_fn (E := EL) (toProgram_ok R0_0 h0_1 shR0_0) rfl (hidB rfl) rfl ?_
      simp (maxSteps := 4000000) only [d_s1, r0, d0, beq_self_eq_true, Bool.not_true, pI, el_tb, freezeT, plainT, treeU, putT, putL, snapT, snapTs, snapTA, snapTAs, AV.ownArg, AV.ownLeaf, tvs, simprocAttr]
      repeat (first | refine ftS (by kernel_rfl) ?_ | refine And.intro (by omega) ?_)
      refine aopsL_fn (E := EL) (eqProgram_ok [.lst 153 R0_0, pI h0_1] ⟨R0_0, h0_1, rfl, shR0_0⟩) rfl (hidB rfl) rfl ?_
      simp (maxSteps := 4000000) only [d_s1, r0, d0, beq_self_eq_true, Bool.not_true, pI, el_tb, freezeT, plainT, treeU, putT, putL, snapT, snapTs, snapTA, snapTAs, AV.ownArg, AV.ownLeaf, tvs, simprocAttr]
      repeat (first | refine ftS (by kernel_rfl) ?_ | refine And.intro (by omega) ?_)
      all_goals (first | rfl | trivial | skip)
end Av
end Go.Proofs.Ytdjenlnomibniaa
