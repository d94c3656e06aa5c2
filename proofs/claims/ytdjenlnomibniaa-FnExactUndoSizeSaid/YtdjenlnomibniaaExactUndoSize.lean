/-
  The exact law of UndoSize.
-/
import Derived.Test.YtdjenlnomibniaaTyP
set_option linter.unusedSimpArgs false
set_option linter.unusedVariables false
namespace Go.Proofs.Ytdjenlnomibniaa
open Go.RowKit
namespace Av
/-- what both packages answer -/
def exactUndoSize_both (h0_0 : Int) (h0_1 : Int) (R0_2 : List (List PV)) (R0_3 : List (List PV)) (h0_4 : Int) (h0_5 : Int) (h0_6 : Int) (h0_7 : Int) (h0_8 : Int) (h0_9 : Bool) (h0_10 : Bool) : Prop := ∃ (v0 : Int), FnOk E.P 15 [.agg [pI h0_0, pI h0_1, .lst 3 R0_2, .lst 3 R0_3, pI h0_4, pI h0_5, pI h0_6, pI h0_7, pI h0_8, .bool h0_9, .bool h0_10]] (pI v0) false ∧ FnOk E.P 17 [.agg [pI h0_0, pI h0_1, .lst 3 R0_2, .lst 3 R0_3, pI h0_4, pI h0_5, pI h0_6, pI h0_7, pI h0_8, .bool h0_9, .bool h0_10]] (pI v0) true
set_option maxRecDepth 100000 in
set_option maxHeartbeats 40000000 in
theorem exactUndoSize_law (h0_0 : Int) (h0_1 : Int) (R0_2 : List (List PV)) (R0_3 : List (List PV)) (h0_4 : Int) (h0_5 : Int) (h0_6 : Int) (h0_7 : Int) (h0_8 : Int) (h0_9 : Bool) (h0_10 : Bool) (hlR0_2 : R0_2.length ≤ 9223372036854775807) (hsR0_2 : ∀ r ∈ R0_2, ShInt r) (hlR0_3 : R0_3.length ≤ 9223372036854775807) (hsR0_3 : ∀ r ∈ R0_3, ShInt r)
    (H : R0_2.length + R0_3.length ≤ 1048576 → exactUndoSize_both h0_0 h0_1 R0_2 R0_3 h0_4 h0_5 h0_6 h0_7 h0_8 h0_9 h0_10) : FnOk E.P 3 [.agg [pI h0_0, pI h0_1, .lst 3 R0_2, .lst 3 R0_3, pI h0_4, pI h0_5, pI h0_6, pI h0_7, pI h0_8, .bool h0_9, .bool h0_10]] (.bool true) true := by
  by_cases g0 : ((1048576 : Int) : Int) < ((R0_2.length + R0_3.length : Nat) : Int)
  · have r0 : restI ((1048576 : Int)) (R0_2.length + R0_3.length) = -1 := if_pos g0
    refine fn_ok (E := EL) mixedL Try.func3 rfl (by kernel_rfl) _ Try.results3 _ Try.ntmps3 (by simp) (by kernel_rfl) ?_
    simp (maxSteps := 4000000) only [r0, pI, el_tb, freezeT, plainT, treeU, putT, putL, snapT, snapTs, snapTA, snapTAs, AV.ownArg, AV.ownLeaf, tvs, simprocAttr]
    repeat (first | refine ftS (by kernel_rfl) ?_ | refine And.intro (by omega) ?_)
    refine aopsL_fn (E := EL) (szUndo_ok h0_0 h0_1 R0_2 R0_3 h0_4 h0_5 h0_6 h0_7 h0_8 h0_9 h0_10 ((1048576 : Int)) ⟨hlR0_2, hsR0_2⟩ ⟨hlR0_3, hsR0_3⟩ (by omega) (by omega)) rfl (hidB rfl) rfl ?_
    simp (maxSteps := 4000000) only [r0, pI, el_tb, freezeT, plainT, treeU, putT, putL, snapT, snapTs, snapTA, snapTAs, AV.ownArg, AV.ownLeaf, tvs, simprocAttr]
    repeat (first | refine ftS (by kernel_rfl) ?_ | refine And.intro (by omega) ?_)
    all_goals (first | rfl | trivial | skip)
  · have r0 : restI ((1048576 : Int)) (R0_2.length + R0_3.length) = (1048576 : Int) - ((R0_2.length + R0_3.length : Nat) : Int) := if_neg g0
    have d0 : decide ((1048576 : Int) - ((R0_2.length + R0_3.length : Nat) : Int) < 0) = false := by simp only [decide_eq_false_iff_not]; omega
    have shR0_2 : ShIntS R0_2 := ⟨by omega, hsR0_2⟩
    have shR0_3 : ShIntS R0_3 := ⟨by omega, hsR0_3⟩
    obtain ⟨v0, HS, HI⟩ := H (by omega)
    refine fn_ok (E := EL) mixedL Try.func3 rfl (by kernel_rfl) _ Try.results3 _ Try.ntmps3 (by simp) (by kernel_rfl) ?_
    simp (maxSteps := 4000000) only [r0, d0, pI, el_tb, freezeT, plainT, treeU, putT, putL, snapT, snapTs, snapTA, snapTAs, AV.ownArg, AV.ownLeaf, tvs, simprocAttr]
    repeat (first | refine ftS (by kernel_rfl) ?_ | refine And.intro (by omega) ?_)
    refine aopsL_fn (E := EL) (szUndo_ok h0_0 h0_1 R0_2 R0_3 h0_4 h0_5 h0_6 h0_7 h0_8 h0_9 h0_10 ((1048576 : Int)) ⟨hlR0_2, hsR0_2⟩ ⟨hlR0_3, hsR0_3⟩ (by omega) (by omega)) rfl (hidB rfl) rfl ?_
    simp (maxSteps := 4000000) only [r0, d0, pI, el_tb, freezeT, plainT, treeU, putT, putL, snapT, snapTs, snapTA, snapTAs, AV.ownArg, AV.ownLeaf, tvs, simprocAttr]
    repeat (first | refine ftS (by kernel_rfl) ?_ | refine And.intro (by omega) ?_)
    refine aopsL_fn (E := EL) (toUndo_ok h0_0 h0_1 R0_2 R0_3 h0_4 h0_5 h0_6 h0_7 h0_8 h0_9 h0_10 shR0_2 shR0_3) rfl (hidB rfl) rfl ?_
    simp (maxSteps := 4000000) only [r0, d0, pI, el_tb, freezeT, plainT, treeU, putT, putL, snapT, snapTs, snapTA, snapTAs, AV.ownArg, AV.ownLeaf, tvs, simprocAttr]
    repeat (first | refine ftS (by kernel_rfl) ?_ | refine And.intro (by omega) ?_)
    refine aopsL_rd (E := EL) (HS) rfl ?_
    simp (maxSteps := 4000000) only [r0, d0, pI, el_tb, freezeT, plainT, treeU, putT, putL, snapT, snapTs, snapTA, snapTAs, AV.ownArg, AV.ownLeaf, tvs, simprocAttr]
    repeat (first | refine ftS (by kernel_rfl) ?_ | refine And.intro (by omega) ?_)
    refine aopsL_fn (E := EL) (toUndo_ok h0_0 h0_1 R0_2 R0_3 h0_4 h0_5 h0_6 h0_7 h0_8 h0_9 h0_10 shR0_2 shR0_3) rfl (hidB rfl) rfl ?_
    simp (maxSteps := 4000000) only [r0, d0, pI, el_tb, freezeT, plainT, treeU, putT, putL, snapT, snapTs, snapTA, snapTAs, AV.ownArg, AV.ownLeaf, tvs, simprocAttr]
    repeat (first | refine ftS (by kernel_rfl) ?_ | refine And.intro (by omega) ?_)
    refine aopsL_fn (E := EL) (HI) rfl (hidB rfl) rfl ?_
    simp (maxSteps := 4000000) only [r0, d0, pI, el_tb, freezeT, plainT, treeU, putT, putL, snapT, snapTs, snapTA, snapTAs, AV.ownArg, AV.ownLeaf, tvs, simprocAttr]
    repeat (first | refine ftS (by kernel_rfl) ?_ | refine And.intro (by omega) ?_)
    refine aopsL_fn (E := EL) (toUndo_ok h0_0 h0_1 R0_2 R0_3 h0_4 h0_5 h0_6 h0_7 h0_8 h0_9 h0_10 shR0_2 shR0_3) rfl (hidB rfl) rfl ?_
    simp (maxSteps := 4000000) only [r0, d0, pI, el_tb, freezeT, plainT, treeU, putT, putL, snapT, snapTs, snapTA, snapTAs, AV.ownArg, AV.ownLeaf, tvs, simprocAttr]
    repeat (first | refine ftS (by kernel_rfl) ?_ | refine And.intro (by omega) ?_)
    refine aopsL_fn (E := EL) (eqUndo_ok [pI h0_0, pI h0_1, .lst 3 R0_2, .lst 3 R0_3, pI h0_4, pI h0_5, pI h0_6, pI h0_7, pI h0_8, .bool h0_9, .bool h0_10] ⟨h0_0, h0_1, R0_2, R0_3, h0_4, h0_5, h0_6, h0_7, h0_8, h0_9, h0_10, rfl, shR0_2, shR0_3⟩) rfl (hidB rfl) rfl ?_
    simp (maxSteps := 4000000) only [r0, d0, pI, el_tb, freezeT, plainT, treeU, putT, putL, snapT, snapTs, snapTA, snapTAs, AV.ownArg, AV.ownLeaf, tvs, simprocAttr]
    repeat (first | refine ftS (by kernel_rfl) ?_ | refine And.intro (by omega) ?_)
    all_goals (first | rfl | trivial | skip)
end Av
end Go.Proofs.Ytdjenlnomibniaa
