/-
  The exact law of MarksOk.
-/
import Derived.Test.YtdjenlnomibniaaTyK
set_option linter.unusedSimpArgs false
set_option linter.unusedVariables false
namespace Go.Proofs.Ytdjenlnomibniaa
open Go.RowKit
namespace Av
/-- what both packages answer -/
def exactMarksOk_both (R0_0 : List (List PV)) (h0_1 : Int) (R1 : List (List PV)) (R2 : List (List PV)) : Prop := ∃ (v0 : Bool), FnOk E.P 44 [.agg [.lst 153 R0_0, pI h0_1], .lst 91 R1, .lst 143 (R2.map swM)] (.bool v0) false ∧ FnOk E.P 47 [.agg [.lst 153 R0_0, pI h0_1], .lst 91 R1, .lst 143 (R2.map swM)] (.bool v0) true
set_option maxRecDepth 100000 in
set_option maxHeartbeats 40000000 in
theorem exactMarksOk_law (R0_0 : List (List PV)) (h0_1 : Int) (R1 : List (List PV)) (R2 : List (List PV)) (hlR0_0 : R0_0.length ≤ 9223372036854775807) (hsR0_0 : ∀ r ∈ R0_0, ShCode r) (hlR1 : R1.length ≤ 9223372036854775807) (hsR1 : ∀ r ∈ R1, ShChoice r) (hlR2 : R2.length ≤ 9223372036854775807) (hsR2 : ∀ r ∈ R2, LoMark r)
    (H : R0_0.length + R1.length + totR R2 ≤ 1048576 → exactMarksOk_both R0_0 h0_1 R1 R2) : FnOk E.P 8 [.agg [.lst 168 R0_0, pI h0_1], .lst 88 R1, .lst 141 R2] (.bool true) true := by
  by_cases g0 : ((1048576 : Int) : Int) < R0_0.length
  · have r0 : restI ((1048576 : Int)) R0_0.length = -1 := if_pos g0
    refine fn_ok (E := EL) mixedL Try.func8 rfl (by kernel_rfl) _ Try.results8 _ Try.ntmps8 (by simp) (by kernel_rfl) ?_
    simp (maxSteps := 4000000) only [r0, pI, el_tb, freezeT, plainT, treeU, putT, putL, snapT, snapTs, snapTA, snapTAs, AV.ownArg, AV.ownLeaf, tvs, simprocAttr]
    repeat (first | refine ftS (by kernel_rfl) ?_ | refine And.intro (by omega) ?_)
    refine aopsL_fn (E := EL) (szProgram_ok R0_0 h0_1 ((1048576 : Int)) hlR0_0 (by omega) (by omega)) rfl (hidB rfl) rfl ?_
    simp (maxSteps := 4000000) only [r0, pI, el_tb, freezeT, plainT, treeU, putT, putL, snapT, snapTs, snapTA, snapTAs, AV.ownArg, AV.ownLeaf, tvs, simprocAttr]
    repeat (first | refine ftS (by kernel_rfl) ?_ | refine And.intro (by omega) ?_)
    all_goals (first | rfl | trivial | skip)
  · have r0 : restI ((1048576 : Int)) R0_0.length = (1048576 : Int) - R0_0.length := if_neg g0
    have d0 : decide ((1048576 : Int) - R0_0.length < 0) = false := by simp only [decide_eq_false_iff_not]; omega
    by_cases g1 : ((1048576 : Int) - R0_0.length : Int) < R1.length
    · have r1 : restI ((1048576 : Int) - R0_0.length) R1.length = -1 := if_pos g1
      refine fn_ok (E := EL) mixedL Try.func8 rfl (by kernel_rfl) _ Try.results8 _ Try.ntmps8 (by simp) (by kernel_rfl) ?_
      simp (maxSteps := 4000000) only [r0, d0, r1, pI, el_tb, freezeT, plainT, treeU, putT, putL, snapT, snapTs, snapTA, snapTAs, AV.ownArg, AV.ownLeaf, tvs, simprocAttr]
      repeat (first | refine ftS (by kernel_rfl) ?_ | refine And.intro (by omega) ?_)
      refine aopsL_fn (E := EL) (szProgram_ok R0_0 h0_1 ((1048576 : Int)) hlR0_0 (by omega) (by omega)) rfl (hidB rfl) rfl ?_
      simp (maxSteps := 4000000) only [r0, d0, r1, pI, el_tb, freezeT, plainT, treeU, putT, putL, snapT, snapTs, snapTA, snapTAs, AV.ownArg, AV.ownLeaf, tvs, simprocAttr]
      repeat (first | refine ftS (by kernel_rfl) ?_ | refine And.intro (by omega) ?_)
      refine aopsL_fn (E := EL) (szChoiceS_ok R1 ((1048576 : Int) - R0_0.length) hlR1 (by omega) (by omega)) rfl (hidB rfl) rfl ?_
      simp (maxSteps := 4000000) only [r0, d0, r1, pI, el_tb, freezeT, plainT, treeU, putT, putL, snapT, snapTs, snapTA, snapTAs, AV.ownArg, AV.ownLeaf, tvs, simprocAttr]
      repeat (first | refine ftS (by kernel_rfl) ?_ | refine And.intro (by omega) ?_)
      all_goals (first | rfl | trivial | skip)
    · have r1 : restI ((1048576 : Int) - R0_0.length) R1.length = (1048576 : Int) - R0_0.length - R1.length := if_neg g1
      have d1 : decide ((1048576 : Int) - R0_0.length - R1.length < 0) = false := by simp only [decide_eq_false_iff_not]; omega
      by_cases g2 : ((1048576 : Int) - R0_0.length - R1.length : Int) < ((totR R2 : Nat) : Int)
      · have r2 : restI ((1048576 : Int) - R0_0.length - R1.length) (totR R2) = -1 := if_pos g2
        refine fn_ok (E := EL) mixedL Try.func8 rfl (by kernel_rfl) _ Try.results8 _ Try.ntmps8 (by simp) (by kernel_rfl) ?_
        simp (maxSteps := 4000000) only [r0, d0, r1, d1, r2, pI, el_tb, freezeT, plainT, treeU, putT, putL, snapT, snapTs, snapTA, snapTAs, AV.ownArg, AV.ownLeaf, tvs, simprocAttr]
        repeat (first | refine ftS (by kernel_rfl) ?_ | refine And.intro (by omega) ?_)
        refine aopsL_fn (E := EL) (szProgram_ok R0_0 h0_1 ((1048576 : Int)) hlR0_0 (by omega) (by omega)) rfl (hidB rfl) rfl ?_
        simp (maxSteps := 4000000) only [r0, d0, r1, d1, r2, pI, el_tb, freezeT, plainT, treeU, putT, putL, snapT, snapTs, snapTA, snapTAs, AV.ownArg, AV.ownLeaf, tvs, simprocAttr]
        repeat (first | refine ftS (by kernel_rfl) ?_ | refine And.intro (by omega) ?_)
        refine aopsL_fn (E := EL) (szChoiceS_ok R1 ((1048576 : Int) - R0_0.length) hlR1 (by omega) (by omega)) rfl (hidB rfl) rfl ?_
        simp (maxSteps := 4000000) only [r0, d0, r1, d1, r2, pI, el_tb, freezeT, plainT, treeU, putT, putL, snapT, snapTs, snapTA, snapTAs, AV.ownArg, AV.ownLeaf, tvs, simprocAttr]
        repeat (first | refine ftS (by kernel_rfl) ?_ | refine And.intro (by omega) ?_)
        refine aopsL_fn (E := EL) (szMarkS_ok R2 ((1048576 : Int) - R0_0.length - R1.length) hlR2 hsR2 (by omega) (by omega)) rfl (hidB rfl) rfl ?_
        simp (maxSteps := 4000000) only [r0, d0, r1, d1, r2, pI, el_tb, freezeT, plainT, treeU, putT, putL, snapT, snapTs, snapTA, snapTAs, AV.ownArg, AV.ownLeaf, tvs, simprocAttr]
        repeat (first | refine ftS (by kernel_rfl) ?_ | refine And.intro (by omega) ?_)
        all_goals (first | rfl | trivial | skip)
      · have r2 : restI ((1048576 : Int) - R0_0.length - R1.length) (totR R2) = (1048576 : Int) - R0_0.length - R1.length - ((totR R2 : Nat) : Int) := if_neg g2
        have d2 : decide ((1048576 : Int) - R0_0.length - R1.length - ((totR R2 : Nat) : Int) < 0) = false := by simp only [decide_eq_false_iff_not]; omega
        have shR0_0 : ShCodeS R0_0 := ⟨by omega, hsR0_0⟩
        have shR1 : ShChoiceS R1 := ⟨by omega, hsR1⟩
        have shR2 : ShMarkS (R2.map swM) := LoMarkS.sh ⟨hlR2, hsR2⟩ (by omega)
        obtain ⟨v0, HS, HI⟩ := H (by omega)
        refine fn_ok (E := EL) mixedL Try.func8 rfl (by kernel_rfl) _ Try.results8 _ Try.ntmps8 (by simp) (by kernel_rfl) ?_
        simp (maxSteps := 4000000) only [r0, d0, r1, d1, r2, d2, pI, el_tb, freezeT, plainT, treeU, putT, putL, snapT, snapTs, snapTA, snapTAs, AV.ownArg, AV.ownLeaf, tvs, simprocAttr]
        repeat (first | refine ftS (by kernel_rfl) ?_ | refine And.intro (by omega) ?_)
        refine aopsL_fn (E := EL) (szProgram_ok R0_0 h0_1 ((1048576 : Int)) hlR0_0 (by omega) (by omega)) rfl (hidB rfl) rfl ?_
        simp (maxSteps := 4000000) only [r0, d0, r1, d1, r2, d2, pI, el_tb, freezeT, plainT, treeU, putT, putL, snapT, snapTs, snapTA, snapTAs, AV.ownArg, AV.ownLeaf, tvs, simprocAttr]
        repeat (first | refine ftS (by kernel_rfl) ?_ | refine And.intro (by omega) ?_)
        refine aopsL_fn (E := EL) (szChoiceS_ok R1 ((1048576 : Int) - R0_0.length) hlR1 (by omega) (by omega)) rfl (hidB rfl) rfl ?_
        simp (maxSteps := 4000000) only [r0, d0, r1, d1, r2, d2, pI, el_tb, freezeT, plainT, treeU, putT, putL, snapT, snapTs, snapTA, snapTAs, AV.ownArg, AV.ownLeaf, tvs, simprocAttr]
        repeat (first | refine ftS (by kernel_rfl) ?_ | refine And.intro (by omega) ?_)
        refine aopsL_fn (E := EL) (szMarkS_ok R2 ((1048576 : Int) - R0_0.length - R1.length) hlR2 hsR2 (by omega) (by omega)) rfl (hidB rfl) rfl ?_
        simp (maxSteps := 4000000) only [r0, d0, r1, d1, r2, d2, pI, el_tb, freezeT, plainT, treeU, putT, putL, snapT, snapTs, snapTA, snapTAs, AV.ownArg, AV.ownLeaf, tvs, simprocAttr]
        repeat (first | refine ftS (by kernel_rfl) ?_ | refine And.intro (by omega) ?_)
        refine aopsL_fn (E := EL) (toProgram_ok R0_0 h0_1 shR0_0) rfl (hidB rfl) rfl ?_
        simp (maxSteps := 4000000) only [r0, d0, r1, d1, r2, d2, pI, el_tb, freezeT, plainT, treeU, putT, putL, snapT, snapTs, snapTA, snapTAs, AV.ownArg, AV.ownLeaf, tvs, simprocAttr]
        repeat (first | refine ftS (by kernel_rfl) ?_ | refine And.intro (by omega) ?_)
        refine aopsL_fn (E := EL) (toChoiceS_ok R1 shR1) rfl (hidB rfl) rfl ?_
        simp (maxSteps := 4000000) only [r0, d0, r1, d1, r2, d2, pI, el_tb, freezeT, plainT, treeU, putT, putL, snapT, snapTs, snapTA, snapTAs, AV.ownArg, AV.ownLeaf, tvs, simprocAttr]
        repeat (first | refine ftS (by kernel_rfl) ?_ | refine And.intro (by omega) ?_)
        refine aopsL_fn (E := EL) (toMarkS_ok R2 ⟨hlR2, hsR2⟩ (by omega)) rfl (hidB rfl) rfl ?_
        simp (maxSteps := 4000000) only [r0, d0, r1, d1, r2, d2, pI, el_tb, freezeT, plainT, treeU, putT, putL, snapT, snapTs, snapTA, snapTAs, AV.ownArg, AV.ownLeaf, tvs, simprocAttr]
        repeat (first | refine ftS (by kernel_rfl) ?_ | refine And.intro (by omega) ?_)
        refine aopsL_rd (E := EL) (HS) rfl ?_
        simp (maxSteps := 4000000) only [r0, d0, r1, d1, r2, d2, pI, el_tb, freezeT, plainT, treeU, putT, putL, snapT, snapTs, snapTA, snapTAs, AV.ownArg, AV.ownLeaf, tvs, simprocAttr]
        repeat (first | refine ftS (by kernel_rfl) ?_ | refine And.intro (by omega) ?_)
        refine aopsL_fn (E := EL) (toProgram_ok R0_0 h0_1 shR0_0) rfl (hidB rfl) rfl ?_
        simp (maxSteps := 4000000) only [r0, d0, r1, d1, r2, d2, pI, el_tb, freezeT, plainT, treeU, putT, putL, snapT, snapTs, snapTA, snapTAs, AV.ownArg, AV.ownLeaf, tvs, simprocAttr]
        repeat (first | refine ftS (by kernel_rfl) ?_ | refine And.intro (by omega) ?_)
        refine aopsL_fn (E := EL) (toChoiceS_ok R1 shR1) rfl (hidB rfl) rfl ?_
        simp (maxSteps := 4000000) only [r0, d0, r1, d1, r2, d2, pI, el_tb, freezeT, plainT, treeU, putT, putL, snapT, snapTs, snapTA, snapTAs, AV.ownArg, AV.ownLeaf, tvs, simprocAttr]
        repeat (first | refine ftS (by kernel_rfl) ?_ | refine And.intro (by omega) ?_)
        refine aopsL_fn (E := EL) (toMarkS_ok R2 ⟨hlR2, hsR2⟩ (by omega)) rfl (hidB rfl) rfl ?_
        simp (maxSteps := 4000000) only [r0, d0, r1, d1, r2, d2, pI, el_tb, freezeT, plainT, treeU, putT, putL, snapT, snapTs, snapTA, snapTAs, AV.ownArg, AV.ownLeaf, tvs, simprocAttr]
        repeat (first | refine ftS (by kernel_rfl) ?_ | refine And.intro (by omega) ?_)
        refine aopsL_fn (E := EL) (HI) rfl (hidB rfl) rfl ?_
        simp (maxSteps := 4000000) only [r0, d0, r1, d1, r2, d2, pI, el_tb, freezeT, plainT, treeU, putT, putL, snapT, snapTs, snapTA, snapTAs, AV.ownArg, AV.ownLeaf, tvs, simprocAttr]
        repeat (first | refine ftS (by kernel_rfl) ?_ | refine And.intro (by omega) ?_)
        refine aopsL_fn (E := EL) (toProgram_ok R0_0 h0_1 shR0_0) rfl (hidB rfl) rfl ?_
        simp (maxSteps := 4000000) only [r0, d0, r1, d1, r2, d2, pI, el_tb, freezeT, plainT, treeU, putT, putL, snapT, snapTs, snapTA, snapTAs, AV.ownArg, AV.ownLeaf, tvs, simprocAttr]
        repeat (first | refine ftS (by kernel_rfl) ?_ | refine And.intro (by omega) ?_)
        refine aopsL_fn (E := EL) (eqProgram_ok [.lst 153 R0_0, pI h0_1] ⟨R0_0, h0_1, rfl, shR0_0⟩) rfl (hidB rfl) rfl ?_
        simp (maxSteps := 4000000) only [r0, d0, r1, d1, r2, d2, pI, el_tb, freezeT, plainT, treeU, putT, putL, snapT, snapTs, snapTA, snapTAs, AV.ownArg, AV.ownLeaf, tvs, simprocAttr]
        repeat (first | refine ftS (by kernel_rfl) ?_ | refine And.intro (by omega) ?_)
        refine aopsL_fn (E := EL) (toChoiceS_ok R1 shR1) rfl (hidB rfl) rfl ?_
        simp (maxSteps := 4000000) only [r0, d0, r1, d1, r2, d2, pI, el_tb, freezeT, plainT, treeU, putT, putL, snapT, snapTs, snapTA, snapTAs, AV.ownArg, AV.ownLeaf, tvs, simprocAttr]
        repeat (first | refine ftS (by kernel_rfl) ?_ | refine And.intro (by omega) ?_)
        refine aopsL_fn (E := EL) (eqChoiceS_ok R1 shR1) rfl (hidB rfl) rfl ?_
        simp (maxSteps := 4000000) only [r0, d0, r1, d1, r2, d2, pI, el_tb, freezeT, plainT, treeU, putT, putL, snapT, snapTs, snapTA, snapTAs, AV.ownArg, AV.ownLeaf, tvs, simprocAttr]
        repeat (first | refine ftS (by kernel_rfl) ?_ | refine And.intro (by omega) ?_)
        refine aopsL_fn (E := EL) (toMarkS_ok R2 ⟨hlR2, hsR2⟩ (by omega)) rfl (hidB rfl) rfl ?_
        simp (maxSteps := 4000000) only [r0, d0, r1, d1, r2, d2, pI, el_tb, freezeT, plainT, treeU, putT, putL, snapT, snapTs, snapTA, snapTAs, AV.ownArg, AV.ownLeaf, tvs, simprocAttr]
        repeat (first | refine ftS (by kernel_rfl) ?_ | refine And.intro (by omega) ?_)
        refine aopsL_fn (E := EL) (eqMarkS_ok (R2.map swM) shR2) rfl (hidB rfl) rfl ?_
        simp (maxSteps := 4000000) only [r0, d0, r1, d1, r2, d2, pI, el_tb, freezeT, plainT, treeU, putT, putL, snapT, snapTs, snapTA, snapTAs, AV.ownArg, AV.ownLeaf, tvs, simprocAttr]
        repeat (first | refine ftS (by kernel_rfl) ?_ | refine And.intro (by omega) ?_)
        all_goals (first | rfl | trivial | skip)
end Av
end Go.Proofs.Ytdjenlnomibniaa
