/-
  The exact law of WhenOk.
-/
import Derived.Test.YtbkbppllcjcmhaaTyR
set_option linter.unusedSimpArgs false
set_option linter.unusedVariables false
namespace Go.Proofs.Ytbkbppllcjcmhaa
open Go.RowKit
namespace Av
/-- what both packages answer -/
def exactWhenOk_both (R0 : List (List PV)) : Prop := ∃ (v0 : Bool), FnOk E.P 12 [.lst 83 R0] (.bool v0) false ∧ FnOk E.P 14 [.lst 83 R0] (.bool v0) true
set_option maxRecDepth 100000 in
set_option maxHeartbeats 40000000 in
theorem exactWhenOk_law (R0 : List (List PV)) (hlR0 : R0.length ≤ 9223372036854775807) (hsR0 : ∀ r ∈ R0, ShPart r)
    (H : R0.length ≤ 1048576 → exactWhenOk_both R0) : FnOk E.P 3 [.lst 85 R0] (.bool true) true := by
  by_cases g0 : ((1048576 : Int) : Int) < R0.length
  · have r0 : restI ((1048576 : Int)) R0.length = -1 := if_pos g0
    refine fn_ok (E := EL) mixedL Try.func3 rfl (by kernel_rfl) _ Try.results3 _ Try.ntmps3 (by simp) (by kernel_rfl) ?_
    simp (maxSteps := 4000000) only [r0, pI, el_tb, freezeT, plainT, treeU, putT, putL, snapT, snapTs, snapTA, snapTAs, AV.ownArg, AV.ownLeaf, tvs, simprocAttr]
    repeat (first | refine ftS (by kernel_rfl) ?_ | refine And.intro (by omega) ?_)
    refine aopsL_fn (E := EL) (szPartS_ok R0 ((1048576 : Int)) hlR0 (by omega) (by omega)) rfl (hidB rfl) rfl ?_
    simp (maxSteps := 4000000) only [r0, pI, el_tb, freezeT, plainT, treeU, putT, putL, snapT, snapTs, snapTA, snapTAs, AV.ownArg, AV.ownLeaf, tvs, simprocAttr]
    repeat (first | refine ftS (by kernel_rfl) ?_ | refine And.intro (by omega) ?_)
    all_goals (first | rfl | trivial | skip)
  · have r0 : restI ((1048576 : Int)) R0.length = (1048576 : Int) - R0.length := if_neg g0
    have d0 : decide ((1048576 : Int) - R0.length < 0) = false := by simp only [decide_eq_false_iff_not]; omega
    have shR0 : ShPartS R0 := ⟨by omega, hsR0⟩
    obtain ⟨v0, HS, HI⟩ := H (by omega)
    refine fn_ok (E := EL) mixedL Try.func3 rfl (by kernel_rfl) _ Try.results3 _ Try.ntmps3 (by simp) (by kernel_rfl) ?_
    simp (maxSteps := 4000000) only [r0, d0, pI, el_tb, freezeT, plainT, treeU, putT, putL, snapT, snapTs, snapTA, snapTAs, AV.ownArg, AV.ownLeaf, tvs, simprocAttr]
    repeat (first | refine ftS (by kernel_rfl) ?_ | refine And.intro (by omega) ?_)
    refine aopsL_fn (E := EL) (szPartS_ok R0 ((1048576 : Int)) hlR0 (by omega) (by omega)) rfl (hidB rfl) rfl ?_
    simp (maxSteps := 4000000) only [r0, d0, pI, el_tb, freezeT, plainT, treeU, putT, putL, snapT, snapTs, snapTA, snapTAs, AV.ownArg, AV.ownLeaf, tvs, simprocAttr]
    repeat (first | refine ftS (by kernel_rfl) ?_ | refine And.intro (by omega) ?_)
    refine aopsL_fn (E := EL) (toPartS_ok R0 shR0) rfl (hidB rfl) rfl ?_
    simp (maxSteps := 4000000) only [r0, d0, pI, el_tb, freezeT, plainT, treeU, putT, putL, snapT, snapTs, snapTA, snapTAs, AV.ownArg, AV.ownLeaf, tvs, simprocAttr]
    repeat (first | refine ftS (by kernel_rfl) ?_ | refine And.intro (by omega) ?_)
    refine aopsL_rd (E := EL) (HS) rfl ?_
    simp (maxSteps := 4000000) only [r0, d0, pI, el_tb, freezeT, plainT, treeU, putT, putL, snapT, snapTs, snapTA, snapTAs, AV.ownArg, AV.ownLeaf, tvs, simprocAttr]
    repeat (first | refine ftS (by kernel_rfl) ?_ | refine And.intro (by omega) ?_)
    refine aopsL_fn (E := EL) (toPartS_ok R0 shR0) rfl (hidB rfl) rfl ?_
    simp (maxSteps := 4000000) only [r0, d0, pI, el_tb, freezeT, plainT, treeU, putT, putL, snapT, snapTs, snapTA, snapTAs, AV.ownArg, AV.ownLeaf, tvs, simprocAttr]
    repeat (first | refine ftS (by kernel_rfl) ?_ | refine And.intro (by omega) ?_)
    refine aopsL_fn (E := EL) (HI) rfl (hidB rfl) rfl ?_
    simp (maxSteps := 4000000) only [r0, d0, pI, el_tb, freezeT, plainT, treeU, putT, putL, snapT, snapTs, snapTA, snapTAs, AV.ownArg, AV.ownLeaf, tvs, simprocAttr]
    repeat (first | refine ftS (by kernel_rfl) ?_ | refine And.intro (by omega) ?_)
    refine aopsL_fn (E := EL) (toPartS_ok R0 shR0) rfl (hidB rfl) rfl ?_
    simp (maxSteps := 4000000) only [r0, d0, pI, el_tb, freezeT, plainT, treeU, putT, putL, snapT, snapTs, snapTA, snapTAs, AV.ownArg, AV.ownLeaf, tvs, simprocAttr]
    repeat (first | refine ftS (by kernel_rfl) ?_ | refine And.intro (by omega) ?_)
    refine aopsL_fn (E := EL) (eqPartS_ok R0 shR0) rfl (hidB rfl) rfl ?_
    simp (maxSteps := 4000000) only [r0, d0, pI, el_tb, freezeT, plainT, treeU, putT, putL, snapT, snapTs, snapTA, snapTAs, AV.ownArg, AV.ownLeaf, tvs, simprocAttr]
    repeat (first | refine ftS (by kernel_rfl) ?_ | refine And.intro (by omega) ?_)
    all_goals (first | rfl | trivial | skip)
end Av
end Go.Proofs.Ytbkbppllcjcmhaa
