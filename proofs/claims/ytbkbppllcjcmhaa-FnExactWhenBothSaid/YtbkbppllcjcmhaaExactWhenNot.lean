/-
  The exact law of WhenNot.
-/
import Derived.Test.YtbkbppllcjcmhaaTyR
set_option linter.unusedSimpArgs false
set_option linter.unusedVariables false
namespace Go.Proofs.Ytbkbppllcjcmhaa
open Go.RowKit
namespace Av
/-- what both packages answer -/
def exactWhenNot_both (R0 : List (List PV)) : Prop := ∃ (V0 : List (List PV)), FnOk E.P 16 [.lst 83 R0] (.lst 83 V0) false ∧ FnOk E.P 17 [.lst 83 R0] (.lst 83 V0) true ∧ ShPartS V0 ∧ cntR V0 ≤ 1152921504606846976
set_option maxRecDepth 100000 in
set_option maxHeartbeats 40000000 in
theorem exactWhenNot_law (R0 : List (List PV)) (hlR0 : R0.length ≤ 9223372036854775807) (hsR0 : ∀ r ∈ R0, ShPart r)
    (H : R0.length ≤ 1048576 → exactWhenNot_both R0) : FnOk E.P 4 [.lst 85 R0] (.bool true) true := by
  by_cases g0 : ((1048576 : Int) : Int) < R0.length
  · have r0 : restI ((1048576 : Int)) R0.length = -1 := if_pos g0
    refine fn_ok (E := EL) mixedL Try.func4 rfl (by kernel_rfl) _ Try.results4 _ Try.ntmps4 (by simp) (by kernel_rfl) ?_
    simp (maxSteps := 4000000) only [r0, pI, el_tb, freezeT, plainT, treeU, putT, putL, snapT, snapTs, snapTA, snapTAs, AV.ownArg, AV.ownLeaf, tvs, simprocAttr]
    repeat (first | refine ftS (by kernel_rfl) ?_ | refine And.intro (by omega) ?_)
    refine aopsL_fn (E := EL) (szPartS_ok R0 ((1048576 : Int)) hlR0 (by omega) (by omega)) rfl (hidB rfl) rfl ?_
    simp (maxSteps := 4000000) only [r0, pI, el_tb, freezeT, plainT, treeU, putT, putL, snapT, snapTs, snapTA, snapTAs, AV.ownArg, AV.ownLeaf, tvs, simprocAttr]
    repeat (first | refine ftS (by kernel_rfl) ?_ | refine And.intro (by omega) ?_)
    all_goals (first | rfl | trivial | skip)
  · have r0 : restI ((1048576 : Int)) R0.length = (1048576 : Int) - R0.length := if_neg g0
    have d0 : decide ((1048576 : Int) - R0.length < 0) = false := by simp only [decide_eq_false_iff_not]; omega
    have shR0 : ShPartS R0 := ⟨by omega, hsR0⟩
    obtain ⟨V0, HS, HI, shV0, hcnt⟩ := H (by omega)
    have cR0 : cntR R0 ≤ 3145728 := by
      have h1 := cntR_le (B := 3) R0 (fun r hr => by obtain ⟨a0, a1, a2, rfl⟩ := hsR0 r hr; simp [cntL, cntP, pI])
      omega
    have M0 := mkPartS_ok R0 shR0 1 (by omega) (by simp only [mkR_cnt]; omega)
    simp only [mkR_cnt] at M0
    obtain ⟨k1, f1⟩ : ∃ z, 1 + (cntR R0 : Int) = z := ⟨_, rfl⟩
    rw [f1] at M0
    have b1 : 1 ≤ k1 ∧ k1 ≤ 100000000 := by omega
    have dk : decide (k1 < 0) = false := by simp; omega
    have MR0 := mkPartS_ok V0 shV0 1 (by omega) (by simp only [mkR_cnt]; omega)
    have HR0 := heldPartS_ok V0 shV0 1 (by omega) (by simp only [mkR_cnt]; omega)
    simp only [mkR_cnt] at MR0 HR0
    obtain ⟨m1, fm1⟩ : ∃ z, 1 + (cntR V0 : Int) = z := ⟨_, rfl⟩
    rw [fm1] at MR0 HR0
    have dm1 : decide (m1 < 0) = false := by simp; omega
    try clear hcnt
    refine fn_ok (E := EL) mixedL Try.func4 rfl (by kernel_rfl) _ Try.results4 _ Try.ntmps4 (by simp) (by kernel_rfl) ?_
    simp (maxSteps := 4000000) only [r0, d0, dk, dm1, pI, el_tb, freezeT, plainT, treeU, putT, putL, snapT, snapTs, snapTA, snapTAs, AV.ownArg, AV.ownLeaf, tvs, simprocAttr]
    repeat (first | refine ftS (by kernel_rfl) ?_ | refine And.intro (by omega) ?_)
    refine aopsL_fn (E := EL) (szPartS_ok R0 ((1048576 : Int)) hlR0 (by omega) (by omega)) rfl (hidB rfl) rfl ?_
    simp (maxSteps := 4000000) only [r0, d0, dk, dm1, pI, el_tb, freezeT, plainT, treeU, putT, putL, snapT, snapTs, snapTA, snapTAs, AV.ownArg, AV.ownLeaf, tvs, simprocAttr]
    repeat (first | refine ftS (by kernel_rfl) ?_ | refine And.intro (by omega) ?_)
    refine aopsL_fn (E := EL) (toPartS_ok R0 shR0) rfl (hidB rfl) rfl ?_
    simp (maxSteps := 4000000) only [r0, d0, dk, dm1, pI, el_tb, freezeT, plainT, treeU, putT, putL, snapT, snapTs, snapTA, snapTAs, AV.ownArg, AV.ownLeaf, tvs, simprocAttr]
    repeat (first | refine ftS (by kernel_rfl) ?_ | refine And.intro (by omega) ?_)
    refine aopsL_rd (E := EL) (HS) rfl ?_
    simp (maxSteps := 4000000) only [r0, d0, dk, dm1, pI, el_tb, freezeT, plainT, treeU, putT, putL, snapT, snapTs, snapTA, snapTAs, AV.ownArg, AV.ownLeaf, tvs, simprocAttr]
    repeat (first | refine ftS (by kernel_rfl) ?_ | refine And.intro (by omega) ?_)
    refine aopsL_fn (E := EL) (toPartS_ok R0 shR0) rfl (hidB rfl) rfl ?_
    simp (maxSteps := 4000000) only [r0, d0, dk, dm1, pI, el_tb, freezeT, plainT, treeU, putT, putL, snapT, snapTs, snapTA, snapTAs, AV.ownArg, AV.ownLeaf, tvs, simprocAttr]
    repeat (first | refine ftS (by kernel_rfl) ?_ | refine And.intro (by omega) ?_)
    refine aopsL_fn (E := EL) (HI) rfl (hidB rfl) rfl ?_
    simp (maxSteps := 4000000) only [r0, d0, dk, dm1, pI, el_tb, freezeT, plainT, treeU, putT, putL, snapT, snapTs, snapTA, snapTAs, AV.ownArg, AV.ownLeaf, tvs, simprocAttr]
    repeat (first | refine ftS (by kernel_rfl) ?_ | refine And.intro (by omega) ?_)
    refine aopsL_fn (E := EL) (eqPartS_ok V0 shV0) rfl (hidB rfl) rfl ?_
    simp (maxSteps := 4000000) only [r0, d0, dk, dm1, pI, el_tb, freezeT, plainT, treeU, putT, putL, snapT, snapTs, snapTA, snapTAs, AV.ownArg, AV.ownLeaf, tvs, simprocAttr]
    repeat (first | refine ftS (by kernel_rfl) ?_ | refine And.intro (by omega) ?_)
    refine aopsL_fn (E := EL) (toPartS_ok R0 shR0) rfl (hidB rfl) rfl ?_
    simp (maxSteps := 4000000) only [r0, d0, dk, dm1, pI, el_tb, freezeT, plainT, treeU, putT, putL, snapT, snapTs, snapTA, snapTAs, AV.ownArg, AV.ownLeaf, tvs, simprocAttr]
    repeat (first | refine ftS (by kernel_rfl) ?_ | refine And.intro (by omega) ?_)
    refine aopsL_fn (E := EL) (eqPartS_ok R0 shR0) rfl (hidB rfl) rfl ?_
    simp (maxSteps := 4000000) only [r0, d0, dk, dm1, pI, el_tb, freezeT, plainT, treeU, putT, putL, snapT, snapTs, snapTA, snapTAs, AV.ownArg, AV.ownLeaf, tvs, simprocAttr]
    repeat (first | refine ftS (by kernel_rfl) ?_ | refine And.intro (by omega) ?_)
    refine aopsL_mut (E := EL) (M0) rfl ?_
    simp (maxSteps := 4000000) only [r0, d0, dk, dm1, pI, el_tb, freezeT, plainT, treeU, putT, putL, snapT, snapTs, snapTA, snapTAs, AV.ownArg, AV.ownLeaf, tvs, simprocAttr]
    repeat (first | refine ftS (by kernel_rfl) ?_ | refine And.intro (by omega) ?_)
    refine aopsL_fnG (E := EL) (eqPartS_ok V0 shV0) rfl (hidB rfl) rfl rfl (by simp (maxSteps := 4000000) only [r0, d0, dk, dm1, pI, el_tb, freezeT, plainT, treeU, putT, putL, snapT, snapTs, snapTA, snapTAs, AV.ownArg, AV.ownLeaf, tvs, simprocAttr]) ?_
    simp (maxSteps := 4000000) only [r0, d0, dk, dm1, pI, el_tb, freezeT, plainT, treeU, putT, putL, snapT, snapTs, snapTA, snapTAs, AV.ownArg, AV.ownLeaf, tvs, simprocAttr]
    repeat (first | refine ftS (by kernel_rfl) ?_ | refine And.intro (by omega) ?_)
    refine aopsL_mut (E := EL) (MR0) rfl ?_
    simp (maxSteps := 4000000) only [r0, d0, dk, dm1, pI, el_tb, freezeT, plainT, treeU, putT, putL, snapT, snapTs, snapTA, snapTAs, AV.ownArg, AV.ownLeaf, tvs, simprocAttr]
    repeat (first | refine ftS (by kernel_rfl) ?_ | refine And.intro (by omega) ?_)
    refine aopsL_fn (E := EL) (HR0) rfl (hidB rfl) rfl ?_
    simp (maxSteps := 4000000) only [r0, d0, dk, dm1, pI, el_tb, freezeT, plainT, treeU, putT, putL, snapT, snapTs, snapTA, snapTAs, AV.ownArg, AV.ownLeaf, tvs, simprocAttr]
    repeat (first | refine ftS (by kernel_rfl) ?_ | refine And.intro (by omega) ?_)
    refine aopsL_fn (E := EL) (toPartS_ok R0 shR0) rfl (hidB rfl) rfl ?_
    simp (maxSteps := 4000000) only [r0, d0, dk, dm1, pI, el_tb, freezeT, plainT, treeU, putT, putL, snapT, snapTs, snapTA, snapTAs, AV.ownArg, AV.ownLeaf, tvs, simprocAttr]
    repeat (first | refine ftS (by kernel_rfl) ?_ | refine And.intro (by omega) ?_)
    refine aopsL_fn (E := EL) (HI) rfl (hidB rfl) rfl ?_
    simp (maxSteps := 4000000) only [r0, d0, dk, dm1, pI, el_tb, freezeT, plainT, treeU, putT, putL, snapT, snapTs, snapTA, snapTAs, AV.ownArg, AV.ownLeaf, tvs, simprocAttr]
    repeat (first | refine ftS (by kernel_rfl) ?_ | refine And.intro (by omega) ?_)
    refine aopsL_fn (E := EL) (eqPartS_ok V0 shV0) rfl (hidB rfl) rfl ?_
    simp (maxSteps := 4000000) only [r0, d0, dk, dm1, pI, el_tb, freezeT, plainT, treeU, putT, putL, snapT, snapTs, snapTA, snapTAs, AV.ownArg, AV.ownLeaf, tvs, simprocAttr]
    repeat (first | refine ftS (by kernel_rfl) ?_ | refine And.intro (by omega) ?_)
    refine aopsL_fn (E := EL) (HR0) rfl (hidB rfl) rfl ?_
    simp (maxSteps := 4000000) only [r0, d0, dk, dm1, pI, el_tb, freezeT, plainT, treeU, putT, putL, snapT, snapTs, snapTA, snapTAs, AV.ownArg, AV.ownLeaf, tvs, simprocAttr]
    repeat (first | refine ftS (by kernel_rfl) ?_ | refine And.intro (by omega) ?_)
    all_goals (first | rfl | trivial | skip)
end Av
end Go.Proofs.Ytbkbppllcjcmhaa
