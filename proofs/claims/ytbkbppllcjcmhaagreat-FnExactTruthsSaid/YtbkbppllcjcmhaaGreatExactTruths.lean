/-
  The exact law of Truths.
-/
import Derived.Test.YtbkbppllcjcmhaaGreatTyR
import Derived.Test.YtbkbppllcjcmhaaGreatTyV
set_option linter.unusedSimpArgs false
set_option linter.unusedVariables false
namespace Go.Proofs.YtbkbppllcjcmhaaGreat
open Go.RowKit
namespace Av
/-- what both packages answer -/
def exactTruths_both (R0_0 : List (List PV)) (h0_1 : Int) (R1 : List (List PV)) (R2 : List (List PV)) : Prop := ∃ (V0 : List (List PV)), FnOk E.P 8 [.agg [.lst 105 R0_0, pI h0_1], .lst 71 R1, .lst 75 R2] (.lst 4 V0) false ∧ FnOk E.P 12 [.agg [.lst 105 R0_0, pI h0_1], .lst 71 R1, .lst 75 R2] (.lst 4 V0) true ∧ ShBoolS V0 ∧ cntR V0 ≤ 1152921504606846976
set_option maxRecDepth 100000 in
set_option maxHeartbeats 40000000 in
theorem exactTruths_law (R0_0 : List (List PV)) (h0_1 : Int) (R1 : List (List PV)) (R2 : List (List PV)) (hlR0_0 : R0_0.length ≤ 9223372036854775807) (hsR0_0 : ∀ r ∈ R0_0, ShCode r) (hlR1 : R1.length ≤ 9223372036854775807) (hsR1 : ∀ r ∈ R1, ShChoice r) (hlR2 : R2.length ≤ 9223372036854775807) (hsR2 : ∀ r ∈ R2, ShPart r)
    (H : R0_0.length + R1.length + R2.length ≤ 1048576 → exactTruths_both R0_0 h0_1 R1 R2) : FnOk E.P 3 [.agg [.lst 107 R0_0, pI h0_1], .lst 73 R1, .lst 77 R2] (.bool true) true := by
  by_cases g0 : ((1048576 : Int) : Int) < R0_0.length
  · have r0 : restI ((1048576 : Int)) R0_0.length = -1 := if_pos g0
    refine fn_ok (E := EL) mixedL Tryz.func3 rfl (by kernel_rfl) _ Tryz.results3 _ Tryz.ntmps3 (by simp) (by kernel_rfl) ?_
    simp (maxSteps := 4000000) only [r0, pI, el_tb, freezeT, plainT, treeU, putT, putL, snapT, snapTs, snapTA, snapTAs, AV.ownArg, AV.ownLeaf, tvs, simprocAttr]
    repeat (first | refine ftS (by kernel_rfl) ?_ | refine And.intro (by omega) ?_)
    refine aopsL_fn (E := EL) (szProgram_ok R0_0 h0_1 ((1048576 : Int)) hlR0_0 (by omega) (by omega)) rfl (hidB rfl) rfl ?_
    simp (maxSteps := 4000000) only [r0, pI, el_tb, freezeT, plainT, treeU, putT, putL, snapT, snapTs, snapTA, snapTAs, AV.ownArg, AV.ownLeaf, tvs, simprocAttr]
    repeat (first | refine ftS (by kernel_rfl) ?_ | refine And.intro (by omega) ?_)
    all_goals (first | rfl | trivial | skip)
  · have r0 : restI ((1048576 : Int)) R0_0.length = (1048576 : Int) - R0_0.length := if_neg g0
    have d0 : decide ((1048576 : Int) - R0_0.length < 0) = false := by simp only [decide_eq_false_iff_not]; omega
    by_cases g1 : ((1048576 : Int) - R0_0.length : Int) < R1.length
    · have r1 : restI ((1048576 : Int) - R0_0.length) R1.length = -1 := if_pos g1
      refine fn_ok (E := EL) mixedL Tryz.func3 rfl (by kernel_rfl) _ Tryz.results3 _ Tryz.ntmps3 (by simp) (by kernel_rfl) ?_
      simp (maxSteps := 4000000) only [r0, d0, r1, pI, el_tb, freezeT, plainT, treeU, putT, putL, snapT, snapTs, snapTA, snapTAs, AV.ownArg, AV.ownLeaf, tvs, simprocAttr]
      repeat (first | refine ftS (by kernel_rfl) ?_ | refine And.intro (by omega) ?_)
      refine aopsL_fn (E := EL) (szProgram_ok R0_0 h0_1 ((1048576 : Int)) hlR0_0 (by omega) (by omega)) rfl (hidB rfl) rfl ?_
      simp (maxSteps := 4000000) only [r0, d0, r1, pI, el_tb, freezeT, plainT, treeU, putT, putL, snapT, snapTs, snapTA, snapTAs, AV.ownArg, AV.ownLeaf, tvs, simprocAttr]
      repeat (first | refine ftS (by kernel_rfl) ?_ | refine And.intro (by omega) ?_)
      refine aopsL_fn (E := EL) (szChoiceS_ok R1 ((1048576 : Int) - R0_0.length) hlR1 (by omega) (by omega)) rfl (hidB rfl) rfl ?_
      simp (maxSteps := 4000000) only [r0, d0, r1, pI, el_tb, freezeT, plainT, treeU, putT, putL, snapT, snapTs, snapTA, snapTAs, AV.ownArg, AV.ownLeaf, tvs, simprocAttr]
      repeat (first | refine ftS (by kernel_rfl) ?_ | refine And.intro (by omega) ?_)
      all_goals (first | rfl | trivial | skip)
    · have r1 : restI ((1048576 : Int) - R0_0.length) R1.length = (1048576 : Int) - R0_0.length - R1.length := if_neg g1
      have d1 : decide ((1048576 : Int) - R0_0.length - R1.length < 0) = false := by simp only [decide_eq_false_iff_not]; omega
      by_cases g2 : ((1048576 : Int) - R0_0.length - R1.length : Int) < R2.length
      · have r2 : restI ((1048576 : Int) - R0_0.length - R1.length) R2.length = -1 := if_pos g2
        refine fn_ok (E := EL) mixedL Tryz.func3 rfl (by kernel_rfl) _ Tryz.results3 _ Tryz.ntmps3 (by simp) (by kernel_rfl) ?_
        simp (maxSteps := 4000000) only [r0, d0, r1, d1, r2, pI, el_tb, freezeT, plainT, treeU, putT, putL, snapT, snapTs, snapTA, snapTAs, AV.ownArg, AV.ownLeaf, tvs, simprocAttr]
        repeat (first | refine ftS (by kernel_rfl) ?_ | refine And.intro (by omega) ?_)
        refine aopsL_fn (E := EL) (szProgram_ok R0_0 h0_1 ((1048576 : Int)) hlR0_0 (by omega) (by omega)) rfl (hidB rfl) rfl ?_
        simp (maxSteps := 4000000) only [r0, d0, r1, d1, r2, pI, el_tb, freezeT, plainT, treeU, putT, putL, snapT, snapTs, snapTA, snapTAs, AV.ownArg, AV.ownLeaf, tvs, simprocAttr]
        repeat (first | refine ftS (by kernel_rfl) ?_ | refine And.intro (by omega) ?_)
        refine aopsL_fn (E := EL) (szChoiceS_ok R1 ((1048576 : Int) - R0_0.length) hlR1 (by omega) (by omega)) rfl (hidB rfl) rfl ?_
        simp (maxSteps := 4000000) only [r0, d0, r1, d1, r2, pI, el_tb, freezeT, plainT, treeU, putT, putL, snapT, snapTs, snapTA, snapTAs, AV.ownArg, AV.ownLeaf, tvs, simprocAttr]
        repeat (first | refine ftS (by kernel_rfl) ?_ | refine And.intro (by omega) ?_)
        refine aopsL_fn (E := EL) (szPartS_ok R2 ((1048576 : Int) - R0_0.length - R1.length) hlR2 (by omega) (by omega)) rfl (hidB rfl) rfl ?_
        simp (maxSteps := 4000000) only [r0, d0, r1, d1, r2, pI, el_tb, freezeT, plainT, treeU, putT, putL, snapT, snapTs, snapTA, snapTAs, AV.ownArg, AV.ownLeaf, tvs, simprocAttr]
        repeat (first | refine ftS (by kernel_rfl) ?_ | refine And.intro (by omega) ?_)
        all_goals (first | rfl | trivial | skip)
      · have r2 : restI ((1048576 : Int) - R0_0.length - R1.length) R2.length = (1048576 : Int) - R0_0.length - R1.length - R2.length := if_neg g2
        have d2 : decide ((1048576 : Int) - R0_0.length - R1.length - R2.length < 0) = false := by simp only [decide_eq_false_iff_not]; omega
        have shR0_0 : ShCodeS R0_0 := ⟨by omega, hsR0_0⟩
        have shR1 : ShChoiceS R1 := ⟨by omega, hsR1⟩
        have shR2 : ShPartS R2 := ⟨by omega, hsR2⟩
        obtain ⟨V0, HS, HI, shV0, hcnt⟩ := H (by omega)
        have cR0_0 : cntR R0_0 ≤ 4194304 := by
          have h1 := cntR_le (B := 4) R0_0 (fun r hr => by obtain ⟨a0, a1, a2, a3, rfl⟩ := hsR0_0 r hr; simp [cntL, cntP, pI])
          omega
        have M0 := mkProgram_ok R0_0 h0_1 shR0_0 1 (by omega) (by simp only [mkR_cnt]; omega)
        simp only [mkR_cnt] at M0
        obtain ⟨k1, f1⟩ : ∃ z, 1 + (cntR R0_0 : Int) = z := ⟨_, rfl⟩
        rw [f1] at M0
        have b1 : 1 ≤ k1 ∧ k1 ≤ 100000000 := by omega
        have cR1 : cntR R1 ≤ 3145728 := by
          have h1 := cntR_le (B := 3) R1 (fun r hr => by obtain ⟨a0, a1, a2, rfl⟩ := hsR1 r hr; simp [cntL, cntP, pI])
          omega
        have M1 := mkChoiceS_ok R1 shR1 k1 (by omega) (by simp only [mkR_cnt]; omega)
        simp only [mkR_cnt] at M1
        obtain ⟨k2, f2⟩ : ∃ z, k1 + (cntR R1 : Int) = z := ⟨_, rfl⟩
        rw [f2] at M1
        have b2 : 1 ≤ k2 ∧ k2 ≤ 100000000 := by omega
        have cR2 : cntR R2 ≤ 3145728 := by
          have h1 := cntR_le (B := 3) R2 (fun r hr => by obtain ⟨a0, a1, a2, rfl⟩ := hsR2 r hr; simp [cntL, cntP, pI])
          omega
        have M2 := mkPartS_ok R2 shR2 k2 (by omega) (by simp only [mkR_cnt]; omega)
        simp only [mkR_cnt] at M2
        obtain ⟨k3, f3⟩ : ∃ z, k2 + (cntR R2 : Int) = z := ⟨_, rfl⟩
        rw [f3] at M2
        have b3 : 1 ≤ k3 ∧ k3 ≤ 100000000 := by omega
        have dk : decide (k3 < 0) = false := by simp; omega
        have MR0 := mkBoolS_ok V0 shV0 1 (by omega) (by simp only [mkR_cnt]; omega)
        have HR0 := heldBoolS_ok V0 shV0 1 (by omega) (by simp only [mkR_cnt]; omega)
        simp only [mkR_cnt] at MR0 HR0
        obtain ⟨m1, fm1⟩ : ∃ z, 1 + (cntR V0 : Int) = z := ⟨_, rfl⟩
        rw [fm1] at MR0 HR0
        have dm1 : decide (m1 < 0) = false := by simp; omega
        try clear hcnt
        refine fn_ok (E := EL) mixedL Tryz.func3 rfl (by kernel_rfl) _ Tryz.results3 _ Tryz.ntmps3 (by simp) (by kernel_rfl) ?_
        simp (maxSteps := 4000000) only [r0, d0, r1, d1, r2, d2, dk, dm1, pI, el_tb, freezeT, plainT, treeU, putT, putL, snapT, snapTs, snapTA, snapTAs, AV.ownArg, AV.ownLeaf, tvs, simprocAttr]
        repeat (first | refine ftS (by kernel_rfl) ?_ | refine And.intro (by omega) ?_)
        refine aopsL_fn (E := EL) (szProgram_ok R0_0 h0_1 ((1048576 : Int)) hlR0_0 (by omega) (by omega)) rfl (hidB rfl) rfl ?_
        simp (maxSteps := 4000000) only [r0, d0, r1, d1, r2, d2, dk, dm1, pI, el_tb, freezeT, plainT, treeU, putT, putL, snapT, snapTs, snapTA, snapTAs, AV.ownArg, AV.ownLeaf, tvs, simprocAttr]
        repeat (first | refine ftS (by kernel_rfl) ?_ | refine And.intro (by omega) ?_)
        refine aopsL_fn (E := EL) (szChoiceS_ok R1 ((1048576 : Int) - R0_0.length) hlR1 (by omega) (by omega)) rfl (hidB rfl) rfl ?_
        simp (maxSteps := 4000000) only [r0, d0, r1, d1, r2, d2, dk, dm1, pI, el_tb, freezeT, plainT, treeU, putT, putL, snapT, snapTs, snapTA, snapTAs, AV.ownArg, AV.ownLeaf, tvs, simprocAttr]
        repeat (first | refine ftS (by kernel_rfl) ?_ | refine And.intro (by omega) ?_)
        refine aopsL_fn (E := EL) (szPartS_ok R2 ((1048576 : Int) - R0_0.length - R1.length) hlR2 (by omega) (by omega)) rfl (hidB rfl) rfl ?_
        simp (maxSteps := 4000000) only [r0, d0, r1, d1, r2, d2, dk, dm1, pI, el_tb, freezeT, plainT, treeU, putT, putL, snapT, snapTs, snapTA, snapTAs, AV.ownArg, AV.ownLeaf, tvs, simprocAttr]
        repeat (first | refine ftS (by kernel_rfl) ?_ | refine And.intro (by omega) ?_)
        refine aopsL_fn (E := EL) (toProgram_ok R0_0 h0_1 shR0_0) rfl (hidB rfl) rfl ?_
        simp (maxSteps := 4000000) only [r0, d0, r1, d1, r2, d2, dk, dm1, pI, el_tb, freezeT, plainT, treeU, putT, putL, snapT, snapTs, snapTA, snapTAs, AV.ownArg, AV.ownLeaf, tvs, simprocAttr]
        repeat (first | refine ftS (by kernel_rfl) ?_ | refine And.intro (by omega) ?_)
        refine aopsL_fn (E := EL) (toChoiceS_ok R1 shR1) rfl (hidB rfl) rfl ?_
        simp (maxSteps := 4000000) only [r0, d0, r1, d1, r2, d2, dk, dm1, pI, el_tb, freezeT, plainT, treeU, putT, putL, snapT, snapTs, snapTA, snapTAs, AV.ownArg, AV.ownLeaf, tvs, simprocAttr]
        repeat (first | refine ftS (by kernel_rfl) ?_ | refine And.intro (by omega) ?_)
        refine aopsL_fn (E := EL) (toPartS_ok R2 shR2) rfl (hidB rfl) rfl ?_
        simp (maxSteps := 4000000) only [r0, d0, r1, d1, r2, d2, dk, dm1, pI, el_tb, freezeT, plainT, treeU, putT, putL, snapT, snapTs, snapTA, snapTAs, AV.ownArg, AV.ownLeaf, tvs, simprocAttr]
        repeat (first | refine ftS (by kernel_rfl) ?_ | refine And.intro (by omega) ?_)
        refine aopsL_rd (E := EL) (HS) rfl ?_
        simp (maxSteps := 4000000) only [r0, d0, r1, d1, r2, d2, dk, dm1, pI, el_tb, freezeT, plainT, treeU, putT, putL, snapT, snapTs, snapTA, snapTAs, AV.ownArg, AV.ownLeaf, tvs, simprocAttr]
        repeat (first | refine ftS (by kernel_rfl) ?_ | refine And.intro (by omega) ?_)
        refine aopsL_fn (E := EL) (toProgram_ok R0_0 h0_1 shR0_0) rfl (hidB rfl) rfl ?_
        simp (maxSteps := 4000000) only [r0, d0, r1, d1, r2, d2, dk, dm1, pI, el_tb, freezeT, plainT, treeU, putT, putL, snapT, snapTs, snapTA, snapTAs, AV.ownArg, AV.ownLeaf, tvs, simprocAttr]
        repeat (first | refine ftS (by kernel_rfl) ?_ | refine And.intro (by omega) ?_)
        refine aopsL_fn (E := EL) (toChoiceS_ok R1 shR1) rfl (hidB rfl) rfl ?_
        simp (maxSteps := 4000000) only [r0, d0, r1, d1, r2, d2, dk, dm1, pI, el_tb, freezeT, plainT, treeU, putT, putL, snapT, snapTs, snapTA, snapTAs, AV.ownArg, AV.ownLeaf, tvs, simprocAttr]
        repeat (first | refine ftS (by kernel_rfl) ?_ | refine And.intro (by omega) ?_)
        refine aopsL_fn (E := EL) (toPartS_ok R2 shR2) rfl (hidB rfl) rfl ?_
        simp (maxSteps := 4000000) only [r0, d0, r1, d1, r2, d2, dk, dm1, pI, el_tb, freezeT, plainT, treeU, putT, putL, snapT, snapTs, snapTA, snapTAs, AV.ownArg, AV.ownLeaf, tvs, simprocAttr]
        repeat (first | refine ftS (by kernel_rfl) ?_ | refine And.intro (by omega) ?_)
        refine aopsL_fn (E := EL) (HI) rfl (hidB rfl) rfl ?_
        simp (maxSteps := 4000000) only [r0, d0, r1, d1, r2, d2, dk, dm1, pI, el_tb, freezeT, plainT, treeU, putT, putL, snapT, snapTs, snapTA, snapTAs, AV.ownArg, AV.ownLeaf, tvs, simprocAttr]
        repeat (first | refine ftS (by kernel_rfl) ?_ | refine And.intro (by omega) ?_)
        refine aopsL_fn (E := EL) (eqBoolS_ok V0 shV0) rfl (hidB rfl) rfl ?_
        simp (maxSteps := 4000000) only [r0, d0, r1, d1, r2, d2, dk, dm1, pI, el_tb, freezeT, plainT, treeU, putT, putL, snapT, snapTs, snapTA, snapTAs, AV.ownArg, AV.ownLeaf, tvs, simprocAttr]
        repeat (first | refine ftS (by kernel_rfl) ?_ | refine And.intro (by omega) ?_)
        refine aopsL_fn (E := EL) (toProgram_ok R0_0 h0_1 shR0_0) rfl (hidB rfl) rfl ?_
        simp (maxSteps := 4000000) only [r0, d0, r1, d1, r2, d2, dk, dm1, pI, el_tb, freezeT, plainT, treeU, putT, putL, snapT, snapTs, snapTA, snapTAs, AV.ownArg, AV.ownLeaf, tvs, simprocAttr]
        repeat (first | refine ftS (by kernel_rfl) ?_ | refine And.intro (by omega) ?_)
        refine aopsL_fn (E := EL) (eqProgram_ok [.lst 105 R0_0, pI h0_1] ⟨R0_0, h0_1, rfl, shR0_0⟩) rfl (hidB rfl) rfl ?_
        simp (maxSteps := 4000000) only [r0, d0, r1, d1, r2, d2, dk, dm1, pI, el_tb, freezeT, plainT, treeU, putT, putL, snapT, snapTs, snapTA, snapTAs, AV.ownArg, AV.ownLeaf, tvs, simprocAttr]
        repeat (first | refine ftS (by kernel_rfl) ?_ | refine And.intro (by omega) ?_)
        refine aopsL_fn (E := EL) (toChoiceS_ok R1 shR1) rfl (hidB rfl) rfl ?_
        simp (maxSteps := 4000000) only [r0, d0, r1, d1, r2, d2, dk, dm1, pI, el_tb, freezeT, plainT, treeU, putT, putL, snapT, snapTs, snapTA, snapTAs, AV.ownArg, AV.ownLeaf, tvs, simprocAttr]
        repeat (first | refine ftS (by kernel_rfl) ?_ | refine And.intro (by omega) ?_)
        refine aopsL_fn (E := EL) (eqChoiceS_ok R1 shR1) rfl (hidB rfl) rfl ?_
        simp (maxSteps := 4000000) only [r0, d0, r1, d1, r2, d2, dk, dm1, pI, el_tb, freezeT, plainT, treeU, putT, putL, snapT, snapTs, snapTA, snapTAs, AV.ownArg, AV.ownLeaf, tvs, simprocAttr]
        repeat (first | refine ftS (by kernel_rfl) ?_ | refine And.intro (by omega) ?_)
        refine aopsL_fn (E := EL) (toPartS_ok R2 shR2) rfl (hidB rfl) rfl ?_
        simp (maxSteps := 4000000) only [r0, d0, r1, d1, r2, d2, dk, dm1, pI, el_tb, freezeT, plainT, treeU, putT, putL, snapT, snapTs, snapTA, snapTAs, AV.ownArg, AV.ownLeaf, tvs, simprocAttr]
        repeat (first | refine ftS (by kernel_rfl) ?_ | refine And.intro (by omega) ?_)
        refine aopsL_fn (E := EL) (eqPartS_ok R2 shR2) rfl (hidB rfl) rfl ?_
        simp (maxSteps := 4000000) only [r0, d0, r1, d1, r2, d2, dk, dm1, pI, el_tb, freezeT, plainT, treeU, putT, putL, snapT, snapTs, snapTA, snapTAs, AV.ownArg, AV.ownLeaf, tvs, simprocAttr]
        repeat (first | refine ftS (by kernel_rfl) ?_ | refine And.intro (by omega) ?_)
        refine aopsL_mut (E := EL) (M0) rfl ?_
        simp (maxSteps := 4000000) only [r0, d0, r1, d1, r2, d2, dk, dm1, pI, el_tb, freezeT, plainT, treeU, putT, putL, snapT, snapTs, snapTA, snapTAs, AV.ownArg, AV.ownLeaf, tvs, simprocAttr]
        repeat (first | refine ftS (by kernel_rfl) ?_ | refine And.intro (by omega) ?_)
        refine aopsL_mut (E := EL) (M1) rfl ?_
        simp (maxSteps := 4000000) only [r0, d0, r1, d1, r2, d2, dk, dm1, pI, el_tb, freezeT, plainT, treeU, putT, putL, snapT, snapTs, snapTA, snapTAs, AV.ownArg, AV.ownLeaf, tvs, simprocAttr]
        repeat (first | refine ftS (by kernel_rfl) ?_ | refine And.intro (by omega) ?_)
        refine aopsL_mut (E := EL) (M2) rfl ?_
        simp (maxSteps := 4000000) only [r0, d0, r1, d1, r2, d2, dk, dm1, pI, el_tb, freezeT, plainT, treeU, putT, putL, snapT, snapTs, snapTA, snapTAs, AV.ownArg, AV.ownLeaf, tvs, simprocAttr]
        repeat (first | refine ftS (by kernel_rfl) ?_ | refine And.intro (by omega) ?_)
        refine aopsL_fnG (E := EL) (eqBoolS_ok V0 shV0) rfl (hidB rfl) rfl rfl (by simp (maxSteps := 4000000) only [r0, d0, r1, d1, r2, d2, dk, dm1, pI, el_tb, freezeT, plainT, treeU, putT, putL, snapT, snapTs, snapTA, snapTAs, AV.ownArg, AV.ownLeaf, tvs, simprocAttr]) ?_
        simp (maxSteps := 4000000) only [r0, d0, r1, d1, r2, d2, dk, dm1, pI, el_tb, freezeT, plainT, treeU, putT, putL, snapT, snapTs, snapTA, snapTAs, AV.ownArg, AV.ownLeaf, tvs, simprocAttr]
        repeat (first | refine ftS (by kernel_rfl) ?_ | refine And.intro (by omega) ?_)
        refine aopsL_mut (E := EL) (MR0) rfl ?_
        simp (maxSteps := 4000000) only [r0, d0, r1, d1, r2, d2, dk, dm1, pI, el_tb, freezeT, plainT, treeU, putT, putL, snapT, snapTs, snapTA, snapTAs, AV.ownArg, AV.ownLeaf, tvs, simprocAttr]
        repeat (first | refine ftS (by kernel_rfl) ?_ | refine And.intro (by omega) ?_)
        refine aopsL_fn (E := EL) (HR0) rfl (hidB rfl) rfl ?_
        simp (maxSteps := 4000000) only [r0, d0, r1, d1, r2, d2, dk, dm1, pI, el_tb, freezeT, plainT, treeU, putT, putL, snapT, snapTs, snapTA, snapTAs, AV.ownArg, AV.ownLeaf, tvs, simprocAttr]
        repeat (first | refine ftS (by kernel_rfl) ?_ | refine And.intro (by omega) ?_)
        refine aopsL_fn (E := EL) (toProgram_ok R0_0 h0_1 shR0_0) rfl (hidB rfl) rfl ?_
        simp (maxSteps := 4000000) only [r0, d0, r1, d1, r2, d2, dk, dm1, pI, el_tb, freezeT, plainT, treeU, putT, putL, snapT, snapTs, snapTA, snapTAs, AV.ownArg, AV.ownLeaf, tvs, simprocAttr]
        repeat (first | refine ftS (by kernel_rfl) ?_ | refine And.intro (by omega) ?_)
        refine aopsL_fn (E := EL) (toChoiceS_ok R1 shR1) rfl (hidB rfl) rfl ?_
        simp (maxSteps := 4000000) only [r0, d0, r1, d1, r2, d2, dk, dm1, pI, el_tb, freezeT, plainT, treeU, putT, putL, snapT, snapTs, snapTA, snapTAs, AV.ownArg, AV.ownLeaf, tvs, simprocAttr]
        repeat (first | refine ftS (by kernel_rfl) ?_ | refine And.intro (by omega) ?_)
        refine aopsL_fn (E := EL) (toPartS_ok R2 shR2) rfl (hidB rfl) rfl ?_
        simp (maxSteps := 4000000) only [r0, d0, r1, d1, r2, d2, dk, dm1, pI, el_tb, freezeT, plainT, treeU, putT, putL, snapT, snapTs, snapTA, snapTAs, AV.ownArg, AV.ownLeaf, tvs, simprocAttr]
        repeat (first | refine ftS (by kernel_rfl) ?_ | refine And.intro (by omega) ?_)
        refine aopsL_fn (E := EL) (HI) rfl (hidB rfl) rfl ?_
        simp (maxSteps := 4000000) only [r0, d0, r1, d1, r2, d2, dk, dm1, pI, el_tb, freezeT, plainT, treeU, putT, putL, snapT, snapTs, snapTA, snapTAs, AV.ownArg, AV.ownLeaf, tvs, simprocAttr]
        repeat (first | refine ftS (by kernel_rfl) ?_ | refine And.intro (by omega) ?_)
        refine aopsL_fn (E := EL) (eqBoolS_ok V0 shV0) rfl (hidB rfl) rfl ?_
        simp (maxSteps := 4000000) only [r0, d0, r1, d1, r2, d2, dk, dm1, pI, el_tb, freezeT, plainT, treeU, putT, putL, snapT, snapTs, snapTA, snapTAs, AV.ownArg, AV.ownLeaf, tvs, simprocAttr]
        repeat (first | refine ftS (by kernel_rfl) ?_ | refine And.intro (by omega) ?_)
        refine aopsL_fn (E := EL) (HR0) rfl (hidB rfl) rfl ?_
        simp (maxSteps := 4000000) only [r0, d0, r1, d1, r2, d2, dk, dm1, pI, el_tb, freezeT, plainT, treeU, putT, putL, snapT, snapTs, snapTA, snapTAs, AV.ownArg, AV.ownLeaf, tvs, simprocAttr]
        repeat (first | refine ftS (by kernel_rfl) ?_ | refine And.intro (by omega) ?_)
        all_goals (first | rfl | trivial | skip)
end Av
end Go.Proofs.YtbkbppllcjcmhaaGreat
