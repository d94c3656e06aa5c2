/-
  The exact law of RecordCut.
-/
import Derived.Test.YtdjenlnomibniaaGreatTyE
import Derived.Test.YtdjenlnomibniaaGreatTyH
import Derived.Test.YtdjenlnomibniaaGreatTyM
import Derived.Test.YtdjenlnomibniaaGreatTyT
set_option linter.unusedSimpArgs false
set_option linter.unusedVariables false
namespace Go.Proofs.YtdjenlnomibniaaGreat
open Go.RowKit
namespace Av
/-- what both packages answer -/
def exactRecordCut_both (R0_0 : List (List PV)) (h0_1 : Int) (R1_0 : List (List PV)) (R1_1 : List (List PV)) (n2 : Int) : Prop := ∃ (V0_0 : List (List PV)) (V0_1 : List (List PV)) (v1 : Bool), FnOk E.P 8 [.agg [.lst 116 R0_0, pI h0_1], .agg [.lst 114 R1_0, .lst 3 R1_1], pI n2] (.tup [.agg [.lst 114 V0_0, .lst 3 V0_1], .bool v1]) false ∧ FnOk E.P 11 [.agg [.lst 116 R0_0, pI h0_1], .agg [.lst 114 R1_0, .lst 3 R1_1], pI n2] (.tup [.agg [.lst 114 V0_0, .lst 3 V0_1], .bool v1]) true ∧ ShSliceS V0_0 ∧ ShIntS V0_1 ∧ cntR V0_0 + cntR V0_1 ≤ 1152921504606846976
set_option maxRecDepth 100000 in
set_option maxHeartbeats 40000000 in
theorem exactRecordCut_law (R0_0 : List (List PV)) (h0_1 : Int) (R1_0 : List (List PV)) (R1_1 : List (List PV)) (n2 : Int) (hlR0_0 : R0_0.length ≤ 9223372036854775807) (hsR0_0 : ∀ r ∈ R0_0, ShCode r) (hlR1_0 : R1_0.length ≤ 9223372036854775807) (hsR1_0 : ∀ r ∈ R1_0, ShSlice r) (hlR1_1 : R1_1.length ≤ 9223372036854775807) (hsR1_1 : ∀ r ∈ R1_1, ShInt r)
    (H : R0_0.length + R1_0.length + R1_1.length ≤ 1048576 → exactRecordCut_both R0_0 h0_1 R1_0 R1_1 n2) : FnOk E.P 3 [.agg [.lst 118 R0_0, pI h0_1], .agg [.lst 120 R1_0, .lst 3 R1_1], pI n2] (.bool true) true := by
  by_cases g0 : ((1048576 : Int) : Int) < R0_0.length
  · have r0 : restI ((1048576 : Int)) R0_0.length = -1 := if_pos g0
    refine fn_ok (E := EL) mixedL Tryz.func3 rfl (by kernel_rfl) _ Tryz.results3 _ Tryz.ntmps3 (by simp) (by kernel_rfl) ?_
    simp (maxSteps := 4000000) only [r0, pI, el_tb, freezeT, plainT, treeU, putT, putL, snapT, snapTs, snapTA, snapTAs, AV.ownArg, AV.ownLeaf, tvs, simprocAttr]
    repeat (first | refine ftS (by kernel_rfl) ?_ | refine And.intro (by omega) ?_)
    refine aopsL_fn (E := EL) (szProgram_ok R0_0 h0_1 ((1048576 : Int)) hlR0_0 (by omega) (by omega)) rfl (hidB rfl) rfl ?_
    simp (maxSteps := 4000000) only [r0, pI, el_tb, freezeT, plainT, treeU, putT, putL, snapT, snapTs, snapTA, snapTAs, AV.ownArg, AV.ownLeaf, tvs, simprocAttr]
    repeat (first | refine ftS (by kernel_rfl) ?_ | refine And.intro (by omega) ?_)
    all_goals (first | rfl | trivial | skip)
  · have r0 : restI ((1048576 : Int)) R0_0.length = (1048576 : Int) - R0_0.length := if_neg g0
    have d0 : decide ((1048576 : Int) - R0_0.length < 0) = false := by simp only [decide_eq_false_iff_not]; omega
    by_cases g1 : ((1048576 : Int) - R0_0.length : Int) < R1_0.length
    · have r1 : restI ((1048576 : Int) - R0_0.length) R1_0.length = -1 := if_pos g1
      have t0 : restI (-1) R1_1.length = -1 := if_pos (by omega)
      refine fn_ok (E := EL) mixedL Tryz.func3 rfl (by kernel_rfl) _ Tryz.results3 _ Tryz.ntmps3 (by simp) (by kernel_rfl) ?_
      simp (maxSteps := 4000000) only [r0, d0, r1, t0, pI, el_tb, freezeT, plainT, treeU, putT, putL, snapT, snapTs, snapTA, snapTAs, AV.ownArg, AV.ownLeaf, tvs, simprocAttr]
      repeat (first | refine ftS (by kernel_rfl) ?_ | refine And.intro (by omega) ?_)
      refine aopsL_fn (E := EL) (szProgram_ok R0_0 h0_1 ((1048576 : Int)) hlR0_0 (by omega) (by omega)) rfl (hidB rfl) rfl ?_
      simp (maxSteps := 4000000) only [r0, d0, r1, t0, pI, el_tb, freezeT, plainT, treeU, putT, putL, snapT, snapTs, snapTA, snapTAs, AV.ownArg, AV.ownLeaf, tvs, simprocAttr]
      repeat (first | refine ftS (by kernel_rfl) ?_ | refine And.intro (by omega) ?_)
      refine aopsL_fn (E := EL) (szRecord_ok R1_0 R1_1 ((1048576 : Int) - R0_0.length) hlR1_0 hlR1_1 (by omega) (by omega)) rfl (hidB rfl) rfl ?_
      simp (maxSteps := 4000000) only [r0, d0, r1, t0, pI, el_tb, freezeT, plainT, treeU, putT, putL, snapT, snapTs, snapTA, snapTAs, AV.ownArg, AV.ownLeaf, tvs, simprocAttr]
      repeat (first | refine ftS (by kernel_rfl) ?_ | refine And.intro (by omega) ?_)
      all_goals (first | rfl | trivial | skip)
    · have r1 : restI ((1048576 : Int) - R0_0.length) R1_0.length = (1048576 : Int) - R0_0.length - R1_0.length := if_neg g1
      by_cases g2 : ((1048576 : Int) - R0_0.length - R1_0.length : Int) < R1_1.length
      · have r2 : restI ((1048576 : Int) - R0_0.length - R1_0.length) R1_1.length = -1 := if_pos g2
        refine fn_ok (E := EL) mixedL Tryz.func3 rfl (by kernel_rfl) _ Tryz.results3 _ Tryz.ntmps3 (by simp) (by kernel_rfl) ?_
        simp (maxSteps := 4000000) only [r0, d0, r1, r2, pI, el_tb, freezeT, plainT, treeU, putT, putL, snapT, snapTs, snapTA, snapTAs, AV.ownArg, AV.ownLeaf, tvs, simprocAttr]
        repeat (first | refine ftS (by kernel_rfl) ?_ | refine And.intro (by omega) ?_)
        refine aopsL_fn (E := EL) (szProgram_ok R0_0 h0_1 ((1048576 : Int)) hlR0_0 (by omega) (by omega)) rfl (hidB rfl) rfl ?_
        simp (maxSteps := 4000000) only [r0, d0, r1, r2, pI, el_tb, freezeT, plainT, treeU, putT, putL, snapT, snapTs, snapTA, snapTAs, AV.ownArg, AV.ownLeaf, tvs, simprocAttr]
        repeat (first | refine ftS (by kernel_rfl) ?_ | refine And.intro (by omega) ?_)
        refine aopsL_fn (E := EL) (szRecord_ok R1_0 R1_1 ((1048576 : Int) - R0_0.length) hlR1_0 hlR1_1 (by omega) (by omega)) rfl (hidB rfl) rfl ?_
        simp (maxSteps := 4000000) only [r0, d0, r1, r2, pI, el_tb, freezeT, plainT, treeU, putT, putL, snapT, snapTs, snapTA, snapTAs, AV.ownArg, AV.ownLeaf, tvs, simprocAttr]
        repeat (first | refine ftS (by kernel_rfl) ?_ | refine And.intro (by omega) ?_)
        all_goals (first | rfl | trivial | skip)
      · have r2 : restI ((1048576 : Int) - R0_0.length - R1_0.length) R1_1.length = (1048576 : Int) - R0_0.length - R1_0.length - R1_1.length := if_neg g2
        have d2 : decide ((1048576 : Int) - R0_0.length - R1_0.length - R1_1.length < 0) = false := by simp only [decide_eq_false_iff_not]; omega
        have shR0_0 : ShCodeS R0_0 := ⟨by omega, hsR0_0⟩
        have shR1_0 : ShSliceS R1_0 := ⟨by omega, hsR1_0⟩
        have shR1_1 : ShIntS R1_1 := ⟨by omega, hsR1_1⟩
        obtain ⟨V0_0, V0_1, v1, HS, HI, shV0_0, shV0_1, hcnt⟩ := H (by omega)
        have cR0_0 : cntR R0_0 ≤ 4194304 := by
          have h1 := cntR_le (B := 4) R0_0 (fun r hr => by obtain ⟨a0, a1, a2, a3, rfl⟩ := hsR0_0 r hr; simp [cntL, cntP, pI])
          omega
        have M0 := mkProgram_ok R0_0 h0_1 shR0_0 1 (by omega) (by simp only [mkR_cnt]; omega)
        simp only [mkR_cnt] at M0
        obtain ⟨k1, f1⟩ : ∃ z, 1 + (cntR R0_0 : Int) = z := ⟨_, rfl⟩
        rw [f1] at M0
        have b1 : 1 ≤ k1 ∧ k1 ≤ 100000000 := by omega
        have cR1_0 : cntR R1_0 ≤ 3145728 := by
          have h1 := cntR_le (B := 3) R1_0 (fun r hr => by obtain ⟨a0, a1, a2, rfl⟩ := hsR1_0 r hr; simp [cntL, cntP, pI])
          omega
        have cR1_1 : cntR R1_1 ≤ 1048576 := by
          have h1 := cntR_le (B := 1) R1_1 (fun r hr => by obtain ⟨a0, rfl⟩ := hsR1_1 r hr; simp [cntL, cntP, pI])
          omega
        have M1 := mkRecord_ok R1_0 R1_1 shR1_0 shR1_1 k1 (by omega) (by simp only [mkR_cnt]; omega)
        simp only [mkR_cnt] at M1
        obtain ⟨k2, f2⟩ : ∃ z, k1 + (cntR R1_0 : Int) + (cntR R1_1 : Int) = z := ⟨_, rfl⟩
        rw [f2] at M1
        have b2 : 1 ≤ k2 ∧ k2 ≤ 100000000 := by omega
        have dk : decide (k2 < 0) = false := by simp; omega
        have MR0 := mkRecord_ok V0_0 V0_1 shV0_0 shV0_1 1 (by omega) (by simp only [mkR_cnt]; omega)
        have HR0 := heldRecord_ok V0_0 V0_1 shV0_0 shV0_1 1 (by omega) (by simp only [mkR_cnt]; omega)
        simp only [mkR_cnt] at MR0 HR0
        obtain ⟨m1, fm1⟩ : ∃ z, 1 + (cntR V0_0 : Int) + (cntR V0_1 : Int) = z := ⟨_, rfl⟩
        rw [fm1] at MR0 HR0
        have dm1 : decide (m1 < 0) = false := by simp; omega
        try clear hcnt
        refine fn_ok (E := EL) mixedL Tryz.func3 rfl (by kernel_rfl) _ Tryz.results3 _ Tryz.ntmps3 (by simp) (by kernel_rfl) ?_
        simp (maxSteps := 4000000) only [r0, d0, r1, r2, d2, dk, dm1, pI, el_tb, freezeT, plainT, treeU, putT, putL, snapT, snapTs, snapTA, snapTAs, AV.ownArg, AV.ownLeaf, tvs, simprocAttr]
        repeat (first | refine ftS (by kernel_rfl) ?_ | refine And.intro (by omega) ?_)
        refine aopsL_fn (E := EL) (szProgram_ok R0_0 h0_1 ((1048576 : Int)) hlR0_0 (by omega) (by omega)) rfl (hidB rfl) rfl ?_
        simp (maxSteps := 4000000) only [r0, d0, r1, r2, d2, dk, dm1, pI, el_tb, freezeT, plainT, treeU, putT, putL, snapT, snapTs, snapTA, snapTAs, AV.ownArg, AV.ownLeaf, tvs, simprocAttr]
        repeat (first | refine ftS (by kernel_rfl) ?_ | refine And.intro (by omega) ?_)
        refine aopsL_fn (E := EL) (szRecord_ok R1_0 R1_1 ((1048576 : Int) - R0_0.length) hlR1_0 hlR1_1 (by omega) (by omega)) rfl (hidB rfl) rfl ?_
        simp (maxSteps := 4000000) only [r0, d0, r1, r2, d2, dk, dm1, pI, el_tb, freezeT, plainT, treeU, putT, putL, snapT, snapTs, snapTA, snapTAs, AV.ownArg, AV.ownLeaf, tvs, simprocAttr]
        repeat (first | refine ftS (by kernel_rfl) ?_ | refine And.intro (by omega) ?_)
        refine aopsL_fn (E := EL) (toProgram_ok R0_0 h0_1 shR0_0) rfl (hidB rfl) rfl ?_
        simp (maxSteps := 4000000) only [r0, d0, r1, r2, d2, dk, dm1, pI, el_tb, freezeT, plainT, treeU, putT, putL, snapT, snapTs, snapTA, snapTAs, AV.ownArg, AV.ownLeaf, tvs, simprocAttr]
        repeat (first | refine ftS (by kernel_rfl) ?_ | refine And.intro (by omega) ?_)
        refine aopsL_fn (E := EL) (toRecord_ok R1_0 R1_1 shR1_0 shR1_1) rfl (hidB rfl) rfl ?_
        simp (maxSteps := 4000000) only [r0, d0, r1, r2, d2, dk, dm1, pI, el_tb, freezeT, plainT, treeU, putT, putL, snapT, snapTs, snapTA, snapTAs, AV.ownArg, AV.ownLeaf, tvs, simprocAttr]
        repeat (first | refine ftS (by kernel_rfl) ?_ | refine And.intro (by omega) ?_)
        refine aopsL_rd (E := EL) (HS) rfl ?_
        simp (maxSteps := 4000000) only [r0, d0, r1, r2, d2, dk, dm1, pI, el_tb, freezeT, plainT, treeU, putT, putL, snapT, snapTs, snapTA, snapTAs, AV.ownArg, AV.ownLeaf, tvs, simprocAttr]
        repeat (first | refine ftS (by kernel_rfl) ?_ | refine And.intro (by omega) ?_)
        refine aopsL_fn (E := EL) (toProgram_ok R0_0 h0_1 shR0_0) rfl (hidB rfl) rfl ?_
        simp (maxSteps := 4000000) only [r0, d0, r1, r2, d2, dk, dm1, pI, el_tb, freezeT, plainT, treeU, putT, putL, snapT, snapTs, snapTA, snapTAs, AV.ownArg, AV.ownLeaf, tvs, simprocAttr]
        repeat (first | refine ftS (by kernel_rfl) ?_ | refine And.intro (by omega) ?_)
        refine aopsL_fn (E := EL) (toRecord_ok R1_0 R1_1 shR1_0 shR1_1) rfl (hidB rfl) rfl ?_
        simp (maxSteps := 4000000) only [r0, d0, r1, r2, d2, dk, dm1, pI, el_tb, freezeT, plainT, treeU, putT, putL, snapT, snapTs, snapTA, snapTAs, AV.ownArg, AV.ownLeaf, tvs, simprocAttr]
        repeat (first | refine ftS (by kernel_rfl) ?_ | refine And.intro (by omega) ?_)
        refine aopsL_fn (E := EL) (HI) rfl (hidB rfl) rfl ?_
        simp (maxSteps := 4000000) only [r0, d0, r1, r2, d2, dk, dm1, pI, el_tb, freezeT, plainT, treeU, putT, putL, snapT, snapTs, snapTA, snapTAs, AV.ownArg, AV.ownLeaf, tvs, simprocAttr]
        repeat (first | refine ftS (by kernel_rfl) ?_ | refine And.intro (by omega) ?_)
        refine aopsL_fn (E := EL) (eqRecord_ok [.lst 114 V0_0, .lst 3 V0_1] ⟨V0_0, V0_1, rfl, shV0_0, shV0_1⟩) rfl (hidB rfl) rfl ?_
        simp (maxSteps := 4000000) only [r0, d0, r1, r2, d2, dk, dm1, pI, el_tb, freezeT, plainT, treeU, putT, putL, snapT, snapTs, snapTA, snapTAs, AV.ownArg, AV.ownLeaf, tvs, simprocAttr]
        repeat (first | refine ftS (by kernel_rfl) ?_ | refine And.intro (by omega) ?_)
        refine aopsL_fn (E := EL) (toProgram_ok R0_0 h0_1 shR0_0) rfl (hidB rfl) rfl ?_
        simp (maxSteps := 4000000) only [r0, d0, r1, r2, d2, dk, dm1, pI, el_tb, freezeT, plainT, treeU, putT, putL, snapT, snapTs, snapTA, snapTAs, AV.ownArg, AV.ownLeaf, tvs, simprocAttr]
        repeat (first | refine ftS (by kernel_rfl) ?_ | refine And.intro (by omega) ?_)
        refine aopsL_fn (E := EL) (eqProgram_ok [.lst 116 R0_0, pI h0_1] ⟨R0_0, h0_1, rfl, shR0_0⟩) rfl (hidB rfl) rfl ?_
        simp (maxSteps := 4000000) only [r0, d0, r1, r2, d2, dk, dm1, pI, el_tb, freezeT, plainT, treeU, putT, putL, snapT, snapTs, snapTA, snapTAs, AV.ownArg, AV.ownLeaf, tvs, simprocAttr]
        repeat (first | refine ftS (by kernel_rfl) ?_ | refine And.intro (by omega) ?_)
        refine aopsL_fn (E := EL) (toRecord_ok R1_0 R1_1 shR1_0 shR1_1) rfl (hidB rfl) rfl ?_
        simp (maxSteps := 4000000) only [r0, d0, r1, r2, d2, dk, dm1, pI, el_tb, freezeT, plainT, treeU, putT, putL, snapT, snapTs, snapTA, snapTAs, AV.ownArg, AV.ownLeaf, tvs, simprocAttr]
        repeat (first | refine ftS (by kernel_rfl) ?_ | refine And.intro (by omega) ?_)
        refine aopsL_fn (E := EL) (eqRecord_ok [.lst 114 R1_0, .lst 3 R1_1] ⟨R1_0, R1_1, rfl, shR1_0, shR1_1⟩) rfl (hidB rfl) rfl ?_
        simp (maxSteps := 4000000) only [r0, d0, r1, r2, d2, dk, dm1, pI, el_tb, freezeT, plainT, treeU, putT, putL, snapT, snapTs, snapTA, snapTAs, AV.ownArg, AV.ownLeaf, tvs, simprocAttr]
        repeat (first | refine ftS (by kernel_rfl) ?_ | refine And.intro (by omega) ?_)
        refine aopsL_mut (E := EL) (M0) rfl ?_
        simp (maxSteps := 4000000) only [r0, d0, r1, r2, d2, dk, dm1, pI, el_tb, freezeT, plainT, treeU, putT, putL, snapT, snapTs, snapTA, snapTAs, AV.ownArg, AV.ownLeaf, tvs, simprocAttr]
        repeat (first | refine ftS (by kernel_rfl) ?_ | refine And.intro (by omega) ?_)
        refine aopsL_mut (E := EL) (M1) rfl ?_
        simp (maxSteps := 4000000) only [r0, d0, r1, r2, d2, dk, dm1, pI, el_tb, freezeT, plainT, treeU, putT, putL, snapT, snapTs, snapTA, snapTAs, AV.ownArg, AV.ownLeaf, tvs, simprocAttr]
        repeat (first | refine ftS (by kernel_rfl) ?_ | refine And.intro (by omega) ?_)
        refine aopsL_fnG (E := EL) (eqRecord_ok [.lst 114 V0_0, .lst 3 V0_1] ⟨V0_0, V0_1, rfl, shV0_0, shV0_1⟩) rfl (hidB rfl) rfl rfl (by simp (maxSteps := 4000000) only [r0, d0, r1, r2, d2, dk, dm1, pI, el_tb, freezeT, plainT, treeU, putT, putL, snapT, snapTs, snapTA, snapTAs, AV.ownArg, AV.ownLeaf, tvs, simprocAttr]) ?_
        simp (maxSteps := 4000000) only [r0, d0, r1, r2, d2, dk, dm1, pI, el_tb, freezeT, plainT, treeU, putT, putL, snapT, snapTs, snapTA, snapTAs, AV.ownArg, AV.ownLeaf, tvs, simprocAttr]
        repeat (first | refine ftS (by kernel_rfl) ?_ | refine And.intro (by omega) ?_)
        refine aopsL_mut (E := EL) (MR0) rfl ?_
        simp (maxSteps := 4000000) only [r0, d0, r1, r2, d2, dk, dm1, pI, el_tb, freezeT, plainT, treeU, putT, putL, snapT, snapTs, snapTA, snapTAs, AV.ownArg, AV.ownLeaf, tvs, simprocAttr]
        repeat (first | refine ftS (by kernel_rfl) ?_ | refine And.intro (by omega) ?_)
        refine aopsL_fn (E := EL) (HR0) rfl (hidB rfl) rfl ?_
        simp (maxSteps := 4000000) only [r0, d0, r1, r2, d2, dk, dm1, pI, el_tb, freezeT, plainT, treeU, putT, putL, snapT, snapTs, snapTA, snapTAs, AV.ownArg, AV.ownLeaf, tvs, simprocAttr]
        repeat (first | refine ftS (by kernel_rfl) ?_ | refine And.intro (by omega) ?_)
        refine aopsL_fn (E := EL) (toProgram_ok R0_0 h0_1 shR0_0) rfl (hidB rfl) rfl ?_
        simp (maxSteps := 4000000) only [r0, d0, r1, r2, d2, dk, dm1, pI, el_tb, freezeT, plainT, treeU, putT, putL, snapT, snapTs, snapTA, snapTAs, AV.ownArg, AV.ownLeaf, tvs, simprocAttr]
        repeat (first | refine ftS (by kernel_rfl) ?_ | refine And.intro (by omega) ?_)
        refine aopsL_fn (E := EL) (toRecord_ok R1_0 R1_1 shR1_0 shR1_1) rfl (hidB rfl) rfl ?_
        simp (maxSteps := 4000000) only [r0, d0, r1, r2, d2, dk, dm1, pI, el_tb, freezeT, plainT, treeU, putT, putL, snapT, snapTs, snapTA, snapTAs, AV.ownArg, AV.ownLeaf, tvs, simprocAttr]
        repeat (first | refine ftS (by kernel_rfl) ?_ | refine And.intro (by omega) ?_)
        refine aopsL_fn (E := EL) (HI) rfl (hidB rfl) rfl ?_
        simp (maxSteps := 4000000) only [r0, d0, r1, r2, d2, dk, dm1, pI, el_tb, freezeT, plainT, treeU, putT, putL, snapT, snapTs, snapTA, snapTAs, AV.ownArg, AV.ownLeaf, tvs, simprocAttr]
        repeat (first | refine ftS (by kernel_rfl) ?_ | refine And.intro (by omega) ?_)
        refine aopsL_fn (E := EL) (eqRecord_ok [.lst 114 V0_0, .lst 3 V0_1] ⟨V0_0, V0_1, rfl, shV0_0, shV0_1⟩) rfl (hidB rfl) rfl ?_
        simp (maxSteps := 4000000) only [r0, d0, r1, r2, d2, dk, dm1, pI, el_tb, freezeT, plainT, treeU, putT, putL, snapT, snapTs, snapTA, snapTAs, AV.ownArg, AV.ownLeaf, tvs, simprocAttr]
        repeat (first | refine ftS (by kernel_rfl) ?_ | refine And.intro (by omega) ?_)
        refine aopsL_fn (E := EL) (HR0) rfl (hidB rfl) rfl ?_
        simp (maxSteps := 4000000) only [r0, d0, r1, r2, d2, dk, dm1, pI, el_tb, freezeT, plainT, treeU, putT, putL, snapT, snapTs, snapTA, snapTAs, AV.ownArg, AV.ownLeaf, tvs, simprocAttr]
        repeat (first | refine ftS (by kernel_rfl) ?_ | refine And.intro (by omega) ?_)
        all_goals (first | rfl | trivial | skip)
end Av
end Go.Proofs.YtdjenlnomibniaaGreat
