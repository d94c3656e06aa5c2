/-
  The exact law of Arrive.
-/
import Derived.Test.YtbkbppllcjcmhaaGreatTyX
import Derived.Test.YtbkbppllcjcmhaaGreatTyK
import Derived.Test.YtbkbppllcjcmhaaGreatMkS
set_option linter.unusedSimpArgs false
set_option linter.unusedVariables false
namespace Go.Proofs.YtbkbppllcjcmhaaGreat
open Go.RowKit
namespace Av
/-- what both packages answer -/
def exactArrive_both (R0_0 : List (List PV)) (h0_1 : Int) (R1 : List (List PV)) (R2 : List (List PV)) (n3 : Int) : Prop := ∃ (V0_0 : List (List PV)) (V0_1 : List (List PV)) (V0_2 : List (List PV)) (V0_3 : List (List PV)) (v1 : Int) (v2 : Bool), FnOk E.P 23 [.agg [.lst 105 R0_0, pI h0_1], .lst 71 R1, .lst 92 (R2.map swM), pI n3] (.tup [.agg [.lst 115 V0_0, .lst 3 V0_1, .lst 3 V0_2, .lst 3 V0_3], pI v1, .bool v2]) false ∧ FnOk E.P 25 [.agg [.lst 105 R0_0, pI h0_1], .lst 71 R1, .lst 92 (R2.map swM), pI n3] (.tup [.agg [.lst 115 V0_0, .lst 3 V0_1, .lst 3 V0_2, .lst 3 V0_3], pI v1, .bool v2]) true ∧ ShThreadS V0_0 ∧ ShIntS V0_1 ∧ ShIntS V0_2 ∧ ShIntS V0_3 ∧ cntR V0_0 + cntR V0_1 + cntR V0_2 + cntR V0_3 ≤ 1152921504606846976
set_option maxRecDepth 100000 in
set_option maxHeartbeats 40000000 in
theorem exactArrive_law (R0_0 : List (List PV)) (h0_1 : Int) (R1 : List (List PV)) (R2 : List (List PV)) (n3 : Int) (hlR0_0 : R0_0.length ≤ 9223372036854775807) (hsR0_0 : ∀ r ∈ R0_0, ShCode r) (hlR1 : R1.length ≤ 9223372036854775807) (hsR1 : ∀ r ∈ R1, ShChoice r) (hlR2 : R2.length ≤ 9223372036854775807) (hsR2 : ∀ r ∈ R2, LoMark r)
    (H : R0_0.length + R1.length + totR R2 ≤ 1048576 → exactArrive_both R0_0 h0_1 R1 R2 n3) : FnOk E.P 4 [.agg [.lst 107 R0_0, pI h0_1], .lst 73 R1, .lst 87 R2, pI n3] (.bool true) true := by
  by_cases g0 : ((1048576 : Int) : Int) < R0_0.length
  · have r0 : restI ((1048576 : Int)) R0_0.length = -1 := if_pos g0
    refine fn_ok (E := EL) mixedL Tryz.func4 rfl (by kernel_rfl) _ Tryz.results4 _ Tryz.ntmps4 (by simp) (by kernel_rfl) ?_
    simp (maxSteps := 4000000) only [r0, pI, el_tb, freezeT, plainT, treeU, putT, putL, snapT, snapTs, snapTA, snapTAs, AV.ownArg, AV.ownLeaf, tvs, simprocAttr]
    repeat (first | refine ftS (by kernel_rfl) ?_ | refine And.intro (by omega) ?_)
    refine aopsL_fn (E := EL) (szProgram_ok R0_0 h0_1 ((1048576 : Int)) hlR0_0 (by omega) (by omega)) rfl (hidB rfl) rfl ?_
    simp (maxSteps := 4000000) only [r0, pI, el_tb, freezeT, plainT, treeU, putT, putL, snapT, snapTs, snapTA, snapTAs, AV.ownArg, AV.ownLeaf, tvs, simprocAttr]
    repeat (first | refine ftS (by kernel_rfl) ?_ | refine And.intro (by omega) ?_)
    all_goals (first | rfl | trivial | skip)
  · have r0 : restI ((1048576 : Int)) R0_0.length = (1048576 : Int) - R0_0.length := if_neg g0
    have d0 : decide ((1048576 : Int) - R0_0.length < 0) = false := by simp only [decide_eq_false_iff_not]; omega
    by_cases g1 : ((1048576 : Int) - R0_0.length : Int) < R1.length
    · have r1 : restI ((1048576 : Int) - R0_0.length) R1.length = -1 := if_pos g1
      refine fn_ok (E := EL) mixedL Tryz.func4 rfl (by kernel_rfl) _ Tryz.results4 _ Tryz.ntmps4 (by simp) (by kernel_rfl) ?_
      simp (maxSteps := 4000000) only [r0, d0, r1, pI, el_tb, freezeT, plainT, treeU, putT, putL, snapT, snapTs, snapTA, snapTAs, AV.ownArg, AV.ownLeaf, tvs, simprocAttr]
      repeat (first | refine ftS (by kernel_rfl) ?_ | refine And.intro (by omega) ?_)
      refine aopsL_fn (E := EL) (szProgram_ok R0_0 h0_1 ((1048576 : Int)) hlR0_0 (by omega) (by omega)) rfl (hidB rfl) rfl ?_
      simp (maxSteps := 4000000) only [r0, d0, r1, pI, el_tb, freezeT, plainT, treeU, putT, putL, snapT, snapTs, snapTA, snapTAs, AV.ownArg, AV.ownLeaf, tvs, simprocAttr]
      repeat (first | refine ftS (by kernel_rfl) ?_ | refine And.intro (by omega) ?_)
      refine aopsL_fn (E := EL) (szChoiceS_ok R1 ((1048576 : Int) - R0_0.length) hlR1 (by omega) (by omega)) rfl (hidB rfl) rfl ?_
      simp (maxSteps := 4000000) only [r0, d0, r1, pI, el_tb, freezeT, plainT, treeU, putT, putL, snapT, snapTs, snapTA, snapTAs, AV.ownArg, AV.ownLeaf, tvs, simprocAttr]
      repeat (first | refine ftS (by kernel_rfl) ?_ | refine And.intro (by omega) ?_)
      all_goals (first | rfl | trivial | skip)
    · have r1 : restI ((1048576 : Int) - R0_0.length) R1.length = (1048576 : Int) - R0_0.length - R1.length := if_neg g1
      have d1 : decide ((1048576 : Int) - R0_0.length - R1.length < 0) = false := by simp only [decide_eq_false_iff_not]; omega
      by_cases g2 : ((1048576 : Int) - R0_0.length - R1.length : Int) < ((totR R2 : Nat) : Int)
      · have r2 : restI ((1048576 : Int) - R0_0.length - R1.length) (totR R2) = -1 := if_pos g2
        refine fn_ok (E := EL) mixedL Tryz.func4 rfl (by kernel_rfl) _ Tryz.results4 _ Tryz.ntmps4 (by simp) (by kernel_rfl) ?_
        simp (maxSteps := 4000000) only [r0, d0, r1, d1, r2, pI, el_tb, freezeT, plainT, treeU, putT, putL, snapT, snapTs, snapTA, snapTAs, AV.ownArg, AV.ownLeaf, tvs, simprocAttr]
        repeat (first | refine ftS (by kernel_rfl) ?_ | refine And.intro (by omega) ?_)
        refine aopsL_fn (E := EL) (szProgram_ok R0_0 h0_1 ((1048576 : Int)) hlR0_0 (by omega) (by omega)) rfl (hidB rfl) rfl ?_
        simp (maxSteps := 4000000) only [r0, d0, r1, d1, r2, pI, el_tb, freezeT, plainT, treeU, putT, putL, snapT, snapTs, snapTA, snapTAs, AV.ownArg, AV.ownLeaf, tvs, simprocAttr]
        repeat (first | refine ftS (by kernel_rfl) ?_ | refine And.intro (by omega) ?_)
        refine aopsL_fn (E := EL) (szChoiceS_ok R1 ((1048576 : Int) - R0_0.length) hlR1 (by omega) (by omega)) rfl (hidB rfl) rfl ?_
        simp (maxSteps := 4000000) only [r0, d0, r1, d1, r2, pI, el_tb, freezeT, plainT, treeU, putT, putL, snapT, snapTs, snapTA, snapTAs, AV.ownArg, AV.ownLeaf, tvs, simprocAttr]
        repeat (first | refine ftS (by kernel_rfl) ?_ | refine And.intro (by omega) ?_)
        refine aopsL_fn (E := EL) (szMarkS_ok R2 ((1048576 : Int) - R0_0.length - R1.length) hlR2 hsR2 (by omega) (by omega)) rfl (hidB rfl) rfl ?_
        simp (maxSteps := 4000000) only [r0, d0, r1, d1, r2, pI, el_tb, freezeT, plainT, treeU, putT, putL, snapT, snapTs, snapTA, snapTAs, AV.ownArg, AV.ownLeaf, tvs, simprocAttr]
        repeat (first | refine ftS (by kernel_rfl) ?_ | refine And.intro (by omega) ?_)
        all_goals (first | rfl | trivial | skip)
      · have r2 : restI ((1048576 : Int) - R0_0.length - R1.length) (totR R2) = (1048576 : Int) - R0_0.length - R1.length - ((totR R2 : Nat) : Int) := if_neg g2
        have d2 : decide ((1048576 : Int) - R0_0.length - R1.length - ((totR R2 : Nat) : Int) < 0) = false := by simp only [decide_eq_false_iff_not]; omega
        have shR0_0 : ShCodeS R0_0 := ⟨by omega, hsR0_0⟩
        have shR1 : ShChoiceS R1 := ⟨by omega, hsR1⟩
        have shR2 : ShMarkS (R2.map swM) := LoMarkS.sh ⟨hlR2, hsR2⟩ (by omega)
        obtain ⟨V0_0, V0_1, V0_2, V0_3, v1, v2, HS, HI, shV0_0, shV0_1, shV0_2, shV0_3, hcnt⟩ := H (by omega)
        have cR0_0 : cntR R0_0 ≤ 4194304 := by
          have h1 := cntR_le (B := 4) R0_0 (fun r hr => by obtain ⟨a0, a1, a2, a3, rfl⟩ := hsR0_0 r hr; simp [cntL, cntP, pI])
          omega
        have M0 := mkProgram_ok R0_0 h0_1 shR0_0 1 (by omega) (by simp only [mkR_cnt]; omega)
        simp only [mkR_cnt] at M0
        obtain ⟨k1, f1⟩ : ∃ z, 1 + (cntR R0_0 : Int) = z := ⟨_, rfl⟩
        rw [f1] at M0
        have b1 : 1 ≤ k1 ∧ k1 ≤ 100000000 := by omega
        have cR1 : cntR R1 ≤ 3145728 := by
          have h1 := cntR_le (B := 3) R1 (fun r hr => by obtain ⟨a0, a1, a2, rfl⟩ := hsR1 r hr; simp [cntL, cntP, pI])
          omega
        have M1 := mkChoiceS_ok R1 shR1 k1 (by omega) (by simp only [mkR_cnt]; omega)
        simp only [mkR_cnt] at M1
        obtain ⟨k2, f2⟩ : ∃ z, k1 + (cntR R1 : Int) = z := ⟨_, rfl⟩
        rw [f2] at M1
        have b2 : 1 ≤ k2 ∧ k2 ≤ 100000000 := by omega
        have cR2 : cntR (R2.map swM) ≤ 2097152 := by
          have h1 := cnt_MarkS hsR2
          omega
        have M2 := mkMarkS_ok (R2.map swM) shR2 k2 (by omega) (by simp only [mkR_cnt]; omega)
        simp only [mkR_cnt] at M2
        obtain ⟨k3, f3⟩ : ∃ z, k2 + (cntR (R2.map swM) : Int) = z := ⟨_, rfl⟩
        rw [f3] at M2
        have b3 : 1 ≤ k3 ∧ k3 ≤ 100000000 := by omega
        have dk : decide (k3 < 0) = false := by simp; omega
        have MR0 := mkMachine_ok V0_0 V0_1 V0_2 V0_3 shV0_0 shV0_1 shV0_2 shV0_3 1 (by omega) (by simp only [mkR_cnt]; omega)
        have HR0 := heldMachine_ok V0_0 V0_1 V0_2 V0_3 shV0_0 shV0_1 shV0_2 shV0_3 1 (by omega) (by simp only [mkR_cnt]; omega)
        simp only [mkR_cnt] at MR0 HR0
        obtain ⟨m1, fm1⟩ : ∃ z, 1 + (cntR V0_0 : Int) + (cntR V0_1 : Int) + (cntR V0_2 : Int) + (cntR V0_3 : Int) = z := ⟨_, rfl⟩
        rw [fm1] at MR0 HR0
        have dm1 : decide (m1 < 0) = false := by simp; omega
        try clear hcnt
        refine fn_ok (E := EL) mixedL Tryz.func4 rfl (by kernel_rfl) _ Tryz.results4 _ Tryz.ntmps4 (by simp) (by kernel_rfl) ?_
        simp (maxSteps := 4000000) only [r0, d0, r1, d1, r2, d2, dk, dm1, pI, el_tb, freezeT, plainT, treeU, putT, putL, snapT, snapTs, snapTA, snapTAs, AV.ownArg, AV.ownLeaf, tvs, simprocAttr]
        repeat (first | refine ftS (by kernel_rfl) ?_ | refine And.intro (by omega) ?_)
        refine aopsL_fn (E := EL) (szProgram_ok R0_0 h0_1 ((1048576 : Int)) hlR0_0 (by omega) (by omega)) rfl (hidB rfl) rfl ?_
        simp (maxSteps := 4000000) only [r0, d0, r1, d1, r2, d2, dk, dm1, pI, el_tb, freezeT, plainT, treeU, putT, putL, snapT, snapTs, snapTA, snapTAs, AV.ownArg, AV.ownLeaf, tvs, simprocAttr]
        repeat (first | refine ftS (by kernel_rfl) ?_ | refine And.intro (by omega) ?_)
        refine aopsL_fn (E := EL) (szChoiceS_ok R1 ((1048576 : Int) - R0_0.length) hlR1 (by omega) (by omega)) rfl (hidB rfl) rfl ?_
        simp (maxSteps := 4000000) only [r0, d0, r1, d1, r2, d2, dk, dm1, pI, el_tb, freezeT, plainT, treeU, putT, putL, snapT, snapTs, snapTA, snapTAs, AV.ownArg, AV.ownLeaf, tvs, simprocAttr]
        repeat (first | refine ftS (by kernel_rfl) ?_ | refine And.intro (by omega) ?_)
        refine aopsL_fn (E := EL) (szMarkS_ok R2 ((1048576 : Int) - R0_0.length - R1.length) hlR2 hsR2 (by omega) (by omega)) rfl (hidB rfl) rfl ?_
        simp (maxSteps := 4000000) only [r0, d0, r1, d1, r2, d2, dk, dm1, pI, el_tb, freezeT, plainT, treeU, putT, putL, snapT, snapTs, snapTA, snapTAs, AV.ownArg, AV.ownLeaf, tvs, simprocAttr]
        repeat (first | refine ftS (by kernel_rfl) ?_ | refine And.intro (by omega) ?_)
        refine aopsL_fn (E := EL) (toProgram_ok R0_0 h0_1 shR0_0) rfl (hidB rfl) rfl ?_
        simp (maxSteps := 4000000) only [r0, d0, r1, d1, r2, d2, dk, dm1, pI, el_tb, freezeT, plainT, treeU, putT, putL, snapT, snapTs, snapTA, snapTAs, AV.ownArg, AV.ownLeaf, tvs, simprocAttr]
        repeat (first | refine ftS (by kernel_rfl) ?_ | refine And.intro (by omega) ?_)
        refine aopsL_fn (E := EL) (toChoiceS_ok R1 shR1) rfl (hidB rfl) rfl ?_
        simp (maxSteps := 4000000) only [r0, d0, r1, d1, r2, d2, dk, dm1, pI, el_tb, freezeT, plainT, treeU, putT, putL, snapT, snapTs, snapTA, snapTAs, AV.ownArg, AV.ownLeaf, tvs, simprocAttr]
        repeat (first | refine ftS (by kernel_rfl) ?_ | refine And.intro (by omega) ?_)
        refine aopsL_fn (E := EL) (toMarkS_ok R2 ⟨hlR2, hsR2⟩ (by omega)) rfl (hidB rfl) rfl ?_
        simp (maxSteps := 4000000) only [r0, d0, r1, d1, r2, d2, dk, dm1, pI, el_tb, freezeT, plainT, treeU, putT, putL, snapT, snapTs, snapTA, snapTAs, AV.ownArg, AV.ownLeaf, tvs, simprocAttr]
        repeat (first | refine ftS (by kernel_rfl) ?_ | refine And.intro (by omega) ?_)
        refine aopsL_rd (E := EL) (HS) rfl ?_
        simp (maxSteps := 4000000) only [r0, d0, r1, d1, r2, d2, dk, dm1, pI, el_tb, freezeT, plainT, treeU, putT, putL, snapT, snapTs, snapTA, snapTAs, AV.ownArg, AV.ownLeaf, tvs, simprocAttr]
        repeat (first | refine ftS (by kernel_rfl) ?_ | refine And.intro (by omega) ?_)
        refine aopsL_fn (E := EL) (toProgram_ok R0_0 h0_1 shR0_0) rfl (hidB rfl) rfl ?_
        simp (maxSteps := 4000000) only [r0, d0, r1, d1, r2, d2, dk, dm1, pI, el_tb, freezeT, plainT, treeU, putT, putL, snapT, snapTs, snapTA, snapTAs, AV.ownArg, AV.ownLeaf, tvs, simprocAttr]
        repeat (first | refine ftS (by kernel_rfl) ?_ | refine And.intro (by omega) ?_)
        refine aopsL_fn (E := EL) (toChoiceS_ok R1 shR1) rfl (hidB rfl) rfl ?_
        simp (maxSteps := 4000000) only [r0, d0, r1, d1, r2, d2, dk, dm1, pI, el_tb, freezeT, plainT, treeU, putT, putL, snapT, snapTs, snapTA, snapTAs, AV.ownArg, AV.ownLeaf, tvs, simprocAttr]
        repeat (first | refine ftS (by kernel_rfl) ?_ | refine And.intro (by omega) ?_)
        refine aopsL_fn (E := EL) (toMarkS_ok R2 ⟨hlR2, hsR2⟩ (by omega)) rfl (hidB rfl) rfl ?_
        simp (maxSteps := 4000000) only [r0, d0, r1, d1, r2, d2, dk, dm1, pI, el_tb, freezeT, plainT, treeU, putT, putL, snapT, snapTs, snapTA, snapTAs, AV.ownArg, AV.ownLeaf, tvs, simprocAttr]
        repeat (first | refine ftS (by kernel_rfl) ?_ | refine And.intro (by omega) ?_)
        refine aopsL_fn (E := EL) (HI) rfl (hidB rfl) rfl ?_
        simp (maxSteps := 4000000) only [r0, d0, r1, d1, r2, d2, dk, dm1, pI, el_tb, freezeT, plainT, treeU, putT, putL, snapT, snapTs, snapTA, snapTAs, AV.ownArg, AV.ownLeaf, tvs, simprocAttr]
        repeat (first | refine ftS (by kernel_rfl) ?_ | refine And.intro (by omega) ?_)
        refine aopsL_fn (E := EL) (eqMachine_ok [.lst 115 V0_0, .lst 3 V0_1, .lst 3 V0_2, .lst 3 V0_3] ⟨V0_0, V0_1, V0_2, V0_3, rfl, shV0_0, shV0_1, shV0_2, shV0_3⟩) rfl (hidB rfl) rfl ?_
        simp (maxSteps := 4000000) only [r0, d0, r1, d1, r2, d2, dk, dm1, pI, el_tb, freezeT, plainT, treeU, putT, putL, snapT, snapTs, snapTA, snapTAs, AV.ownArg, AV.ownLeaf, tvs, simprocAttr]
        repeat (first | refine ftS (by kernel_rfl) ?_ | refine And.intro (by omega) ?_)
        refine aopsL_fn (E := EL) (toProgram_ok R0_0 h0_1 shR0_0) rfl (hidB rfl) rfl ?_
        simp (maxSteps := 4000000) only [r0, d0, r1, d1, r2, d2, dk, dm1, pI, el_tb, freezeT, plainT, treeU, putT, putL, snapT, snapTs, snapTA, snapTAs, AV.ownArg, AV.ownLeaf, tvs, simprocAttr]
        repeat (first | refine ftS (by kernel_rfl) ?_ | refine And.intro (by omega) ?_)
        refine aopsL_fn (E := EL) (eqProgram_ok [.lst 105 R0_0, pI h0_1] ⟨R0_0, h0_1, rfl, shR0_0⟩) rfl (hidB rfl) rfl ?_
        simp (maxSteps := 4000000) only [r0, d0, r1, d1, r2, d2, dk, dm1, pI, el_tb, freezeT, plainT, treeU, putT, putL, snapT, snapTs, snapTA, snapTAs, AV.ownArg, AV.ownLeaf, tvs, simprocAttr]
        repeat (first | refine ftS (by kernel_rfl) ?_ | refine And.intro (by omega) ?_)
        refine aopsL_fn (E := EL) (toChoiceS_ok R1 shR1) rfl (hidB rfl) rfl ?_
        simp (maxSteps := 4000000) only [r0, d0, r1, d1, r2, d2, dk, dm1, pI, el_tb, freezeT, plainT, treeU, putT, putL, snapT, snapTs, snapTA, snapTAs, AV.ownArg, AV.ownLeaf, tvs, simprocAttr]
        repeat (first | refine ftS (by kernel_rfl) ?_ | refine And.intro (by omega) ?_)
        refine aopsL_fn (E := EL) (eqChoiceS_ok R1 shR1) rfl (hidB rfl) rfl ?_
        simp (maxSteps := 4000000) only [r0, d0, r1, d1, r2, d2, dk, dm1, pI, el_tb, freezeT, plainT, treeU, putT, putL, snapT, snapTs, snapTA, snapTAs, AV.ownArg, AV.ownLeaf, tvs, simprocAttr]
        repeat (first | refine ftS (by kernel_rfl) ?_ | refine And.intro (by omega) ?_)
        refine aopsL_fn (E := EL) (toMarkS_ok R2 ⟨hlR2, hsR2⟩ (by omega)) rfl (hidB rfl) rfl ?_
        simp (maxSteps := 4000000) only [r0, d0, r1, d1, r2, d2, dk, dm1, pI, el_tb, freezeT, plainT, treeU, putT, putL, snapT, snapTs, snapTA, snapTAs, AV.ownArg, AV.ownLeaf, tvs, simprocAttr]
        repeat (first | refine ftS (by kernel_rfl) ?_ | refine And.intro (by omega) ?_)
        refine aopsL_fn (E := EL) (eqMarkS_ok (R2.map swM) shR2) rfl (hidB rfl) rfl ?_
        simp (maxSteps := 4000000) only [r0, d0, r1, d1, r2, d2, dk, dm1, pI, el_tb, freezeT, plainT, treeU, putT, putL, snapT, snapTs, snapTA, snapTAs, AV.ownArg, AV.ownLeaf, tvs, simprocAttr]
        repeat (first | refine ftS (by kernel_rfl) ?_ | refine And.intro (by omega) ?_)
        refine aopsL_mut (E := EL) (M0) rfl ?_
        simp (maxSteps := 4000000) only [r0, d0, r1, d1, r2, d2, dk, dm1, pI, el_tb, freezeT, plainT, treeU, putT, putL, snapT, snapTs, snapTA, snapTAs, AV.ownArg, AV.ownLeaf, tvs, simprocAttr]
        repeat (first | refine ftS (by kernel_rfl) ?_ | refine And.intro (by omega) ?_)
        refine aopsL_mut (E := EL) (M1) rfl ?_
        simp (maxSteps := 4000000) only [r0, d0, r1, d1, r2, d2, dk, dm1, pI, el_tb, freezeT, plainT, treeU, putT, putL, snapT, snapTs, snapTA, snapTAs, AV.ownArg, AV.ownLeaf, tvs, simprocAttr]
        repeat (first | refine ftS (by kernel_rfl) ?_ | refine And.intro (by omega) ?_)
        refine aopsL_mut (E := EL) (M2) rfl ?_
        simp (maxSteps := 4000000) only [r0, d0, r1, d1, r2, d2, dk, dm1, pI, el_tb, freezeT, plainT, treeU, putT, putL, snapT, snapTs, snapTA, snapTAs, AV.ownArg, AV.ownLeaf, tvs, simprocAttr]
        repeat (first | refine ftS (by kernel_rfl) ?_ | refine And.intro (by omega) ?_)
        refine aopsL_fnG (E := EL) (eqMachine_ok [.lst 115 V0_0, .lst 3 V0_1, .lst 3 V0_2, .lst 3 V0_3] ⟨V0_0, V0_1, V0_2, V0_3, rfl, shV0_0, shV0_1, shV0_2, shV0_3⟩) rfl (hidB rfl) rfl rfl (by simp (maxSteps := 4000000) only [r0, d0, r1, d1, r2, d2, dk, dm1, pI, el_tb, freezeT, plainT, treeU, putT, putL, snapT, snapTs, snapTA, snapTAs, AV.ownArg, AV.ownLeaf, tvs, simprocAttr]) ?_
        simp (maxSteps := 4000000) only [r0, d0, r1, d1, r2, d2, dk, dm1, pI, el_tb, freezeT, plainT, treeU, putT, putL, snapT, snapTs, snapTA, snapTAs, AV.ownArg, AV.ownLeaf, tvs, simprocAttr]
        repeat (first | refine ftS (by kernel_rfl) ?_ | refine And.intro (by omega) ?_)
        refine aopsL_mut (E := EL) (MR0) rfl ?_
        simp (maxSteps := 4000000) only [r0, d0, r1, d1, r2, d2, dk, dm1, pI, el_tb, freezeT, plainT, treeU, putT, putL, snapT, snapTs, snapTA, snapTAs, AV.ownArg, AV.ownLeaf, tvs, simprocAttr]
        repeat (first | refine ftS (by kernel_rfl) ?_ | refine And.intro (by omega) ?_)
        refine aopsL_fn (E := EL) (HR0) rfl (hidB rfl) rfl ?_
        simp (maxSteps := 4000000) only [r0, d0, r1, d1, r2, d2, dk, dm1, pI, el_tb, freezeT, plainT, treeU, putT, putL, snapT, snapTs, snapTA, snapTAs, AV.ownArg, AV.ownLeaf, tvs, simprocAttr]
        repeat (first | refine ftS (by kernel_rfl) ?_ | refine And.intro (by omega) ?_)
        refine aopsL_fn (E := EL) (toProgram_ok R0_0 h0_1 shR0_0) rfl (hidB rfl) rfl ?_
        simp (maxSteps := 4000000) only [r0, d0, r1, d1, r2, d2, dk, dm1, pI, el_tb, freezeT, plainT, treeU, putT, putL, snapT, snapTs, snapTA, snapTAs, AV.ownArg, AV.ownLeaf, tvs, simprocAttr]
        repeat (first | refine ftS (by kernel_rfl) ?_ | refine And.intro (by omega) ?_)
        refine aopsL_fn (E := EL) (toChoiceS_ok R1 shR1) rfl (hidB rfl) rfl ?_
        simp (maxSteps := 4000000) only [r0, d0, r1, d1, r2, d2, dk, dm1, pI, el_tb, freezeT, plainT, treeU, putT, putL, snapT, snapTs, snapTA, snapTAs, AV.ownArg, AV.ownLeaf, tvs, simprocAttr]
        repeat (first | refine ftS (by kernel_rfl) ?_ | refine And.intro (by omega) ?_)
        refine aopsL_fn (E := EL) (toMarkS_ok R2 ⟨hlR2, hsR2⟩ (by omega)) rfl (hidB rfl) rfl ?_
        simp (maxSteps := 4000000) only [r0, d0, r1, d1, r2, d2, dk, dm1, pI, el_tb, freezeT, plainT, treeU, putT, putL, snapT, snapTs, snapTA, snapTAs, AV.ownArg, AV.ownLeaf, tvs, simprocAttr]
        repeat (first | refine ftS (by kernel_rfl) ?_ | refine And.intro (by omega) ?_)
        refine aopsL_fn (E := EL) (HI) rfl (hidB rfl) rfl ?_
        simp (maxSteps := 4000000) only [r0, d0, r1, d1, r2, d2, dk, dm1, pI, el_tb, freezeT, plainT, treeU, putT, putL, snapT, snapTs, snapTA, snapTAs, AV.ownArg, AV.ownLeaf, tvs, simprocAttr]
        repeat (first | refine ftS (by kernel_rfl) ?_ | refine And.intro (by omega) ?_)
        refine aopsL_fn (E := EL) (eqMachine_ok [.lst 115 V0_0, .lst 3 V0_1, .lst 3 V0_2, .lst 3 V0_3] ⟨V0_0, V0_1, V0_2, V0_3, rfl, shV0_0, shV0_1, shV0_2, shV0_3⟩) rfl (hidB rfl) rfl ?_
        simp (maxSteps := 4000000) only [r0, d0, r1, d1, r2, d2, dk, dm1, pI, el_tb, freezeT, plainT, treeU, putT, putL, snapT, snapTs, snapTA, snapTAs, AV.ownArg, AV.ownLeaf, tvs, simprocAttr]
        repeat (first | refine ftS (by kernel_rfl) ?_ | refine And.intro (by omega) ?_)
        refine aopsL_fn (E := EL) (HR0) rfl (hidB rfl) rfl ?_
        simp (maxSteps := 4000000) only [r0, d0, r1, d1, r2, d2, dk, dm1, pI, el_tb, freezeT, plainT, treeU, putT, putL, snapT, snapTs, snapTA, snapTAs, AV.ownArg, AV.ownLeaf, tvs, simprocAttr]
        repeat (first | refine ftS (by kernel_rfl) ?_ | refine And.intro (by omega) ?_)
        all_goals (first | rfl | trivial | skip)
end Av
end Go.Proofs.YtbkbppllcjcmhaaGreat
