/-
  The exact law of TakeBack.
-/
import Derived.Test.YtdjenlnomibniaaTyP
import Derived.Test.YtdjenlnomibniaaTyH
import Derived.Test.YtdjenlnomibniaaTyQ
set_option linter.unusedSimpArgs false
set_option linter.unusedVariables false
namespace Go.Proofs.Ytdjenlnomibniaa
open Go.RowKit
namespace Av
/-- what both packages answer -/
def exactTakeBack_both (R0_0 : List (List PV)) (R0_1 : List (List PV)) (R0_2 : List (List PV)) (R0_3 : List (List PV)) (h1_0 : Int) (h1_1 : Int) (R1_2 : List (List PV)) (R1_3 : List (List PV)) (h1_4 : Int) (h1_5 : Int) (h1_6 : Int) (h1_7 : Int) (h1_8 : Int) (h1_9 : Bool) (h1_10 : Bool) : Prop := ∃ (V0_0 : List (List PV)) (V0_1 : List (List PV)) (V0_2 : List (List PV)) (V0_3 : List (List PV)) (v1 : Bool), FnOk E.P 20 [.agg [.lst 29 R0_0, .lst 3 R0_1, .lst 3 R0_2, .lst 3 R0_3], .agg [pI h1_0, pI h1_1, .lst 3 R1_2, .lst 3 R1_3, pI h1_4, pI h1_5, pI h1_6, pI h1_7, pI h1_8, .bool h1_9, .bool h1_10]] (.tup [.agg [.lst 29 V0_0, .lst 3 V0_1, .lst 3 V0_2, .lst 3 V0_3], .bool v1]) false ∧ FnOk E.P 22 [.agg [.lst 29 R0_0, .lst 3 R0_1, .lst 3 R0_2, .lst 3 R0_3], .agg [pI h1_0, pI h1_1, .lst 3 R1_2, .lst 3 R1_3, pI h1_4, pI h1_5, pI h1_6, pI h1_7, pI h1_8, .bool h1_9, .bool h1_10]] (.tup [.agg [.lst 29 V0_0, .lst 3 V0_1, .lst 3 V0_2, .lst 3 V0_3], .bool v1]) true ∧ ShThreadS V0_0 ∧ ShIntS V0_1 ∧ ShIntS V0_2 ∧ ShIntS V0_3 ∧ cntR V0_0 + cntR V0_1 + cntR V0_2 + cntR V0_3 ≤ 1152921504606846976
set_option maxRecDepth 100000 in
set_option maxHeartbeats 40000000 in
theorem exactTakeBack_law (R0_0 : List (List PV)) (R0_1 : List (List PV)) (R0_2 : List (List PV)) (R0_3 : List (List PV)) (h1_0 : Int) (h1_1 : Int) (R1_2 : List (List PV)) (R1_3 : List (List PV)) (h1_4 : Int) (h1_5 : Int) (h1_6 : Int) (h1_7 : Int) (h1_8 : Int) (h1_9 : Bool) (h1_10 : Bool) (hlR0_0 : R0_0.length ≤ 9223372036854775807) (hsR0_0 : ∀ r ∈ R0_0, LoThread r) (hlR0_1 : R0_1.length ≤ 9223372036854775807) (hsR0_1 : ∀ r ∈ R0_1, ShInt r) (hlR0_2 : R0_2.length ≤ 9223372036854775807) (hsR0_2 : ∀ r ∈ R0_2, ShInt r) (hlR0_3 : R0_3.length ≤ 9223372036854775807) (hsR0_3 : ∀ r ∈ R0_3, ShInt r) (hlR1_2 : R1_2.length ≤ 9223372036854775807) (hsR1_2 : ∀ r ∈ R1_2, ShInt r) (hlR1_3 : R1_3.length ≤ 9223372036854775807) (hsR1_3 : ∀ r ∈ R1_3, ShInt r)
    (H : totR R0_0 + R0_1.length + R0_2.length + R0_3.length + R1_2.length + R1_3.length ≤ 1048576 → exactTakeBack_both R0_0 R0_1 R0_2 R0_3 h1_0 h1_1 R1_2 R1_3 h1_4 h1_5 h1_6 h1_7 h1_8 h1_9 h1_10) : FnOk E.P 4 [.agg [.lst 24 R0_0, .lst 3 R0_1, .lst 3 R0_2, .lst 3 R0_3], .agg [pI h1_0, pI h1_1, .lst 3 R1_2, .lst 3 R1_3, pI h1_4, pI h1_5, pI h1_6, pI h1_7, pI h1_8, .bool h1_9, .bool h1_10]] (.bool true) true := by
  by_cases g0 : ((1048576 : Int) : Int) < ((totR R0_0 + R0_1.length + R0_2.length + R0_3.length : Nat) : Int)
  · have r0 : restI ((1048576 : Int)) (totR R0_0 + R0_1.length + R0_2.length + R0_3.length) = -1 := if_pos g0
    refine fn_ok (E := EL) mixedL Try.func4 rfl (by kernel_rfl) _ Try.results4 _ Try.ntmps4 (by simp) (by kernel_rfl) ?_
    simp (maxSteps := 4000000) only [r0, pI, el_tb, freezeT, plainT, treeU, putT, putL, snapT, snapTs, snapTA, snapTAs, AV.ownArg, AV.ownLeaf, tvs, simprocAttr]
    repeat (first | refine ftS (by kernel_rfl) ?_ | refine And.intro (by omega) ?_)
    refine aopsL_fn (E := EL) (szMachine_ok R0_0 R0_1 R0_2 R0_3 ((1048576 : Int)) ⟨hlR0_0, hsR0_0⟩ ⟨hlR0_1, hsR0_1⟩ ⟨hlR0_2, hsR0_2⟩ ⟨hlR0_3, hsR0_3⟩ (by omega) (by omega)) rfl (hidB rfl) rfl ?_
    simp (maxSteps := 4000000) only [r0, pI, el_tb, freezeT, plainT, treeU, putT, putL, snapT, snapTs, snapTA, snapTAs, AV.ownArg, AV.ownLeaf, tvs, simprocAttr]
    repeat (first | refine ftS (by kernel_rfl) ?_ | refine And.intro (by omega) ?_)
    all_goals (first | rfl | trivial | skip)
  · have r0 : restI ((1048576 : Int)) (totR R0_0 + R0_1.length + R0_2.length + R0_3.length) = (1048576 : Int) - ((totR R0_0 + R0_1.length + R0_2.length + R0_3.length : Nat) : Int) := if_neg g0
    have d0 : decide ((1048576 : Int) - ((totR R0_0 + R0_1.length + R0_2.length + R0_3.length : Nat) : Int) < 0) = false := by simp only [decide_eq_false_iff_not]; omega
    by_cases g1 : ((1048576 : Int) - ((totR R0_0 + R0_1.length + R0_2.length + R0_3.length : Nat) : Int) : Int) < ((R1_2.length + R1_3.length : Nat) : Int)
    · have r1 : restI ((1048576 : Int) - ((totR R0_0 + R0_1.length + R0_2.length + R0_3.length : Nat) : Int)) (R1_2.length + R1_3.length) = -1 := if_pos g1
      refine fn_ok (E := EL) mixedL Try.func4 rfl (by kernel_rfl) _ Try.results4 _ Try.ntmps4 (by simp) (by kernel_rfl) ?_
      simp (maxSteps := 4000000) only [r0, d0, r1, pI, el_tb, freezeT, plainT, treeU, putT, putL, snapT, snapTs, snapTA, snapTAs, AV.ownArg, AV.ownLeaf, tvs, simprocAttr]
      repeat (first | refine ftS (by kernel_rfl) ?_ | refine And.intro (by omega) ?_)
      refine aopsL_fn (E := EL) (szMachine_ok R0_0 R0_1 R0_2 R0_3 ((1048576 : Int)) ⟨hlR0_0, hsR0_0⟩ ⟨hlR0_1, hsR0_1⟩ ⟨hlR0_2, hsR0_2⟩ ⟨hlR0_3, hsR0_3⟩ (by omega) (by omega)) rfl (hidB rfl) rfl ?_
      simp (maxSteps := 4000000) only [r0, d0, r1, pI, el_tb, freezeT, plainT, treeU, putT, putL, snapT, snapTs, snapTA, snapTAs, AV.ownArg, AV.ownLeaf, tvs, simprocAttr]
      repeat (first | refine ftS (by kernel_rfl) ?_ | refine And.intro (by omega) ?_)
      refine aopsL_fn (E := EL) (szUndo_ok h1_0 h1_1 R1_2 R1_3 h1_4 h1_5 h1_6 h1_7 h1_8 h1_9 h1_10 ((1048576 : Int) - ((totR R0_0 + R0_1.length + R0_2.length + R0_3.length : Nat) : Int)) ⟨hlR1_2, hsR1_2⟩ ⟨hlR1_3, hsR1_3⟩ (by omega) (by omega)) rfl (hidB rfl) rfl ?_
      simp (maxSteps := 4000000) only [r0, d0, r1, pI, el_tb, freezeT, plainT, treeU, putT, putL, snapT, snapTs, snapTA, snapTAs, AV.ownArg, AV.ownLeaf, tvs, simprocAttr]
      repeat (first | refine ftS (by kernel_rfl) ?_ | refine And.intro (by omega) ?_)
      all_goals (first | rfl | trivial | skip)
    · have r1 : restI ((1048576 : Int) - ((totR R0_0 + R0_1.length + R0_2.length + R0_3.length : Nat) : Int)) (R1_2.length + R1_3.length) = (1048576 : Int) - ((totR R0_0 + R0_1.length + R0_2.length + R0_3.length : Nat) : Int) - ((R1_2.length + R1_3.length : Nat) : Int) := if_neg g1
      have d1 : decide ((1048576 : Int) - ((totR R0_0 + R0_1.length + R0_2.length + R0_3.length : Nat) : Int) - ((R1_2.length + R1_3.length : Nat) : Int) < 0) = false := by simp only [decide_eq_false_iff_not]; omega
      have shR0_0 : ShThreadS R0_0 := LoThreadS.sh ⟨hlR0_0, hsR0_0⟩ (by omega)
      have shR0_1 : ShIntS R0_1 := ⟨by omega, hsR0_1⟩
      have shR0_2 : ShIntS R0_2 := ⟨by omega, hsR0_2⟩
      have shR0_3 : ShIntS R0_3 := ⟨by omega, hsR0_3⟩
      have shR1_2 : ShIntS R1_2 := ⟨by omega, hsR1_2⟩
      have shR1_3 : ShIntS R1_3 := ⟨by omega, hsR1_3⟩
      obtain ⟨V0_0, V0_1, V0_2, V0_3, v1, HS, HI, shV0_0, shV0_1, shV0_2, shV0_3, hcnt⟩ := H (by omega)
      have cR0_0 : cntR R0_0 ≤ 2097152 := by
        have h1 := cnt_ThreadS hsR0_0
        omega
      have cR0_1 : cntR R0_1 ≤ 1048576 := by
        have h1 := cntR_le (B := 1) R0_1 (fun r hr => by obtain ⟨a0, rfl⟩ := hsR0_1 r hr; simp [cntL, cntP, pI])
        omega
      have cR0_2 : cntR R0_2 ≤ 1048576 := by
        have h1 := cntR_le (B := 1) R0_2 (fun r hr => by obtain ⟨a0, rfl⟩ := hsR0_2 r hr; simp [cntL, cntP, pI])
        omega
      have cR0_3 : cntR R0_3 ≤ 1048576 := by
        have h1 := cntR_le (B := 1) R0_3 (fun r hr => by obtain ⟨a0, rfl⟩ := hsR0_3 r hr; simp [cntL, cntP, pI])
        omega
      have M0 := mkMachine_ok R0_0 R0_1 R0_2 R0_3 shR0_0 shR0_1 shR0_2 shR0_3 1 (by omega) (by simp only [mkR_cnt]; omega)
      simp only [mkR_cnt] at M0
      obtain ⟨k1, f1⟩ : ∃ z, 1 + (cntR R0_0 : Int) + (cntR R0_1 : Int) + (cntR R0_2 : Int) + (cntR R0_3 : Int) = z := ⟨_, rfl⟩
      rw [f1] at M0
      have b1 : 1 ≤ k1 ∧ k1 ≤ 100000000 := by omega
      have cR1_2 : cntR R1_2 ≤ 1048576 := by
        have h1 := cntR_le (B := 1) R1_2 (fun r hr => by obtain ⟨a0, rfl⟩ := hsR1_2 r hr; simp [cntL, cntP, pI])
        omega
      have cR1_3 : cntR R1_3 ≤ 1048576 := by
        have h1 := cntR_le (B := 1) R1_3 (fun r hr => by obtain ⟨a0, rfl⟩ := hsR1_3 r hr; simp [cntL, cntP, pI])
        omega
      have M1 := mkUndo_ok h1_0 h1_1 R1_2 R1_3 h1_4 h1_5 h1_6 h1_7 h1_8 h1_9 h1_10 shR1_2 shR1_3 k1 (by omega) (by simp only [mkR_cnt]; omega)
      simp only [mkR_cnt] at M1
      obtain ⟨k2, f2⟩ : ∃ z, k1 + (cntR R1_2 : Int) + (cntR R1_3 : Int) = z := ⟨_, rfl⟩
      rw [f2] at M1
      have b2 : 1 ≤ k2 ∧ k2 ≤ 100000000 := by omega
      have dk : decide (k2 < 0) = false := by simp; omega
      have MR0 := mkMachine_ok V0_0 V0_1 V0_2 V0_3 shV0_0 shV0_1 shV0_2 shV0_3 1 (by omega) (by simp only [mkR_cnt]; omega)
      have HR0 := heldMachine_ok V0_0 V0_1 V0_2 V0_3 shV0_0 shV0_1 shV0_2 shV0_3 1 (by omega) (by simp only [mkR_cnt]; omega)
      simp only [mkR_cnt] at MR0 HR0
      obtain ⟨m1, fm1⟩ : ∃ z, 1 + (cntR V0_0 : Int) + (cntR V0_1 : Int) + (cntR V0_2 : Int) + (cntR V0_3 : Int) = z := ⟨_, rfl⟩
      rw [fm1] at MR0 HR0
      have dm1 : decide (m1 < 0) = false := by simp; omega
      try clear hcnt
      refine fn_ok (E := EL) mixedL Try.func4 rfl (by kernel_rfl) _ Try.results4 _ Try.ntmps4 (by simp) (by kernel_rfl) ?_
      simp (maxSteps := 4000000) only [r0, d0, r1, d1, dk, dm1, pI, el_tb, freezeT, plainT, treeU, putT, putL, snapT, snapTs, snapTA, snapTAs, AV.ownArg, AV.ownLeaf, tvs, simprocAttr]
      repeat (first | refine ftS (by kernel_rfl) ?_ | refine And.intro (by omega) ?_)
      refine aopsL_fn (E := EL) (szMachine_ok R0_0 R0_1 R0_2 R0_3 ((1048576 : Int)) ⟨hlR0_0, hsR0_0⟩ ⟨hlR0_1, hsR0_1⟩ ⟨hlR0_2, hsR0_2⟩ ⟨hlR0_3, hsR0_3⟩ (by omega) (by omega)) rfl (hidB rfl) rfl ?_
      simp (maxSteps := 4000000) only [r0, d0, r1, d1, dk, dm1, pI, el_tb, freezeT, plainT, treeU, putT, putL, snapT, snapTs, snapTA, snapTAs, AV.ownArg, AV.ownLeaf, tvs, simprocAttr]
      repeat (first | refine ftS (by kernel_rfl) ?_ | refine And.intro (by omega) ?_)
      refine aopsL_fn (E := EL) (szUndo_ok h1_0 h1_1 R1_2 R1_3 h1_4 h1_5 h1_6 h1_7 h1_8 h1_9 h1_10 ((1048576 : Int) - ((totR R0_0 + R0_1.length + R0_2.length + R0_3.length : Nat) : Int)) ⟨hlR1_2, hsR1_2⟩ ⟨hlR1_3, hsR1_3⟩ (by omega) (by omega)) rfl (hidB rfl) rfl ?_
      simp (maxSteps := 4000000) only [r0, d0, r1, d1, dk, dm1, pI, el_tb, freezeT, plainT, treeU, putT, putL, snapT, snapTs, snapTA, snapTAs, AV.ownArg, AV.ownLeaf, tvs, simprocAttr]
      repeat (first | refine ftS (by kernel_rfl) ?_ | refine And.intro (by omega) ?_)
      refine aopsL_fn (E := EL) (toMachine_ok R0_0 R0_1 R0_2 R0_3 shR0_0 shR0_1 shR0_2 shR0_3) rfl (hidB rfl) rfl ?_
      simp (maxSteps := 4000000) only [r0, d0, r1, d1, dk, dm1, pI, el_tb, freezeT, plainT, treeU, putT, putL, snapT, snapTs, snapTA, snapTAs, AV.ownArg, AV.ownLeaf, tvs, simprocAttr]
      repeat (first | refine ftS (by kernel_rfl) ?_ | refine And.intro (by omega) ?_)
      refine aopsL_fn (E := EL) (toUndo_ok h1_0 h1_1 R1_2 R1_3 h1_4 h1_5 h1_6 h1_7 h1_8 h1_9 h1_10 shR1_2 shR1_3) rfl (hidB rfl) rfl ?_
      simp (maxSteps := 4000000) only [r0, d0, r1, d1, dk, dm1, pI, el_tb, freezeT, plainT, treeU, putT, putL, snapT, snapTs, snapTA, snapTAs, AV.ownArg, AV.ownLeaf, tvs, simprocAttr]
      repeat (first | refine ftS (by kernel_rfl) ?_ | refine And.intro (by omega) ?_)
      refine aopsL_rd (E := EL) (HS) rfl ?_
      simp (maxSteps := 4000000) only [r0, d0, r1, d1, dk, dm1, pI, el_tb, freezeT, plainT, treeU, putT, putL, snapT, snapTs, snapTA, snapTAs, AV.ownArg, AV.ownLeaf, tvs, simprocAttr]
      repeat (first | refine ftS (by kernel_rfl) ?_ | refine And.intro (by omega) ?_)
      refine aopsL_fn (E := EL) (toMachine_ok R0_0 R0_1 R0_2 R0_3 shR0_0 shR0_1 shR0_2 shR0_3) rfl (hidB rfl) rfl ?_
      simp (maxSteps := 4000000) only [r0, d0, r1, d1, dk, dm1, pI, el_tb, freezeT, plainT, treeU, putT, putL, snapT, snapTs, snapTA, snapTAs, AV.ownArg, AV.ownLeaf, tvs, simprocAttr]
      repeat (first | refine ftS (by kernel_rfl) ?_ | refine And.intro (by omega) ?_)
      refine aopsL_fn (E := EL) (toUndo_ok h1_0 h1_1 R1_2 R1_3 h1_4 h1_5 h1_6 h1_7 h1_8 h1_9 h1_10 shR1_2 shR1_3) rfl (hidB rfl) rfl ?_
      simp (maxSteps := 4000000) only [r0, d0, r1, d1, dk, dm1, pI, el_tb, freezeT, plainT, treeU, putT, putL, snapT, snapTs, snapTA, snapTAs, AV.ownArg, AV.ownLeaf, tvs, simprocAttr]
      repeat (first | refine ftS (by kernel_rfl) ?_ | refine And.intro (by omega) ?_)
      refine aopsL_fn (E := EL) (HI) rfl (hidB rfl) rfl ?_
      simp (maxSteps := 4000000) only [r0, d0, r1, d1, dk, dm1, pI, el_tb, freezeT, plainT, treeU, putT, putL, snapT, snapTs, snapTA, snapTAs, AV.ownArg, AV.ownLeaf, tvs, simprocAttr]
      repeat (first | refine ftS (by kernel_rfl) ?_ | refine And.intro (by omega) ?_)
      refine aopsL_fn (E := EL) (eqMachine_ok [.lst 29 V0_0, .lst 3 V0_1, .lst 3 V0_2, .lst 3 V0_3] ⟨V0_0, V0_1, V0_2, V0_3, rfl, shV0_0, shV0_1, shV0_2, shV0_3⟩) rfl (hidB rfl) rfl ?_
      simp (maxSteps := 4000000) only [r0, d0, r1, d1, dk, dm1, pI, el_tb, freezeT, plainT, treeU, putT, putL, snapT, snapTs, snapTA, snapTAs, AV.ownArg, AV.ownLeaf, tvs, simprocAttr]
      repeat (first | refine ftS (by kernel_rfl) ?_ | refine And.intro (by omega) ?_)
      refine aopsL_fn (E := EL) (toMachine_ok R0_0 R0_1 R0_2 R0_3 shR0_0 shR0_1 shR0_2 shR0_3) rfl (hidB rfl) rfl ?_
      simp (maxSteps := 4000000) only [r0, d0, r1, d1, dk, dm1, pI, el_tb, freezeT, plainT, treeU, putT, putL, snapT, snapTs, snapTA, snapTAs, AV.ownArg, AV.ownLeaf, tvs, simprocAttr]
      repeat (first | refine ftS (by kernel_rfl) ?_ | refine And.intro (by omega) ?_)
      refine aopsL_fn (E := EL) (eqMachine_ok [.lst 29 R0_0, .lst 3 R0_1, .lst 3 R0_2, .lst 3 R0_3] ⟨R0_0, R0_1, R0_2, R0_3, rfl, shR0_0, shR0_1, shR0_2, shR0_3⟩) rfl (hidB rfl) rfl ?_
      simp (maxSteps := 4000000) only [r0, d0, r1, d1, dk, dm1, pI, el_tb, freezeT, plainT, treeU, putT, putL, snapT, snapTs, snapTA, snapTAs, AV.ownArg, AV.ownLeaf, tvs, simprocAttr]
      repeat (first | refine ftS (by kernel_rfl) ?_ | refine And.intro (by omega) ?_)
      refine aopsL_fn (E := EL) (toUndo_ok h1_0 h1_1 R1_2 R1_3 h1_4 h1_5 h1_6 h1_7 h1_8 h1_9 h1_10 shR1_2 shR1_3) rfl (hidB rfl) rfl ?_
      simp (maxSteps := 4000000) only [r0, d0, r1, d1, dk, dm1, pI, el_tb, freezeT, plainT, treeU, putT, putL, snapT, snapTs, snapTA, snapTAs, AV.ownArg, AV.ownLeaf, tvs, simprocAttr]
      repeat (first | refine ftS (by kernel_rfl) ?_ | refine And.intro (by omega) ?_)
      refine aopsL_fn (E := EL) (eqUndo_ok [pI h1_0, pI h1_1, .lst 3 R1_2, .lst 3 R1_3, pI h1_4, pI h1_5, pI h1_6, pI h1_7, pI h1_8, .bool h1_9, .bool h1_10] ⟨h1_0, h1_1, R1_2, R1_3, h1_4, h1_5, h1_6, h1_7, h1_8, h1_9, h1_10, rfl, shR1_2, shR1_3⟩) rfl (hidB rfl) rfl ?_
      simp (maxSteps := 4000000) only [r0, d0, r1, d1, dk, dm1, pI, el_tb, freezeT, plainT, treeU, putT, putL, snapT, snapTs, snapTA, snapTAs, AV.ownArg, AV.ownLeaf, tvs, simprocAttr]
      repeat (first | refine ftS (by kernel_rfl) ?_ | refine And.intro (by omega) ?_)
      refine aopsL_mut (E := EL) (M0) rfl ?_
      simp (maxSteps := 4000000) only [r0, d0, r1, d1, dk, dm1, pI, el_tb, freezeT, plainT, treeU, putT, putL, snapT, snapTs, snapTA, snapTAs, AV.ownArg, AV.ownLeaf, tvs, simprocAttr]
      repeat (first | refine ftS (by kernel_rfl) ?_ | refine And.intro (by omega) ?_)
      refine aopsL_mut (E := EL) (M1) rfl ?_
      simp (maxSteps := 4000000) only [r0, d0, r1, d1, dk, dm1, pI, el_tb, freezeT, plainT, treeU, putT, putL, snapT, snapTs, snapTA, snapTAs, AV.ownArg, AV.ownLeaf, tvs, simprocAttr]
      repeat (first | refine ftS (by kernel_rfl) ?_ | refine And.intro (by omega) ?_)
      refine aopsL_fnG (E := EL) (eqMachine_ok [.lst 29 V0_0, .lst 3 V0_1, .lst 3 V0_2, .lst 3 V0_3] ⟨V0_0, V0_1, V0_2, V0_3, rfl, shV0_0, shV0_1, shV0_2, shV0_3⟩) rfl (hidB rfl) rfl rfl (by simp (maxSteps := 4000000) only [r0, d0, r1, d1, dk, dm1, pI, el_tb, freezeT, plainT, treeU, putT, putL, snapT, snapTs, snapTA, snapTAs, AV.ownArg, AV.ownLeaf, tvs, simprocAttr]) ?_
      simp (maxSteps := 4000000) only [r0, d0, r1, d1, dk, dm1, pI, el_tb, freezeT, plainT, treeU, putT, putL, snapT, snapTs, snapTA, snapTAs, AV.ownArg, AV.ownLeaf, tvs, simprocAttr]
      repeat (first | refine ftS (by kernel_rfl) ?_ | refine And.intro (by omega) ?_)
      refine aopsL_mut (E := EL) (MR0) rfl ?_
      simp (maxSteps := 4000000) only [r0, d0, r1, d1, dk, dm1, pI, el_tb, freezeT, plainT, treeU, putT, putL, snapT, snapTs, snapTA, snapTAs, AV.ownArg, AV.ownLeaf, tvs, simprocAttr]
      repeat (first | refine ftS (by kernel_rfl) ?_ | refine And.intro (by omega) ?_)
      refine aopsL_fn (E := EL) (HR0) rfl (hidB rfl) rfl ?_
      simp (maxSteps := 4000000) only [r0, d0, r1, d1, dk, dm1, pI, el_tb, freezeT, plainT, treeU, putT, putL, snapT, snapTs, snapTA, snapTAs, AV.ownArg, AV.ownLeaf, tvs, simprocAttr]
      repeat (first | refine ftS (by kernel_rfl) ?_ | refine And.intro (by omega) ?_)
      refine aopsL_fn (E := EL) (toMachine_ok R0_0 R0_1 R0_2 R0_3 shR0_0 shR0_1 shR0_2 shR0_3) rfl (hidB rfl) rfl ?_
      simp (maxSteps := 4000000) only [r0, d0, r1, d1, dk, dm1, pI, el_tb, freezeT, plainT, treeU, putT, putL, snapT, snapTs, snapTA, snapTAs, AV.ownArg, AV.ownLeaf, tvs, simprocAttr]
      repeat (first | refine ftS (by kernel_rfl) ?_ | refine And.intro (by omega) ?_)
      refine aopsL_fn (E := EL) (toUndo_ok h1_0 h1_1 R1_2 R1_3 h1_4 h1_5 h1_6 h1_7 h1_8 h1_9 h1_10 shR1_2 shR1_3) rfl (hidB rfl) rfl ?_
      simp (maxSteps := 4000000) only [r0, d0, r1, d1, dk, dm1, pI, el_tb, freezeT, plainT, treeU, putT, putL, snapT, snapTs, snapTA, snapTAs, AV.ownArg, AV.ownLeaf, tvs, simprocAttr]
      repeat (first | refine ftS (by kernel_rfl) ?_ | refine And.intro (by omega) ?_)
      refine aopsL_fn (E := EL) (HI) rfl (hidB rfl) rfl ?_
      simp (maxSteps := 4000000) only [r0, d0, r1, d1, dk, dm1, pI, el_tb, freezeT, plainT, treeU, putT, putL, snapT, snapTs, snapTA, snapTAs, AV.ownArg, AV.ownLeaf, tvs, simprocAttr]
      repeat (first | refine ftS (by kernel_rfl) ?_ | refine And.intro (by omega) ?_)
      refine aopsL_fn (E := EL) (eqMachine_ok [.lst 29 V0_0, .lst 3 V0_1, .lst 3 V0_2, .lst 3 V0_3] ⟨V0_0, V0_1, V0_2, V0_3, rfl, shV0_0, shV0_1, shV0_2, shV0_3⟩) rfl (hidB rfl) rfl ?_
      simp (maxSteps := 4000000) only [r0, d0, r1, d1, dk, dm1, pI, el_tb, freezeT, plainT, treeU, putT, putL, snapT, snapTs, snapTA, snapTAs, AV.ownArg, AV.ownLeaf, tvs, simprocAttr]
      repeat (first | refine ftS (by kernel_rfl) ?_ | refine And.intro (by omega) ?_)
      refine aopsL_fn (E := EL) (HR0) rfl (hidB rfl) rfl ?_
      simp (maxSteps := 4000000) only [r0, d0, r1, d1, dk, dm1, pI, el_tb, freezeT, plainT, treeU, putT, putL, snapT, snapTs, snapTA, snapTAs, AV.ownArg, AV.ownLeaf, tvs, simprocAttr]
      repeat (first | refine ftS (by kernel_rfl) ?_ | refine And.intro (by omega) ?_)
      all_goals (first | rfl | trivial | skip)
end Av
end Go.Proofs.Ytdjenlnomibniaa
