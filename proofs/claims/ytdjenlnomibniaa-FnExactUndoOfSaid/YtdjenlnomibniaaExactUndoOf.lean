/-
  The exact law of UndoOf.
-/
import Derived.Test.YtdjenlnomibniaaTyP
import Derived.Test.YtdjenlnomibniaaTyH
import Derived.Test.YtdjenlnomibniaaTyQ
set_option linter.unusedSimpArgs false
set_option linter.unusedVariables false
namespace Go.Proofs.Ytdjenlnomibniaa
open Go.RowKit
namespace Av
/-- what both packages answer -/
def exactUndoOf_both (R0_0 : List (List PV)) (h0_1 : Int) (R1_0 : List (List PV)) (R1_1 : List (List PV)) (R1_2 : List (List PV)) (R1_3 : List (List PV)) (n2_0 n2_1 n2_2 : Int) : Prop := ∃ (v0_0 : Int) (v0_1 : Int) (V0_2 : List (List PV)) (V0_3 : List (List PV)) (v0_4 : Int) (v0_5 : Int) (v0_6 : Int) (v0_7 : Int) (v0_8 : Int) (v0_9 : Bool) (v0_10 : Bool) (v1 : Bool), FnOk E.P 50 [.agg [.lst 153 R0_0, pI h0_1], .agg [.lst 29 R1_0, .lst 3 R1_1, .lst 3 R1_2, .lst 3 R1_3], .agg [pI n2_0, pI n2_1, pI n2_2]] (.tup [.agg [pI v0_0, pI v0_1, .lst 3 V0_2, .lst 3 V0_3, pI v0_4, pI v0_5, pI v0_6, pI v0_7, pI v0_8, .bool v0_9, .bool v0_10], .bool v1]) false ∧ FnOk E.P 52 [.agg [.lst 153 R0_0, pI h0_1], .agg [.lst 29 R1_0, .lst 3 R1_1, .lst 3 R1_2, .lst 3 R1_3], .agg [pI n2_0, pI n2_1, pI n2_2]] (.tup [.agg [pI v0_0, pI v0_1, .lst 3 V0_2, .lst 3 V0_3, pI v0_4, pI v0_5, pI v0_6, pI v0_7, pI v0_8, .bool v0_9, .bool v0_10], .bool v1]) true ∧ ShIntS V0_2 ∧ ShIntS V0_3 ∧ cntR V0_2 + cntR V0_3 ≤ 1152921504606846976
set_option maxRecDepth 100000 in
set_option maxHeartbeats 40000000 in
theorem exactUndoOf_law (R0_0 : List (List PV)) (h0_1 : Int) (R1_0 : List (List PV)) (R1_1 : List (List PV)) (R1_2 : List (List PV)) (R1_3 : List (List PV)) (n2_0 n2_1 n2_2 : Int) (hlR0_0 : R0_0.length ≤ 9223372036854775807) (hsR0_0 : ∀ r ∈ R0_0, ShCode r) (hlR1_0 : R1_0.length ≤ 9223372036854775807) (hsR1_0 : ∀ r ∈ R1_0, LoThread r) (hlR1_1 : R1_1.length ≤ 9223372036854775807) (hsR1_1 : ∀ r ∈ R1_1, ShInt r) (hlR1_2 : R1_2.length ≤ 9223372036854775807) (hsR1_2 : ∀ r ∈ R1_2, ShInt r) (hlR1_3 : R1_3.length ≤ 9223372036854775807) (hsR1_3 : ∀ r ∈ R1_3, ShInt r)
    (H : R0_0.length + totR R1_0 + R1_1.length + R1_2.length + R1_3.length ≤ 1048576 → exactUndoOf_both R0_0 h0_1 R1_0 R1_1 R1_2 R1_3 n2_0 n2_1 n2_2) : FnOk E.P 9 [.agg [.lst 168 R0_0, pI h0_1], .agg [.lst 24 R1_0, .lst 3 R1_1, .lst 3 R1_2, .lst 3 R1_3], .agg [pI n2_0, pI n2_1, pI n2_2]] (.bool true) true := by
  by_cases g0 : ((1048576 : Int) : Int) < R0_0.length
  · have r0 : restI ((1048576 : Int)) R0_0.length = -1 := if_pos g0
    refine fn_ok (E := EL) mixedL Try.func9 rfl (by kernel_rfl) _ Try.results9 _ Try.ntmps9 (by simp) (by kernel_rfl) ?_
    simp (maxSteps := 4000000) only [r0, pI, el_tb, freezeT, plainT, treeU, putT, putL, snapT, snapTs, snapTA, snapTAs, AV.ownArg, AV.ownLeaf, tvs, simprocAttr]
    repeat (first | refine ftS (by kernel_rfl) ?_ | refine And.intro (by omega) ?_)
    refine aopsL_fn (E := EL) (szProgram_ok R0_0 h0_1 ((1048576 : Int)) hlR0_0 (by omega) (by omega)) rfl (hidB rfl) rfl ?_
    simp (maxSteps := 4000000) only [r0, pI, el_tb, freezeT, plainT, treeU, putT, putL, snapT, snapTs, snapTA, snapTAs, AV.ownArg, AV.ownLeaf, tvs, simprocAttr]
    repeat (first | refine ftS (by kernel_rfl) ?_ | refine And.intro (by omega) ?_)
    all_goals (first | rfl | trivial | skip)
  · have r0 : restI ((1048576 : Int)) R0_0.length = (1048576 : Int) - R0_0.length := if_neg g0
    have d0 : decide ((1048576 : Int) - R0_0.length < 0) = false := by simp only [decide_eq_false_iff_not]; omega
    by_cases g1 : ((1048576 : Int) - R0_0.length : Int) < ((totR R1_0 + R1_1.length + R1_2.length + R1_3.length : Nat) : Int)
    · have r1 : restI ((1048576 : Int) - R0_0.length) (totR R1_0 + R1_1.length + R1_2.length + R1_3.length) = -1 := if_pos g1
      refine fn_ok (E := EL) mixedL Try.func9 rfl (by kernel_rfl) _ Try.results9 _ Try.ntmps9 (by simp) (by kernel_rfl) ?_
      simp (maxSteps := 4000000) only [r0, d0, r1, pI, el_tb, freezeT, plainT, treeU, putT, putL, snapT, snapTs, snapTA, snapTAs, AV.ownArg, AV.ownLeaf, tvs, simprocAttr]
      repeat (first | refine ftS (by kernel_rfl) ?_ | refine And.intro (by omega) ?_)
      refine aopsL_fn (E := EL) (szProgram_ok R0_0 h0_1 ((1048576 : Int)) hlR0_0 (by omega) (by omega)) rfl (hidB rfl) rfl ?_
      simp (maxSteps := 4000000) only [r0, d0, r1, pI, el_tb, freezeT, plainT, treeU, putT, putL, snapT, snapTs, snapTA, snapTAs, AV.ownArg, AV.ownLeaf, tvs, simprocAttr]
      repeat (first | refine ftS (by kernel_rfl) ?_ | refine And.intro (by omega) ?_)
      refine aopsL_fn (E := EL) (szMachine_ok R1_0 R1_1 R1_2 R1_3 ((1048576 : Int) - R0_0.length) ⟨hlR1_0, hsR1_0⟩ ⟨hlR1_1, hsR1_1⟩ ⟨hlR1_2, hsR1_2⟩ ⟨hlR1_3, hsR1_3⟩ (by omega) (by omega)) rfl (hidB rfl) rfl ?_
      simp (maxSteps := 4000000) only [r0, d0, r1, pI, el_tb, freezeT, plainT, treeU, putT, putL, snapT, snapTs, snapTA, snapTAs, AV.ownArg, AV.ownLeaf, tvs, simprocAttr]
      repeat (first | refine ftS (by kernel_rfl) ?_ | refine And.intro (by omega) ?_)
      all_goals (first | rfl | trivial | skip)
    · have r1 : restI ((1048576 : Int) - R0_0.length) (totR R1_0 + R1_1.length + R1_2.length + R1_3.length) = (1048576 : Int) - R0_0.length - ((totR R1_0 + R1_1.length + R1_2.length + R1_3.length : Nat) : Int) := if_neg g1
      have d1 : decide ((1048576 : Int) - R0_0.length - ((totR R1_0 + R1_1.length + R1_2.length + R1_3.length : Nat) : Int) < 0) = false := by simp only [decide_eq_false_iff_not]; omega
      have shR0_0 : ShCodeS R0_0 := ⟨by omega, hsR0_0⟩
      have shR1_0 : ShThreadS R1_0 := LoThreadS.sh ⟨hlR1_0, hsR1_0⟩ (by omega)
      have shR1_1 : ShIntS R1_1 := ⟨by omega, hsR1_1⟩
      have shR1_2 : ShIntS R1_2 := ⟨by omega, hsR1_2⟩
      have shR1_3 : ShIntS R1_3 := ⟨by omega, hsR1_3⟩
      obtain ⟨v0_0, v0_1, V0_2, V0_3, v0_4, v0_5, v0_6, v0_7, v0_8, v0_9, v0_10, v1, HS, HI, shV0_2, shV0_3, hcnt⟩ := H (by omega)
      have cR0_0 : cntR R0_0 ≤ 4194304 := by
        have h1 := cntR_le (B := 4) R0_0 (fun r hr => by obtain ⟨a0, a1, a2, a3, rfl⟩ := hsR0_0 r hr; simp [cntL, cntP, pI])
        omega
      have M0 := mkProgram_ok R0_0 h0_1 shR0_0 1 (by omega) (by simp only [mkR_cnt]; omega)
      simp only [mkR_cnt] at M0
      obtain ⟨k1, f1⟩ : ∃ z, 1 + (cntR R0_0 : Int) = z := ⟨_, rfl⟩
      rw [f1] at M0
      have b1 : 1 ≤ k1 ∧ k1 ≤ 100000000 := by omega
      have cR1_0 : cntR R1_0 ≤ 2097152 := by
        have h1 := cnt_ThreadS hsR1_0
        omega
      have cR1_1 : cntR R1_1 ≤ 1048576 := by
        have h1 := cntR_le (B := 1) R1_1 (fun r hr => by obtain ⟨a0, rfl⟩ := hsR1_1 r hr; simp [cntL, cntP, pI])
        omega
      have cR1_2 : cntR R1_2 ≤ 1048576 := by
        have h1 := cntR_le (B := 1) R1_2 (fun r hr => by obtain ⟨a0, rfl⟩ := hsR1_2 r hr; simp [cntL, cntP, pI])
        omega
      have cR1_3 : cntR R1_3 ≤ 1048576 := by
        have h1 := cntR_le (B := 1) R1_3 (fun r hr => by obtain ⟨a0, rfl⟩ := hsR1_3 r hr; simp [cntL, cntP, pI])
        omega
      have M1 := mkMachine_ok R1_0 R1_1 R1_2 R1_3 shR1_0 shR1_1 shR1_2 shR1_3 k1 (by omega) (by simp only [mkR_cnt]; omega)
      simp only [mkR_cnt] at M1
      obtain ⟨k2, f2⟩ : ∃ z, k1 + (cntR R1_0 : Int) + (cntR R1_1 : Int) + (cntR R1_2 : Int) + (cntR R1_3 : Int) = z := ⟨_, rfl⟩
      rw [f2] at M1
      have b2 : 1 ≤ k2 ∧ k2 ≤ 100000000 := by omega
      have dk : decide (k2 < 0) = false := by simp; omega
      have MR0 := mkUndo_ok v0_0 v0_1 V0_2 V0_3 v0_4 v0_5 v0_6 v0_7 v0_8 v0_9 v0_10 shV0_2 shV0_3 1 (by omega) (by simp only [mkR_cnt]; omega)
      have HR0 := heldUndo_ok v0_0 v0_1 V0_2 V0_3 v0_4 v0_5 v0_6 v0_7 v0_8 v0_9 v0_10 shV0_2 shV0_3 1 (by omega) (by simp only [mkR_cnt]; omega)
      simp only [mkR_cnt] at MR0 HR0
      obtain ⟨m1, fm1⟩ : ∃ z, 1 + (cntR V0_2 : Int) + (cntR V0_3 : Int) = z := ⟨_, rfl⟩
      rw [fm1] at MR0 HR0
      have dm1 : decide (m1 < 0) = false := by simp; omega
      try clear hcnt
      refine fn_ok (E := EL) mixedL Try.func9 rfl (by kernel_rfl) _ Try.results9 _ Try.ntmps9 (by simp) (by kernel_rfl) ?_
      simp (maxSteps := 4000000) only [r0, d0, r1, d1, dk, dm1, pI, el_tb, freezeT, plainT, treeU, putT, putL, snapT, snapTs, snapTA, snapTAs, AV.ownArg, AV.ownLeaf, tvs, simprocAttr]
      repeat (first | refine ftS (by kernel_rfl) ?_ | refine And.intro (by omega) ?_)
      refine aopsL_fn (E := EL) (szProgram_ok R0_0 h0_1 ((1048576 : Int)) hlR0_0 (by omega) (by omega)) rfl (hidB rfl) rfl ?_
      simp (maxSteps := 4000000) only [r0, d0, r1, d1, dk, dm1, pI, el_tb, freezeT, plainT, treeU, putT, putL, snapT, snapTs, snapTA, snapTAs, AV.ownArg, AV.ownLeaf, tvs, simprocAttr]
      repeat (first | refine ftS (by kernel_rfl) ?_ | refine And.intro (by omega) ?_)
      refine aopsL_fn (E := EL) (szMachine_ok R1_0 R1_1 R1_2 R1_3 ((1048576 : Int) - R0_0.length) ⟨hlR1_0, hsR1_0⟩ ⟨hlR1_1, hsR1_1⟩ ⟨hlR1_2, hsR1_2⟩ ⟨hlR1_3, hsR1_3⟩ (by omega) (by omega)) rfl (hidB rfl) rfl ?_
      simp (maxSteps := 4000000) only [r0, d0, r1, d1, dk, dm1, pI, el_tb, freezeT, plainT, treeU, putT, putL, snapT, snapTs, snapTA, snapTAs, AV.ownArg, AV.ownLeaf, tvs, simprocAttr]
      repeat (first | refine ftS (by kernel_rfl) ?_ | refine And.intro (by omega) ?_)
      refine aopsL_fn (E := EL) (toProgram_ok R0_0 h0_1 shR0_0) rfl (hidB rfl) rfl ?_
      simp (maxSteps := 4000000) only [r0, d0, r1, d1, dk, dm1, pI, el_tb, freezeT, plainT, treeU, putT, putL, snapT, snapTs, snapTA, snapTAs, AV.ownArg, AV.ownLeaf, tvs, simprocAttr]
      repeat (first | refine ftS (by kernel_rfl) ?_ | refine And.intro (by omega) ?_)
      refine aopsL_fn (E := EL) (toMachine_ok R1_0 R1_1 R1_2 R1_3 shR1_0 shR1_1 shR1_2 shR1_3) rfl (hidB rfl) rfl ?_
      simp (maxSteps := 4000000) only [r0, d0, r1, d1, dk, dm1, pI, el_tb, freezeT, plainT, treeU, putT, putL, snapT, snapTs, snapTA, snapTAs, AV.ownArg, AV.ownLeaf, tvs, simprocAttr]
      repeat (first | refine ftS (by kernel_rfl) ?_ | refine And.intro (by omega) ?_)
      refine aopsL_fn (E := EL) (toChoice_ok n2_0 n2_1 n2_2) rfl (hidB rfl) rfl ?_
      simp (maxSteps := 4000000) only [r0, d0, r1, d1, dk, dm1, pI, el_tb, freezeT, plainT, treeU, putT, putL, snapT, snapTs, snapTA, snapTAs, AV.ownArg, AV.ownLeaf, tvs, simprocAttr]
      repeat (first | refine ftS (by kernel_rfl) ?_ | refine And.intro (by omega) ?_)
      refine aopsL_rd (E := EL) (HS) rfl ?_
      simp (maxSteps := 4000000) only [r0, d0, r1, d1, dk, dm1, pI, el_tb, freezeT, plainT, treeU, putT, putL, snapT, snapTs, snapTA, snapTAs, AV.ownArg, AV.ownLeaf, tvs, simprocAttr]
      repeat (first | refine ftS (by kernel_rfl) ?_ | refine And.intro (by omega) ?_)
      refine aopsL_fn (E := EL) (toProgram_ok R0_0 h0_1 shR0_0) rfl (hidB rfl) rfl ?_
      simp (maxSteps := 4000000) only [r0, d0, r1, d1, dk, dm1, pI, el_tb, freezeT, plainT, treeU, putT, putL, snapT, snapTs, snapTA, snapTAs, AV.ownArg, AV.ownLeaf, tvs, simprocAttr]
      repeat (first | refine ftS (by kernel_rfl) ?_ | refine And.intro (by omega) ?_)
      refine aopsL_fn (E := EL) (toMachine_ok R1_0 R1_1 R1_2 R1_3 shR1_0 shR1_1 shR1_2 shR1_3) rfl (hidB rfl) rfl ?_
      simp (maxSteps := 4000000) only [r0, d0, r1, d1, dk, dm1, pI, el_tb, freezeT, plainT, treeU, putT, putL, snapT, snapTs, snapTA, snapTAs, AV.ownArg, AV.ownLeaf, tvs, simprocAttr]
      repeat (first | refine ftS (by kernel_rfl) ?_ | refine And.intro (by omega) ?_)
      refine aopsL_fn (E := EL) (toChoice_ok n2_0 n2_1 n2_2) rfl (hidB rfl) rfl ?_
      simp (maxSteps := 4000000) only [r0, d0, r1, d1, dk, dm1, pI, el_tb, freezeT, plainT, treeU, putT, putL, snapT, snapTs, snapTA, snapTAs, AV.ownArg, AV.ownLeaf, tvs, simprocAttr]
      repeat (first | refine ftS (by kernel_rfl) ?_ | refine And.intro (by omega) ?_)
      refine aopsL_fn (E := EL) (HI) rfl (hidB rfl) rfl ?_
      simp (maxSteps := 4000000) only [r0, d0, r1, d1, dk, dm1, pI, el_tb, freezeT, plainT, treeU, putT, putL, snapT, snapTs, snapTA, snapTAs, AV.ownArg, AV.ownLeaf, tvs, simprocAttr]
      repeat (first | refine ftS (by kernel_rfl) ?_ | refine And.intro (by omega) ?_)
      refine aopsL_fn (E := EL) (eqUndo_ok [pI v0_0, pI v0_1, .lst 3 V0_2, .lst 3 V0_3, pI v0_4, pI v0_5, pI v0_6, pI v0_7, pI v0_8, .bool v0_9, .bool v0_10] ⟨v0_0, v0_1, V0_2, V0_3, v0_4, v0_5, v0_6, v0_7, v0_8, v0_9, v0_10, rfl, shV0_2, shV0_3⟩) rfl (hidB rfl) rfl ?_
      simp (maxSteps := 4000000) only [r0, d0, r1, d1, dk, dm1, pI, el_tb, freezeT, plainT, treeU, putT, putL, snapT, snapTs, snapTA, snapTAs, AV.ownArg, AV.ownLeaf, tvs, simprocAttr]
      repeat (first | refine ftS (by kernel_rfl) ?_ | refine And.intro (by omega) ?_)
      refine aopsL_fn (E := EL) (toProgram_ok R0_0 h0_1 shR0_0) rfl (hidB rfl) rfl ?_
      simp (maxSteps := 4000000) only [r0, d0, r1, d1, dk, dm1, pI, el_tb, freezeT, plainT, treeU, putT, putL, snapT, snapTs, snapTA, snapTAs, AV.ownArg, AV.ownLeaf, tvs, simprocAttr]
      repeat (first | refine ftS (by kernel_rfl) ?_ | refine And.intro (by omega) ?_)
      refine aopsL_fn (E := EL) (eqProgram_ok [.lst 153 R0_0, pI h0_1] ⟨R0_0, h0_1, rfl, shR0_0⟩) rfl (hidB rfl) rfl ?_
      simp (maxSteps := 4000000) only [r0, d0, r1, d1, dk, dm1, pI, el_tb, freezeT, plainT, treeU, putT, putL, snapT, snapTs, snapTA, snapTAs, AV.ownArg, AV.ownLeaf, tvs, simprocAttr]
      repeat (first | refine ftS (by kernel_rfl) ?_ | refine And.intro (by omega) ?_)
      refine aopsL_fn (E := EL) (toMachine_ok R1_0 R1_1 R1_2 R1_3 shR1_0 shR1_1 shR1_2 shR1_3) rfl (hidB rfl) rfl ?_
      simp (maxSteps := 4000000) only [r0, d0, r1, d1, dk, dm1, pI, el_tb, freezeT, plainT, treeU, putT, putL, snapT, snapTs, snapTA, snapTAs, AV.ownArg, AV.ownLeaf, tvs, simprocAttr]
      repeat (first | refine ftS (by kernel_rfl) ?_ | refine And.intro (by omega) ?_)
      refine aopsL_fn (E := EL) (eqMachine_ok [.lst 29 R1_0, .lst 3 R1_1, .lst 3 R1_2, .lst 3 R1_3] ⟨R1_0, R1_1, R1_2, R1_3, rfl, shR1_0, shR1_1, shR1_2, shR1_3⟩) rfl (hidB rfl) rfl ?_
      simp (maxSteps := 4000000) only [r0, d0, r1, d1, dk, dm1, pI, el_tb, freezeT, plainT, treeU, putT, putL, snapT, snapTs, snapTA, snapTAs, AV.ownArg, AV.ownLeaf, tvs, simprocAttr]
      repeat (first | refine ftS (by kernel_rfl) ?_ | refine And.intro (by omega) ?_)
      refine aopsL_mut (E := EL) (M0) rfl ?_
      simp (maxSteps := 4000000) only [r0, d0, r1, d1, dk, dm1, pI, el_tb, freezeT, plainT, treeU, putT, putL, snapT, snapTs, snapTA, snapTAs, AV.ownArg, AV.ownLeaf, tvs, simprocAttr]
      repeat (first | refine ftS (by kernel_rfl) ?_ | refine And.intro (by omega) ?_)
      refine aopsL_mut (E := EL) (M1) rfl ?_
      simp (maxSteps := 4000000) only [r0, d0, r1, d1, dk, dm1, pI, el_tb, freezeT, plainT, treeU, putT, putL, snapT, snapTs, snapTA, snapTAs, AV.ownArg, AV.ownLeaf, tvs, simprocAttr]
      repeat (first | refine ftS (by kernel_rfl) ?_ | refine And.intro (by omega) ?_)
      refine aopsL_fnG (E := EL) (eqUndo_ok [pI v0_0, pI v0_1, .lst 3 V0_2, .lst 3 V0_3, pI v0_4, pI v0_5, pI v0_6, pI v0_7, pI v0_8, .bool v0_9, .bool v0_10] ⟨v0_0, v0_1, V0_2, V0_3, v0_4, v0_5, v0_6, v0_7, v0_8, v0_9, v0_10, rfl, shV0_2, shV0_3⟩) rfl (hidB rfl) rfl rfl (by simp (maxSteps := 4000000) only [r0, d0, r1, d1, dk, dm1, pI, el_tb, freezeT, plainT, treeU, putT, putL, snapT, snapTs, snapTA, snapTAs, AV.ownArg, AV.ownLeaf, tvs, simprocAttr]) ?_
      simp (maxSteps := 4000000) only [r0, d0, r1, d1, dk, dm1, pI, el_tb, freezeT, plainT, treeU, putT, putL, snapT, snapTs, snapTA, snapTAs, AV.ownArg, AV.ownLeaf, tvs, simprocAttr]
      repeat (first | refine ftS (by kernel_rfl) ?_ | refine And.intro (by omega) ?_)
      refine aopsL_mut (E := EL) (MR0) rfl ?_
      simp (maxSteps := 4000000) only [r0, d0, r1, d1, dk, dm1, pI, el_tb, freezeT, plainT, treeU, putT, putL, snapT, snapTs, snapTA, snapTAs, AV.ownArg, AV.ownLeaf, tvs, simprocAttr]
      repeat (first | refine ftS (by kernel_rfl) ?_ | refine And.intro (by omega) ?_)
      refine aopsL_fn (E := EL) (HR0) rfl (hidB rfl) rfl ?_
      simp (maxSteps := 4000000) only [r0, d0, r1, d1, dk, dm1, pI, el_tb, freezeT, plainT, treeU, putT, putL, snapT, snapTs, snapTA, snapTAs, AV.ownArg, AV.ownLeaf, tvs, simprocAttr]
      repeat (first | refine ftS (by kernel_rfl) ?_ | refine And.intro (by omega) ?_)
      refine aopsL_fn (E := EL) (toProgram_ok R0_0 h0_1 shR0_0) rfl (hidB rfl) rfl ?_
      simp (maxSteps := 4000000) only [r0, d0, r1, d1, dk, dm1, pI, el_tb, freezeT, plainT, treeU, putT, putL, snapT, snapTs, snapTA, snapTAs, AV.ownArg, AV.ownLeaf, tvs, simprocAttr]
      repeat (first | refine ftS (by kernel_rfl) ?_ | refine And.intro (by omega) ?_)
      refine aopsL_fn (E := EL) (toMachine_ok R1_0 R1_1 R1_2 R1_3 shR1_0 shR1_1 shR1_2 shR1_3) rfl (hidB rfl) rfl ?_
      simp (maxSteps := 4000000) only [r0, d0, r1, d1, dk, dm1, pI, el_tb, freezeT, plainT, treeU, putT, putL, snapT, snapTs, snapTA, snapTAs, AV.ownArg, AV.ownLeaf, tvs, simprocAttr]
      repeat (first | refine ftS (by kernel_rfl) ?_ | refine And.intro (by omega) ?_)
      refine aopsL_fn (E := EL) (toChoice_ok n2_0 n2_1 n2_2) rfl (hidB rfl) rfl ?_
      simp (maxSteps := 4000000) only [r0, d0, r1, d1, dk, dm1, pI, el_tb, freezeT, plainT, treeU, putT, putL, snapT, snapTs, snapTA, snapTAs, AV.ownArg, AV.ownLeaf, tvs, simprocAttr]
      repeat (first | refine ftS (by kernel_rfl) ?_ | refine And.intro (by omega) ?_)
      refine aopsL_fn (E := EL) (HI) rfl (hidB rfl) rfl ?_
      simp (maxSteps := 4000000) only [r0, d0, r1, d1, dk, dm1, pI, el_tb, freezeT, plainT, treeU, putT, putL, snapT, snapTs, snapTA, snapTAs, AV.ownArg, AV.ownLeaf, tvs, simprocAttr]
      repeat (first | refine ftS (by kernel_rfl) ?_ | refine And.intro (by omega) ?_)
      refine aopsL_fn (E := EL) (eqUndo_ok [pI v0_0, pI v0_1, .lst 3 V0_2, .lst 3 V0_3, pI v0_4, pI v0_5, pI v0_6, pI v0_7, pI v0_8, .bool v0_9, .bool v0_10] ⟨v0_0, v0_1, V0_2, V0_3, v0_4, v0_5, v0_6, v0_7, v0_8, v0_9, v0_10, rfl, shV0_2, shV0_3⟩) rfl (hidB rfl) rfl ?_
      simp (maxSteps := 4000000) only [r0, d0, r1, d1, dk, dm1, pI, el_tb, freezeT, plainT, treeU, putT, putL, snapT, snapTs, snapTA, snapTAs, AV.ownArg, AV.ownLeaf, tvs, simprocAttr]
      repeat (first | refine ftS (by kernel_rfl) ?_ | refine And.intro (by omega) ?_)
      refine aopsL_fn (E := EL) (HR0) rfl (hidB rfl) rfl ?_
      simp (maxSteps := 4000000) only [r0, d0, r1, d1, dk, dm1, pI, el_tb, freezeT, plainT, treeU, putT, putL, snapT, snapTs, snapTA, snapTAs, AV.ownArg, AV.ownLeaf, tvs, simprocAttr]
      repeat (first | refine ftS (by kernel_rfl) ?_ | refine And.intro (by omega) ?_)
      all_goals (first | rfl | trivial | skip)
end Av
end Go.Proofs.Ytdjenlnomibniaa
