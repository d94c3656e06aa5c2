/-
  The exact law of ReadTape.
-/
import Derived.Test.YtemogjmghgfdfaaTyE
import Derived.Test.YtemogjmghgfdfaaTyH
import Derived.Test.YtemogjmghgfdfaaTyT
set_option linter.unusedSimpArgs false
set_option linter.unusedVariables false
namespace Go.Proofs.Ytemogjmghgfdfaa
open Go.RowKit
namespace Av
/-- what both packages answer -/
def exactReadTape_both (R0_0 : List (List PV)) (h0_1 : Int) (s1 : ByteArray) : Prop := ∃ (V0 : List (List PV)), FnOk E.P 37 [.agg [.lst 143 R0_0, pI h0_1], .str s1] (.lst 98 V0) false ∧ FnOk E.P 38 [.agg [.lst 143 R0_0, pI h0_1], .str s1] (.lst 98 V0) true ∧ ShChoiceS V0 ∧ cntR V0 ≤ 1152921504606846976
set_option maxRecDepth 100000 in
set_option maxHeartbeats 40000000 in
theorem exactReadTape_law (R0_0 : List (List PV)) (h0_1 : Int) (s1 : ByteArray) (hlR0_0 : R0_0.length ≤ 9223372036854775807) (hsR0_0 : ∀ r ∈ R0_0, ShCode r)
    (H : s1.size ≤ 1048576 → R0_0.length ≤ 1048576 → exactReadTape_both R0_0 h0_1 s1) : FnOk E.P 8 [.agg [.lst 146 R0_0, pI h0_1], .str s1] (.bool true) true := by
  by_cases c_s1 : (s1.size : Int) > 1048576
  · have d_s1 : decide ((s1.size : Int) > 1048576) = true := by rw [decide_eq_true_eq]; omega
    refine fn_ok (E := EL) mixedL Try.func8 rfl (by kernel_rfl) _ Try.results8 _ Try.ntmps8 (by simp) (by kernel_rfl) ?_
    simp (maxSteps := 4000000) only [d_s1, pI, el_tb, freezeT, plainT, treeU, putT, putL, snapT, snapTs, snapTA, snapTAs, AV.ownArg, AV.ownLeaf, vcs, simprocAttr, tbs]
    repeat (first | refine ftS (by kernel_rfl) ?_ | refine And.intro (by omega) ?_)
    all_goals (first | rfl | trivial | skip)
  · have d_s1 : decide ((s1.size : Int) > 1048576) = false := by rw [decide_eq_false_iff_not]; omega
    by_cases g0 : ((1048576 : Int) : Int) < R0_0.length
    · have r0 : restI ((1048576 : Int)) R0_0.length = -1 := if_pos g0
      refine fn_ok (E := EL) mixedL Try.func8 rfl (by kernel_rfl) _ Try.results8 _ Try.ntmps8 (by simp) (by kernel_rfl) ?_
      simp (maxSteps := 4000000) only [d_s1, r0, pI, el_tb, freezeT, plainT, treeU, putT, putL, snapT, snapTs, snapTA, snapTAs, AV.ownArg, AV.ownLeaf, vcs, simprocAttr, tbs]
      repeat (first | refine ftS (by kernel_rfl) ?_ | refine And.intro (by omega) ?_)
      refine aopsL_fn (E := EL) (szProgram_ok R0_0 h0_1 ((1048576 : Int)) hlR0_0 (by omega) (by omega)) rfl (by first | exact Nat.le_add_right _ _ | (simp only [introT, intro1, introL, intros, pI]; omega)) rfl ?_
      simp (maxSteps := 4000000) only [d_s1, r0, pI, el_tb, freezeT, plainT, treeU, putT, putL, snapT, snapTs, snapTA, snapTAs, AV.ownArg, AV.ownLeaf, vcs, simprocAttr, tbs]
      repeat (first | refine ftS (by kernel_rfl) ?_ | refine And.intro (by omega) ?_)
      all_goals (first | rfl | trivial | skip)
    · have r0 : restI ((1048576 : Int)) R0_0.length = (1048576 : Int) - R0_0.length := if_neg g0
      have d0 : decide ((1048576 : Int) - R0_0.length < 0) = false := by simp; omega
      have shR0_0 : ShCodeS R0_0 := ⟨by omega, hsR0_0⟩
      obtain ⟨V0, HS, HI, shV0, hcnt⟩ := H (by omega) (by omega)
      have cR0_0 : cntR R0_0 ≤ 4194304 := by
        have h1 := cntR_le (B := 4) R0_0 (fun r hr => by obtain ⟨a0, a1, a2, a3, rfl⟩ := hsR0_0 r hr; simp [cntL, cntP, pI])
        omega
      have M0 := mkProgram_ok R0_0 h0_1 shR0_0 1 (by omega) (by simp only [mkR_cnt]; omega)
      simp only [mkR_cnt] at M0
      obtain ⟨k1, f1⟩ : ∃ z, 1 + (cntR R0_0 : Int) = z := ⟨_, rfl⟩
      rw [f1] at M0
      have b1 : 1 ≤ k1 ∧ k1 ≤ 100000000 := by omega
      have dk : decide (k1 < 0) = false := by simp; omega
      have MR0 := mkChoiceS_ok V0 shV0 1 (by omega) (by simp only [mkR_cnt]; omega)
      have HR0 := heldChoiceS_ok V0 shV0 1 (by omega) (by simp only [mkR_cnt]; omega)
      simp only [mkR_cnt] at MR0 HR0
      obtain ⟨m1, fm1⟩ : ∃ z, 1 + (cntR V0 : Int) = z := ⟨_, rfl⟩
      rw [fm1] at MR0 HR0
      have dm1 : decide (m1 < 0) = false := by simp; omega
      try clear hcnt
      refine fn_ok (E := EL) mixedL Try.func8 rfl (by kernel_rfl) _ Try.results8 _ Try.ntmps8 (by simp) (by kernel_rfl) ?_
      simp (maxSteps := 4000000) only [d_s1, r0, d0, dk, dm1, pI, el_tb, freezeT, plainT, treeU, putT, putL, snapT, snapTs, snapTA, snapTAs, AV.ownArg, AV.ownLeaf, vcs, simprocAttr, tbs]
      repeat (first | refine ftS (by kernel_rfl) ?_ | refine And.intro (by omega) ?_)
      refine aopsL_fn (E := EL) (szProgram_ok R0_0 h0_1 ((1048576 : Int)) hlR0_0 (by omega) (by omega)) rfl (by first | exact Nat.le_add_right _ _ | (simp only [introT, intro1, introL, intros, pI]; omega)) rfl ?_
      simp (maxSteps := 4000000) only [d_s1, r0, d0, dk, dm1, pI, el_tb, freezeT, plainT, treeU, putT, putL, snapT, snapTs, snapTA, snapTAs, AV.ownArg, AV.ownLeaf, vcs, simprocAttr, tbs]
      repeat (first | refine ftS (by kernel_rfl) ?_ | refine And.intro (by omega) ?_)
      refine aopsL_fn (E := EL) (toProgram_ok R0_0 h0_1 shR0_0) rfl (by first | exact Nat.le_add_right _ _ | (simp only [introT, intro1, introL, intros, pI]; omega)) rfl ?_
      simp (maxSteps := 4000000) only [d_s1, r0, d0, dk, dm1, pI, el_tb, freezeT, plainT, treeU, putT, putL, snapT, snapTs, snapTA, snapTAs, AV.ownArg, AV.ownLeaf, vcs, simprocAttr, tbs]
      repeat (first | refine ftS (by kernel_rfl) ?_ | refine And.intro (by omega) ?_)
      refine aopsL_rd (E := EL) (HS) rfl ?_
      simp (maxSteps := 4000000) only [d_s1, r0, d0, dk, dm1, pI, el_tb, freezeT, plainT, treeU, putT, putL, snapT, snapTs, snapTA, snapTAs, AV.ownArg, AV.ownLeaf, vcs, simprocAttr, tbs]
      repeat (first | refine ftS (by kernel_rfl) ?_ | refine And.intro (by omega) ?_)
      refine aopsL_fn (E := EL) (toProgram_ok R0_0 h0_1 shR0_0) rfl (by first | exact Nat.le_add_right _ _ | (simp only [introT, intro1, introL, intros, pI]; omega)) rfl ?_
      simp (maxSteps := 4000000) only [d_s1, r0, d0, dk, dm1, pI, el_tb, freezeT, plainT, treeU, putT, putL, snapT, snapTs, snapTA, snapTAs, AV.ownArg, AV.ownLeaf, vcs, simprocAttr, tbs]
      repeat (first | refine ftS (by kernel_rfl) ?_ | refine And.intro (by omega) ?_)
      refine aopsL_fn (E := EL) (HI) rfl (by first | exact Nat.le_add_right _ _ | (simp only [introT, intro1, introL, intros, pI]; omega)) rfl ?_
      simp (maxSteps := 4000000) only [d_s1, r0, d0, dk, dm1, pI, el_tb, freezeT, plainT, treeU, putT, putL, snapT, snapTs, snapTA, snapTAs, AV.ownArg, AV.ownLeaf, vcs, simprocAttr, tbs]
      repeat (first | refine ftS (by kernel_rfl) ?_ | refine And.intro (by omega) ?_)
      refine aopsL_fn (E := EL) (eqChoiceS_ok V0 shV0) rfl (by first | exact Nat.le_add_right _ _ | (simp only [introT, intro1, introL, intros, pI]; omega)) rfl ?_
      simp (maxSteps := 4000000) only [d_s1, r0, d0, dk, dm1, pI, el_tb, freezeT, plainT, treeU, putT, putL, snapT, snapTs, snapTA, snapTAs, AV.ownArg, AV.ownLeaf, vcs, simprocAttr, tbs]
      repeat (first | refine ftS (by kernel_rfl) ?_ | refine And.intro (by omega) ?_)
      refine aopsL_fn (E := EL) (toProgram_ok R0_0 h0_1 shR0_0) rfl (by first | exact Nat.le_add_right _ _ | (simp only [introT, intro1, introL, intros, pI]; omega)) rfl ?_
      simp (maxSteps := 4000000) only [d_s1, r0, d0, dk, dm1, pI, el_tb, freezeT, plainT, treeU, putT, putL, snapT, snapTs, snapTA, snapTAs, AV.ownArg, AV.ownLeaf, vcs, simprocAttr, tbs]
      repeat (first | refine ftS (by kernel_rfl) ?_ | refine And.intro (by omega) ?_)
      refine aopsL_fn (E := EL) (eqProgram_ok [.lst 143 R0_0, pI h0_1] ⟨R0_0, h0_1, rfl, shR0_0⟩) rfl (by first | exact Nat.le_add_right _ _ | (simp only [introT, intro1, introL, intros, pI]; omega)) rfl ?_
      simp (maxSteps := 4000000) only [d_s1, r0, d0, dk, dm1, pI, el_tb, freezeT, plainT, treeU, putT, putL, snapT, snapTs, snapTA, snapTAs, AV.ownArg, AV.ownLeaf, vcs, simprocAttr, tbs]
      repeat (first | refine ftS (by kernel_rfl) ?_ | refine And.intro (by omega) ?_)
      refine aopsL_mut (E := EL) (M0) rfl ?_
      simp (maxSteps := 4000000) only [d_s1, r0, d0, dk, dm1, pI, el_tb, freezeT, plainT, treeU, putT, putL, snapT, snapTs, snapTA, snapTAs, AV.ownArg, AV.ownLeaf, vcs, simprocAttr, tbs]
      repeat (first | refine ftS (by kernel_rfl) ?_ | refine And.intro (by omega) ?_)
      refine aopsL_fnG (E := EL) (eqChoiceS_ok V0 shV0) rfl (by first | exact Nat.le_add_right _ _ | (simp only [introT, intro1, introL, intros, pI]; omega)) rfl rfl (by simp (maxSteps := 4000000) only [d_s1, r0, d0, dk, dm1, pI, el_tb, freezeT, plainT, treeU, putT, putL, snapT, snapTs, snapTA, snapTAs, AV.ownArg, AV.ownLeaf, vcs, simprocAttr, tbs]) ?_
      simp (maxSteps := 4000000) only [d_s1, r0, d0, dk, dm1, pI, el_tb, freezeT, plainT, treeU, putT, putL, snapT, snapTs, snapTA, snapTAs, AV.ownArg, AV.ownLeaf, vcs, simprocAttr, tbs]
      repeat (first | refine ftS (by kernel_rfl) ?_ | refine And.intro (by omega) ?_)
      refine aopsL_mut (E := EL) (MR0) rfl ?_
      simp (maxSteps := 4000000) only [d_s1, r0, d0, dk, dm1, pI, el_tb, freezeT, plainT, treeU, putT, putL, snapT, snapTs, snapTA, snapTAs, AV.ownArg, AV.ownLeaf, vcs, simprocAttr, tbs]
      repeat (first | refine ftS (by kernel_rfl) ?_ | refine And.intro (by omega) ?_)
      refine aopsL_fn (E := EL) (HR0) rfl (by first | exact Nat.le_add_right _ _ | (simp only [introT, intro1, introL, intros, pI]; omega)) rfl ?_
      simp (maxSteps := 4000000) only [d_s1, r0, d0, dk, dm1, pI, el_tb, freezeT, plainT, treeU, putT, putL, snapT, snapTs, snapTA, snapTAs, AV.ownArg, AV.ownLeaf, vcs, simprocAttr, tbs]
      repeat (first | refine ftS (by kernel_rfl) ?_ | refine And.intro (by omega) ?_)
      refine aopsL_fn (E := EL) (toProgram_ok R0_0 h0_1 shR0_0) rfl (by first | exact Nat.le_add_right _ _ | (simp only [introT, intro1, introL, intros, pI]; omega)) rfl ?_
      simp (maxSteps := 4000000) only [d_s1, r0, d0, dk, dm1, pI, el_tb, freezeT, plainT, treeU, putT, putL, snapT, snapTs, snapTA, snapTAs, AV.ownArg, AV.ownLeaf, vcs, simprocAttr, tbs]
      repeat (first | refine ftS (by kernel_rfl) ?_ | refine And.intro (by omega) ?_)
      refine aopsL_fn (E := EL) (HI) rfl (by first | exact Nat.le_add_right _ _ | (simp only [introT, intro1, introL, intros, pI]; omega)) rfl ?_
      simp (maxSteps := 4000000) only [d_s1, r0, d0, dk, dm1, pI, el_tb, freezeT, plainT, treeU, putT, putL, snapT, snapTs, snapTA, snapTAs, AV.ownArg, AV.ownLeaf, vcs, simprocAttr, tbs]
      repeat (first | refine ftS (by kernel_rfl) ?_ | refine And.intro (by omega) ?_)
      refine aopsL_fn (E := EL) (eqChoiceS_ok V0 shV0) rfl (by first | exact Nat.le_add_right _ _ | (simp only [introT, intro1, introL, intros, pI]; omega)) rfl ?_
      simp (maxSteps := 4000000) only [d_s1, r0, d0, dk, dm1, pI, el_tb, freezeT, plainT, treeU, putT, putL, snapT, snapTs, snapTA, snapTAs, AV.ownArg, AV.ownLeaf, vcs, simprocAttr, tbs]
      repeat (first | refine ftS (by kernel_rfl) ?_ | refine And.intro (by omega) ?_)
      refine aopsL_fn (E := EL) (HR0) rfl (by first | exact Nat.le_add_right _ _ | (simp only [introT, intro1, introL, intros, pI]; omega)) rfl ?_
      simp (maxSteps := 4000000) only [d_s1, r0, d0, dk, dm1, pI, el_tb, freezeT, plainT, treeU, putT, putL, snapT, snapTs, snapTA, snapTAs, AV.ownArg, AV.ownLeaf, vcs, simprocAttr, tbs]
      repeat (first | refine ftS (by kernel_rfl) ?_ | refine And.intro (by omega) ?_)
      all_goals (first | rfl | trivial | skip)
end Av
end Go.Proofs.Ytemogjmghgfdfaa
