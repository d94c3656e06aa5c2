/-
  The exact law of TapeOf.
-/
import Derived.Test.YtemogjmghgfdfaaTyEs
import Derived.Test.YtemogjmghgfdfaaTyTs
set_option linter.unusedSimpArgs false
set_option linter.unusedVariables false
namespace Go.Proofs.Ytemogjmghgfdfaa
open Go.RowKit
namespace Av
/-- what both packages answer -/
def exactTapeOf_both (R0_0 : List (List PV)) (h0_1 : Int) (R1_0 : List (List PV)) (R1_1 : List (List PV)) : Prop := ∃ (v0 : ByteArray), FnOk E.P 35 [.agg [.lst 143 R0_0, pI h0_1], .agg [.lst 81 R1_0, .lst 3 R1_1]] (.str v0) false ∧ FnOk E.P 36 [.agg [.lst 143 R0_0, pI h0_1], .agg [.lst 81 R1_0, .lst 3 R1_1]] (.str v0) true
set_option maxRecDepth 100000 in
set_option maxHeartbeats 40000000 in
theorem exactTapeOf_law (R0_0 : List (List PV)) (h0_1 : Int) (R1_0 : List (List PV)) (R1_1 : List (List PV)) (hlR0_0 : R0_0.length ≤ 9223372036854775807) (hsR0_0 : ∀ r ∈ R0_0, ShCode r) (hlR1_0 : R1_0.length ≤ 9223372036854775807) (hsR1_0 : ∀ r ∈ R1_0, ShSlice r) (hlR1_1 : R1_1.length ≤ 9223372036854775807) (hsR1_1 : ∀ r ∈ R1_1, ShInt r)
    (H : R0_0.length + R1_0.length + R1_1.length ≤ 1048576 → exactTapeOf_both R0_0 h0_1 R1_0 R1_1) : FnOk E.P 7 [.agg [.lst 146 R0_0, pI h0_1], .agg [.lst 148 R1_0, .lst 3 R1_1]] (.bool true) true := by
  by_cases g0 : ((1048576 : Int) : Int) < R0_0.length
  · have r0 : restI ((1048576 : Int)) R0_0.length = -1 := if_pos g0
    refine fn_ok (E := EL) mixedL Try.func7 rfl (by kernel_rfl) _ Try.results7 _ Try.ntmps7 (by simp) (by kernel_rfl) ?_
    simp (maxSteps := 4000000) only [r0, pI, el_tb, freezeT, plainT, treeU, putT, putL, snapT, snapTs, snapTA, snapTAs, AV.ownArg, AV.ownLeaf, vcs, simprocAttr, tbs]
    repeat (first | refine ftS (by kernel_rfl) ?_ | refine And.intro (by omega) ?_)
    refine aopsL_fn (E := EL) (szProgram_ok R0_0 h0_1 ((1048576 : Int)) hlR0_0 (by omega) (by omega)) rfl (by first | exact Nat.le_add_right _ _ | (simp only [introT, intro1, introL, intros, pI]; omega)) rfl ?_
    simp (maxSteps := 4000000) only [r0, pI, el_tb, freezeT, plainT, treeU, putT, putL, snapT, snapTs, snapTA, snapTAs, AV.ownArg, AV.ownLeaf, vcs, simprocAttr, tbs]
    repeat (first | refine ftS (by kernel_rfl) ?_ | refine And.intro (by omega) ?_)
    all_goals (first | rfl | trivial | skip)
  · have r0 : restI ((1048576 : Int)) R0_0.length = (1048576 : Int) - R0_0.length := if_neg g0
    have d0 : decide ((1048576 : Int) - R0_0.length < 0) = false := by simp; omega
    by_cases g1 : ((1048576 : Int) - R0_0.length : Int) < R1_0.length
    · have r1 : restI ((1048576 : Int) - R0_0.length) R1_0.length = -1 := if_pos g1
      have t0 : restI (-1) R1_1.length = -1 := if_pos (by omega)
      refine fn_ok (E := EL) mixedL Try.func7 rfl (by kernel_rfl) _ Try.results7 _ Try.ntmps7 (by simp) (by kernel_rfl) ?_
      simp (maxSteps := 4000000) only [r0, d0, r1, t0, pI, el_tb, freezeT, plainT, treeU, putT, putL, snapT, snapTs, snapTA, snapTAs, AV.ownArg, AV.ownLeaf, vcs, simprocAttr, tbs]
      repeat (first | refine ftS (by kernel_rfl) ?_ | refine And.intro (by omega) ?_)
      refine aopsL_fn (E := EL) (szProgram_ok R0_0 h0_1 ((1048576 : Int)) hlR0_0 (by omega) (by omega)) rfl (by first | exact Nat.le_add_right _ _ | (simp only [introT, intro1, introL, intros, pI]; omega)) rfl ?_
      simp (maxSteps := 4000000) only [r0, d0, r1, t0, pI, el_tb, freezeT, plainT, treeU, putT, putL, snapT, snapTs, snapTA, snapTAs, AV.ownArg, AV.ownLeaf, vcs, simprocAttr, tbs]
      repeat (first | refine ftS (by kernel_rfl) ?_ | refine And.intro (by omega) ?_)
      refine aopsL_fn (E := EL) (szRecord_ok R1_0 R1_1 ((1048576 : Int) - R0_0.length) hlR1_0 hlR1_1 (by omega) (by omega)) rfl (by first | exact Nat.le_add_right _ _ | (simp only [introT, intro1, introL, intros, pI]; omega)) rfl ?_
      simp (maxSteps := 4000000) only [r0, d0, r1, t0, pI, el_tb, freezeT, plainT, treeU, putT, putL, snapT, snapTs, snapTA, snapTAs, AV.ownArg, AV.ownLeaf, vcs, simprocAttr, tbs]
      repeat (first | refine ftS (by kernel_rfl) ?_ | refine And.intro (by omega) ?_)
      all_goals (first | rfl | trivial | skip)
    · have r1 : restI ((1048576 : Int) - R0_0.length) R1_0.length = (1048576 : Int) - R0_0.length - R1_0.length := if_neg g1
      by_cases g2 : ((1048576 : Int) - R0_0.length - R1_0.length : Int) < R1_1.length
      · have r2 : restI ((1048576 : Int) - R0_0.length - R1_0.length) R1_1.length = -1 := if_pos g2
        refine fn_ok (E := EL) mixedL Try.func7 rfl (by kernel_rfl) _ Try.results7 _ Try.ntmps7 (by simp) (by kernel_rfl) ?_
        simp (maxSteps := 4000000) only [r0, d0, r1, r2, pI, el_tb, freezeT, plainT, treeU, putT, putL, snapT, snapTs, snapTA, snapTAs, AV.ownArg, AV.ownLeaf, vcs, simprocAttr, tbs]
        repeat (first | refine ftS (by kernel_rfl) ?_ | refine And.intro (by omega) ?_)
        refine aopsL_fn (E := EL) (szProgram_ok R0_0 h0_1 ((1048576 : Int)) hlR0_0 (by omega) (by omega)) rfl (by first | exact Nat.le_add_right _ _ | (simp only [introT, intro1, introL, intros, pI]; omega)) rfl ?_
        simp (maxSteps := 4000000) only [r0, d0, r1, r2, pI, el_tb, freezeT, plainT, treeU, putT, putL, snapT, snapTs, snapTA, snapTAs, AV.ownArg, AV.ownLeaf, vcs, simprocAttr, tbs]
        repeat (first | refine ftS (by kernel_rfl) ?_ | refine And.intro (by omega) ?_)
        refine aopsL_fn (E := EL) (szRecord_ok R1_0 R1_1 ((1048576 : Int) - R0_0.length) hlR1_0 hlR1_1 (by omega) (by omega)) rfl (by first | exact Nat.le_add_right _ _ | (simp only [introT, intro1, introL, intros, pI]; omega)) rfl ?_
        simp (maxSteps := 4000000) only [r0, d0, r1, r2, pI, el_tb, freezeT, plainT, treeU, putT, putL, snapT, snapTs, snapTA, snapTAs, AV.ownArg, AV.ownLeaf, vcs, simprocAttr, tbs]
        repeat (first | refine ftS (by kernel_rfl) ?_ | refine And.intro (by omega) ?_)
        all_goals (first | rfl | trivial | skip)
      · have r2 : restI ((1048576 : Int) - R0_0.length - R1_0.length) R1_1.length = (1048576 : Int) - R0_0.length - R1_0.length - R1_1.length := if_neg g2
        have d2 : decide ((1048576 : Int) - R0_0.length - R1_0.length - R1_1.length < 0) = false := by simp; omega
        have shR0_0 : ShCodeS R0_0 := ⟨by omega, hsR0_0⟩
        have shR1_0 : ShSliceS R1_0 := ⟨by omega, hsR1_0⟩
        have shR1_1 : ShIntS R1_1 := ⟨by omega, hsR1_1⟩
        obtain ⟨v0, HS, HI⟩ := H (by omega)
        refine fn_ok (E := EL) mixedL Try.func7 rfl (by kernel_rfl) _ Try.results7 _ Try.ntmps7 (by simp) (by kernel_rfl) ?_
        simp (maxSteps := 4000000) only [r0, d0, r1, r2, d2, beq_self_eq_true, Bool.not_true, pI, el_tb, freezeT, plainT, treeU, putT, putL, snapT, snapTs, snapTA, snapTAs, AV.ownArg, AV.ownLeaf, vcs, simprocAttr, tbs]
        repeat (first | refine ftS (by kernel_rfl) ?_ | refine And.intro (by omega) ?_)
        refine aopsL_fn (E := EL) (szProgram_ok R0_0 h0_1 ((1048576 : Int)) hlR0_0 (by omega) (by omega)) rfl (by first | exact Nat.le_add_right _ _ | (simp only [introT, intro1, introL, intros, pI]; omega)) rfl ?_
        simp (maxSteps := 4000000) only [r0, d0, r1, r2, d2, beq_self_eq_true, Bool.not_true, pI, el_tb, freezeT, plainT, treeU, putT, putL, snapT, snapTs, snapTA, snapTAs, AV.ownArg, AV.ownLeaf, vcs, simprocAttr, tbs]
        repeat (first | refine ftS (by kernel_rfl) ?_ | refine And.intro (by omega) ?_)
        refine aopsL_fn (E := EL) (szRecord_ok R1_0 R1_1 ((1048576 : Int) - R0_0.length) hlR1_0 hlR1_1 (by omega) (by omega)) rfl (by first | exact Nat.le_add_right _ _ | (simp only [introT, intro1, introL, intros, pI]; omega)) rfl ?_
        simp (maxSteps := 4000000) only [r0, d0, r1, r2, d2, beq_self_eq_true, Bool.not_true, pI, el_tb, freezeT, plainT, treeU, putT, putL, snapT, snapTs, snapTA, snapTAs, AV.ownArg, AV.ownLeaf, vcs, simprocAttr, tbs]
        repeat (first | refine ftS (by kernel_rfl) ?_ | refine And.intro (by omega) ?_)
        refine aopsL_fn (E := EL) (toProgram_ok R0_0 h0_1 shR0_0) rfl (by first | exact Nat.le_add_right _ _ | (simp only [introT, intro1, introL, intros, pI]; omega)) rfl ?_
        simp (maxSteps := 4000000) only [r0, d0, r1, r2, d2, beq_self_eq_true, Bool.not_true, pI, el_tb, freezeT, plainT, treeU, putT, putL, snapT, snapTs, snapTA, snapTAs, AV.ownArg, AV.ownLeaf, vcs, simprocAttr, tbs]
        repeat (first | refine ftS (by kernel_rfl) ?_ | refine And.intro (by omega) ?_)
        refine aopsL_fn (E := EL) (toRecord_ok R1_0 R1_1 shR1_0 shR1_1) rfl (by first | exact Nat.le_add_right _ _ | (simp only [introT, intro1, introL, intros, pI]; omega)) rfl ?_
        simp (maxSteps := 4000000) only [r0, d0, r1, r2, d2, beq_self_eq_true, Bool.not_true, pI, el_tb, freezeT, plainT, treeU, putT, putL, snapT, snapTs, snapTA, snapTAs, AV.ownArg, AV.ownLeaf, vcs, simprocAttr, tbs]
        repeat (first | refine ftS (by kernel_rfl) ?_ | refine And.intro (by omega) ?_)
        refine aopsL_rd (E := EL) (HS) rfl ?_
        simp (maxSteps := 4000000) only [r0, d0, r1, r2, d2, beq_self_eq_true, Bool.not_true, pI, el_tb, freezeT, plainT, treeU, putT, putL, snapT, snapTs, snapTA, snapTAs, AV.ownArg, AV.ownLeaf, vcs, simprocAttr, tbs]
        repeat (first | refine ftS (by kernel_rfl) ?_ | refine And.intro (by omega) ?_)
        refine aopsL_fn (E := EL) (toProgram_ok R0_0 h0_1 shR0_0) rfl (by first | exact Nat.le_add_right _ _ | (simp only [introT, intro1, introL, intros, pI]; omega)) rfl ?_
        simp (maxSteps := 4000000) only [r0, d0, r1, r2, d2, beq_self_eq_true, Bool.not_true, pI, el_tb, freezeT, plainT, treeU, putT, putL, snapT, snapTs, snapTA, snapTAs, AV.ownArg, AV.ownLeaf, vcs, simprocAttr, tbs]
        repeat (first | refine ftS (by kernel_rfl) ?_ | refine And.intro (by omega) ?_)
        refine aopsL_fn (E := EL) (toRecord_ok R1_0 R1_1 shR1_0 shR1_1) rfl (by first | exact Nat.le_add_right _ _ | (simp only [introT, intro1, introL, intros, pI]; omega)) rfl ?_
        simp (maxSteps := 4000000) only [r0, d0, r1, r2, d2, beq_self_eq_true, Bool.not_true, pI, el_tb, freezeT, plainT, treeU, putT, putL, snapT, snapTs, snapTA, snapTAs, AV.ownArg, AV.ownLeaf, vcs, simprocAttr, tbs]
        repeat (first | refine ftS (by kernel_rfl) ?_ | refine And.intro (by omega) ?_)
        refine aopsL_fn (E := EL) (HI) rfl (by first | exact Nat.le_add_right _ _ | (simp only [introT, intro1, introL, intros, pI]; omega)) rfl ?_
        simp (maxSteps := 4000000) only [r0, d0, r1, r2, d2, beq_self_eq_true, Bool.not_true, pI, el_tb, freezeT, plainT, treeU, putT, putL, snapT, snapTs, snapTA, snapTAs, AV.ownArg, AV.ownLeaf, vcs, simprocAttr, tbs]
        repeat (first | refine ftS (by kernel_rfl) ?_ | refine And.intro (by omega) ?_)
        refine aopsL_fn (E := EL) (toProgram_ok R0_0 h0_1 shR0_0) rfl (by first | exact Nat.le_add_right _ _ | (simp only [introT, intro1, introL, intros, pI]; omega)) rfl ?_
        simp (maxSteps := 4000000) only [r0, d0, r1, r2, d2, beq_self_eq_true, Bool.not_true, pI, el_tb, freezeT, plainT, treeU, putT, putL, snapT, snapTs, snapTA, snapTAs, AV.ownArg, AV.ownLeaf, vcs, simprocAttr, tbs]
        repeat (first | refine ftS (by kernel_rfl) ?_ | refine And.intro (by omega) ?_)
        refine aopsL_fn (E := EL) (eqProgram_ok [.lst 143 R0_0, pI h0_1] ⟨R0_0, h0_1, rfl, shR0_0⟩) rfl (by first | exact Nat.le_add_right _ _ | (simp only [introT, intro1, introL, intros, pI]; omega)) rfl ?_
        simp (maxSteps := 4000000) only [r0, d0, r1, r2, d2, beq_self_eq_true, Bool.not_true, pI, el_tb, freezeT, plainT, treeU, putT, putL, snapT, snapTs, snapTA, snapTAs, AV.ownArg, AV.ownLeaf, vcs, simprocAttr, tbs]
        repeat (first | refine ftS (by kernel_rfl) ?_ | refine And.intro (by omega) ?_)
        refine aopsL_fn (E := EL) (toRecord_ok R1_0 R1_1 shR1_0 shR1_1) rfl (by first | exact Nat.le_add_right _ _ | (simp only [introT, intro1, introL, intros, pI]; omega)) rfl ?_
        simp (maxSteps := 4000000) only [r0, d0, r1, r2, d2, beq_self_eq_true, Bool.not_true, pI, el_tb, freezeT, plainT, treeU, putT, putL, snapT, snapTs, snapTA, snapTAs, AV.ownArg, AV.ownLeaf, vcs, simprocAttr, tbs]
        repeat (first | refine ftS (by kernel_rfl) ?_ | refine And.intro (by omega) ?_)
        refine aopsL_fn (E := EL) (eqRecord_ok [.lst 81 R1_0, .lst 3 R1_1] ⟨R1_0, R1_1, rfl, shR1_0, shR1_1⟩) rfl (by first | exact Nat.le_add_right _ _ | (simp only [introT, intro1, introL, intros, pI]; omega)) rfl ?_
        simp (maxSteps := 4000000) only [r0, d0, r1, r2, d2, beq_self_eq_true, Bool.not_true, pI, el_tb, freezeT, plainT, treeU, putT, putL, snapT, snapTs, snapTA, snapTAs, AV.ownArg, AV.ownLeaf, vcs, simprocAttr, tbs]
        repeat (first | refine ftS (by kernel_rfl) ?_ | refine And.intro (by omega) ?_)
        all_goals (first | rfl | trivial | skip)
end Av
end Go.Proofs.Ytemogjmghgfdfaa
