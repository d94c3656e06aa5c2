/-
  The exact law of RecordJoin.
-/
import Derived.Test.YtbkbppllcjcmhaaTyE
import Derived.Test.YtbkbppllcjcmhaaTyH
import Derived.Test.YtbkbppllcjcmhaaTyM
import Derived.Test.YtbkbppllcjcmhaaTyT
set_option linter.unusedSimpArgs false
set_option linter.unusedVariables false
namespace Go.Proofs.Ytbkbppllcjcmhaa
open Go.RowKit
namespace Av
/-- what both packages answer -/
def exactRecordJoin_both (R0_0 : List (List PV)) (h0_1 : Int) (R1_0 : List (List PV)) (R1_1 : List (List PV)) (R2_0 : List (List PV)) (R2_1 : List (List PV)) : Prop := ∃ (V0_0 : List (List PV)) (V0_1 : List (List PV)) (v1 : Bool), FnOk E.P 31 [.agg [.lst 141 R0_0, pI h0_1], .agg [.lst 104 R1_0, .lst 3 R1_1], .agg [.lst 104 R2_0, .lst 3 R2_1]] (.tup [.agg [.lst 104 V0_0, .lst 3 V0_1], .bool v1]) false ∧ FnOk E.P 34 [.agg [.lst 141 R0_0, pI h0_1], .agg [.lst 104 R1_0, .lst 3 R1_1], .agg [.lst 104 R2_0, .lst 3 R2_1]] (.tup [.agg [.lst 104 V0_0, .lst 3 V0_1], .bool v1]) true ∧ ShSliceS V0_0 ∧ ShIntS V0_1 ∧ cntR V0_0 + cntR V0_1 ≤ 1152921504606846976
set_option maxRecDepth 100000 in
set_option maxHeartbeats 40000000 in
theorem exactRecordJoin_law (R0_0 : List (List PV)) (h0_1 : Int) (R1_0 : List (List PV)) (R1_1 : List (List PV)) (R2_0 : List (List PV)) (R2_1 : List (List PV)) (hlR0_0 : R0_0.length ≤ 9223372036854775807) (hsR0_0 : ∀ r ∈ R0_0, ShCode r) (hlR1_0 : R1_0.length ≤ 9223372036854775807) (hsR1_0 : ∀ r ∈ R1_0, ShSlice r) (hlR1_1 : R1_1.length ≤ 9223372036854775807) (hsR1_1 : ∀ r ∈ R1_1, ShInt r) (hlR2_0 : R2_0.length ≤ 9223372036854775807) (hsR2_0 : ∀ r ∈ R2_0, ShSlice r) (hlR2_1 : R2_1.length ≤ 9223372036854775807) (hsR2_1 : ∀ r ∈ R2_1, ShInt r)
    (H : R0_0.length + R1_0.length + R1_1.length + R2_0.length + R2_1.length ≤ 1048576 → exactRecordJoin_both R0_0 h0_1 R1_0 R1_1 R2_0 R2_1) : FnOk E.P 8 [.agg [.lst 143 R0_0, pI h0_1], .agg [.lst 145 R1_0, .lst 3 R1_1], .agg [.lst 145 R2_0, .lst 3 R2_1]] (.bool true) true := by
  by_cases g0 : ((1048576 : Int) : Int) < R0_0.length
  · have r0 : restI ((1048576 : Int)) R0_0.length = -1 := if_pos g0
    refine fn_ok (E := EL) mixedL Try.func8 rfl (by kernel_rfl) _ Try.results8 _ Try.ntmps8 (by simp) (by kernel_rfl) ?_
    simp (maxSteps := 4000000) only [r0, pI, el_tb, freezeT, plainT, treeU, putT, putL, snapT, snapTs, snapTA, snapTAs, AV.ownArg, AV.ownLeaf, tvs, simprocAttr]
    repeat (first | refine ftS (by kernel_rfl) ?_ | refine And.intro (by omega) ?_)
    refine aopsL_fn (E := EL) (szProgram_ok R0_0 h0_1 ((1048576 : Int)) hlR0_0 (by omega) (by omega)) rfl (hidB rfl) rfl ?_
    simp (maxSteps := 4000000) only [r0, pI, el_tb, freezeT, plainT, treeU, putT, putL, snapT, snapTs, snapTA, snapTAs, AV.ownArg, AV.ownLeaf, tvs, simprocAttr]
    repeat (first | refine ftS (by kernel_rfl) ?_ | refine And.intro (by omega) ?_)
    all_goals (first | rfl | trivial | skip)
  · have r0 : restI ((1048576 : Int)) R0_0.length = (1048576 : Int) - R0_0.length := if_neg g0
    have d0 : decide ((1048576 : Int) - R0_0.length < 0) = false := by simp; omega
    by_cases g1 : ((1048576 : Int) - R0_0.length : Int) < R1_0.length
    · have r1 : restI ((1048576 : Int) - R0_0.length) R1_0.length = -1 := if_pos g1
      have t0 : restI (-1) R1_1.length = -1 := if_pos (by omega)
      refine fn_ok (E := EL) mixedL Try.func8 rfl (by kernel_rfl) _ Try.results8 _ Try.ntmps8 (by simp) (by kernel_rfl) ?_
      simp (maxSteps := 4000000) only [r0, d0, r1, t0, pI, el_tb, freezeT, plainT, treeU, putT, putL, snapT, snapTs, snapTA, snapTAs, AV.ownArg, AV.ownLeaf, tvs, simprocAttr]
      repeat (first | refine ftS (by kernel_rfl) ?_ | refine And.intro (by omega) ?_)
      refine aopsL_fn (E := EL) (szProgram_ok R0_0 h0_1 ((1048576 : Int)) hlR0_0 (by omega) (by omega)) rfl (hidB rfl) rfl ?_
      simp (maxSteps := 4000000) only [r0, d0, r1, t0, pI, el_tb, freezeT, plainT, treeU, putT, putL, snapT, snapTs, snapTA, snapTAs, AV.ownArg, AV.ownLeaf, tvs, simprocAttr]
      repeat (first | refine ftS (by kernel_rfl) ?_ | refine And.intro (by omega) ?_)
      refine aopsL_fn (E := EL) (szRecord_ok R1_0 R1_1 ((1048576 : Int) - R0_0.length) hlR1_0 hlR1_1 (by omega) (by omega)) rfl (hidB rfl) rfl ?_
      simp (maxSteps := 4000000) only [r0, d0, r1, t0, pI, el_tb, freezeT, plainT, treeU, putT, putL, snapT, snapTs, snapTA, snapTAs, AV.ownArg, AV.ownLeaf, tvs, simprocAttr]
      repeat (first | refine ftS (by kernel_rfl) ?_ | refine And.intro (by omega) ?_)
      all_goals (first | rfl | trivial | skip)
    · have r1 : restI ((1048576 : Int) - R0_0.length) R1_0.length = (1048576 : Int) - R0_0.length - R1_0.length := if_neg g1
      by_cases g2 : ((1048576 : Int) - R0_0.length - R1_0.length : Int) < R1_1.length
      · have r2 : restI ((1048576 : Int) - R0_0.length - R1_0.length) R1_1.length = -1 := if_pos g2
        refine fn_ok (E := EL) mixedL Try.func8 rfl (by kernel_rfl) _ Try.results8 _ Try.ntmps8 (by simp) (by kernel_rfl) ?_
        simp (maxSteps := 4000000) only [r0, d0, r1, r2, pI, el_tb, freezeT, plainT, treeU, putT, putL, snapT, snapTs, snapTA, snapTAs, AV.ownArg, AV.ownLeaf, tvs, simprocAttr]
        repeat (first | refine ftS (by kernel_rfl) ?_ | refine And.intro (by omega) ?_)
        refine aopsL_fn (E := EL) (szProgram_ok R0_0 h0_1 ((1048576 : Int)) hlR0_0 (by omega) (by omega)) rfl (hidB rfl) rfl ?_
        simp (maxSteps := 4000000) only [r0, d0, r1, r2, pI, el_tb, freezeT, plainT, treeU, putT, putL, snapT, snapTs, snapTA, snapTAs, AV.ownArg, AV.ownLeaf, tvs, simprocAttr]
        repeat (first | refine ftS (by kernel_rfl) ?_ | refine And.intro (by omega) ?_)
        refine aopsL_fn (E := EL) (szRecord_ok R1_0 R1_1 ((1048576 : Int) - R0_0.length) hlR1_0 hlR1_1 (by omega) (by omega)) rfl (hidB rfl) rfl ?_
        simp (maxSteps := 4000000) only [r0, d0, r1, r2, pI, el_tb, freezeT, plainT, treeU, putT, putL, snapT, snapTs, snapTA, snapTAs, AV.ownArg, AV.ownLeaf, tvs, simprocAttr]
        repeat (first | refine ftS (by kernel_rfl) ?_ | refine And.intro (by omega) ?_)
        all_goals (first | rfl | trivial | skip)
      · have r2 : restI ((1048576 : Int) - R0_0.length - R1_0.length) R1_1.length = (1048576 : Int) - R0_0.length - R1_0.length - R1_1.length := if_neg g2
        have d2 : decide ((1048576 : Int) - R0_0.length - R1_0.length - R1_1.length < 0) = false := by simp; omega
        by_cases g3 : ((1048576 : Int) - R0_0.length - R1_0.length - R1_1.length : Int) < R2_0.length
        · have r3 : restI ((1048576 : Int) - R0_0.length - R1_0.length - R1_1.length) R2_0.length = -1 := if_pos g3
          have t0 : restI (-1) R2_1.length = -1 := if_pos (by omega)
          refine fn_ok (E := EL) mixedL Try.func8 rfl (by kernel_rfl) _ Try.results8 _ Try.ntmps8 (by simp) (by kernel_rfl) ?_
          simp (maxSteps := 4000000) only [r0, d0, r1, r2, d2, r3, t0, pI, el_tb, freezeT, plainT, treeU, putT, putL, snapT, snapTs, snapTA, snapTAs, AV.ownArg, AV.ownLeaf, tvs, simprocAttr]
          repeat (first | refine ftS (by kernel_rfl) ?_ | refine And.intro (by omega) ?_)
          refine aopsL_fn (E := EL) (szProgram_ok R0_0 h0_1 ((1048576 : Int)) hlR0_0 (by omega) (by omega)) rfl (hidB rfl) rfl ?_
          simp (maxSteps := 4000000) only [r0, d0, r1, r2, d2, r3, t0, pI, el_tb, freezeT, plainT, treeU, putT, putL, snapT, snapTs, snapTA, snapTAs, AV.ownArg, AV.ownLeaf, tvs, simprocAttr]
          repeat (first | refine ftS (by kernel_rfl) ?_ | refine And.intro (by omega) ?_)
          refine aopsL_fn (E := EL) (szRecord_ok R1_0 R1_1 ((1048576 : Int) - R0_0.length) hlR1_0 hlR1_1 (by omega) (by omega)) rfl (hidB rfl) rfl ?_
          simp (maxSteps := 4000000) only [r0, d0, r1, r2, d2, r3, t0, pI, el_tb, freezeT, plainT, treeU, putT, putL, snapT, snapTs, snapTA, snapTAs, AV.ownArg, AV.ownLeaf, tvs, simprocAttr]
          repeat (first | refine ftS (by kernel_rfl) ?_ | refine And.intro (by omega) ?_)
          refine aopsL_fn (E := EL) (szRecord_ok R2_0 R2_1 ((1048576 : Int) - R0_0.length - R1_0.length - R1_1.length) hlR2_0 hlR2_1 (by omega) (by omega)) rfl (hidB rfl) rfl ?_
          simp (maxSteps := 4000000) only [r0, d0, r1, r2, d2, r3, t0, pI, el_tb, freezeT, plainT, treeU, putT, putL, snapT, snapTs, snapTA, snapTAs, AV.ownArg, AV.ownLeaf, tvs, simprocAttr]
          repeat (first | refine ftS (by kernel_rfl) ?_ | refine And.intro (by omega) ?_)
          all_goals (first | rfl | trivial | skip)
        · have r3 : restI ((1048576 : Int) - R0_0.length - R1_0.length - R1_1.length) R2_0.length = (1048576 : Int) - R0_0.length - R1_0.length - R1_1.length - R2_0.length := if_neg g3
          by_cases g4 : ((1048576 : Int) - R0_0.length - R1_0.length - R1_1.length - R2_0.length : Int) < R2_1.length
          · have r4 : restI ((1048576 : Int) - R0_0.length - R1_0.length - R1_1.length - R2_0.length) R2_1.length = -1 := if_pos g4
            refine fn_ok (E := EL) mixedL Try.func8 rfl (by kernel_rfl) _ Try.results8 _ Try.ntmps8 (by simp) (by kernel_rfl) ?_
            simp (maxSteps := 4000000) only [r0, d0, r1, r2, d2, r3, r4, pI, el_tb, freezeT, plainT, treeU, putT, putL, snapT, snapTs, snapTA, snapTAs, AV.ownArg, AV.ownLeaf, tvs, simprocAttr]
            repeat (first | refine ftS (by kernel_rfl) ?_ | refine And.intro (by omega) ?_)
            refine aopsL_fn (E := EL) (szProgram_ok R0_0 h0_1 ((1048576 : Int)) hlR0_0 (by omega) (by omega)) rfl (hidB rfl) rfl ?_
            simp (maxSteps := 4000000) only [r0, d0, r1, r2, d2, r3, r4, pI, el_tb, freezeT, plainT, treeU, putT, putL, snapT, snapTs, snapTA, snapTAs, AV.ownArg, AV.ownLeaf, tvs, simprocAttr]
            repeat (first | refine ftS (by kernel_rfl) ?_ | refine And.intro (by omega) ?_)
            refine aopsL_fn (E := EL) (szRecord_ok R1_0 R1_1 ((1048576 : Int) - R0_0.length) hlR1_0 hlR1_1 (by omega) (by omega)) rfl (hidB rfl) rfl ?_
            simp (maxSteps := 4000000) only [r0, d0, r1, r2, d2, r3, r4, pI, el_tb, freezeT, plainT, treeU, putT, putL, snapT, snapTs, snapTA, snapTAs, AV.ownArg, AV.ownLeaf, tvs, simprocAttr]
            repeat (first | refine ftS (by kernel_rfl) ?_ | refine And.intro (by omega) ?_)
            refine aopsL_fn (E := EL) (szRecord_ok R2_0 R2_1 ((1048576 : Int) - R0_0.length - R1_0.length - R1_1.length) hlR2_0 hlR2_1 (by omega) (by omega)) rfl (hidB rfl) rfl ?_
            simp (maxSteps := 4000000) only [r0, d0, r1, r2, d2, r3, r4, pI, el_tb, freezeT, plainT, treeU, putT, putL, snapT, snapTs, snapTA, snapTAs, AV.ownArg, AV.ownLeaf, tvs, simprocAttr]
            repeat (first | refine ftS (by kernel_rfl) ?_ | refine And.intro (by omega) ?_)
            all_goals (first | rfl | trivial | skip)
          · have r4 : restI ((1048576 : Int) - R0_0.length - R1_0.length - R1_1.length - R2_0.length) R2_1.length = (1048576 : Int) - R0_0.length - R1_0.length - R1_1.length - R2_0.length - R2_1.length := if_neg g4
            have d4 : decide ((1048576 : Int) - R0_0.length - R1_0.length - R1_1.length - R2_0.length - R2_1.length < 0) = false := by simp; omega
            have shR0_0 : ShCodeS R0_0 := ⟨by omega, hsR0_0⟩
            have shR1_0 : ShSliceS R1_0 := ⟨by omega, hsR1_0⟩
            have shR1_1 : ShIntS R1_1 := ⟨by omega, hsR1_1⟩
            have shR2_0 : ShSliceS R2_0 := ⟨by omega, hsR2_0⟩
            have shR2_1 : ShIntS R2_1 := ⟨by omega, hsR2_1⟩
            obtain ⟨V0_0, V0_1, v1, HS, HI, shV0_0, shV0_1, hcnt⟩ := H (by omega)
            have cR0_0 : cntR R0_0 ≤ 4194304 := by
              have h1 := cntR_le (B := 4) R0_0 (fun r hr => by obtain ⟨a0, a1, a2, a3, rfl⟩ := hsR0_0 r hr; simp [cntL, cntP, pI])
              omega
            have M0 := mkProgram_ok R0_0 h0_1 shR0_0 1 (by omega) (by simp only [mkR_cnt]; omega)
            simp only [mkR_cnt] at M0
            obtain ⟨k1, f1⟩ : ∃ z, 1 + (cntR R0_0 : Int) = z := ⟨_, rfl⟩
            rw [f1] at M0
            have b1 : 1 ≤ k1 ∧ k1 ≤ 100000000 := by omega
            have cR1_0 : cntR R1_0 ≤ 3145728 := by
              have h1 := cntR_le (B := 3) R1_0 (fun r hr => by obtain ⟨a0, a1, a2, rfl⟩ := hsR1_0 r hr; simp [cntL, cntP, pI])
              omega
            have cR1_1 : cntR R1_1 ≤ 1048576 := by
              have h1 := cntR_le (B := 1) R1_1 (fun r hr => by obtain ⟨a0, rfl⟩ := hsR1_1 r hr; simp [cntL, cntP, pI])
              omega
            have M1 := mkRecord_ok R1_0 R1_1 shR1_0 shR1_1 k1 (by omega) (by simp only [mkR_cnt]; omega)
            simp only [mkR_cnt] at M1
            obtain ⟨k2, f2⟩ : ∃ z, k1 + (cntR R1_0 : Int) + (cntR R1_1 : Int) = z := ⟨_, rfl⟩
            rw [f2] at M1
            have b2 : 1 ≤ k2 ∧ k2 ≤ 100000000 := by omega
            have cR2_0 : cntR R2_0 ≤ 3145728 := by
              have h1 := cntR_le (B := 3) R2_0 (fun r hr => by obtain ⟨a0, a1, a2, rfl⟩ := hsR2_0 r hr; simp [cntL, cntP, pI])
              omega
            have cR2_1 : cntR R2_1 ≤ 1048576 := by
              have h1 := cntR_le (B := 1) R2_1 (fun r hr => by obtain ⟨a0, rfl⟩ := hsR2_1 r hr; simp [cntL, cntP, pI])
              omega
            have M2 := mkRecord_ok R2_0 R2_1 shR2_0 shR2_1 k2 (by omega) (by simp only [mkR_cnt]; omega)
            simp only [mkR_cnt] at M2
            obtain ⟨k3, f3⟩ : ∃ z, k2 + (cntR R2_0 : Int) + (cntR R2_1 : Int) = z := ⟨_, rfl⟩
            rw [f3] at M2
            have b3 : 1 ≤ k3 ∧ k3 ≤ 100000000 := by omega
            have dk : decide (k3 < 0) = false := by simp; omega
            have MR0 := mkRecord_ok V0_0 V0_1 shV0_0 shV0_1 1 (by omega) (by simp only [mkR_cnt]; omega)
            have HR0 := heldRecord_ok V0_0 V0_1 shV0_0 shV0_1 1 (by omega) (by simp only [mkR_cnt]; omega)
            simp only [mkR_cnt] at MR0 HR0
            obtain ⟨m1, fm1⟩ : ∃ z, 1 + (cntR V0_0 : Int) + (cntR V0_1 : Int) = z := ⟨_, rfl⟩
            rw [fm1] at MR0 HR0
            have dm1 : decide (m1 < 0) = false := by simp; omega
            try clear hcnt
            refine fn_ok (E := EL) mixedL Try.func8 rfl (by kernel_rfl) _ Try.results8 _ Try.ntmps8 (by simp) (by kernel_rfl) ?_
            simp (maxSteps := 4000000) only [r0, d0, r1, r2, d2, r3, r4, d4, dk, dm1, pI, el_tb, freezeT, plainT, treeU, putT, putL, snapT, snapTs, snapTA, snapTAs, AV.ownArg, AV.ownLeaf, tvs, simprocAttr]
            repeat (first | refine ftS (by kernel_rfl) ?_ | refine And.intro (by omega) ?_)
            refine aopsL_fn (E := EL) (szProgram_ok R0_0 h0_1 ((1048576 : Int)) hlR0_0 (by omega) (by omega)) rfl (hidB rfl) rfl ?_
            simp (maxSteps := 4000000) only [r0, d0, r1, r2, d2, r3, r4, d4, dk, dm1, pI, el_tb, freezeT, plainT, treeU, putT, putL, snapT, snapTs, snapTA, snapTAs, AV.ownArg, AV.ownLeaf, tvs, simprocAttr]
            repeat (first | refine ftS (by kernel_rfl) ?_ | refine And.intro (by omega) ?_)
            refine aopsL_fn (E := EL) (szRecord_ok R1_0 R1_1 ((1048576 : Int) - R0_0.length) hlR1_0 hlR1_1 (by omega) (by omega)) rfl (hidB rfl) rfl ?_
            simp (maxSteps := 4000000) only [r0, d0, r1, r2, d2, r3, r4, d4, dk, dm1, pI, el_tb, freezeT, plainT, treeU, putT, putL, snapT, snapTs, snapTA, snapTAs, AV.ownArg, AV.ownLeaf, tvs, simprocAttr]
            repeat (first | refine ftS (by kernel_rfl) ?_ | refine And.intro (by omega) ?_)
            refine aopsL_fn (E := EL) (szRecord_ok R2_0 R2_1 ((1048576 : Int) - R0_0.length - R1_0.length - R1_1.length) hlR2_0 hlR2_1 (by omega) (by omega)) rfl (hidB rfl) rfl ?_
            simp (maxSteps := 4000000) only [r0, d0, r1, r2, d2, r3, r4, d4, dk, dm1, pI, el_tb, freezeT, plainT, treeU, putT, putL, snapT, snapTs, snapTA, snapTAs, AV.ownArg, AV.ownLeaf, tvs, simprocAttr]
            repeat (first | refine ftS (by kernel_rfl) ?_ | refine And.intro (by omega) ?_)
            refine aopsL_fn (E := EL) (toProgram_ok R0_0 h0_1 shR0_0) rfl (hidB rfl) rfl ?_
            simp (maxSteps := 4000000) only [r0, d0, r1, r2, d2, r3, r4, d4, dk, dm1, pI, el_tb, freezeT, plainT, treeU, putT, putL, snapT, snapTs, snapTA, snapTAs, AV.ownArg, AV.ownLeaf, tvs, simprocAttr]
            repeat (first | refine ftS (by kernel_rfl) ?_ | refine And.intro (by omega) ?_)
            refine aopsL_fn (E := EL) (toRecord_ok R1_0 R1_1 shR1_0 shR1_1) rfl (hidB rfl) rfl ?_
            simp (maxSteps := 4000000) only [r0, d0, r1, r2, d2, r3, r4, d4, dk, dm1, pI, el_tb, freezeT, plainT, treeU, putT, putL, snapT, snapTs, snapTA, snapTAs, AV.ownArg, AV.ownLeaf, tvs, simprocAttr]
            repeat (first | refine ftS (by kernel_rfl) ?_ | refine And.intro (by omega) ?_)
            refine aopsL_fn (E := EL) (toRecord_ok R2_0 R2_1 shR2_0 shR2_1) rfl (hidB rfl) rfl ?_
            simp (maxSteps := 4000000) only [r0, d0, r1, r2, d2, r3, r4, d4, dk, dm1, pI, el_tb, freezeT, plainT, treeU, putT, putL, snapT, snapTs, snapTA, snapTAs, AV.ownArg, AV.ownLeaf, tvs, simprocAttr]
            repeat (first | refine ftS (by kernel_rfl) ?_ | refine And.intro (by omega) ?_)
            refine aopsL_rd (E := EL) (HS) rfl ?_
            simp (maxSteps := 4000000) only [r0, d0, r1, r2, d2, r3, r4, d4, dk, dm1, pI, el_tb, freezeT, plainT, treeU, putT, putL, snapT, snapTs, snapTA, snapTAs, AV.ownArg, AV.ownLeaf, tvs, simprocAttr]
            repeat (first | refine ftS (by kernel_rfl) ?_ | refine And.intro (by omega) ?_)
            refine aopsL_fn (E := EL) (toProgram_ok R0_0 h0_1 shR0_0) rfl (hidB rfl) rfl ?_
            simp (maxSteps := 4000000) only [r0, d0, r1, r2, d2, r3, r4, d4, dk, dm1, pI, el_tb, freezeT, plainT, treeU, putT, putL, snapT, snapTs, snapTA, snapTAs, AV.ownArg, AV.ownLeaf, tvs, simprocAttr]
            repeat (first | refine ftS (by kernel_rfl) ?_ | refine And.intro (by omega) ?_)
            refine aopsL_fn (E := EL) (toRecord_ok R1_0 R1_1 shR1_0 shR1_1) rfl (hidB rfl) rfl ?_
            simp (maxSteps := 4000000) only [r0, d0, r1, r2, d2, r3, r4, d4, dk, dm1, pI, el_tb, freezeT, plainT, treeU, putT, putL, snapT, snapTs, snapTA, snapTAs, AV.ownArg, AV.ownLeaf, tvs, simprocAttr]
            repeat (first | refine ftS (by kernel_rfl) ?_ | refine And.intro (by omega) ?_)
            refine aopsL_fn (E := EL) (toRecord_ok R2_0 R2_1 shR2_0 shR2_1) rfl (hidB rfl) rfl ?_
            simp (maxSteps := 4000000) only [r0, d0, r1, r2, d2, r3, r4, d4, dk, dm1, pI, el_tb, freezeT, plainT, treeU, putT, putL, snapT, snapTs, snapTA, snapTAs, AV.ownArg, AV.ownLeaf, tvs, simprocAttr]
            repeat (first | refine ftS (by kernel_rfl) ?_ | refine And.intro (by omega) ?_)
            refine aopsL_fn (E := EL) (HI) rfl (hidB rfl) rfl ?_
            simp (maxSteps := 4000000) only [r0, d0, r1, r2, d2, r3, r4, d4, dk, dm1, pI, el_tb, freezeT, plainT, treeU, putT, putL, snapT, snapTs, snapTA, snapTAs, AV.ownArg, AV.ownLeaf, tvs, simprocAttr]
            repeat (first | refine ftS (by kernel_rfl) ?_ | refine And.intro (by omega) ?_)
            refine aopsL_fn (E := EL) (eqRecord_ok [.lst 104 V0_0, .lst 3 V0_1] ⟨V0_0, V0_1, rfl, shV0_0, shV0_1⟩) rfl (hidB rfl) rfl ?_
            simp (maxSteps := 4000000) only [r0, d0, r1, r2, d2, r3, r4, d4, dk, dm1, pI, el_tb, freezeT, plainT, treeU, putT, putL, snapT, snapTs, snapTA, snapTAs, AV.ownArg, AV.ownLeaf, tvs, simprocAttr]
            repeat (first | refine ftS (by kernel_rfl) ?_ | refine And.intro (by omega) ?_)
            refine aopsL_fn (E := EL) (toProgram_ok R0_0 h0_1 shR0_0) rfl (hidB rfl) rfl ?_
            simp (maxSteps := 4000000) only [r0, d0, r1, r2, d2, r3, r4, d4, dk, dm1, pI, el_tb, freezeT, plainT, treeU, putT, putL, snapT, snapTs, snapTA, snapTAs, AV.ownArg, AV.ownLeaf, tvs, simprocAttr]
            repeat (first | refine ftS (by kernel_rfl) ?_ | refine And.intro (by omega) ?_)
            refine aopsL_fn (E := EL) (eqProgram_ok [.lst 141 R0_0, pI h0_1] ⟨R0_0, h0_1, rfl, shR0_0⟩) rfl (hidB rfl) rfl ?_
            simp (maxSteps := 4000000) only [r0, d0, r1, r2, d2, r3, r4, d4, dk, dm1, pI, el_tb, freezeT, plainT, treeU, putT, putL, snapT, snapTs, snapTA, snapTAs, AV.ownArg, AV.ownLeaf, tvs, simprocAttr]
            repeat (first | refine ftS (by kernel_rfl) ?_ | refine And.intro (by omega) ?_)
            refine aopsL_fn (E := EL) (toRecord_ok R1_0 R1_1 shR1_0 shR1_1) rfl (hidB rfl) rfl ?_
            simp (maxSteps := 4000000) only [r0, d0, r1, r2, d2, r3, r4, d4, dk, dm1, pI, el_tb, freezeT, plainT, treeU, putT, putL, snapT, snapTs, snapTA, snapTAs, AV.ownArg, AV.ownLeaf, tvs, simprocAttr]
            repeat (first | refine ftS (by kernel_rfl) ?_ | refine And.intro (by omega) ?_)
            refine aopsL_fn (E := EL) (eqRecord_ok [.lst 104 R1_0, .lst 3 R1_1] ⟨R1_0, R1_1, rfl, shR1_0, shR1_1⟩) rfl (hidB rfl) rfl ?_
            simp (maxSteps := 4000000) only [r0, d0, r1, r2, d2, r3, r4, d4, dk, dm1, pI, el_tb, freezeT, plainT, treeU, putT, putL, snapT, snapTs, snapTA, snapTAs, AV.ownArg, AV.ownLeaf, tvs, simprocAttr]
            repeat (first | refine ftS (by kernel_rfl) ?_ | refine And.intro (by omega) ?_)
            refine aopsL_fn (E := EL) (toRecord_ok R2_0 R2_1 shR2_0 shR2_1) rfl (hidB rfl) rfl ?_
            simp (maxSteps := 4000000) only [r0, d0, r1, r2, d2, r3, r4, d4, dk, dm1, pI, el_tb, freezeT, plainT, treeU, putT, putL, snapT, snapTs, snapTA, snapTAs, AV.ownArg, AV.ownLeaf, tvs, simprocAttr]
            repeat (first | refine ftS (by kernel_rfl) ?_ | refine And.intro (by omega) ?_)
            refine aopsL_fn (E := EL) (eqRecord_ok [.lst 104 R2_0, .lst 3 R2_1] ⟨R2_0, R2_1, rfl, shR2_0, shR2_1⟩) rfl (hidB rfl) rfl ?_
            simp (maxSteps := 4000000) only [r0, d0, r1, r2, d2, r3, r4, d4, dk, dm1, pI, el_tb, freezeT, plainT, treeU, putT, putL, snapT, snapTs, snapTA, snapTAs, AV.ownArg, AV.ownLeaf, tvs, simprocAttr]
            repeat (first | refine ftS (by kernel_rfl) ?_ | refine And.intro (by omega) ?_)
            refine aopsL_mut (E := EL) (M0) rfl ?_
            simp (maxSteps := 4000000) only [r0, d0, r1, r2, d2, r3, r4, d4, dk, dm1, pI, el_tb, freezeT, plainT, treeU, putT, putL, snapT, snapTs, snapTA, snapTAs, AV.ownArg, AV.ownLeaf, tvs, simprocAttr]
            repeat (first | refine ftS (by kernel_rfl) ?_ | refine And.intro (by omega) ?_)
            refine aopsL_mut (E := EL) (M1) rfl ?_
            simp (maxSteps := 4000000) only [r0, d0, r1, r2, d2, r3, r4, d4, dk, dm1, pI, el_tb, freezeT, plainT, treeU, putT, putL, snapT, snapTs, snapTA, snapTAs, AV.ownArg, AV.ownLeaf, tvs, simprocAttr]
            repeat (first | refine ftS (by kernel_rfl) ?_ | refine And.intro (by omega) ?_)
            refine aopsL_mut (E := EL) (M2) rfl ?_
            simp (maxSteps := 4000000) only [r0, d0, r1, r2, d2, r3, r4, d4, dk, dm1, pI, el_tb, freezeT, plainT, treeU, putT, putL, snapT, snapTs, snapTA, snapTAs, AV.ownArg, AV.ownLeaf, tvs, simprocAttr]
            repeat (first | refine ftS (by kernel_rfl) ?_ | refine And.intro (by omega) ?_)
            refine aopsL_fnG (E := EL) (eqRecord_ok [.lst 104 V0_0, .lst 3 V0_1] ⟨V0_0, V0_1, rfl, shV0_0, shV0_1⟩) rfl (hidB rfl) rfl rfl (by simp (maxSteps := 4000000) only [r0, d0, r1, r2, d2, r3, r4, d4, dk, dm1, pI, el_tb, freezeT, plainT, treeU, putT, putL, snapT, snapTs, snapTA, snapTAs, AV.ownArg, AV.ownLeaf, tvs, simprocAttr]) ?_
            simp (maxSteps := 4000000) only [r0, d0, r1, r2, d2, r3, r4, d4, dk, dm1, pI, el_tb, freezeT, plainT, treeU, putT, putL, snapT, snapTs, snapTA, snapTAs, AV.ownArg, AV.ownLeaf, tvs, simprocAttr]
            repeat (first | refine ftS (by kernel_rfl) ?_ | refine And.intro (by omega) ?_)
            refine aopsL_mut (E := EL) (MR0) rfl ?_
            simp (maxSteps := 4000000) only [r0, d0, r1, r2, d2, r3, r4, d4, dk, dm1, pI, el_tb, freezeT, plainT, treeU, putT, putL, snapT, snapTs, snapTA, snapTAs, AV.ownArg, AV.ownLeaf, tvs, simprocAttr]
            repeat (first | refine ftS (by kernel_rfl) ?_ | refine And.intro (by omega) ?_)
            refine aopsL_fn (E := EL) (HR0) rfl (hidB rfl) rfl ?_
            simp (maxSteps := 4000000) only [r0, d0, r1, r2, d2, r3, r4, d4, dk, dm1, pI, el_tb, freezeT, plainT, treeU, putT, putL, snapT, snapTs, snapTA, snapTAs, AV.ownArg, AV.ownLeaf, tvs, simprocAttr]
            repeat (first | refine ftS (by kernel_rfl) ?_ | refine And.intro (by omega) ?_)
            refine aopsL_fn (E := EL) (toProgram_ok R0_0 h0_1 shR0_0) rfl (hidB rfl) rfl ?_
            simp (maxSteps := 4000000) only [r0, d0, r1, r2, d2, r3, r4, d4, dk, dm1, pI, el_tb, freezeT, plainT, treeU, putT, putL, snapT, snapTs, snapTA, snapTAs, AV.ownArg, AV.ownLeaf, tvs, simprocAttr]
            repeat (first | refine ftS (by kernel_rfl) ?_ | refine And.intro (by omega) ?_)
            refine aopsL_fn (E := EL) (toRecord_ok R1_0 R1_1 shR1_0 shR1_1) rfl (hidB rfl) rfl ?_
            simp (maxSteps := 4000000) only [r0, d0, r1, r2, d2, r3, r4, d4, dk, dm1, pI, el_tb, freezeT, plainT, treeU, putT, putL, snapT, snapTs, snapTA, snapTAs, AV.ownArg, AV.ownLeaf, tvs, simprocAttr]
            repeat (first | refine ftS (by kernel_rfl) ?_ | refine And.intro (by omega) ?_)
            refine aopsL_fn (E := EL) (toRecord_ok R2_0 R2_1 shR2_0 shR2_1) rfl (hidB rfl) rfl ?_
            simp (maxSteps := 4000000) only [r0, d0, r1, r2, d2, r3, r4, d4, dk, dm1, pI, el_tb, freezeT, plainT, treeU, putT, putL, snapT, snapTs, snapTA, snapTAs, AV.ownArg, AV.ownLeaf, tvs, simprocAttr]
            repeat (first | refine ftS (by kernel_rfl) ?_ | refine And.intro (by omega) ?_)
            refine aopsL_fn (E := EL) (HI) rfl (hidB rfl) rfl ?_
            simp (maxSteps := 4000000) only [r0, d0, r1, r2, d2, r3, r4, d4, dk, dm1, pI, el_tb, freezeT, plainT, treeU, putT, putL, snapT, snapTs, snapTA, snapTAs, AV.ownArg, AV.ownLeaf, tvs, simprocAttr]
            repeat (first | refine ftS (by kernel_rfl) ?_ | refine And.intro (by omega) ?_)
            refine aopsL_fn (E := EL) (eqRecord_ok [.lst 104 V0_0, .lst 3 V0_1] ⟨V0_0, V0_1, rfl, shV0_0, shV0_1⟩) rfl (hidB rfl) rfl ?_
            simp (maxSteps := 4000000) only [r0, d0, r1, r2, d2, r3, r4, d4, dk, dm1, pI, el_tb, freezeT, plainT, treeU, putT, putL, snapT, snapTs, snapTA, snapTAs, AV.ownArg, AV.ownLeaf, tvs, simprocAttr]
            repeat (first | refine ftS (by kernel_rfl) ?_ | refine And.intro (by omega) ?_)
            refine aopsL_fn (E := EL) (HR0) rfl (hidB rfl) rfl ?_
            simp (maxSteps := 4000000) only [r0, d0, r1, r2, d2, r3, r4, d4, dk, dm1, pI, el_tb, freezeT, plainT, treeU, putT, putL, snapT, snapTs, snapTA, snapTAs, AV.ownArg, AV.ownLeaf, tvs, simprocAttr]
            repeat (first | refine ftS (by kernel_rfl) ?_ | refine And.intro (by omega) ?_)
            all_goals (first | rfl | trivial | skip)
end Av
end Go.Proofs.Ytbkbppllcjcmhaa
