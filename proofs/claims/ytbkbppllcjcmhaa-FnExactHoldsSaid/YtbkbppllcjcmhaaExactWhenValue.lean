/-
  The exact law of WhenValue.
-/
import Derived.Test.YtbkbppllcjcmhaaTyR
import Derived.Test.YtbkbppllcjcmhaaTyP
set_option linter.unusedSimpArgs false
set_option linter.unusedVariables false
namespace Go.Proofs.Ytbkbppllcjcmhaa
open Go.RowKit
namespace Av
/-- what both packages answer -/
def exactWhenValue_both (R0_0 : List (List PV)) (R0_1 : List (List PV)) (R0_2 : List (List PV)) (R0_3 : List (List PV)) (R1 : List (List PV)) : Prop := ∃ (v0 : Int), FnOk E.P 23 [.agg [.lst 134 R0_0, .lst 3 R0_1, .lst 3 R0_2, .lst 3 R0_3], .lst 83 R1] (pI v0) false ∧ FnOk E.P 25 [.agg [.lst 134 R0_0, .lst 3 R0_1, .lst 3 R0_2, .lst 3 R0_3], .lst 83 R1] (pI v0) true
set_option maxRecDepth 100000 in
set_option maxHeartbeats 40000000 in
theorem exactWhenValue_law (R0_0 : List (List PV)) (R0_1 : List (List PV)) (R0_2 : List (List PV)) (R0_3 : List (List PV)) (R1 : List (List PV)) (hlR0_0 : R0_0.length ≤ 9223372036854775807) (hsR0_0 : ∀ r ∈ R0_0, LoThread r) (hlR0_1 : R0_1.length ≤ 9223372036854775807) (hsR0_1 : ∀ r ∈ R0_1, ShInt r) (hlR0_2 : R0_2.length ≤ 9223372036854775807) (hsR0_2 : ∀ r ∈ R0_2, ShInt r) (hlR0_3 : R0_3.length ≤ 9223372036854775807) (hsR0_3 : ∀ r ∈ R0_3, ShInt r) (hlR1 : R1.length ≤ 9223372036854775807) (hsR1 : ∀ r ∈ R1, ShPart r)
    (H : totR R0_0 + R0_1.length + R0_2.length + R0_3.length + R1.length ≤ 1048576 → exactWhenValue_both R0_0 R0_1 R0_2 R0_3 R1) : FnOk E.P 6 [.agg [.lst 133 R0_0, .lst 3 R0_1, .lst 3 R0_2, .lst 3 R0_3], .lst 85 R1] (.bool true) true := by
  by_cases g0 : ((1048576 : Int) : Int) < ((totR R0_0 + R0_1.length + R0_2.length + R0_3.length : Nat) : Int)
  · have r0 : restI ((1048576 : Int)) (totR R0_0 + R0_1.length + R0_2.length + R0_3.length) = -1 := if_pos g0
    refine fn_ok (E := EL) mixedL Try.func6 rfl (by kernel_rfl) _ Try.results6 _ Try.ntmps6 (by simp) (by kernel_rfl) ?_
    simp (maxSteps := 4000000) only [r0, pI, el_tb, freezeT, plainT, treeU, putT, putL, snapT, snapTs, snapTA, snapTAs, AV.ownArg, AV.ownLeaf, tvs, simprocAttr]
    repeat (first | refine ftS (by kernel_rfl) ?_ | refine And.intro (by omega) ?_)
    refine aopsL_fn (E := EL) (szMachine_ok R0_0 R0_1 R0_2 R0_3 ((1048576 : Int)) ⟨hlR0_0, hsR0_0⟩ ⟨hlR0_1, hsR0_1⟩ ⟨hlR0_2, hsR0_2⟩ ⟨hlR0_3, hsR0_3⟩ (by omega) (by omega)) rfl (hidB rfl) rfl ?_
    simp (maxSteps := 4000000) only [r0, pI, el_tb, freezeT, plainT, treeU, putT, putL, snapT, snapTs, snapTA, snapTAs, AV.ownArg, AV.ownLeaf, tvs, simprocAttr]
    repeat (first | refine ftS (by kernel_rfl) ?_ | refine And.intro (by omega) ?_)
    all_goals (first | rfl | trivial | skip)
  · have r0 : restI ((1048576 : Int)) (totR R0_0 + R0_1.length + R0_2.length + R0_3.length) = (1048576 : Int) - ((totR R0_0 + R0_1.length + R0_2.length + R0_3.length : Nat) : Int) := if_neg g0
    have d0 : decide ((1048576 : Int) - ((totR R0_0 + R0_1.length + R0_2.length + R0_3.length : Nat) : Int) < 0) = false := by simp only [decide_eq_false_iff_not]; omega
    by_cases g1 : ((1048576 : Int) - ((totR R0_0 + R0_1.length + R0_2.length + R0_3.length : Nat) : Int) : Int) < R1.length
    · have r1 : restI ((1048576 : Int) - ((totR R0_0 + R0_1.length + R0_2.length + R0_3.length : Nat) : Int)) R1.length = -1 := if_pos g1
      refine fn_ok (E := EL) mixedL Try.func6 rfl (by kernel_rfl) _ Try.results6 _ Try.ntmps6 (by simp) (by kernel_rfl) ?_
      simp (maxSteps := 4000000) only [r0, d0, r1, pI, el_tb, freezeT, plainT, treeU, putT, putL, snapT, snapTs, snapTA, snapTAs, AV.ownArg, AV.ownLeaf, tvs, simprocAttr]
      repeat (first | refine ftS (by kernel_rfl) ?_ | refine And.intro (by omega) ?_)
      refine aopsL_fn (E := EL) (szMachine_ok R0_0 R0_1 R0_2 R0_3 ((1048576 : Int)) ⟨hlR0_0, hsR0_0⟩ ⟨hlR0_1, hsR0_1⟩ ⟨hlR0_2, hsR0_2⟩ ⟨hlR0_3, hsR0_3⟩ (by omega) (by omega)) rfl (hidB rfl) rfl ?_
      simp (maxSteps := 4000000) only [r0, d0, r1, pI, el_tb, freezeT, plainT, treeU, putT, putL, snapT, snapTs, snapTA, snapTAs, AV.ownArg, AV.ownLeaf, tvs, simprocAttr]
      repeat (first | refine ftS (by kernel_rfl) ?_ | refine And.intro (by omega) ?_)
      refine aopsL_fn (E := EL) (szPartS_ok R1 ((1048576 : Int) - ((totR R0_0 + R0_1.length + R0_2.length + R0_3.length : Nat) : Int)) hlR1 (by omega) (by omega)) rfl (hidB rfl) rfl ?_
      simp (maxSteps := 4000000) only [r0, d0, r1, pI, el_tb, freezeT, plainT, treeU, putT, putL, snapT, snapTs, snapTA, snapTAs, AV.ownArg, AV.ownLeaf, tvs, simprocAttr]
      repeat (first | refine ftS (by kernel_rfl) ?_ | refine And.intro (by omega) ?_)
      all_goals (first | rfl | trivial | skip)
    · have r1 : restI ((1048576 : Int) - ((totR R0_0 + R0_1.length + R0_2.length + R0_3.length : Nat) : Int)) R1.length = (1048576 : Int) - ((totR R0_0 + R0_1.length + R0_2.length + R0_3.length : Nat) : Int) - R1.length := if_neg g1
      have d1 : decide ((1048576 : Int) - ((totR R0_0 + R0_1.length + R0_2.length + R0_3.length : Nat) : Int) - R1.length < 0) = false := by simp only [decide_eq_false_iff_not]; omega
      have shR0_0 : ShThreadS R0_0 := LoThreadS.sh ⟨hlR0_0, hsR0_0⟩ (by omega)
      have shR0_1 : ShIntS R0_1 := ⟨by omega, hsR0_1⟩
      have shR0_2 : ShIntS R0_2 := ⟨by omega, hsR0_2⟩
      have shR0_3 : ShIntS R0_3 := ⟨by omega, hsR0_3⟩
      have shR1 : ShPartS R1 := ⟨by omega, hsR1⟩
      obtain ⟨v0, HS, HI⟩ := H (by omega)
      refine fn_ok (E := EL) mixedL Try.func6 rfl (by kernel_rfl) _ Try.results6 _ Try.ntmps6 (by simp) (by kernel_rfl) ?_
      simp (maxSteps := 4000000) only [r0, d0, r1, d1, pI, el_tb, freezeT, plainT, treeU, putT, putL, snapT, snapTs, snapTA, snapTAs, AV.ownArg, AV.ownLeaf, tvs, simprocAttr]
      repeat (first | refine ftS (by kernel_rfl) ?_ | refine And.intro (by omega) ?_)
      refine aopsL_fn (E := EL) (szMachine_ok R0_0 R0_1 R0_2 R0_3 ((1048576 : Int)) ⟨hlR0_0, hsR0_0⟩ ⟨hlR0_1, hsR0_1⟩ ⟨hlR0_2, hsR0_2⟩ ⟨hlR0_3, hsR0_3⟩ (by omega) (by omega)) rfl (hidB rfl) rfl ?_
      simp (maxSteps := 4000000) only [r0, d0, r1, d1, pI, el_tb, freezeT, plainT, treeU, putT, putL, snapT, snapTs, snapTA, snapTAs, AV.ownArg, AV.ownLeaf, tvs, simprocAttr]
      repeat (first | refine ftS (by kernel_rfl) ?_ | refine And.intro (by omega) ?_)
      refine aopsL_fn (E := EL) (szPartS_ok R1 ((1048576 : Int) - ((totR R0_0 + R0_1.length + R0_2.length + R0_3.length : Nat) : Int)) hlR1 (by omega) (by omega)) rfl (hidB rfl) rfl ?_
      simp (maxSteps := 4000000) only [r0, d0, r1, d1, pI, el_tb, freezeT, plainT, treeU, putT, putL, snapT, snapTs, snapTA, snapTAs, AV.ownArg, AV.ownLeaf, tvs, simprocAttr]
      repeat (first | refine ftS (by kernel_rfl) ?_ | refine And.intro (by omega) ?_)
      refine aopsL_fn (E := EL) (toMachine_ok R0_0 R0_1 R0_2 R0_3 shR0_0 shR0_1 shR0_2 shR0_3) rfl (hidB rfl) rfl ?_
      simp (maxSteps := 4000000) only [r0, d0, r1, d1, pI, el_tb, freezeT, plainT, treeU, putT, putL, snapT, snapTs, snapTA, snapTAs, AV.ownArg, AV.ownLeaf, tvs, simprocAttr]
      repeat (first | refine ftS (by kernel_rfl) ?_ | refine And.intro (by omega) ?_)
      refine aopsL_fn (E := EL) (toPartS_ok R1 shR1) rfl (hidB rfl) rfl ?_
      simp (maxSteps := 4000000) only [r0, d0, r1, d1, pI, el_tb, freezeT, plainT, treeU, putT, putL, snapT, snapTs, snapTA, snapTAs, AV.ownArg, AV.ownLeaf, tvs, simprocAttr]
      repeat (first | refine ftS (by kernel_rfl) ?_ | refine And.intro (by omega) ?_)
      refine aopsL_rd (E := EL) (HS) rfl ?_
      simp (maxSteps := 4000000) only [r0, d0, r1, d1, pI, el_tb, freezeT, plainT, treeU, putT, putL, snapT, snapTs, snapTA, snapTAs, AV.ownArg, AV.ownLeaf, tvs, simprocAttr]
      repeat (first | refine ftS (by kernel_rfl) ?_ | refine And.intro (by omega) ?_)
      refine aopsL_fn (E := EL) (toMachine_ok R0_0 R0_1 R0_2 R0_3 shR0_0 shR0_1 shR0_2 shR0_3) rfl (hidB rfl) rfl ?_
      simp (maxSteps := 4000000) only [r0, d0, r1, d1, pI, el_tb, freezeT, plainT, treeU, putT, putL, snapT, snapTs, snapTA, snapTAs, AV.ownArg, AV.ownLeaf, tvs, simprocAttr]
      repeat (first | refine ftS (by kernel_rfl) ?_ | refine And.intro (by omega) ?_)
      refine aopsL_fn (E := EL) (toPartS_ok R1 shR1) rfl (hidB rfl) rfl ?_
      simp (maxSteps := 4000000) only [r0, d0, r1, d1, pI, el_tb, freezeT, plainT, treeU, putT, putL, snapT, snapTs, snapTA, snapTAs, AV.ownArg, AV.ownLeaf, tvs, simprocAttr]
      repeat (first | refine ftS (by kernel_rfl) ?_ | refine And.intro (by omega) ?_)
      refine aopsL_fn (E := EL) (HI) rfl (hidB rfl) rfl ?_
      simp (maxSteps := 4000000) only [r0, d0, r1, d1, pI, el_tb, freezeT, plainT, treeU, putT, putL, snapT, snapTs, snapTA, snapTAs, AV.ownArg, AV.ownLeaf, tvs, simprocAttr]
      repeat (first | refine ftS (by kernel_rfl) ?_ | refine And.intro (by omega) ?_)
      refine aopsL_fn (E := EL) (toMachine_ok R0_0 R0_1 R0_2 R0_3 shR0_0 shR0_1 shR0_2 shR0_3) rfl (hidB rfl) rfl ?_
      simp (maxSteps := 4000000) only [r0, d0, r1, d1, pI, el_tb, freezeT, plainT, treeU, putT, putL, snapT, snapTs, snapTA, snapTAs, AV.ownArg, AV.ownLeaf, tvs, simprocAttr]
      repeat (first | refine ftS (by kernel_rfl) ?_ | refine And.intro (by omega) ?_)
      refine aopsL_fn (E := EL) (eqMachine_ok [.lst 134 R0_0, .lst 3 R0_1, .lst 3 R0_2, .lst 3 R0_3] ⟨R0_0, R0_1, R0_2, R0_3, rfl, shR0_0, shR0_1, shR0_2, shR0_3⟩) rfl (hidB rfl) rfl ?_
      simp (maxSteps := 4000000) only [r0, d0, r1, d1, pI, el_tb, freezeT, plainT, treeU, putT, putL, snapT, snapTs, snapTA, snapTAs, AV.ownArg, AV.ownLeaf, tvs, simprocAttr]
      repeat (first | refine ftS (by kernel_rfl) ?_ | refine And.intro (by omega) ?_)
      refine aopsL_fn (E := EL) (toPartS_ok R1 shR1) rfl (hidB rfl) rfl ?_
      simp (maxSteps := 4000000) only [r0, d0, r1, d1, pI, el_tb, freezeT, plainT, treeU, putT, putL, snapT, snapTs, snapTA, snapTAs, AV.ownArg, AV.ownLeaf, tvs, simprocAttr]
      repeat (first | refine ftS (by kernel_rfl) ?_ | refine And.intro (by omega) ?_)
      refine aopsL_fn (E := EL) (eqPartS_ok R1 shR1) rfl (hidB rfl) rfl ?_
      simp (maxSteps := 4000000) only [r0, d0, r1, d1, pI, el_tb, freezeT, plainT, treeU, putT, putL, snapT, snapTs, snapTA, snapTAs, AV.ownArg, AV.ownLeaf, tvs, simprocAttr]
      repeat (first | refine ftS (by kernel_rfl) ?_ | refine And.intro (by omega) ?_)
      all_goals (first | rfl | trivial | skip)
end Av
end Go.Proofs.Ytbkbppllcjcmhaa
