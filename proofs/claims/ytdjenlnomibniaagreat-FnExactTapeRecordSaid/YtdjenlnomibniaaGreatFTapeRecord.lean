/-
  For every program and every text 'FnExactTapeRecord' answers true: both packages answer alike, the arguments stay as they are, and the answer shares no memory with them or with another answer. No condition.
  The exact law of TapeRecord.
  What both packages answer: TapeRecord.
-/
import Derived.Test.YtdjenlnomibniaaGreatTyE
import Derived.Test.YtdjenlnomibniaaGreatTyH
import Derived.Test.YtdjenlnomibniaaGreatTyM
import Derived.Test.YtdjenlnomibniaaGreatTyT
import Derived.Test.YtdjenlnomibniaaGreatTapM
import Derived.Test.YtdjenlnomibniaaGreatShp
import Derived.Test.YtdjenlnomibniaaGreatOpnR
import Derived.OpenShut
set_option linter.unusedSimpArgs false
set_option linter.unusedVariables false
namespace Go.Proofs.YtdjenlnomibniaaGreat
open Go.RowKit
namespace Av
/-- what both packages answer -/
def exactTapeRecord_both (R0_0 : List (List PV)) (h0_1 : Int) (s1 : ByteArray) : Prop := ∃ (V0_0 : List (List PV)) (V0_1 : List (List PV)) (v1 : Bool), FnOk E.P 17 [.agg [.lst 116 R0_0, pI h0_1], .str s1] (.tup [.agg [.lst 114 V0_0, .lst 3 V0_1], .bool v1]) false ∧ FnOk E.P 18 [.agg [.lst 116 R0_0, pI h0_1], .str s1] (.tup [.agg [.lst 114 V0_0, .lst 3 V0_1], .bool v1]) true ∧ ShSliceS V0_0 ∧ ShIntS V0_1 ∧ cntR V0_0 + cntR V0_1 ≤ 1152921504606846976
set_option maxRecDepth 100000 in
set_option maxHeartbeats 40000000 in
theorem exactTapeRecord_law (R0_0 : List (List PV)) (h0_1 : Int) (s1 : ByteArray) (hlR0_0 : R0_0.length ≤ 9223372036854775807) (hsR0_0 : ∀ r ∈ R0_0, ShCode r)
    (H : s1.size ≤ 1048576 → R0_0.length ≤ 1048576 → exactTapeRecord_both R0_0 h0_1 s1) : FnOk E.P 4 [.agg [.lst 118 R0_0, pI h0_1], .str s1] (.bool true) true := by
  by_cases c_s1 : (s1.size : Int) > 1048576
  · have d_s1 : decide ((s1.size : Int) > 1048576) = true := by rw [decide_eq_true_eq]; omega
    refine fn_ok (E := EL) mixedL Tryz.func4 rfl (by kernel_rfl) _ Tryz.results4 _ Tryz.ntmps4 (by simp) (by kernel_rfl) ?_
    simp (maxSteps := 4000000) only [d_s1, pI, el_tb, freezeT, plainT, treeU, putT, putL, snapT, snapTs, snapTA, snapTAs, AV.ownArg, AV.ownLeaf, tvs, simprocAttr]
    repeat (first | refine ftS (by kernel_rfl) ?_ | refine And.intro (by omega) ?_)
    all_goals (first | rfl | trivial | skip)
  · have d_s1 : decide ((s1.size : Int) > 1048576) = false := by rw [decide_eq_false_iff_not]; omega
    by_cases g0 : ((1048576 : Int) : Int) < R0_0.length
    · have r0 : restI ((1048576 : Int)) R0_0.length = -1 := if_pos g0
      refine fn_ok (E := EL) mixedL Tryz.func4 rfl (by kernel_rfl) _ Tryz.results4 _ Tryz.ntmps4 (by simp) (by kernel_rfl) ?_
      simp (maxSteps := 4000000) only [d_s1, r0, pI, el_tb, freezeT, plainT, treeU, putT, putL, snapT, snapTs, snapTA, snapTAs, AV.ownArg, AV.ownLeaf, tvs, simprocAttr]
      repeat (first | refine ftS (by kernel_rfl) ?_ | refine And.intro (by omega) ?_)
      refine aopsL_fn (E := EL) (szProgram_ok R0_0 h0_1 ((1048576 : Int)) hlR0_0 (by omega) (by omega)) rfl (hidB rfl) rfl ?_
      simp (maxSteps := 4000000) only [d_s1, r0, pI, el_tb, freezeT, plainT, treeU, putT, putL, snapT, snapTs, snapTA, snapTAs, AV.ownArg, AV.ownLeaf, tvs, simprocAttr]
      repeat (first | refine ftS (by kernel_rfl) ?_ | refine And.intro (by omega) ?_)
      all_goals (first | rfl | trivial | skip)
    · have r0 : restI ((1048576 : Int)) R0_0.length = (1048576 : Int) - R0_0.length := if_neg g0
      have d0 : decide ((1048576 : Int) - R0_0.length < 0) = false := by simp only [decide_eq_false_iff_not]; omega
      have shR0_0 : ShCodeS R0_0 := ⟨by omega, hsR0_0⟩
      obtain ⟨V0_0, V0_1, v1, HS, HI, shV0_0, shV0_1, hcnt⟩ := H (by omega) (by omega)
      have cR0_0 : cntR R0_0 ≤ 4194304 := by
        have h1 := cntR_le (B := 4) R0_0 (fun r hr => by obtain ⟨a0, a1, a2, a3, rfl⟩ := hsR0_0 r hr; simp [cntL, cntP, pI])
        omega
      have M0 := mkProgram_ok R0_0 h0_1 shR0_0 1 (by omega) (by simp only [mkR_cnt]; omega)
      simp only [mkR_cnt] at M0
      obtain ⟨k1, f1⟩ : ∃ z, 1 + (cntR R0_0 : Int) = z := ⟨_, rfl⟩
      rw [f1] at M0
      have b1 : 1 ≤ k1 ∧ k1 ≤ 100000000 := by omega
      have dk : decide (k1 < 0) = false := by simp; omega
      have MR0 := mkRecord_ok V0_0 V0_1 shV0_0 shV0_1 1 (by omega) (by simp only [mkR_cnt]; omega)
      have HR0 := heldRecord_ok V0_0 V0_1 shV0_0 shV0_1 1 (by omega) (by simp only [mkR_cnt]; omega)
      simp only [mkR_cnt] at MR0 HR0
      obtain ⟨m1, fm1⟩ : ∃ z, 1 + (cntR V0_0 : Int) + (cntR V0_1 : Int) = z := ⟨_, rfl⟩
      rw [fm1] at MR0 HR0
      have dm1 : decide (m1 < 0) = false := by simp; omega
      try clear hcnt
      refine fn_ok (E := EL) mixedL Tryz.func4 rfl (by kernel_rfl) _ Tryz.results4 _ Tryz.ntmps4 (by simp) (by kernel_rfl) ?_
      simp (maxSteps := 4000000) only [d_s1, r0, d0, dk, dm1, pI, el_tb, freezeT, plainT, treeU, putT, putL, snapT, snapTs, snapTA, snapTAs, AV.ownArg, AV.ownLeaf, tvs, simprocAttr]
      repeat (first | refine ftS (by kernel_rfl) ?_ | refine And.intro (by omega) ?_)
      refine aopsL_fn (E := EL) (szProgram_ok R0_0 h0_1 ((1048576 : Int)) hlR0_0 (by omega) (by omega)) rfl (hidB rfl) rfl ?_
      simp (maxSteps := 4000000) only [d_s1, r0, d0, dk, dm1, pI, el_tb, freezeT, plainT, treeU, putT, putL, snapT, snapTs, snapTA, snapTAs, AV.ownArg, AV.ownLeaf, tvs, simprocAttr]
      repeat (first | refine ftS (by kernel_rfl) ?_ | refine And.intro (by omega) ?_)
      refine aopsL_fn (E := EL) (toProgram_ok R0_0 h0_1 shR0_0) rfl (hidB rfl) rfl ?_
      simp (maxSteps := 4000000) only [d_s1, r0, d0, dk, dm1, pI, el_tb, freezeT, plainT, treeU, putT, putL, snapT, snapTs, snapTA, snapTAs, AV.ownArg, AV.ownLeaf, tvs, simprocAttr]
      repeat (first | refine ftS (by kernel_rfl) ?_ | refine And.intro (by omega) ?_)
      refine aopsL_rd (E := EL) (HS) rfl ?_
      simp (maxSteps := 4000000) only [d_s1, r0, d0, dk, dm1, pI, el_tb, freezeT, plainT, treeU, putT, putL, snapT, snapTs, snapTA, snapTAs, AV.ownArg, AV.ownLeaf, tvs, simprocAttr]
      repeat (first | refine ftS (by kernel_rfl) ?_ | refine And.intro (by omega) ?_)
      refine aopsL_fn (E := EL) (toProgram_ok R0_0 h0_1 shR0_0) rfl (hidB rfl) rfl ?_
      simp (maxSteps := 4000000) only [d_s1, r0, d0, dk, dm1, pI, el_tb, freezeT, plainT, treeU, putT, putL, snapT, snapTs, snapTA, snapTAs, AV.ownArg, AV.ownLeaf, tvs, simprocAttr]
      repeat (first | refine ftS (by kernel_rfl) ?_ | refine And.intro (by omega) ?_)
      refine aopsL_fn (E := EL) (HI) rfl (hidB rfl) rfl ?_
      simp (maxSteps := 4000000) only [d_s1, r0, d0, dk, dm1, pI, el_tb, freezeT, plainT, treeU, putT, putL, snapT, snapTs, snapTA, snapTAs, AV.ownArg, AV.ownLeaf, tvs, simprocAttr]
      repeat (first | refine ftS (by kernel_rfl) ?_ | refine And.intro (by omega) ?_)
      refine aopsL_fn (E := EL) (eqRecord_ok [.lst 114 V0_0, .lst 3 V0_1] ⟨V0_0, V0_1, rfl, shV0_0, shV0_1⟩) rfl (hidB rfl) rfl ?_
      simp (maxSteps := 4000000) only [d_s1, r0, d0, dk, dm1, pI, el_tb, freezeT, plainT, treeU, putT, putL, snapT, snapTs, snapTA, snapTAs, AV.ownArg, AV.ownLeaf, tvs, simprocAttr]
      repeat (first | refine ftS (by kernel_rfl) ?_ | refine And.intro (by omega) ?_)
      refine aopsL_fn (E := EL) (toProgram_ok R0_0 h0_1 shR0_0) rfl (hidB rfl) rfl ?_
      simp (maxSteps := 4000000) only [d_s1, r0, d0, dk, dm1, pI, el_tb, freezeT, plainT, treeU, putT, putL, snapT, snapTs, snapTA, snapTAs, AV.ownArg, AV.ownLeaf, tvs, simprocAttr]
      repeat (first | refine ftS (by kernel_rfl) ?_ | refine And.intro (by omega) ?_)
      refine aopsL_fn (E := EL) (eqProgram_ok [.lst 116 R0_0, pI h0_1] ⟨R0_0, h0_1, rfl, shR0_0⟩) rfl (hidB rfl) rfl ?_
      simp (maxSteps := 4000000) only [d_s1, r0, d0, dk, dm1, pI, el_tb, freezeT, plainT, treeU, putT, putL, snapT, snapTs, snapTA, snapTAs, AV.ownArg, AV.ownLeaf, tvs, simprocAttr]
      repeat (first | refine ftS (by kernel_rfl) ?_ | refine And.intro (by omega) ?_)
      refine aopsL_mut (E := EL) (M0) rfl ?_
      simp (maxSteps := 4000000) only [d_s1, r0, d0, dk, dm1, pI, el_tb, freezeT, plainT, treeU, putT, putL, snapT, snapTs, snapTA, snapTAs, AV.ownArg, AV.ownLeaf, tvs, simprocAttr]
      repeat (first | refine ftS (by kernel_rfl) ?_ | refine And.intro (by omega) ?_)
      refine aopsL_fnG (E := EL) (eqRecord_ok [.lst 114 V0_0, .lst 3 V0_1] ⟨V0_0, V0_1, rfl, shV0_0, shV0_1⟩) rfl (hidB rfl) rfl rfl (by simp (maxSteps := 4000000) only [d_s1, r0, d0, dk, dm1, pI, el_tb, freezeT, plainT, treeU, putT, putL, snapT, snapTs, snapTA, snapTAs, AV.ownArg, AV.ownLeaf, tvs, simprocAttr]) ?_
      simp (maxSteps := 4000000) only [d_s1, r0, d0, dk, dm1, pI, el_tb, freezeT, plainT, treeU, putT, putL, snapT, snapTs, snapTA, snapTAs, AV.ownArg, AV.ownLeaf, tvs, simprocAttr]
      repeat (first | refine ftS (by kernel_rfl) ?_ | refine And.intro (by omega) ?_)
      refine aopsL_mut (E := EL) (MR0) rfl ?_
      simp (maxSteps := 4000000) only [d_s1, r0, d0, dk, dm1, pI, el_tb, freezeT, plainT, treeU, putT, putL, snapT, snapTs, snapTA, snapTAs, AV.ownArg, AV.ownLeaf, tvs, simprocAttr]
      repeat (first | refine ftS (by kernel_rfl) ?_ | refine And.intro (by omega) ?_)
      refine aopsL_fn (E := EL) (HR0) rfl (hidB rfl) rfl ?_
      simp (maxSteps := 4000000) only [d_s1, r0, d0, dk, dm1, pI, el_tb, freezeT, plainT, treeU, putT, putL, snapT, snapTs, snapTA, snapTAs, AV.ownArg, AV.ownLeaf, tvs, simprocAttr]
      repeat (first | refine ftS (by kernel_rfl) ?_ | refine And.intro (by omega) ?_)
      refine aopsL_fn (E := EL) (toProgram_ok R0_0 h0_1 shR0_0) rfl (hidB rfl) rfl ?_
      simp (maxSteps := 4000000) only [d_s1, r0, d0, dk, dm1, pI, el_tb, freezeT, plainT, treeU, putT, putL, snapT, snapTs, snapTA, snapTAs, AV.ownArg, AV.ownLeaf, tvs, simprocAttr]
      repeat (first | refine ftS (by kernel_rfl) ?_ | refine And.intro (by omega) ?_)
      refine aopsL_fn (E := EL) (HI) rfl (hidB rfl) rfl ?_
      simp (maxSteps := 4000000) only [d_s1, r0, d0, dk, dm1, pI, el_tb, freezeT, plainT, treeU, putT, putL, snapT, snapTs, snapTA, snapTAs, AV.ownArg, AV.ownLeaf, tvs, simprocAttr]
      repeat (first | refine ftS (by kernel_rfl) ?_ | refine And.intro (by omega) ?_)
      refine aopsL_fn (E := EL) (eqRecord_ok [.lst 114 V0_0, .lst 3 V0_1] ⟨V0_0, V0_1, rfl, shV0_0, shV0_1⟩) rfl (hidB rfl) rfl ?_
      simp (maxSteps := 4000000) only [d_s1, r0, d0, dk, dm1, pI, el_tb, freezeT, plainT, treeU, putT, putL, snapT, snapTs, snapTA, snapTAs, AV.ownArg, AV.ownLeaf, tvs, simprocAttr]
      repeat (first | refine ftS (by kernel_rfl) ?_ | refine And.intro (by omega) ?_)
      refine aopsL_fn (E := EL) (HR0) rfl (hidB rfl) rfl ?_
      simp (maxSteps := 4000000) only [d_s1, r0, d0, dk, dm1, pI, el_tb, freezeT, plainT, treeU, putT, putL, snapT, snapTs, snapTA, snapTAs, AV.ownArg, AV.ownLeaf, tvs, simprocAttr]
      repeat (first | refine ftS (by kernel_rfl) ?_ | refine And.intro (by omega) ?_)
      all_goals (first | rfl | trivial | skip)
end Av
end Go.Proofs.YtdjenlnomibniaaGreat

set_option linter.unusedSimpArgs false
set_option linter.unusedVariables false
namespace Go.Proofs.YtdjenlnomibniaaGreat
open Go.RowKit
namespace Av
theorem both_TapeRecord (R0_0 : List (List PV)) (h0_1 : Int) (s1 : ByteArray) (t0 : ∀ r ∈ R0_0, ShCode r) (hs : s1.size ≤ 1048576) (hh : R0_0.length ≤ 1048576) : exactTapeRecord_both R0_0 h0_1 s1 := by
  obtain ⟨rs, rfl⟩ := codes_of R0_0 t0
  simp only [List.length_map] at hh
  have hl := Bt.readTape_le rs h0_1 (byteAt s1) s1.size
  have hf : (tapeRecM rs h0_1 s1).1.length ≤ 300 ∧ (tapeRecM rs h0_1 s1).2.length ≤ 300 := by
    unfold tapeRecM
    split
    · have := Bt.rec_few rs h0_1 (Bt.readTape rs h0_1 (byteAt s1) s1.size)
      omega
    · simp
  have c1 := cnt_sls (tapeRecM rs h0_1 s1).1
  have c2 := cnt_ints (tapeRecM rs h0_1 s1).2
  exact ⟨_, _, _, (stapeRecord_ok hh hs).read, itapeRecord_ok hh hs, sh_sls (by omega), sh_ints (by omega), by omega⟩
end Av
end Go.Proofs.YtdjenlnomibniaaGreat

set_option linter.unusedSimpArgs false
set_option linter.unusedVariables false
namespace Go.Proofs.YtdjenlnomibniaaGreat
open Go.ChangeShapes Go.WideShapes Go.ChangeAt Go.RowKit Go.Joins
open Av

set_option maxRecDepth 100000 in
set_option maxHeartbeats 8000000 in
theorem exactTapeRecord_lifted (os : Os) (started : os.Started) (H : Type) (enc : TypeId × Value → H) :
    ReturnsInHanded {} Tryz.checked os 4 .any (Rows.fnExactTapeRecordSpec.pre6 enc Tryz.prog Tryz.f4 Rows.fnExactTapeRecordRow.domain false) (Rows.fnExactTapeRecordSpec.post enc Tryz.prog Tryz.f4 false true false false) := by
  refine law_lifted (C := Tryz.checked) (tb := 4) own started (by kernel_rfl) Tryz.func4
    (ChangeSpec.witness6 (enc := enc) (C := Tryz.checked) false ⟨#[], #[.agg #[.slice none 0 0, .int .i64 0], .string ⟨#[]⟩], []⟩ 8 (by kernel_rfl) (by kernel_rfl) (by kernel_rfl) (by kernel_rfl))
    laidOut (fun t ht => ?_) rfl Tryz.underlying4 rfl (fun ds hds => ?_) ?_
  · have hp : t ∈ [24, 9] := ht
    simp only [List.mem_cons, List.not_mem_nil, or_false] at hp
    rcases hp with rfl | rfl
    · exact ⟨by kernel_rfl, of_decide_eq_true (by kernel_rfl)⟩
    · exact ⟨by kernel_rfl, of_decide_eq_true (by kernel_rfl)⟩
  · match ds, hds with
    | [d0, d1], _ => rfl
  · intro W base args ds p hval0 hA0
    have hval : ∀ (j : Nat) t v, Tryz.f4.params[j]? = some t → args[j]? = some v → Value.okWide Tryz.prog W .any base t v := hval0
    have hA : DataW.TrodAll enc Tryz.prog W 0 (fun _ => true) true Tryz.f4.params.toList args.toList ds p := hA0
    rw [Tryz.params4] at hA hval
    obtain ⟨v0, v1, d0, d1, p0, p1, rfl, rfl, rfl, h0, h1⟩ := trodAll_two hA
    obtain ⟨c0_0, c0_1, y0_0, y0_1, m0, rfl, _, _, hy0_0, hy0_1⟩ := open_agg2 Tryz.underlying24 (by kernel_rfl) (show Tryz.prog.cellsOf 24 = 2 by kernel_rfl) (hval 0 24 v0 rfl rfl) h0
    obtain ⟨v_R0_0, R0_0, e_R0_0, r_R0_0, l_R0_0, s_R0_0⟩ := open_rd Tryz.underlying22 Tryz.underlying118 (by kernel_rfl) (by kernel_rfl) (by kernel_rfl) (by decide) hy0_0
    have t_R0_0 : ∀ r ∈ R0_0, ShCode r := fun r hr => ints4 (s_R0_0 r hr)
    have m_R0_0 : R0_0.length ≤ 9223372036854775807 := by have h := l_R0_0; unfold maxLen at h; omega
    obtain ⟨h0_1, e0_1, _, _⟩ := DataW.trod_int Tryz.underlying3 hy0_1
    simp only [List.cons.injEq, and_true] at e_R0_0 e0_1
    subst e_R0_0 e0_1
    obtain ⟨s1, rfl, _, _, _⟩ := Go.ChangeMaps.open_string Tryz.underlying9 (hval 1 9 v1 rfl rfl) h1
    have hlaw := exactTapeRecord_law R0_0 h0_1 s1 m_R0_0 t_R0_0 (fun gs1 hh => both_TapeRecord R0_0 h0_1 s1 t_R0_0 gs1 hh)
    refine (hlaw.2 W (fun _ => False) [.agg #[c0_0, .int .i64 h0_1], .string s1] rfl (fun i hi hj => ?_)).mono fun e w' ⟨v, he, hb, ho⟩ => ⟨?_, hb⟩
    · have hi' : i < 2 := hi
      obtain rfl | rfl : i = 0 ∨ i = 1 := by omega
      · exact Rd.agg [.lst 118 R0_0, pI h0_1] [c0_0, .int .i64 h0_1] rfl (fun i hi => by
          have hi' : i < 2 := hi
          obtain rfl | rfl : i = 0 ∨ i = 1 := by omega
          · exact r_R0_0
          · exact .int _ _)
      · exact Rd.str _
    · simp only [if_true] at ho
      cases ho
      exact he

set_option maxHeartbeats 8000000 in
theorem exactTapeRecord_closed : joinedFacts Tryz.pinned.checked.prog 4 Tryz.f4 Rows.fnExactTapeRecordSpec Rows.fnExactTapeRecordRow = true := by
  unfold joinedFacts
  simp only [Bool.and_eq_true]
  repeat' (with_reducible refine And.intro ?_ ?_)
  all_goals (as_aux_lemma => kernel_rfl)

theorem exactTapeRecord_holds : Rows.FnExactTapeRecordSaid :=
  OpenClaim.holds_of_wide 4 Tryz.f4 rfl rfl rfl rfl rfl rfl rfl ⟨rfl, rfl, rfl, rfl, rfl⟩ rfl rfl rfl rfl rfl (by kernel_rfl) Tryz.func4 exactTapeRecord_closed
    (of_decide_eq_true (by kernel_rfl)) (by unfold Func.isWrapper; rw [if_neg (of_decide_eq_false (by kernel_rfl))]; exact ⟨rfl, rfl⟩)
    (fun os started H enc _ => exactTapeRecord_lifted os started H enc)
#print axioms exactTapeRecord_holds
end Go.Proofs.YtdjenlnomibniaaGreat
