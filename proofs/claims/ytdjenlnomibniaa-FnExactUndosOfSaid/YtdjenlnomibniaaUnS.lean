/-
  Chapter 7: TakeBack, the model's.
-/
import Derived.Test.YtdjenlnomibniaaUnT
set_option linter.unusedSimpArgs false
set_option linter.unusedVariables false
namespace Go.Proofs.Ytdjenlnomibniaa
open Go.RowKit
namespace Av
set_option maxRecDepth 10000 in
set_option maxHeartbeats 20000000 in
theorem sTakeBack_ok {m : Bt.Mc} {u : Bt.Un} (hm : Small m) (h1 : u.old.regs.length ≤ 1048576) (h2 : u.old.stack.length ≤ 1048576) :
    FnOk E.P 20 [.agg (pMc m), .agg (pUn u)] (.tup [.agg (pMc ((Bt.takeBack m u).getD Bt.mcNil)), .bool (Bt.takeBack m u).isSome]) false := by
  have hCopy := scopy_ok hm
  have hTh := sthread_ok (t := u.old) h1 h2
  have no : ¬ Bt.backIn m u → Bt.takeBack m u = none := fun h => if_neg h
  have m1 := hm.ths
  have m2 := hm.told
  have m3 := hm.cells
  have m4 := hm.locks
  refine fn_okS mixed Try.func20 rfl (by kernel_rfl) _ Try.results20 _ Try.ntmps20 (by simp) (by kernel_rfl) (fun w0 => ?_)
  refine awpS_seq mixed ?_
  repeat (first | (refine aops_fnX rfl ?_ ?_; focus (simp (maxSteps := 4000000) only [sks, pMc, pUn, pInts, pI, tvl, simprocAttr]; done)) | (simp (maxSteps := 4000000) only [pMc, pUn, pInts, pI, tvl, simprocAttr]) | refine ftS (by kernel_rfl) ?_ | refine And.intro (by omega) ?_)
  refine awpS_seq mixed ?_
  repeat (first | (refine aops_fnX rfl ?_ ?_; focus (simp (maxSteps := 4000000) only [sks, pMc, pUn, pInts, pI, tvl, simprocAttr]; done)) | (simp (maxSteps := 4000000) only [pMc, pUn, pInts, pI, tvl, simprocAttr]) | refine ftS (by kernel_rfl) ?_ | refine And.intro (by omega) ?_)
  refine aops_fn (hCopy) (hidB rfl) rfl ?_
  repeat (first | (refine aops_fnX rfl ?_ ?_; focus (simp (maxSteps := 4000000) only [sks, pMc, pUn, pInts, pI, tvl, simprocAttr]; done)) | (simp (maxSteps := 4000000) only [pMc, pUn, pInts, pI, tvl, simprocAttr]) | refine ftS (by kernel_rfl) ?_ | refine And.intro (by omega) ?_)
  by_cases c1 : u.begun = true ∧ m.ths.length < 1
  · have d1 : decide ((m.ths.length : Int) < 1) = true := by simp only [decide_eq_true_eq]; omega
    rw [no (fun h => by have := h.1 c1.1; omega)]
    have b1 := c1.1
    refine awpS_seq mixed ?_
    repeat (first | (refine aops_fnX rfl ?_ ?_; focus (simp (maxSteps := 4000000) only [sks, b1, d1, pMc, pUn, pInts, pI, tvl, simprocAttr]; done)) | (simp (maxSteps := 4000000) only [b1, d1, pMc, pUn, pInts, pI, tvl, simprocAttr]) | refine ftS (by kernel_rfl) ?_ | refine And.intro (by omega) ?_)
    refine ⟨.inr rfl, _, Gh.refl, ?_⟩
    repeat (first | (refine aops_fnX rfl ?_ ?_; focus (simp (maxSteps := 4000000) only [sks, Option.getD_none, Option.isSome_none, Bt.mcNil, List.map_nil, pMc, pUn, pInts, pI, tvl, simprocAttr]; done)) | (simp (maxSteps := 4000000) only [Option.getD_none, Option.isSome_none, Bt.mcNil, List.map_nil, pMc, pUn, pInts, pI, tvl, simprocAttr]) | refine ftS (by kernel_rfl) ?_ | refine And.intro (by omega) ?_)
    all_goals (first | rfl | trivial | skip)
  have k1 : u.begun = true → 0 < m.ths.length := fun h => by
    have : ¬ m.ths.length < 1 := fun h' => c1 ⟨h, h'⟩
    omega
  by_cases c2 : u.told = true ∧ m.told.length < 1
  · have d2 : decide ((m.told.length : Int) < 1) = true := by simp only [decide_eq_true_eq]; omega
    have b2 := c2.1
    rw [no (fun h => by have := h.2.1 c2.1; omega)]
    cases hb : u.begun with
    | false =>
      refine awpS_seq mixed ?_
      repeat (first | (refine aops_fnX rfl ?_ ?_; focus (simp (maxSteps := 4000000) only [sks, hb, b2, d2, pMc, pUn, pInts, pI, tvl, simprocAttr]; done)) | (simp (maxSteps := 4000000) only [hb, b2, d2, pMc, pUn, pInts, pI, tvl, simprocAttr]) | refine ftS (by kernel_rfl) ?_ | refine And.intro (by omega) ?_)
      refine ⟨.inr rfl, _, Gh.refl, ?_⟩
      repeat (first | (refine aops_fnX rfl ?_ ?_; focus (simp (maxSteps := 4000000) only [sks, Option.getD_none, Option.isSome_none, Bt.mcNil, List.map_nil, pMc, pUn, pInts, pI, tvl, simprocAttr]; done)) | (simp (maxSteps := 4000000) only [Option.getD_none, Option.isSome_none, Bt.mcNil, List.map_nil, pMc, pUn, pInts, pI, tvl, simprocAttr]) | refine ftS (by kernel_rfl) ?_ | refine And.intro (by omega) ?_)
      all_goals (first | rfl | trivial | skip)
    | true =>
      have d1 : decide ((m.ths.length : Int) < 1) = false := by simp only [decide_eq_false_iff_not]; have := k1 hb; omega
      refine awpS_seq mixed ?_
      repeat (first | (refine aops_fnX rfl ?_ ?_; focus (simp (maxSteps := 4000000) only [sks, hb, b2, d1, d2, pMc, pUn, pInts, pI, tvl, simprocAttr]; done)) | (simp (maxSteps := 4000000) only [hb, b2, d1, d2, pMc, pUn, pInts, pI, tvl, simprocAttr]) | refine ftS (by kernel_rfl) ?_ | refine And.intro (by omega) ?_)
      refine ⟨.inr rfl, _, Gh.refl, ?_⟩
      repeat (first | (refine aops_fnX rfl ?_ ?_; focus (simp (maxSteps := 4000000) only [sks, Option.getD_none, Option.isSome_none, Bt.mcNil, List.map_nil, pMc, pUn, pInts, pI, tvl, simprocAttr]; done)) | (simp (maxSteps := 4000000) only [Option.getD_none, Option.isSome_none, Bt.mcNil, List.map_nil, pMc, pUn, pInts, pI, tvl, simprocAttr]) | refine ftS (by kernel_rfl) ?_ | refine And.intro (by omega) ?_)
      all_goals (first | rfl | trivial | skip)
  have k2 : u.told = true → 0 < m.told.length := fun h => by
    have : ¬ m.told.length < 1 := fun h' => c2 ⟨h, h'⟩
    omega
  refine awpS_cut mixed tbT (tbH u m.cells m.locks m.ths m.told) 7 ?_ ?_
  · cases hb : u.begun with
    | false =>
      cases hb2 : u.told with
      | false =>
        repeat (first | (refine aops_fnX rfl ?_ ?_; focus (simp (maxSteps := 4000000) only [sks, hb, hb2, cqs, pMc, pUn, pInts, pI, tvl, simprocAttr]; done)) | (simp (maxSteps := 4000000) only [hb, hb2, cqs, pMc, pUn, pInts, pI, tvl, simprocAttr]) | refine ftS (by kernel_rfl) ?_ | refine And.intro (by omega) ?_)
        unfold LessC tbT tbH
        simp (maxSteps := 4000000) only [hb, hb2, pMc, pUn, pInts, pI, tvl, simprocAttr]
        all_goals (try simp [hb, hb2])
      | true =>
        have d2 : decide ((m.told.length : Int) < 1) = false := by simp only [decide_eq_false_iff_not]; have := k2 hb2; omega
        repeat (first | (refine aops_fnX rfl ?_ ?_; focus (simp (maxSteps := 4000000) only [sks, hb, hb2, d2, cqs, pMc, pUn, pInts, pI, tvl, simprocAttr]; done)) | (simp (maxSteps := 4000000) only [hb, hb2, d2, cqs, pMc, pUn, pInts, pI, tvl, simprocAttr]) | refine ftS (by kernel_rfl) ?_ | refine And.intro (by omega) ?_)
        unfold LessC tbT tbH
        simp (maxSteps := 4000000) only [hb, hb2, pMc, pUn, pInts, pI, tvl, simprocAttr]
        all_goals (try simp [hb, hb2])
    | true =>
      have d1 : decide ((m.ths.length : Int) < 1) = false := by simp only [decide_eq_false_iff_not]; have := k1 hb; omega
      cases hb2 : u.told with
      | false =>
        repeat (first | (refine aops_fnX rfl ?_ ?_; focus (simp (maxSteps := 4000000) only [sks, hb, hb2, d1, cqs, pMc, pUn, pInts, pI, tvl, simprocAttr]; done)) | (simp (maxSteps := 4000000) only [hb, hb2, d1, cqs, pMc, pUn, pInts, pI, tvl, simprocAttr]) | refine ftS (by kernel_rfl) ?_ | refine And.intro (by omega) ?_)
        unfold LessC tbT tbH
        simp (maxSteps := 4000000) only [hb, hb2, pMc, pUn, pInts, pI, tvl, simprocAttr]
        all_goals (try simp [hb, hb2])
      | true =>
        have d2 : decide ((m.told.length : Int) < 1) = false := by simp only [decide_eq_false_iff_not]; have := k2 hb2; omega
        repeat (first | (refine aops_fnX rfl ?_ ?_; focus (simp (maxSteps := 4000000) only [sks, hb, hb2, d1, d2, cqs, pMc, pUn, pInts, pI, tvl, simprocAttr]; done)) | (simp (maxSteps := 4000000) only [hb, hb2, d1, d2, cqs, pMc, pUn, pInts, pI, tvl, simprocAttr]) | refine ftS (by kernel_rfl) ?_ | refine And.intro (by omega) ?_)
        unfold LessC tbT tbH
        simp (maxSteps := 4000000) only [hb, hb2, pMc, pUn, pInts, pI, tvl, simprocAttr]
        all_goals (try simp [hb, hb2])
  refine awpS_cut mixed tbT (tbH u m.cells m.locks (Bt.cutTh m u) m.told) 7 ?_ ?_
  · unfold tbT tbH Bt.cutTh
    cases hb : u.begun with
    | false =>
      repeat (first | (refine aops_fnX rfl ?_ ?_; focus (simp (maxSteps := 4000000) only [sks, hb, cqs, pMc, pUn, pInts, pI, tvl, simprocAttr]; done)) | (simp (maxSteps := 4000000) only [hb, cqs, pMc, pUn, pInts, pI, tvl, simprocAttr]) | refine ftS (by kernel_rfl) ?_ | refine And.intro (by omega) ?_)
      unfold LessC
      simp (maxSteps := 4000000) only [hb, pMc, pUn, pInts, pI, tvl, simprocAttr]
      all_goals (try simp [hb])
    | true =>
      have := k1 hb
      have q1 : ((m.ths.length : Int) - 1).toNat = m.ths.length - 1 := by omega
      have q2 : (m.ths.map pTh).take (m.ths.length - 1) = (m.ths.take (m.ths.length - 1)).map pTh := List.map_take.symm
      repeat (first | (refine aops_fnX rfl ?_ ?_; focus (simp (maxSteps := 4000000) only [sks, hb, q1, cqs, pMc, pUn, pInts, pI, tvl, simprocAttr]; done)) | (simp (maxSteps := 4000000) only [hb, q1, cqs, pMc, pUn, pInts, pI, tvl, simprocAttr]) | refine ftS (by kernel_rfl) ?_ | refine And.intro (by omega) ?_)
      unfold LessC
      simp (maxSteps := 4000000) only [hb, q1, q2, pMc, pUn, pInts, pI, tvl, simprocAttr]
      all_goals (try simp [hb, q1, q2])
  refine awpS_cut mixed tbT (tbH u m.cells m.locks (Bt.cutTh m u) (Bt.cutTold m u)) 7 ?_ ?_
  · unfold tbT tbH Bt.cutTold
    cases hb : u.told with
    | false =>
      repeat (first | (refine aops_fnX rfl ?_ ?_; focus (simp (maxSteps := 4000000) only [sks, hb, cqs, pMc, pUn, pInts, pI, tvl, simprocAttr]; done)) | (simp (maxSteps := 4000000) only [hb, cqs, pMc, pUn, pInts, pI, tvl, simprocAttr]) | refine ftS (by kernel_rfl) ?_ | refine And.intro (by omega) ?_)
      unfold LessC
      simp (maxSteps := 4000000) only [hb, pMc, pUn, pInts, pI, tvl, simprocAttr]
      all_goals (try simp [hb])
    | true =>
      have := k2 hb
      have q1 : ((m.told.length : Int) - 1).toNat = m.told.length - 1 := by omega
      have q2 : (m.told.map fun x => [PV.int .i64 x]).take (m.told.length - 1) = (m.told.take (m.told.length - 1)).map fun x => [PV.int .i64 x] := List.map_take.symm
      repeat (first | (refine aops_fnX rfl ?_ ?_; focus (simp (maxSteps := 4000000) only [sks, hb, q1, cqs, pMc, pUn, pInts, pI, tvl, simprocAttr]; done)) | (simp (maxSteps := 4000000) only [hb, q1, cqs, pMc, pUn, pInts, pI, tvl, simprocAttr]) | refine ftS (by kernel_rfl) ?_ | refine And.intro (by omega) ?_)
      unfold LessC
      simp (maxSteps := 4000000) only [hb, q1, q2, pMc, pUn, pInts, pI, tvl, simprocAttr]
      all_goals (try simp [hb, q1, q2])
  exact tbRest hm h1 h2 k1 k2 Try.func20 rfl rfl Try.results20
end Av
end Go.Proofs.Ytdjenlnomibniaa
