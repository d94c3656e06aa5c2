/-
  RecordCut: what it answers, over what Replay and RecordOf answer.
-/
import Derived.Test.YtdjenlnomibniaaGreatIRec
set_option linter.unusedSimpArgs false
set_option linter.unusedVariables false
namespace Go.Proofs.YtdjenlnomibniaaGreat
open Go.RowKit
namespace Bt
/-- the recording of the first choices -/
def cutOf (R : Option (List Ch)) (F : List Ch → List Sl × List Int) (K : List Ch → Bool) (n : Int) : (List Sl × List Int) × Bool := match R with
  | none => (([], []), false)
  | some l => if 0 ≤ n ∧ n ≤ l.length then (F (l.take n.toNat), K (l.take n.toNat)) else (([], []), false)
end Bt
namespace Av
set_option maxRecDepth 10000 in
set_option maxHeartbeats 8000000 in
theorem i_cut {rs : List Bt.C4} {h n : Int} {S : List Bt.Sl} {Q : List Int} {R : Option (List Bt.Ch)} {F : List Bt.Ch → List Bt.Sl × List Int} {K : List Bt.Ch → Bool}
    (hR : FnOk E.P 40 [pProg rs h, pRec (S, Q)] (.tup [pChs (R.getD []), .bool R.isSome]) true) (hl : (R.getD []).length ≤ 300)
    (hO : ∀ l : List Bt.Ch, l.length ≤ 300 → FnOk E.P 41 [pProg rs h, pChs l] (.tup [pRec (F l), .bool (K l)]) true) :
    FnOk E.P 11 [pProg rs h, pRec (S, Q), pI n] (.tup [pRec (Bt.cutOf R F K n).1, .bool (Bt.cutOf R F K n).2]) true := by
  unfold Bt.cutOf
  cases R with
  | none =>
    refine fn_ok mixed Tryz.func11 rfl (by kernel_rfl) _ Tryz.results11 _ Tryz.ntmps11 (by simp) (by kernel_rfl) ?_
    simp (maxSteps := 4000000) only [pRec, pProg, pChs, pInts, pI, tvl, simprocAttr]
    repeat (first | refine ftS (by kernel_rfl) ?_ | refine And.intro (by omega) ?_)
    refine aops_fn (hR) (hidB rfl) rfl ?_
    repeat (first | (refine aops_fnX rfl ?_ ?_; focus (simp (maxSteps := 4000000) only [sks, Option.getD_none, Option.isSome_none, List.map_nil, List.length_nil, pRec, pProg, pChs, pInts, pI, tvs, simprocAttr]; done)) | (simp (maxSteps := 4000000) only [Option.getD_none, Option.isSome_none, List.map_nil, List.length_nil, pRec, pProg, pChs, pInts, pI, tvs, simprocAttr]) | refine ftS (by kernel_rfl) ?_ | refine And.intro (by omega) ?_)
    all_goals (first | rfl | trivial | skip)
  | some l =>
    simp only [Option.getD_some] at hl
    dsimp only
    by_cases c0 : n < 0
    · have d0 : decide (n < 0) = true := by simpa using c0
      rw [if_neg (by omega)]
      refine fn_ok mixed Tryz.func11 rfl (by kernel_rfl) _ Tryz.results11 _ Tryz.ntmps11 (by simp) (by kernel_rfl) ?_
      simp (maxSteps := 4000000) only [pRec, pProg, pChs, pInts, pI, tvl, simprocAttr]
      repeat (first | refine ftS (by kernel_rfl) ?_ | refine And.intro (by omega) ?_)
      refine aops_fn (hR) (hidB rfl) rfl ?_
      repeat (first | (refine aops_fnX rfl ?_ ?_; focus (simp (maxSteps := 4000000) only [sks, d0, Option.getD_some, Option.isSome_some, List.map_nil, List.length_nil, pRec, pProg, pChs, pInts, pI, tvl, simprocAttr]; done)) | (simp (maxSteps := 4000000) only [d0, Option.getD_some, Option.isSome_some, List.map_nil, List.length_nil, pRec, pProg, pChs, pInts, pI, tvl, simprocAttr]) | refine ftS (by kernel_rfl) ?_ | refine And.intro (by omega) ?_)
      all_goals (first | rfl | trivial | skip)
    · have d0 : decide (n < 0) = false := by simpa using c0
      by_cases c1 : n > l.length
      · have d1 : decide (n > (l.length : Int)) = true := by simpa using c1
        rw [if_neg (by omega)]
        refine fn_ok mixed Tryz.func11 rfl (by kernel_rfl) _ Tryz.results11 _ Tryz.ntmps11 (by simp) (by kernel_rfl) ?_
        simp (maxSteps := 4000000) only [pRec, pProg, pChs, pInts, pI, tvl, simprocAttr]
        repeat (first | refine ftS (by kernel_rfl) ?_ | refine And.intro (by omega) ?_)
        refine aops_fn (hR) (hidB rfl) rfl ?_
        repeat (first | (refine aops_fnX rfl ?_ ?_; focus (simp (maxSteps := 4000000) only [sks, d0, d1, Option.getD_some, Option.isSome_some, List.map_nil, List.length_nil, pRec, pProg, pChs, pInts, pI, tvl, simprocAttr]; done)) | (simp (maxSteps := 4000000) only [d0, d1, Option.getD_some, Option.isSome_some, List.map_nil, List.length_nil, pRec, pProg, pChs, pInts, pI, tvl, simprocAttr]) | refine ftS (by kernel_rfl) ?_ | refine And.intro (by omega) ?_)
        all_goals (first | rfl | trivial | skip)
      · have d1 : decide (n > (l.length : Int)) = false := by simpa using c1
        rw [if_pos (by omega)]
        obtain ⟨k, rfl⟩ : ∃ k : Nat, n = k := ⟨n.toNat, by omega⟩
        have e1 : (l.map pCh).take k = (l.take k).map pCh := by rw [List.map_take]
        have hF := hO (l.take k) (by rw [List.length_take]; omega)
        simp only [Int.toNat_natCast]
        refine fn_ok mixed Tryz.func11 rfl (by kernel_rfl) _ Tryz.results11 _ Tryz.ntmps11 (by simp) (by kernel_rfl) ?_
        simp (maxSteps := 4000000) only [pRec, pProg, pChs, pInts, pI, tvl, simprocAttr]
        repeat (first | refine ftS (by kernel_rfl) ?_ | refine And.intro (by omega) ?_)
        refine aops_fn (hR) (hidB rfl) rfl ?_
        repeat (first | (refine aops_fnX rfl ?_ ?_; focus (simp (maxSteps := 4000000) only [sks, d0, d1, e1, List.drop_zero, Int.toNat_zero, List.length_take, Option.getD_some, Option.isSome_some, pRec, pProg, pChs, pInts, pI, tvl, simprocAttr]; done)) | (simp (maxSteps := 4000000) only [d0, d1, e1, List.drop_zero, Int.toNat_zero, List.length_take, Option.getD_some, Option.isSome_some, pRec, pProg, pChs, pInts, pI, tvl, simprocAttr]) | refine ftS (by kernel_rfl) ?_ | refine And.intro (by omega) ?_)
        refine aops_fn (hF) (hidB rfl) rfl ?_
        repeat (first | (refine aops_fnX rfl ?_ ?_; focus (simp (maxSteps := 4000000) only [sks, pRec, pProg, pChs, pInts, pI, tvl, simprocAttr]; done)) | (simp (maxSteps := 4000000) only [pRec, pProg, pChs, pInts, pI, tvl, simprocAttr]) | refine ftS (by kernel_rfl) ?_ | refine And.intro (by omega) ?_)
        all_goals (first | rfl | trivial | skip)
set_option maxRecDepth 10000 in
set_option maxHeartbeats 8000000 in
theorem s_cut {rs : List Bt.C4} {h n : Int} {S : List Bt.Sl} {Q : List Int} {R : Option (List Bt.Ch)} {F : List Bt.Ch → List Bt.Sl × List Int} {K : List Bt.Ch → Bool}
    (hR : FnOk E.P 35 [pProg rs h, pRec (S, Q)] (.tup [pChs (R.getD []), .bool R.isSome]) true) (hl : (R.getD []).length ≤ 300)
    (hO : ∀ l : List Bt.Ch, l.length ≤ 300 → FnOk E.P 36 [pProg rs h, pChs l] (.tup [pRec (F l), .bool (K l)]) true) :
    FnOk E.P 8 [pProg rs h, pRec (S, Q), pI n] (.tup [pRec (Bt.cutOf R F K n).1, .bool (Bt.cutOf R F K n).2]) true := by
  unfold Bt.cutOf
  cases R with
  | none =>
    refine fn_ok mixed Tryz.func8 rfl (by kernel_rfl) _ Tryz.results8 _ Tryz.ntmps8 (by simp) (by kernel_rfl) ?_
    simp (maxSteps := 4000000) only [pRec, pProg, pChs, pInts, pI, tvl, simprocAttr]
    repeat (first | refine ftS (by kernel_rfl) ?_ | refine And.intro (by omega) ?_)
    refine aops_fn (hR) (hidB rfl) rfl ?_
    repeat (first | (refine aops_fnX rfl ?_ ?_; focus (simp (maxSteps := 4000000) only [sks, Option.getD_none, Option.isSome_none, List.map_nil, List.length_nil, pRec, pProg, pChs, pInts, pI, tvs, simprocAttr]; done)) | (simp (maxSteps := 4000000) only [Option.getD_none, Option.isSome_none, List.map_nil, List.length_nil, pRec, pProg, pChs, pInts, pI, tvs, simprocAttr]) | refine ftS (by kernel_rfl) ?_ | refine And.intro (by omega) ?_)
    all_goals (first | rfl | trivial | skip)
  | some l =>
    simp only [Option.getD_some] at hl
    dsimp only
    by_cases c0 : n < 0
    · have d0 : decide (n < 0) = true := by simpa using c0
      rw [if_neg (by omega)]
      refine fn_ok mixed Tryz.func8 rfl (by kernel_rfl) _ Tryz.results8 _ Tryz.ntmps8 (by simp) (by kernel_rfl) ?_
      simp (maxSteps := 4000000) only [pRec, pProg, pChs, pInts, pI, tvl, simprocAttr]
      repeat (first | refine ftS (by kernel_rfl) ?_ | refine And.intro (by omega) ?_)
      refine aops_fn (hR) (hidB rfl) rfl ?_
      repeat (first | (refine aops_fnX rfl ?_ ?_; focus (simp (maxSteps := 4000000) only [sks, d0, Option.getD_some, Option.isSome_some, List.map_nil, List.length_nil, pRec, pProg, pChs, pInts, pI, tvl, simprocAttr]; done)) | (simp (maxSteps := 4000000) only [d0, Option.getD_some, Option.isSome_some, List.map_nil, List.length_nil, pRec, pProg, pChs, pInts, pI, tvl, simprocAttr]) | refine ftS (by kernel_rfl) ?_ | refine And.intro (by omega) ?_)
      all_goals (first | rfl | trivial | skip)
    · have d0 : decide (n < 0) = false := by simpa using c0
      by_cases c1 : n > l.length
      · have d1 : decide (n > (l.length : Int)) = true := by simpa using c1
        rw [if_neg (by omega)]
        refine fn_ok mixed Tryz.func8 rfl (by kernel_rfl) _ Tryz.results8 _ Tryz.ntmps8 (by simp) (by kernel_rfl) ?_
        simp (maxSteps := 4000000) only [pRec, pProg, pChs, pInts, pI, tvl, simprocAttr]
        repeat (first | refine ftS (by kernel_rfl) ?_ | refine And.intro (by omega) ?_)
        refine aops_fn (hR) (hidB rfl) rfl ?_
        repeat (first | (refine aops_fnX rfl ?_ ?_; focus (simp (maxSteps := 4000000) only [sks, d0, d1, Option.getD_some, Option.isSome_some, List.map_nil, List.length_nil, pRec, pProg, pChs, pInts, pI, tvl, simprocAttr]; done)) | (simp (maxSteps := 4000000) only [d0, d1, Option.getD_some, Option.isSome_some, List.map_nil, List.length_nil, pRec, pProg, pChs, pInts, pI, tvl, simprocAttr]) | refine ftS (by kernel_rfl) ?_ | refine And.intro (by omega) ?_)
        all_goals (first | rfl | trivial | skip)
      · have d1 : decide (n > (l.length : Int)) = false := by simpa using c1
        rw [if_pos (by omega)]
        obtain ⟨k, rfl⟩ : ∃ k : Nat, n = k := ⟨n.toNat, by omega⟩
        have e1 : (l.map pCh).take k = (l.take k).map pCh := by rw [List.map_take]
        have hF := hO (l.take k) (by rw [List.length_take]; omega)
        simp only [Int.toNat_natCast]
        refine fn_ok mixed Tryz.func8 rfl (by kernel_rfl) _ Tryz.results8 _ Tryz.ntmps8 (by simp) (by kernel_rfl) ?_
        simp (maxSteps := 4000000) only [pRec, pProg, pChs, pInts, pI, tvl, simprocAttr]
        repeat (first | refine ftS (by kernel_rfl) ?_ | refine And.intro (by omega) ?_)
        refine aops_fn (hR) (hidB rfl) rfl ?_
        repeat (first | (refine aops_fnX rfl ?_ ?_; focus (simp (maxSteps := 4000000) only [sks, d0, d1, e1, List.drop_zero, Int.toNat_zero, List.length_take, Option.getD_some, Option.isSome_some, pRec, pProg, pChs, pInts, pI, tvl, simprocAttr]; done)) | (simp (maxSteps := 4000000) only [d0, d1, e1, List.drop_zero, Int.toNat_zero, List.length_take, Option.getD_some, Option.isSome_some, pRec, pProg, pChs, pInts, pI, tvl, simprocAttr]) | refine ftS (by kernel_rfl) ?_ | refine And.intro (by omega) ?_)
        refine aops_fn (hF) (hidB rfl) rfl ?_
        repeat (first | (refine aops_fnX rfl ?_ ?_; focus (simp (maxSteps := 4000000) only [sks, pRec, pProg, pChs, pInts, pI, tvl, simprocAttr]; done)) | (simp (maxSteps := 4000000) only [pRec, pProg, pChs, pInts, pI, tvl, simprocAttr]) | refine ftS (by kernel_rfl) ?_ | refine And.intro (by omega) ?_)
        all_goals (first | rfl | trivial | skip)
end Av
end Go.Proofs.YtdjenlnomibniaaGreat
