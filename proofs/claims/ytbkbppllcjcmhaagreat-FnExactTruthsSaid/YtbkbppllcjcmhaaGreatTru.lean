/-
  Conditions: the truths of a run, both packages.
-/
import Derived.Test.YtbkbppllcjcmhaaGreatWhI
import Derived.Test.YtbkbppllcjcmhaaGreatWhS
import Derived.Test.YtbkbppllcjcmhaaGreatIThr
import Derived.Test.YtbkbppllcjcmhaaGreatSThs
set_option linter.unusedSimpArgs false
set_option linter.unusedVariables false
namespace Go.Proofs.YtbkbppllcjcmhaaGreat
open Go.RowKit
namespace Av
def manyM (rs : List Bt.C4) (h : Int) (l : List Bt.Ch) : Nat := if Bt.runOk rs h l then l.length + 1 else 0
theorem machs_len (rs : List Bt.C4) (h : Int) (l : List Bt.Ch) : (machs rs h l).length = manyM rs h l := by
  unfold machs manyM
  split <;> simp [alongTo]
theorem manyM_le (rs : List Bt.C4) (h : Int) (l : List Bt.Ch) : manyM rs h l ≤ l.length + 1 := by
  unfold manyM
  split <;> omega
theorem machs_get {rs : List Bt.C4} {h : Int} {l : List Bt.Ch} {k : Nat} (hk : k < manyM rs h l) : (machs rs h l)[k]? = some (pMc (Bt.after rs h Bt.mcNew (l.take k))) := by
  unfold manyM at hk
  unfold machs
  split at hk
  · rename_i ho
    rw [if_pos ho]
    unfold alongTo
    rw [List.getElem?_map, List.getElem?_range hk]
    rfl
  · omega
noncomputable def truthsTo (rs : List Bt.C4) (h : Int) (l : List Bt.Ch) (w : List Bt.Pt) (k : Nat) : List (List PV) := (List.range k).map fun j => [PV.bool (Bt.holds (Bt.after rs h Bt.mcNew (l.take j)) w)]
theorem truthsTo_len (rs : List Bt.C4) (h : Int) (l : List Bt.Ch) (w : List Bt.Pt) (k : Nat) : (truthsTo rs h l w k).length = k := by simp [truthsTo]
theorem truthsTo_succ (rs : List Bt.C4) (h : Int) (l : List Bt.Ch) (w : List Bt.Pt) (k : Nat) : truthsTo rs h l w (k + 1) = truthsTo rs h l w k ++ [[PV.bool (Bt.holds (Bt.after rs h Bt.mcNew (l.take k)) w)]] := by
  unfold truthsTo
  rw [List.range_succ, List.map_append]
  rfl
noncomputable def truthsOf (rs : List Bt.C4) (h : Int) (l : List Bt.Ch) (w : List Bt.Pt) : List (List PV) := if Bt.whenOk w = true then truthsTo rs h l w (manyM rs h l) else []
set_option maxRecDepth 10000 in
set_option maxHeartbeats 8000000 in
theorem iTruths_ok {rs : List Bt.C4} {h : Int} {l : List Bt.Ch} {w : List Bt.Pt} (hn : rs.length ≤ 1048576) (hl : l.length ≤ 1048576) (hw : w.length ≤ 1048576) : FnOk E.P 12 [pProg rs h, pChs l, pPts w] (.lst 4 (truthsOf rs h l w)) true := by
  have hM := iMachines_ok (rs := rs) (h := h) (l := l) hn hl
  have hO := iWhenOk_ok hw
  have e3 := machs_len rs h l
  have e4 := manyM_le rs h l
  unfold truthsOf
  cases ho : Bt.whenOk w
  · rw [ho] at hO
    rw [if_neg (by simp)]
    refine fn_ok mixed Tryz.func12 rfl (by kernel_rfl) _ Tryz.results12 _ Tryz.ntmps12 (by simp) (by kernel_rfl) ?_
    repeat (first | (refine aops_fnX rfl ?_ ?_; focus (simp (maxSteps := 4000000) only [sks, pProg, pChs, pPts, pI, tvl, simprocAttr]; done)) | (simp (maxSteps := 4000000) only [pProg, pChs, pPts, pI, tvl, simprocAttr]) | refine ftS (by kernel_rfl) ?_ | refine And.intro (by omega) ?_)
    refine aops_fn (hO) (hidB rfl) rfl ?_
    repeat (first | (refine aops_fnX rfl ?_ ?_; focus (simp (maxSteps := 4000000) only [sks, pProg, pChs, pPts, pI, tvl, simprocAttr]; done)) | (simp (maxSteps := 4000000) only [pProg, pChs, pPts, pI, tvl, simprocAttr]) | refine ftS (by kernel_rfl) ?_ | refine And.intro (by omega) ?_)
    all_goals (first | rfl | trivial | skip)
  rw [ho] at hO
  rw [if_pos rfl]
  refine fn_ok mixed Tryz.func12 rfl (by kernel_rfl) _ Tryz.results12 _ Tryz.ntmps12 (by simp) (by kernel_rfl) ?_
  repeat (first | (refine aops_fnX rfl ?_ ?_; focus (simp (maxSteps := 4000000) only [sks, pProg, pChs, pPts, pI, tvl, simprocAttr]; done)) | (simp (maxSteps := 4000000) only [pProg, pChs, pPts, pI, tvl, simprocAttr]) | refine ftS (by kernel_rfl) ?_ | refine And.intro (by omega) ?_)
  refine aops_fn (hO) (hidB rfl) rfl ?_
  repeat (first | (refine aops_fnX rfl ?_ ?_; focus (simp (maxSteps := 4000000) only [sks, pProg, pChs, pPts, pI, tvl, simprocAttr]; done)) | (simp (maxSteps := 4000000) only [pProg, pChs, pPts, pI, tvl, simprocAttr]) | refine ftS (by kernel_rfl) ?_ | refine And.intro (by omega) ?_)
  refine aops_fn (hM) (hidB rfl) rfl ?_
  repeat (first | (refine aops_fnX rfl ?_ ?_; focus (simp (maxSteps := 4000000) only [sks, e3, pProg, pChs, pPts, pI, tvl, simprocAttr]; done)) | (simp (maxSteps := 4000000) only [e3, pProg, pChs, pPts, pI, tvl, simprocAttr]) | refine ftS (by kernel_rfl) ?_ | refine And.intro (by omega) ?_)
  refine awp_loop (X := Nat) (fun k => [(2, .pv (.lst 75 (w.map pPt))), (7, .sl 0), (16, .sl 1), (17, .pv (.int .i64 (manyM rs h l))), (18, .pv (.int .i64 k))])
    (fun k => [(0, .row true 4 (truthsTo rs h l w k)), (1, .row true 54 (machs rs h l))])
    (fun k => k ≤ manyM rs h l) (fun k => manyM rs h l - k) 100 0 (Nat.zero_le _) (by simp (maxSteps := 4000000) only [pI, tvl, simprocAttr]; try simp [truthsTo]) (fun k hk => ?_)
  have e7 := truthsTo_len rs h l w k
  by_cases c1 : k < manyM rs h l
  rotate_left
  · have d1 : decide ((k : Int) < (manyM rs h l : Int)) = false := by rw [decide_eq_false_iff_not]; omega
    obtain rfl : k = manyM rs h l := by omega
    repeat (first | (refine aops_fnX rfl ?_ ?_; focus (simp (maxSteps := 4000000) only [sks, d1, pI, tvl, simprocAttr]; done)) | (simp (maxSteps := 4000000) only [d1, pI, tvl, simprocAttr]) | refine ftS (by kernel_rfl) ?_ | refine And.intro (by omega) ?_)
    all_goals (first | rfl | trivial | skip)
  have d1 : decide ((k : Int) < (manyM rs h l : Int)) = true := by rw [decide_eq_true_eq]; omega
  have e6 := machs_get c1
  have hH := iHolds_ok (m := Bt.after rs h Bt.mcNew (l.take k)) (Small.of (Bt.after_sz rs h _)) hw
  have e8 := truthsTo_succ rs h l w k
  generalize Bt.holds (Bt.after rs h Bt.mcNew (l.take k)) w = b at hH e8
  generalize Bt.after rs h Bt.mcNew (l.take k) = m at hH e6
  repeat (first | (refine aops_fnX rfl ?_ ?_; focus (simp (maxSteps := 4000000) only [sks, d1, e3, e6, pMc, pInts, pI, tvl, simprocAttr]; done)) | (simp (maxSteps := 4000000) only [d1, e3, e6, pMc, pInts, pI, tvl, simprocAttr]) | refine ftS (by kernel_rfl) ?_ | refine And.intro (by omega) ?_)
  refine aops_fn (hH) (hidB rfl) rfl ?_
  repeat (first | (refine aops_fnX rfl ?_ ?_; focus (simp (maxSteps := 4000000) only [sks, d1, e3, e7, pPts, pMc, pInts, pI, tvl, simprocAttr]; done)) | (simp (maxSteps := 4000000) only [d1, e3, e7, pPts, pMc, pInts, pI, tvl, simprocAttr]) | refine ftS (by kernel_rfl) ?_ | refine And.intro (by omega) ?_)
  refine ⟨k + 1, by omega, by omega, ?_⟩
  simp [e8, pInts, pI]
set_option maxRecDepth 10000 in
set_option maxHeartbeats 8000000 in
theorem sTruths_ok {rs : List Bt.C4} {h : Int} {l : List Bt.Ch} {w : List Bt.Pt} (hn : rs.length ≤ 1048576) (hl : l.length ≤ 1048576) (hw : w.length ≤ 1048576) : FnOk E.P 8 [pProg rs h, pChs l, pPts w] (.lst 4 (truthsOf rs h l w)) true := by
  have hM := sMachines_ok (rs := rs) (h := h) (l := l) hn hl
  have hO := sWhenOk_ok hw
  have e3 := machs_len rs h l
  have e4 := manyM_le rs h l
  refine fn_ok mixed Tryz.func8 rfl (by kernel_rfl) _ Tryz.results8 _ Tryz.ntmps8 (by simp) (by kernel_rfl) ?_
  repeat (first | (refine aops_fnX rfl ?_ ?_; focus (simp (maxSteps := 4000000) only [sks, pProg, pChs, pPts, pI, tvl, simprocAttr]; done)) | (simp (maxSteps := 4000000) only [pProg, pChs, pPts, pI, tvl, simprocAttr]) | refine ftS (by kernel_rfl) ?_ | refine And.intro (by omega) ?_)
  refine aops_callF (hM) (hidB rfl) rfl ?_
  repeat (first | (refine aops_fnX rfl ?_ ?_; focus (simp (maxSteps := 4000000) only [sks, e3, pProg, pChs, pPts, pI, tvl, simprocAttr]; done)) | (simp (maxSteps := 4000000) only [e3, pProg, pChs, pPts, pI, tvl, simprocAttr]) | refine ftS (by kernel_rfl) ?_ | refine And.intro (by omega) ?_)
  refine awp_loop (X := Nat) (fun k => [(2, .pv (.lst 75 (w.map pPt))), (7, .sl 0), (8, .pv (.lst 54 (machs rs h l))), (9, .pv (.int .i64 k))])
    (fun k => [(0, .row true 4 (truthsTo rs h l w k))])
    (fun k => k ≤ manyM rs h l ∧ (Bt.whenOk w = false → k = 0)) (fun k => manyM rs h l - k) 100 0 ⟨Nat.zero_le _, fun _ => rfl⟩ (by simp (maxSteps := 4000000) only [pI, tvl, simprocAttr]; try simp [truthsTo]) (fun k hk => ?_)
  obtain ⟨hk, hz⟩ := hk
  have e7 := truthsTo_len rs h l w k
  by_cases c1 : k < manyM rs h l
  rotate_left
  · have d1 : decide ((k : Int) < (manyM rs h l : Int)) = false := by rw [decide_eq_false_iff_not]; omega
    obtain rfl : k = manyM rs h l := by omega
    have e : truthsOf rs h l w = truthsTo rs h l w (manyM rs h l) := by
      unfold truthsOf
      cases ho : Bt.whenOk w
      · rw [if_neg (by simp), hz ho]; rfl
      · rw [if_pos rfl]
    rw [e]
    repeat (first | (refine aops_fnX rfl ?_ ?_; focus (simp (maxSteps := 4000000) only [sks, d1, e3, pI, tvl, simprocAttr]; done)) | (simp (maxSteps := 4000000) only [d1, e3, pI, tvl, simprocAttr]) | refine ftS (by kernel_rfl) ?_ | refine And.intro (by omega) ?_)
    all_goals (first | rfl | trivial | skip)
  have d1 : decide ((k : Int) < (manyM rs h l : Int)) = true := by rw [decide_eq_true_eq]; omega
  cases ho : Bt.whenOk w
  · rw [ho] at hO
    obtain rfl := hz ho
    have e : truthsOf rs h l w = truthsTo rs h l w 0 := by
      unfold truthsOf
      rw [if_neg (by rw [ho]; simp)]; rfl
    rw [e]
    have d1' : decide ((0 : Int) < (manyM rs h l : Int)) = true := by rw [decide_eq_true_eq]; omega
    repeat (first | (refine aops_fnX rfl ?_ ?_; focus (simp (maxSteps := 4000000) only [sks, d1, d1', e3, pI, tvl, simprocAttr]; done)) | (simp (maxSteps := 4000000) only [d1, d1', e3, pI, tvl, simprocAttr]) | refine ftS (by kernel_rfl) ?_ | refine And.intro (by omega) ?_)
    refine aops_fnG (hO) (hidB rfl) rfl rfl (by simp (maxSteps := 4000000) only [d1, d1', e3, pPts, pI, tvl, simprocAttr]) ?_
    repeat (first | (refine aops_fnX rfl ?_ ?_; focus (simp (maxSteps := 4000000) only [sks, pPts, pI, tvl, simprocAttr]; done)) | (simp (maxSteps := 4000000) only [pPts, pI, tvl, simprocAttr]) | refine ftS (by kernel_rfl) ?_ | refine And.intro (by omega) ?_)
    all_goals (first | rfl | trivial | skip)
  rw [ho] at hO
  have e6 := machs_get c1
  have hH := sHolds_ok (m := Bt.after rs h Bt.mcNew (l.take k)) (Small.of (Bt.after_sz rs h _)) hw
  have e8 := truthsTo_succ rs h l w k
  generalize Bt.holds (Bt.after rs h Bt.mcNew (l.take k)) w = b at hH e8
  generalize Bt.after rs h Bt.mcNew (l.take k) = m at hH e6
  repeat (first | (refine aops_fnX rfl ?_ ?_; focus (simp (maxSteps := 4000000) only [sks, d1, e3, pI, tvl, simprocAttr]; done)) | (simp (maxSteps := 4000000) only [d1, e3, pI, tvl, simprocAttr]) | refine ftS (by kernel_rfl) ?_ | refine And.intro (by omega) ?_)
  refine aops_fnG (hO) (hidB rfl) rfl rfl (by simp (maxSteps := 4000000) only [d1, e3, pPts, pI, tvl, simprocAttr]) ?_
  repeat (first | (refine aops_fnX rfl ?_ ?_; focus (simp (maxSteps := 4000000) only [sks, d1, e3, e6, pPts, pMc, pInts, pI, tvl, simprocAttr]; done)) | (simp (maxSteps := 4000000) only [d1, e3, e6, pPts, pMc, pInts, pI, tvl, simprocAttr]) | refine ftS (by kernel_rfl) ?_ | refine And.intro (by omega) ?_)
  refine aops_fn (hH) (hidB rfl) rfl ?_
  repeat (first | (refine aops_fnX rfl ?_ ?_; focus (simp (maxSteps := 4000000) only [sks, d1, e3, e7, pPts, pMc, pInts, pI, tvl, simprocAttr]; done)) | (simp (maxSteps := 4000000) only [d1, e3, e7, pPts, pMc, pInts, pI, tvl, simprocAttr]) | refine ftS (by kernel_rfl) ?_ | refine And.intro (by omega) ?_)
  refine ⟨k + 1, by omega, by omega, ?_⟩
  simp [e8, pInts, pI]
end Av
end Go.Proofs.YtbkbppllcjcmhaaGreat
