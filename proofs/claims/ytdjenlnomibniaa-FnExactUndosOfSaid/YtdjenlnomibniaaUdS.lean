/-
  Chapter 7: UndosOf and BackFrom, the model's.
-/
import Derived.Test.YtdjenlnomibniaaUnC
import Derived.Test.YtdjenlnomibniaaUoS
import Derived.Test.YtdjenlnomibniaaUnS
set_option linter.unusedSimpArgs false
set_option linter.unusedVariables false
namespace Go.Proofs.Ytdjenlnomibniaa
open Go.RowKit
namespace Av
set_option maxRecDepth 10000 in
set_option maxHeartbeats 8000000 in
theorem sUndosOf_ok {rs : List Bt.C4} {h : Int} {l : List Bt.Ch} (hn : rs.length ≤ 1048576) (hl : l.length ≤ 1048576) : FnOk E.P 54 [pProg rs h, pChs l] (.lst 31 (undos rs h l)) false := by
  have hR := sok_ok (rs := rs) (h := h) (l := l) hn hl
  cases ho : Bt.runOk rs h l
  · rw [ho] at hR
    have e2 : undos rs h l = [] := by unfold undos; rw [ho]; rfl
    rw [e2]
    refine fn_ok mixed Try.func54 rfl (by kernel_rfl) _ Try.results54 _ Try.ntmps54 (by simp) (by kernel_rfl) ?_
    repeat (first | (refine aops_fnX rfl ?_ ?_; focus (simp (maxSteps := 4000000) only [sks, pProg, pChs, pI, tvs, simprocAttr]; done)) | (simp (maxSteps := 4000000) only [pProg, pChs, pI, tvs, simprocAttr]) | refine ftS (by kernel_rfl) ?_ | refine And.intro (by omega) ?_)
    refine aops_fn (hR) (hidB rfl) rfl ?_
    repeat (first | (refine aops_fnX rfl ?_ ?_; focus (simp (maxSteps := 4000000) only [sks, pProg, pChs, pI, tvl, simprocAttr]; done)) | (simp (maxSteps := 4000000) only [pProg, pChs, pI, tvl, simprocAttr]) | refine ftS (by kernel_rfl) ?_ | refine And.intro (by omega) ?_)
    all_goals (first | rfl | trivial | skip)
  · obtain ⟨hpo, h3, _⟩ := Bt.runOk_facts ho
    have hne := progOk_ne hpo
    rw [ho] at hR
    have e2 : undos rs h l = undosTo rs h l l.length := by unfold undos; rw [ho]; rfl
    rw [e2]
    refine fn_ok mixed Try.func54 rfl (by kernel_rfl) _ Try.results54 _ Try.ntmps54 (by simp) (by kernel_rfl) ?_
    repeat (first | (refine aops_fnX rfl ?_ ?_; focus (simp (maxSteps := 4000000) only [sks, pProg, pChs, pI, tvs, simprocAttr]; done)) | (simp (maxSteps := 4000000) only [pProg, pChs, pI, tvs, simprocAttr]) | refine ftS (by kernel_rfl) ?_ | refine And.intro (by omega) ?_)
    refine aops_fn (hR) (hidB rfl) rfl ?_
    repeat (first | (refine aops_fnX rfl ?_ ?_; focus (simp (maxSteps := 4000000) only [sks, pProg, pChs, pI, tvl, simprocAttr]; done)) | (simp (maxSteps := 4000000) only [pProg, pChs, pI, tvl, simprocAttr]) | refine ftS (by kernel_rfl) ?_ | refine And.intro (by omega) ?_)
    refine aops_callF (snew_ok.read) (hidB rfl) rfl ?_
    repeat (first | (refine aops_fnX rfl ?_ ?_; focus (simp (maxSteps := 4000000) only [sks, pMc, pInts, pI, tvs, simprocAttr]; done)) | (simp (maxSteps := 4000000) only [pMc, pInts, pI, tvs, simprocAttr]) | refine ftS (by kernel_rfl) ?_ | refine And.intro (by omega) ?_)
    refine awp_loop (X := Nat) (fun k => [(1, .pv (.lst 91 (l.map pCh))), (2, .ptr 0 0), (5, .sl 2), (6, .ptr 1 0), (7, .pv (.int .i64 k))])
      (fun k => [(0, .box [.pv (.lst 153 (rs.map pCode)), .pv (.int .i64 h)]), (1, .box (bMc (Bt.after rs h Bt.mcNew (l.take k)))), (2, .row (decide (k = 0)) 31 (undosTo rs h l k))])
      (fun k => k ≤ l.length) (fun k => l.length - k) 100 0 (Nat.zero_le _) (by simp (maxSteps := 4000000) only [bMc, pMc, pInts, pI, tvs, simprocAttr]; simp [Bt.after, undosTo, pMc, pInts, pI]) (fun k hk => ?_)
    by_cases c1 : k < l.length
    · have d1 : decide ((k : Int) < (l.length : Int)) = true := by simpa using c1
      have e5 : (l.map pCh)[k]? = some (pCh l[k]) := by simp [c1]
      have hsm : Small (Bt.after rs h Bt.mcNew (l.take k)) := Small.of (Bt.after_sz rs h _)
      have hU := sUndoOf_ok (rs := rs) (h := h) (m := Bt.after rs h Bt.mcNew (l.take k)) (c := l[k]) hn hsm
      rw [← Bt.undoAt_in c1] at hU
      have hdo := sdo_ok (rs := rs) (h := h) (m := Bt.after rs h Bt.mcNew (l.take k)) (c := l[k]) hne hn hsm
      have e6 := Bt.after_take (rs := rs) (h := h) (m := Bt.mcNew) c1
      rw [← e6] at hdo
      have e7 := undosTo_len rs h l k
      have e8 := undosTo_succ rs h l k
      generalize (Bt.undoOf rs h (Bt.after rs h Bt.mcNew (l.take k)) l[k]).isSome = is at hU
      generalize (Bt.doM rs h (Bt.after rs h Bt.mcNew (l.take k)) l[k]).isSome = js at hdo
      generalize Bt.undoAt rs h l k = u at hU e8
      generalize Bt.after rs h Bt.mcNew (l.take k) = m at hU hdo e6 ⊢
      obtain ⟨m2, hm2⟩ : ∃ m2, Bt.after rs h Bt.mcNew (l.take (k + 1)) = m2 := ⟨_, rfl⟩
      rw [hm2] at hdo
      repeat (first | (refine aops_fnX rfl ?_ ?_; focus (simp (maxSteps := 4000000) only [sks, d1, e5, bMc, pMc, pCh, pInts, pI, tvl, simprocAttr]; done)) | (simp (maxSteps := 4000000) only [d1, e5, bMc, pMc, pCh, pInts, pI, tvl, simprocAttr]) | refine ftS (by kernel_rfl) ?_ | refine And.intro (by omega) ?_)
      refine aops_callF (hU) (hidB rfl) rfl ?_
      repeat (first | (refine aops_fnX rfl ?_ ?_; focus (simp (maxSteps := 4000000) only [sks, d1, e5, e7, Bool.and_false, pProg, bMc, pMc, pCh, pUn, pInts, pI, tvl, simprocAttr]; done)) | (simp (maxSteps := 4000000) only [d1, e5, e7, Bool.and_false, pProg, bMc, pMc, pCh, pUn, pInts, pI, tvl, simprocAttr]) | refine ftS (by kernel_rfl) ?_ | refine And.intro (by omega) ?_)
      refine aops_callF (hdo) (hidB rfl) rfl ?_
      repeat (first | (refine aops_fnX rfl ?_ ?_; focus (simp (maxSteps := 4000000) only [sks, d1, e5, e7, Bool.and_false, pProg, bMc, pMc, pCh, pUn, pInts, pI, tvl, simprocAttr]; done)) | (simp (maxSteps := 4000000) only [d1, e5, e7, Bool.and_false, pProg, bMc, pMc, pCh, pUn, pInts, pI, tvl, simprocAttr]) | refine ftS (by kernel_rfl) ?_ | refine And.intro (by omega) ?_)
      refine ⟨k + 1, by omega, by omega, ?_⟩
      simp [e8, hm2, bMc, pMc, pUn, pInts, pI]
    · have d1 : decide ((k : Int) < (l.length : Int)) = false := by simpa using c1
      obtain rfl : k = l.length := by omega
      repeat (first | (refine aops_fnX rfl ?_ ?_; focus (simp (maxSteps := 4000000) only [sks, d1, pI, tvl, simprocAttr]; done)) | (simp (maxSteps := 4000000) only [d1, pI, tvl, simprocAttr]) | refine ftS (by kernel_rfl) ?_ | refine And.intro (by omega) ?_)
      all_goals (first | rfl | trivial | skip)
set_option maxRecDepth 10000 in
set_option maxHeartbeats 8000000 in
theorem sBackFrom_ok {rs : List Bt.C4} {h n : Int} {l : List Bt.Ch} (hn : rs.length ≤ 1048576) (hl : l.length ≤ 1048576) :
    FnOk E.P 60 [pProg rs h, pChs l, pI n] (.tup [.agg (pMc ((Bt.backFrom rs h l n).getD Bt.mcNil)), .bool (Bt.backFrom rs h l n).isSome]) false := by
  have hAt := sMachineAt_ok (rs := rs) (h := h) (n := l.length) (l := l) hn hl
  have hU := sUndosOf_ok (rs := rs) (h := h) (l := l) hn hl
  cases ho : Bt.runOk rs h l
  · have e : Bt.machAt rs h l l.length = none := by unfold Bt.machAt; rw [if_neg (by rw [ho]; simp)]
    rw [show Bt.backFrom rs h l n = none from if_neg (by rw [ho]; simp)]
    rw [e] at hAt
    refine fn_ok mixed Try.func60 rfl (by kernel_rfl) _ Try.results60 _ Try.ntmps60 (by simp) (by kernel_rfl) ?_
    repeat (first | (refine aops_fnX rfl ?_ ?_; focus (simp (maxSteps := 4000000) only [sks, pProg, pChs, pI, tvl, simprocAttr]; done)) | (simp (maxSteps := 4000000) only [pProg, pChs, pI, tvl, simprocAttr]) | refine ftS (by kernel_rfl) ?_ | refine And.intro (by omega) ?_)
    refine aops_callF (hAt) (hidB rfl) rfl ?_
    repeat (first | (refine aops_fnX rfl ?_ ?_; focus (simp (maxSteps := 4000000) only [sks, Option.getD_none, Option.isSome_none, Bt.mcNil, List.map_nil, pProg, pChs, pMc, pInts, pI, tvl, simprocAttr]; done)) | (simp (maxSteps := 4000000) only [Option.getD_none, Option.isSome_none, Bt.mcNil, List.map_nil, pProg, pChs, pMc, pInts, pI, tvl, simprocAttr]) | refine ftS (by kernel_rfl) ?_ | refine And.intro (by omega) ?_)
    all_goals (first | rfl | trivial | skip)
  have e : Bt.machAt rs h l l.length = some (Bt.after rs h Bt.mcNew l) := by
    have h1 : Bt.machAt rs h l l.length = some (Bt.after rs h Bt.mcNew (l.take (l.length : Int).toNat)) := if_pos ⟨ho, by omega, by omega⟩
    rw [h1, Int.toNat_natCast, List.take_length]
  rw [e] at hAt
  have e2 : undos rs h l = undosTo rs h l l.length := by unfold undos; rw [ho]; rfl
  rw [e2] at hU
  by_cases c1 : n < 0
  · have d1 : decide (n < 0) = true := by simpa using c1
    rw [show Bt.backFrom rs h l n = none from if_neg (by omega)]
    refine fn_ok mixed Try.func60 rfl (by kernel_rfl) _ Try.results60 _ Try.ntmps60 (by simp) (by kernel_rfl) ?_
    repeat (first | (refine aops_fnX rfl ?_ ?_; focus (simp (maxSteps := 4000000) only [sks, pProg, pChs, pI, tvl, simprocAttr]; done)) | (simp (maxSteps := 4000000) only [pProg, pChs, pI, tvl, simprocAttr]) | refine ftS (by kernel_rfl) ?_ | refine And.intro (by omega) ?_)
    refine aops_callF (hAt) (hidB rfl) rfl ?_
    repeat (first | (refine aops_fnX rfl ?_ ?_; focus (simp (maxSteps := 4000000) only [sks, d1, lsb, Bt.mcNil, List.map_nil, pProg, pChs, pMc, pInts, pI, tvl, simprocAttr]; done)) | (simp (maxSteps := 4000000) only [d1, lsb, Bt.mcNil, List.map_nil, pProg, pChs, pMc, pInts, pI, tvl, simprocAttr]) | refine ftS (by kernel_rfl) ?_ | refine And.intro (by omega) ?_)
    all_goals (first | rfl | trivial | skip)
  have d1 : decide (n < 0) = false := by simpa using c1
  by_cases c2 : n > l.length
  · have d2 : decide (n > (l.length : Int)) = true := by simpa using c2
    rw [show Bt.backFrom rs h l n = none from if_neg (by omega)]
    refine fn_ok mixed Try.func60 rfl (by kernel_rfl) _ Try.results60 _ Try.ntmps60 (by simp) (by kernel_rfl) ?_
    repeat (first | (refine aops_fnX rfl ?_ ?_; focus (simp (maxSteps := 4000000) only [sks, pProg, pChs, pI, tvl, simprocAttr]; done)) | (simp (maxSteps := 4000000) only [pProg, pChs, pI, tvl, simprocAttr]) | refine ftS (by kernel_rfl) ?_ | refine And.intro (by omega) ?_)
    refine aops_callF (hAt) (hidB rfl) rfl ?_
    repeat (first | (refine aops_fnX rfl ?_ ?_; focus (simp (maxSteps := 4000000) only [sks, d1, d2, lsb, Bt.mcNil, List.map_nil, pProg, pChs, pMc, pInts, pI, tvl, simprocAttr]; done)) | (simp (maxSteps := 4000000) only [d1, d2, lsb, Bt.mcNil, List.map_nil, pProg, pChs, pMc, pInts, pI, tvl, simprocAttr]) | refine ftS (by kernel_rfl) ?_ | refine And.intro (by omega) ?_)
    all_goals (first | rfl | trivial | skip)
  have d2 : decide (n > (l.length : Int)) = false := by simpa using c2
  obtain ⟨q, rfl⟩ : ∃ q : Nat, n = q := ⟨n.toNat, by omega⟩
  rw [show Bt.backFrom rs h l q = some (Bt.backTo rs h l (l.length - q)) from if_pos ⟨ho, by omega, by omega⟩]
  have e3 := undosTo_len rs h l l.length
  refine fn_ok mixed Try.func60 rfl (by kernel_rfl) _ Try.results60 _ Try.ntmps60 (by simp) (by kernel_rfl) ?_
  repeat (first | (refine aops_fnX rfl ?_ ?_; focus (simp (maxSteps := 4000000) only [sks, pProg, pChs, pI, tvl, simprocAttr]; done)) | (simp (maxSteps := 4000000) only [pProg, pChs, pI, tvl, simprocAttr]) | refine ftS (by kernel_rfl) ?_ | refine And.intro (by omega) ?_)
  refine aops_callF (hAt) (hidB rfl) rfl ?_
  repeat (first | (refine aops_fnX rfl ?_ ?_; focus (simp (maxSteps := 4000000) only [sks, d1, d2, Option.getD_some, Option.isSome_some, pProg, pChs, pMc, pInts, pI, tvl, simprocAttr]; done)) | (simp (maxSteps := 4000000) only [d1, d2, Option.getD_some, Option.isSome_some, pProg, pChs, pMc, pInts, pI, tvl, simprocAttr]) | refine ftS (by kernel_rfl) ?_ | refine And.intro (by omega) ?_)
  refine aops_callF (hU) (hidB rfl) rfl ?_
  repeat (first | (refine aops_fnX rfl ?_ ?_; focus (simp (maxSteps := 4000000) only [sks, e3, pProg, pChs, pMc, pInts, pI, tvl, simprocAttr]; done)) | (simp (maxSteps := 4000000) only [e3, pProg, pChs, pMc, pInts, pI, tvl, simprocAttr]) | refine ftS (by kernel_rfl) ?_ | refine And.intro (by omega) ?_)
  refine awp_loop (X := Nat) (fun j => [(2, .pv (.int .i64 q)), (6, .ptr 0 0), (7, .pv (.bool false)), (8, .ptr 1 0), (10, .pv (.lst 31 (undosTo rs h l l.length))), (11, .pv (.int .i64 ((l.length : Int) - 1 - (j : Int))))])
    (fun j => [(0, .box [.nil 29, .nil 3, .nil 3, .nil 3]), (1, .box (bMc (Bt.backTo rs h l j)))])
    (fun j => j ≤ l.length - q) (fun j => l.length - q - j) 100 0 (Nat.zero_le _) (by simp (maxSteps := 4000000) only [bMc, pMc, pInts, pI, tvl, simprocAttr]; try simp [Bt.backTo, pMc, pInts, pI]) (fun j hj => ?_)
  have hsm := smallT rs h l j
  by_cases c3 : j < l.length - q
  · have d3 : decide ((l.length : Int) - 1 - (j : Int) ≥ (q : Int)) = true := by rw [decide_eq_true_eq]; omega
    have x1 : ((l.length : Int) - 1 - (j : Int)).toNat = l.length - 1 - j := by omega
    have x2 := undosTo_at (rs := rs) (h := h) (l := l) (k := l.length) (j := l.length - 1 - j) (by omega)
    have hT := sTakeBack_ok (u := Bt.undoAt rs h l (l.length - 1 - j)) hsm (smallA _).1 (smallA _).2
    have x3 : (Bt.takeBack (Bt.backTo rs h l j) (Bt.undoAt rs h l (l.length - 1 - j))).getD Bt.mcNil = Bt.backTo rs h l (j + 1) := rfl
    rw [x3] at hT
    have x4 : (l.length : Int) - 1 - (j : Int) - 1 = (l.length : Int) - 1 - ((j + 1 : Nat) : Int) := by omega
    generalize (Bt.takeBack (Bt.backTo rs h l j) (Bt.undoAt rs h l (l.length - 1 - j))).isSome = is at hT
    generalize Bt.undoAt rs h l (l.length - 1 - j) = u at hT x2
    generalize Bt.backTo rs h l j = m at hT
    clear x3 hsm
    repeat (first | (refine aops_fnX rfl ?_ ?_; focus (simp (maxSteps := 4000000) only [sks, d3, e3, x1, x2, bMc, pMc, pUn, pInts, pI, tvl, simprocAttr]; done)) | (simp (maxSteps := 4000000) only [d3, e3, x1, x2, bMc, pMc, pUn, pInts, pI, tvl, simprocAttr]) | refine ftS (by kernel_rfl) ?_ | refine And.intro (by omega) ?_)
    refine aops_callF (hT) (hidB rfl) rfl ?_
    repeat (first | (refine aops_fnX rfl ?_ ?_; focus (simp (maxSteps := 4000000) only [sks, d3, e3, x1, x2, x4, bMc, pMc, pUn, pInts, pI, tvl, simprocAttr]; done)) | (simp (maxSteps := 4000000) only [d3, e3, x1, x2, x4, bMc, pMc, pUn, pInts, pI, tvl, simprocAttr]) | refine ftS (by kernel_rfl) ?_ | refine And.intro (by omega) ?_)
    refine ⟨j + 1, by omega, by omega, ?_⟩
    simp [x4, bMc, pMc, pInts, pI]
    try omega
  · have d3 : decide ((l.length : Int) - 1 - (j : Int) ≥ (q : Int)) = false := by rw [decide_eq_false_iff_not]; omega
    obtain rfl : j = l.length - q := by omega
    generalize Bt.backTo rs h l (l.length - q) = m
    repeat (first | (refine aops_fnX rfl ?_ ?_; focus (simp (maxSteps := 4000000) only [sks, d3, Option.getD_some, Option.isSome_some, bMc, pMc, pInts, pI, tvl, simprocAttr]; done)) | (simp (maxSteps := 4000000) only [d3, Option.getD_some, Option.isSome_some, bMc, pMc, pInts, pI, tvl, simprocAttr]) | refine ftS (by kernel_rfl) ?_ | refine And.intro (by omega) ?_)
    all_goals (first | rfl | trivial | skip)
end Av
end Go.Proofs.Ytdjenlnomibniaa
