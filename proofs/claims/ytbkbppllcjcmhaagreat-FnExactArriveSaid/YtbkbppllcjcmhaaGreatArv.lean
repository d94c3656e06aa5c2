/-
  Chapter 6: Arrive, both packages.
-/
import Derived.Test.YtbkbppllcjcmhaaGreatArr
set_option linter.unusedSimpArgs false
set_option linter.unusedVariables false
namespace Go.Proofs.YtbkbppllcjcmhaaGreat
open Go.RowKit
namespace Av
/-- the machine so many choices behind a place -/
def wayM (rs : List Bt.C4) (h : Int) (l : List Bt.Ch) (fr k : Nat) : Bt.Mc := Bt.after rs h Bt.mcNew (l.take (fr + k))
/-- blocks of the program's loop: at first the machine lies in the memory of what was copied; then in its own -/
def arvH (rs : List Bt.C4) (h : Int) (m0 : Bt.Mc) (fri : Int) (M : Nat → Bt.Mc) : Nat → List (Nat × Blk)
  | 0 => [(0, .box [.pv (.lst 105 (rs.map pCode)), .pv (.int .i64 h)]), (1, .box [.nil 115, .nil 3, .nil 3, .nil 3]), (2, .row true 115 (m0.ths.map pTh)), (3, .row true 3 (m0.cells.map fun x => [.int .i64 x])), (4, .row true 3 (m0.locks.map fun x => [.int .i64 x])), (5, .row true 3 (m0.told.map fun x => [.int .i64 x])), (6, .box [.pv (.int .i64 fri), .sl 2, .sl 3, .sl 4, .sl 5]), (7, .box [.sl 2, .sl 3, .sl 4, .sl 5])]
  | k + 1 => [(0, .box [.pv (.lst 105 (rs.map pCode)), .pv (.int .i64 h)]), (1, .box [.nil 115, .nil 3, .nil 3, .nil 3]), (2, .row true 115 (m0.ths.map pTh)), (3, .row true 3 (m0.cells.map fun x => [.int .i64 x])), (4, .row true 3 (m0.locks.map fun x => [.int .i64 x])), (5, .row true 3 (m0.told.map fun x => [.int .i64 x])), (6, .box [.pv (.int .i64 fri), .sl 2, .sl 3, .sl 4, .sl 5]), (7, .box [.sl 8, .sl 9, .sl 10, .sl 11]), (8, .row true 115 ((M (k + 1)).ths.map pTh)), (9, .row true 3 ((M (k + 1)).cells.map fun x => [.int .i64 x])), (10, .row true 3 ((M (k + 1)).locks.map fun x => [.int .i64 x])), (11, .row true 3 ((M (k + 1)).told.map fun x => [.int .i64 x]))]
theorem arrive_no {rs : List Bt.C4} {h : Int} {l : List Bt.Ch} {mk : List (Int × Bt.Mc)} {n : Int} (hh : ¬ (Bt.tt (Bt.MarksP rs h l mk) = true ∧ 0 ≤ n ∧ n ≤ l.length)) : Bt.arrive rs h l mk n = none := if_neg hh
theorem arrive_yes {rs : List Bt.C4} {h : Int} {l : List Bt.Ch} {mk : List (Int × Bt.Mc)} {n : Int} (hh : Bt.tt (Bt.MarksP rs h l mk) = true ∧ 0 ≤ n ∧ n ≤ l.length) : Bt.arrive rs h l mk n = some (Bt.after rs h Bt.mcNew (l.take n.toNat), n - Bt.fromN mk n) := if_pos hh
theorem tt_of {P : Prop} (h : Bt.tt P = true) : P := @of_decide_eq_true P (Classical.propDecidable P) h
theorem machAt_some {rs : List Bt.C4} {h n : Int} {l : List Bt.Ch} {m : Bt.Mc} (e : Bt.machAt rs h l n = some m) : 0 ≤ n ∧ n ≤ l.length ∧ m = Bt.after rs h Bt.mcNew (l.take n.toNat) := by
  unfold Bt.machAt at e
  split at e
  · rename_i hc
    exact ⟨hc.2.1, hc.2.2, (Option.some.inj e).symm⟩
  · cases e
/-- from the nearest mark, or from the first machine -/
theorem near_facts {rs : List Bt.C4} {h : Int} {l : List Bt.Ch} {mk : List (Int × Bt.Mc)} {n : Int} (hP : Bt.MarksP rs h l mk) (h0 : 0 ≤ n) : (Bt.nearN mk n = 0 ∧ Bt.fromN mk n = 0) ∨
    ∃ (q fr : Nat) (hq : q < mk.length), Bt.nearN mk n = q + 1 ∧ Bt.fromN mk n = fr ∧ (fr : Int) ≤ n ∧ fr ≤ l.length ∧ mk[q] = ((fr : Int), Bt.after rs h Bt.mcNew (l.take fr)) := by
  have hle := Bt.nearN_le mk n
  obtain ⟨ho, ha, hm⟩ := hP
  rcases Nat.eq_zero_or_pos (Bt.nearN mk n) with e | e
  · left
    refine ⟨e, ?_⟩
    unfold Bt.fromN
    rw [dif_neg (by omega)]
  · right
    obtain ⟨q, hq⟩ : ∃ q, Bt.nearN mk n = q + 1 := ⟨Bt.nearN mk n - 1, by omega⟩
    have hql : q < mk.length := by omega
    have h1 := Bt.nearN_last ha hq hql
    obtain ⟨h2, h3, h4⟩ := machAt_some (hm q hql)
    have h5 : Bt.fromN mk n = mk[q].1 := by
      unfold Bt.fromN
      rw [dif_pos e]
      have : Bt.nearN mk n - 1 = q := by omega
      simp only [this]
    refine ⟨q, mk[q].1.toNat, hql, hq, by rw [h5]; omega, by omega, by omega, ?_⟩
    refine Prod.ext ?_ ?_
    · simp only; omega
    · exact h4
set_option maxRecDepth 10000 in
set_option maxHeartbeats 16000000 in
theorem iArrive_ok {rs : List Bt.C4} {h n : Int} {l : List Bt.Ch} {mk : List (Int × Bt.Mc)} (hn : rs.length ≤ 1048576) (hl : l.length ≤ 1048576) (hk : mk.length ≤ 1048576) (hs : ∀ x ∈ mk, Small x.2) :
    FnOk E.P 25 [pProg rs h, pChs l, .lst 92 (mk.map pMk), pI n] (.tup [.agg (pMc (((Bt.arrive rs h l mk n).map (·.1)).getD Bt.mcNil)), pI (((Bt.arrive rs h l mk n).map (·.2)).getD 0), .bool (Bt.arrive rs h l mk n).isSome]) true := by
  have hMk := iMarksOk_ok (rs := rs) (h := h) (l := l) (mk := mk) hn hl hk hs
  by_cases c1 : n < 0
  · have d1 : decide (n < 0) = true := by rw [decide_eq_true_eq]; exact c1
    rw [arrive_no (by omega)]
    refine fn_ok mixed Tryz.func25 rfl (by kernel_rfl) _ Tryz.results25 _ Tryz.ntmps25 (by simp) (by kernel_rfl) ?_
    repeat (first | (refine aops_fnX rfl ?_ ?_; focus (simp (maxSteps := 4000000) only [sks, d1, Option.map_none, Option.getD_none, Option.isSome_none, Bt.mcNil, List.map_nil, pProg, pChs, pMc, pInts, pI, tvl, simprocAttr]; done)) | (simp (maxSteps := 4000000) only [d1, Option.map_none, Option.getD_none, Option.isSome_none, Bt.mcNil, List.map_nil, pProg, pChs, pMc, pInts, pI, tvl, simprocAttr]) | refine ftS (by kernel_rfl) ?_ | refine And.intro (by omega) ?_)
    all_goals (first | rfl | trivial | skip)
  have d1 : decide (n < 0) = false := by rw [decide_eq_false_iff_not]; exact c1
  by_cases c2 : n > l.length
  · have d2 : decide (n > (l.length : Int)) = true := by rw [decide_eq_true_eq]; exact c2
    rw [arrive_no (by omega)]
    refine fn_ok mixed Tryz.func25 rfl (by kernel_rfl) _ Tryz.results25 _ Tryz.ntmps25 (by simp) (by kernel_rfl) ?_
    repeat (first | (refine aops_fnX rfl ?_ ?_; focus (simp (maxSteps := 4000000) only [sks, d1, d2, Option.map_none, Option.getD_none, Option.isSome_none, Bt.mcNil, List.map_nil, pProg, pChs, pMc, pInts, pI, tvl, simprocAttr]; done)) | (simp (maxSteps := 4000000) only [d1, d2, Option.map_none, Option.getD_none, Option.isSome_none, Bt.mcNil, List.map_nil, pProg, pChs, pMc, pInts, pI, tvl, simprocAttr]) | refine ftS (by kernel_rfl) ?_ | refine And.intro (by omega) ?_)
    all_goals (first | rfl | trivial | skip)
  have d2 : decide (n > (l.length : Int)) = false := by rw [decide_eq_false_iff_not]; exact c2
  cases hP : Bt.tt (Bt.MarksP rs h l mk)
  · rw [hP] at hMk
    rw [arrive_no (by rw [hP]; simp)]
    refine fn_ok mixed Tryz.func25 rfl (by kernel_rfl) _ Tryz.results25 _ Tryz.ntmps25 (by simp) (by kernel_rfl) ?_
    repeat (first | (refine aops_fnX rfl ?_ ?_; focus (simp (maxSteps := 4000000) only [sks, d1, d2, pProg, pChs, pI, tvl, simprocAttr]; done)) | (simp (maxSteps := 4000000) only [d1, d2, pProg, pChs, pI, tvl, simprocAttr]) | refine ftS (by kernel_rfl) ?_ | refine And.intro (by omega) ?_)
    refine aops_fnG (hMk) (hidB rfl) rfl rfl (by simp (maxSteps := 4000000) only [d1, d2, pProg, pChs, pI, tvl, simprocAttr]) ?_
    repeat (first | (refine aops_fnX rfl ?_ ?_; focus (simp (maxSteps := 4000000) only [sks, d1, d2, Option.map_none, Option.getD_none, Option.isSome_none, Bt.mcNil, List.map_nil, pProg, pChs, pMc, pInts, pI, tvl, simprocAttr]; done)) | (simp (maxSteps := 4000000) only [d1, d2, Option.map_none, Option.getD_none, Option.isSome_none, Bt.mcNil, List.map_nil, pProg, pChs, pMc, pInts, pI, tvl, simprocAttr]) | refine ftS (by kernel_rfl) ?_ | refine And.intro (by omega) ?_)
    all_goals (first | rfl | trivial | skip)
  rw [arrive_yes ⟨hP, by omega, by omega⟩]
  simp only [Option.map_some, Option.getD_some, Option.isSome_some]
  rw [hP] at hMk
  have hMP := tt_of hP
  clear hP
  obtain ⟨N, rfl⟩ : ∃ N : Nat, n = N := ⟨n.toNat, by omega⟩
  rw [Int.toNat_natCast]
  have hNl : N ≤ l.length := by omega
  have hNear := inear_ok (mk := mk) (n := (N : Int)) hk hMP.2.1
  have hNew := new_ok
  have e1 : (l.map pCh).take N = (l.take N).map pCh := by rw [List.map_take]
  rcases near_facts (n := (N : Int)) hMP (by omega) with ⟨g1, g2⟩ | ⟨q, fr, hq, g1, g2, g3, g4, g5⟩
  · obtain ⟨fr, hfr⟩ : ∃ fr : Nat, fr = 0 := ⟨0, rfl⟩
    obtain ⟨m0, hm0⟩ : ∃ m0, m0 = Bt.mcNew := ⟨_, rfl⟩
    obtain ⟨L2, hL2⟩ : ∃ L2, L2 = (l.take N).drop fr := ⟨_, rfl⟩
    have e2 : (l.take N).map pCh = L2.map pCh := by rw [hL2, hfr, List.drop_zero]
    have hL2n : fr + L2.length = N := by rw [hL2, List.length_drop, List.length_take]; omega
    have dq : decide (((0 : Nat) : Int) - 1 ≥ 0) = false := by decide
    have hA0 : Bt.after rs h Bt.mcNew (l.take (fr + 0)) = m0 := by rw [hfr, hm0, List.take_zero]; rfl
    rw [← hm0] at hNew
    rw [g1] at hNear
    rw [g2]
    refine fn_ok mixed Tryz.func25 rfl (by kernel_rfl) _ Tryz.results25 _ Tryz.ntmps25 (by simp) (by kernel_rfl) ?_
    repeat (first | (refine aops_fnX rfl ?_ ?_; focus (simp (maxSteps := 4000000) only [sks, d1, d2, pProg, pChs, pI, tvl, simprocAttr]; done)) | (simp (maxSteps := 4000000) only [d1, d2, pProg, pChs, pI, tvl, simprocAttr]) | refine ftS (by kernel_rfl) ?_ | refine And.intro (by omega) ?_)
    refine aops_fnG (hMk) (hidB rfl) rfl rfl (by simp (maxSteps := 4000000) only [d1, d2, pProg, pChs, pI, tvl, simprocAttr]) ?_
    repeat (first | (refine aops_fnX rfl ?_ ?_; focus (simp (maxSteps := 4000000) only [sks, d1, d2, pProg, pChs, pI, tvl, simprocAttr]; done)) | (simp (maxSteps := 4000000) only [d1, d2, pProg, pChs, pI, tvl, simprocAttr]) | refine ftS (by kernel_rfl) ?_ | refine And.intro (by omega) ?_)
    refine aops_fn (hNew) (hidB rfl) rfl ?_
    repeat (first | (refine aops_fnX rfl ?_ ?_; focus (simp (maxSteps := 4000000) only [sks, pProg, pChs, pMc, pInts, pI, tvl, simprocAttr]; done)) | (simp (maxSteps := 4000000) only [pProg, pChs, pMc, pInts, pI, tvl, simprocAttr]) | refine ftS (by kernel_rfl) ?_ | refine And.intro (by omega) ?_)
    refine aops_fn (hNear) (hidB rfl) rfl ?_
    repeat (first | (refine aops_fnX rfl ?_ ?_; focus (simp (maxSteps := 4000000) only [sks, dq, pProg, pChs, pMc, pInts, pI, tvl, simprocAttr]; done)) | (simp (maxSteps := 4000000) only [dq, pProg, pChs, pMc, pInts, pI, tvl, simprocAttr]) | refine ftS (by kernel_rfl) ?_ | refine And.intro (by omega) ?_)
    repeat (first | (refine aops_fnX rfl ?_ ?_; focus (simp (maxSteps := 4000000) only [sks, e1, e2, List.drop_zero, Int.toNat_zero, List.length_take, pProg, pChs, pMk, pMc, pInts, pI, tvl, simprocAttr]; done)) | (simp (maxSteps := 4000000) only [e1, e2, List.drop_zero, Int.toNat_zero, List.length_take, pProg, pChs, pMk, pMc, pInts, pI, tvl, simprocAttr]) | refine ftS (by kernel_rfl) ?_ | refine And.intro (by omega) ?_)
    have hw0 : wayM rs h l fr 0 = m0 := hA0
    refine awp_loop (X := Nat) (fun k => [(3, .pv (.int .i64 N)), (4, .ptr 0 0), (8, .ptr 1 0), (11, .ptr 6 0), (13, .ptr 7 0), (50, .pv (.lst 71 (L2.map pCh))), (51, .pv (.int .i64 L2.length)), (52, .pv (.int .i64 k))])
      (arvH rs h m0 0 (wayM rs h l fr)) (fun k => k ≤ L2.length) (fun k => L2.length - k) 100 0 (Nat.zero_le _) (by simp (maxSteps := 4000000) only [arvH, pI, tvl, simprocAttr]; try simp [hfr]) (fun k hk => ?_)
    have hsm : Small (wayM rs h l fr k) := Small.of (Bt.after_sz rs h _)
    by_cases c3 : k < L2.length
    rotate_left
    · have d3 : decide ((k : Int) < (L2.length : Int)) = false := by rw [decide_eq_false_iff_not]; omega
      have e9 : wayM rs h l fr k = Bt.after rs h Bt.mcNew (l.take N) := by unfold wayM; rw [show fr + k = N by omega]
      rw [← e9]
      cases k with
      | zero =>
        rw [hw0]
        have d3' : decide ((0 : Int) < (L2.length : Int)) = false := d3
        simp only [mkS, arvH]
        repeat (first | (refine aops_fnX rfl ?_ ?_; focus (simp (maxSteps := 4000000) only [sks, d3, d3', pMc, pInts, pI, tvl, simprocAttr]; done)) | (simp (maxSteps := 4000000) only [d3, d3', pMc, pInts, pI, tvl, simprocAttr]) | refine ftS (by kernel_rfl) ?_ | refine And.intro (by omega) ?_)
        all_goals (first | rfl | trivial | skip)
      | succ k =>
        simp only [mkS, arvH]
        generalize wayM rs h l fr (k + 1) = m9
        repeat (first | (refine aops_fnX rfl ?_ ?_; focus (simp (maxSteps := 4000000) only [sks, d3, pMc, pInts, pI, tvl, simprocAttr]; done)) | (simp (maxSteps := 4000000) only [d3, pMc, pInts, pI, tvl, simprocAttr]) | refine ftS (by kernel_rfl) ?_ | refine And.intro (by omega) ?_)
        all_goals (first | rfl | trivial | skip)
    have d3 : decide ((k : Int) < (L2.length : Int)) = true := by rw [decide_eq_true_eq]; omega
    have hkl : fr + k < l.length := by omega
    have e6 : (L2.map pCh)[k]? = some (pCh l[fr + k]) := by
      rw [List.getElem?_map, List.getElem?_eq_getElem c3]
      have : L2[k] = l[fr + k] := by simp [hL2]
      rw [this]
      rfl
    have hD := ido_ok (rs := rs) (h := h) (m := wayM rs h l fr k) (c := l[fr + k]) hn hsm
    have e8 : wayM rs h l fr (k + 1) = (Bt.doM rs h (wayM rs h l fr k) l[fr + k]).getD Bt.mcNil := Bt.after_take hkl
    rw [← e8] at hD
    generalize (Bt.doM rs h (wayM rs h l fr k) l[fr + k]).isSome = is at hD
    clear e8
    generalize l[fr + k] = c at hD e6
    obtain ⟨cw, ck, cr⟩ := c
    obtain ⟨m1, hm1⟩ : ∃ m1, wayM rs h l fr (k + 1) = m1 := ⟨_, rfl⟩
    rw [hm1] at hD
    cases k with
    | zero =>
      rw [hw0] at hD
      have d3' : decide ((0 : Int) < (L2.length : Int)) = true := d3
      simp only [mkS, arvH]
      repeat (first | (refine aops_fnX rfl ?_ ?_; focus (simp (maxSteps := 4000000) only [sks, d3, d3', e6, pMc, pCh, pInts, pI, tvl, simprocAttr]; done)) | (simp (maxSteps := 4000000) only [d3, d3', e6, pMc, pCh, pInts, pI, tvl, simprocAttr]) | refine ftS (by kernel_rfl) ?_ | refine And.intro (by omega) ?_)
      refine aops_fn (hD) (hidB rfl) rfl ?_
      repeat (first | (refine aops_fnX rfl ?_ ?_; focus (simp (maxSteps := 4000000) only [sks, pProg, pMc, pCh, pInts, pI, tvl, simprocAttr]; done)) | (simp (maxSteps := 4000000) only [pProg, pMc, pCh, pInts, pI, tvl, simprocAttr]) | refine ftS (by kernel_rfl) ?_ | refine And.intro (by omega) ?_)
      refine ⟨0 + 1, by omega, by omega, ?_⟩
      simp (maxSteps := 4000000) only [arvH, pInts, pI, tvl, simprocAttr]
      simp [hm1, pInts, pI]
    | succ k =>
      simp only [mkS, arvH]
      generalize wayM rs h l fr (k + 1) = m at hD
      repeat (first | (refine aops_fnX rfl ?_ ?_; focus (simp (maxSteps := 4000000) only [sks, d3, e6, pMc, pCh, pInts, pI, tvl, simprocAttr]; done)) | (simp (maxSteps := 4000000) only [d3, e6, pMc, pCh, pInts, pI, tvl, simprocAttr]) | refine ftS (by kernel_rfl) ?_ | refine And.intro (by omega) ?_)
      refine aops_fn (hD) (hidB rfl) rfl ?_
      repeat (first | (refine aops_fnX rfl ?_ ?_; focus (simp (maxSteps := 4000000) only [sks, pProg, pMc, pCh, pInts, pI, tvl, simprocAttr]; done)) | (simp (maxSteps := 4000000) only [pProg, pMc, pCh, pInts, pI, tvl, simprocAttr]) | refine ftS (by kernel_rfl) ?_ | refine And.intro (by omega) ?_)
      refine ⟨k + 1 + 1, by omega, by omega, ?_⟩
      simp (maxSteps := 4000000) only [arvH, pInts, pI, tvl, simprocAttr]
      simp [hm1, pInts, pI]
  · obtain ⟨L2, hL2⟩ : ∃ L2, L2 = (l.take N).drop fr := ⟨_, rfl⟩
    have e2 : ((l.take N).map pCh).drop fr = L2.map pCh := by rw [hL2, List.map_drop]
    have hL2n : fr + L2.length = N := by rw [hL2, List.length_drop, List.length_take]; omega
    have dq : decide (((q + 1 : Nat) : Int) - 1 ≥ 0) = true := by rw [decide_eq_true_eq]; omega
    have x1 : ((q + 1 : Nat) : Int) - 1 = (q : Int) := by omega
    have e5 : (mk.map pMk)[q]? = some (pMk ((fr : Int), Bt.after rs h Bt.mcNew (l.take fr))) := by rw [List.getElem?_map, List.getElem?_eq_getElem hq, g5]; rfl
    have hCp := icopyMk_ok (x := ((fr : Int), Bt.after rs h Bt.mcNew (l.take fr))) (Small.of (Bt.after_sz rs h _))
    obtain ⟨mf, hmf⟩ : ∃ mf, mf = Bt.after rs h Bt.mcNew (l.take fr) := ⟨_, rfl⟩
    rw [← hmf] at e5 hCp
    have hA0 : Bt.after rs h Bt.mcNew (l.take (fr + 0)) = mf := hmf.symm
    rw [g1] at hNear
    rw [g2]
    clear g1 g2 g5 hMP hs
    refine fn_ok mixed Tryz.func25 rfl (by kernel_rfl) _ Tryz.results25 _ Tryz.ntmps25 (by simp) (by kernel_rfl) ?_
    repeat (first | (refine aops_fnX rfl ?_ ?_; focus (simp (maxSteps := 4000000) only [sks, d1, d2, pProg, pChs, pI, tvl, simprocAttr]; done)) | (simp (maxSteps := 4000000) only [d1, d2, pProg, pChs, pI, tvl, simprocAttr]) | refine ftS (by kernel_rfl) ?_ | refine And.intro (by omega) ?_)
    refine aops_fnG (hMk) (hidB rfl) rfl rfl (by simp (maxSteps := 4000000) only [d1, d2, pProg, pChs, pI, tvl, simprocAttr]) ?_
    repeat (first | (refine aops_fnX rfl ?_ ?_; focus (simp (maxSteps := 4000000) only [sks, d1, d2, pProg, pChs, pI, tvl, simprocAttr]; done)) | (simp (maxSteps := 4000000) only [d1, d2, pProg, pChs, pI, tvl, simprocAttr]) | refine ftS (by kernel_rfl) ?_ | refine And.intro (by omega) ?_)
    refine aops_fn (hNew) (hidB rfl) rfl ?_
    repeat (first | (refine aops_fnX rfl ?_ ?_; focus (simp (maxSteps := 4000000) only [sks, pProg, pChs, pMc, pInts, pI, tvl, simprocAttr]; done)) | (simp (maxSteps := 4000000) only [pProg, pChs, pMc, pInts, pI, tvl, simprocAttr]) | refine ftS (by kernel_rfl) ?_ | refine And.intro (by omega) ?_)
    refine aops_fn (hNear) (hidB rfl) rfl ?_
    repeat (first | (refine aops_fnX rfl ?_ ?_; focus (simp (maxSteps := 4000000) only [sks, dq, pProg, pChs, pMc, pInts, pI, tvl, simprocAttr]; done)) | (simp (maxSteps := 4000000) only [dq, pProg, pChs, pMc, pInts, pI, tvl, simprocAttr]) | refine ftS (by kernel_rfl) ?_ | refine And.intro (by omega) ?_)
    repeat (first | (refine aops_fnX rfl ?_ ?_; focus (simp (maxSteps := 4000000) only [sks, dq, x1, e5, pProg, pChs, pMk, pMc, pInts, pI, tvl, simprocAttr]; done)) | (simp (maxSteps := 4000000) only [dq, x1, e5, pProg, pChs, pMk, pMc, pInts, pI, tvl, simprocAttr]) | refine ftS (by kernel_rfl) ?_ | refine And.intro (by omega) ?_)
    refine aops_fn (hCp) (hidB rfl) rfl ?_
    repeat (first | (refine aops_fnX rfl ?_ ?_; focus (simp (maxSteps := 4000000) only [sks, e1, e2, List.length_take, pProg, pChs, pMk, pMc, pInts, pI, tvl, simprocAttr]; done)) | (simp (maxSteps := 4000000) only [e1, e2, List.length_take, pProg, pChs, pMk, pMc, pInts, pI, tvl, simprocAttr]) | refine ftS (by kernel_rfl) ?_ | refine And.intro (by omega) ?_)
    have hw0 : wayM rs h l fr 0 = mf := hA0
    refine awp_loop (X := Nat) (fun k => [(3, .pv (.int .i64 N)), (4, .ptr 0 0), (8, .ptr 1 0), (11, .ptr 6 0), (13, .ptr 7 0), (50, .pv (.lst 71 (L2.map pCh))), (51, .pv (.int .i64 L2.length)), (52, .pv (.int .i64 k))])
      (arvH rs h mf fr (wayM rs h l fr)) (fun k => k ≤ L2.length) (fun k => L2.length - k) 100 0 (Nat.zero_le _) (by simp (maxSteps := 4000000) only [arvH, pI, tvl, simprocAttr]; try simp) (fun k hk => ?_)
    have hsm : Small (wayM rs h l fr k) := Small.of (Bt.after_sz rs h _)
    by_cases c3 : k < L2.length
    rotate_left
    · have d3 : decide ((k : Int) < (L2.length : Int)) = false := by rw [decide_eq_false_iff_not]; omega
      have e9 : wayM rs h l fr k = Bt.after rs h Bt.mcNew (l.take N) := by unfold wayM; rw [show fr + k = N by omega]
      rw [← e9]
      cases k with
      | zero =>
        rw [hw0]
        have d3' : decide ((0 : Int) < (L2.length : Int)) = false := d3
        simp only [mkS, arvH]
        repeat (first | (refine aops_fnX rfl ?_ ?_; focus (simp (maxSteps := 4000000) only [sks, d3, d3', pMc, pInts, pI, tvl, simprocAttr]; done)) | (simp (maxSteps := 4000000) only [d3, d3', pMc, pInts, pI, tvl, simprocAttr]) | refine ftS (by kernel_rfl) ?_ | refine And.intro (by omega) ?_)
        all_goals (first | rfl | trivial | skip)
      | succ k =>
        simp only [mkS, arvH]
        generalize wayM rs h l fr (k + 1) = m9
        repeat (first | (refine aops_fnX rfl ?_ ?_; focus (simp (maxSteps := 4000000) only [sks, d3, pMc, pInts, pI, tvl, simprocAttr]; done)) | (simp (maxSteps := 4000000) only [d3, pMc, pInts, pI, tvl, simprocAttr]) | refine ftS (by kernel_rfl) ?_ | refine And.intro (by omega) ?_)
        all_goals (first | rfl | trivial | skip)
    have d3 : decide ((k : Int) < (L2.length : Int)) = true := by rw [decide_eq_true_eq]; omega
    have hkl : fr + k < l.length := by omega
    have e6 : (L2.map pCh)[k]? = some (pCh l[fr + k]) := by
      rw [List.getElem?_map, List.getElem?_eq_getElem c3]
      have : L2[k] = l[fr + k] := by simp [hL2]
      rw [this]
      rfl
    have hD := ido_ok (rs := rs) (h := h) (m := wayM rs h l fr k) (c := l[fr + k]) hn hsm
    have e8 : wayM rs h l fr (k + 1) = (Bt.doM rs h (wayM rs h l fr k) l[fr + k]).getD Bt.mcNil := Bt.after_take hkl
    rw [← e8] at hD
    generalize (Bt.doM rs h (wayM rs h l fr k) l[fr + k]).isSome = is at hD
    clear e8
    generalize l[fr + k] = c at hD e6
    obtain ⟨cw, ck, cr⟩ := c
    obtain ⟨m1, hm1⟩ : ∃ m1, wayM rs h l fr (k + 1) = m1 := ⟨_, rfl⟩
    rw [hm1] at hD
    cases k with
    | zero =>
      rw [hw0] at hD
      have d3' : decide ((0 : Int) < (L2.length : Int)) = true := d3
      simp only [mkS, arvH]
      repeat (first | (refine aops_fnX rfl ?_ ?_; focus (simp (maxSteps := 4000000) only [sks, d3, d3', e6, pMc, pCh, pInts, pI, tvl, simprocAttr]; done)) | (simp (maxSteps := 4000000) only [d3, d3', e6, pMc, pCh, pInts, pI, tvl, simprocAttr]) | refine ftS (by kernel_rfl) ?_ | refine And.intro (by omega) ?_)
      refine aops_fn (hD) (hidB rfl) rfl ?_
      repeat (first | (refine aops_fnX rfl ?_ ?_; focus (simp (maxSteps := 4000000) only [sks, pProg, pMc, pCh, pInts, pI, tvl, simprocAttr]; done)) | (simp (maxSteps := 4000000) only [pProg, pMc, pCh, pInts, pI, tvl, simprocAttr]) | refine ftS (by kernel_rfl) ?_ | refine And.intro (by omega) ?_)
      refine ⟨0 + 1, by omega, by omega, ?_⟩
      simp (maxSteps := 4000000) only [arvH, pInts, pI, tvl, simprocAttr]
      simp [hm1, pInts, pI]
    | succ k =>
      simp only [mkS, arvH]
      generalize wayM rs h l fr (k + 1) = m at hD
      repeat (first | (refine aops_fnX rfl ?_ ?_; focus (simp (maxSteps := 4000000) only [sks, d3, e6, pMc, pCh, pInts, pI, tvl, simprocAttr]; done)) | (simp (maxSteps := 4000000) only [d3, e6, pMc, pCh, pInts, pI, tvl, simprocAttr]) | refine ftS (by kernel_rfl) ?_ | refine And.intro (by omega) ?_)
      refine aops_fn (hD) (hidB rfl) rfl ?_
      repeat (first | (refine aops_fnX rfl ?_ ?_; focus (simp (maxSteps := 4000000) only [sks, pProg, pMc, pCh, pInts, pI, tvl, simprocAttr]; done)) | (simp (maxSteps := 4000000) only [pProg, pMc, pCh, pInts, pI, tvl, simprocAttr]) | refine ftS (by kernel_rfl) ?_ | refine And.intro (by omega) ?_)
      refine ⟨k + 1 + 1, by omega, by omega, ?_⟩
      simp (maxSteps := 4000000) only [arvH, pInts, pI, tvl, simprocAttr]
      simp [hm1, pInts, pI]
set_option maxRecDepth 10000 in
set_option maxHeartbeats 16000000 in
theorem sArrive_ok {rs : List Bt.C4} {h n : Int} {l : List Bt.Ch} {mk : List (Int × Bt.Mc)} (hn : rs.length ≤ 1048576) (hl : l.length ≤ 1048576) (hk : mk.length ≤ 1048576) (hs : ∀ x ∈ mk, Small x.2) :
    FnOk E.P 23 [pProg rs h, pChs l, .lst 92 (mk.map pMk), pI n] (.tup [.agg (pMc (((Bt.arrive rs h l mk n).map (·.1)).getD Bt.mcNil)), pI (((Bt.arrive rs h l mk n).map (·.2)).getD 0), .bool (Bt.arrive rs h l mk n).isSome]) false := by
  have hMk := sMarksOk_ok (rs := rs) (h := h) (l := l) (mk := mk) hn hl hk hs
  cases hP : Bt.tt (Bt.MarksP rs h l mk)
  · rw [hP] at hMk
    rw [arrive_no (by rw [hP]; simp)]
    refine fn_ok mixed Tryz.func23 rfl (by kernel_rfl) _ Tryz.results23 _ Tryz.ntmps23 (by simp) (by kernel_rfl) ?_
    repeat (first | (refine aops_fnX rfl ?_ ?_; focus (simp (maxSteps := 4000000) only [sks, pProg, pChs, pI, tvl, simprocAttr]; done)) | (simp (maxSteps := 4000000) only [pProg, pChs, pI, tvl, simprocAttr]) | refine ftS (by kernel_rfl) ?_ | refine And.intro (by omega) ?_)
    refine aops_callF (hMk) (hidB rfl) rfl ?_
    repeat (first | (refine aops_fnX rfl ?_ ?_; focus (simp (maxSteps := 4000000) only [sks, Option.map_none, Option.getD_none, Option.isSome_none, Bt.mcNil, List.map_nil, pProg, pChs, pMc, pInts, pI, tvl, simprocAttr]; done)) | (simp (maxSteps := 4000000) only [Option.map_none, Option.getD_none, Option.isSome_none, Bt.mcNil, List.map_nil, pProg, pChs, pMc, pInts, pI, tvl, simprocAttr]) | refine ftS (by kernel_rfl) ?_ | refine And.intro (by omega) ?_)
    all_goals (first | rfl | trivial | skip)
  by_cases c1 : n < 0
  · have d1 : decide (n < 0) = true := by rw [decide_eq_true_eq]; exact c1
    rw [hP] at hMk
    rw [arrive_no (by omega)]
    refine fn_ok mixed Tryz.func23 rfl (by kernel_rfl) _ Tryz.results23 _ Tryz.ntmps23 (by simp) (by kernel_rfl) ?_
    repeat (first | (refine aops_fnX rfl ?_ ?_; focus (simp (maxSteps := 4000000) only [sks, d1, pProg, pChs, pI, tvl, simprocAttr]; done)) | (simp (maxSteps := 4000000) only [d1, pProg, pChs, pI, tvl, simprocAttr]) | refine ftS (by kernel_rfl) ?_ | refine And.intro (by omega) ?_)
    refine aops_callF (hMk) (hidB rfl) rfl ?_
    repeat (first | (refine aops_fnX rfl ?_ ?_; focus (simp (maxSteps := 4000000) only [sks, d1, Option.map_none, Option.getD_none, Option.isSome_none, Bt.mcNil, List.map_nil, pProg, pChs, pMc, pInts, pI, tvl, simprocAttr]; done)) | (simp (maxSteps := 4000000) only [d1, Option.map_none, Option.getD_none, Option.isSome_none, Bt.mcNil, List.map_nil, pProg, pChs, pMc, pInts, pI, tvl, simprocAttr]) | refine ftS (by kernel_rfl) ?_ | refine And.intro (by omega) ?_)
    all_goals (first | rfl | trivial | skip)
  have d1 : decide (n < 0) = false := by rw [decide_eq_false_iff_not]; exact c1
  by_cases c2 : n > l.length
  · have d2 : decide (n > (l.length : Int)) = true := by rw [decide_eq_true_eq]; exact c2
    rw [hP] at hMk
    rw [arrive_no (by omega)]
    refine fn_ok mixed Tryz.func23 rfl (by kernel_rfl) _ Tryz.results23 _ Tryz.ntmps23 (by simp) (by kernel_rfl) ?_
    repeat (first | (refine aops_fnX rfl ?_ ?_; focus (simp (maxSteps := 4000000) only [sks, d1, d2, pProg, pChs, pI, tvl, simprocAttr]; done)) | (simp (maxSteps := 4000000) only [d1, d2, pProg, pChs, pI, tvl, simprocAttr]) | refine ftS (by kernel_rfl) ?_ | refine And.intro (by omega) ?_)
    refine aops_callF (hMk) (hidB rfl) rfl ?_
    repeat (first | (refine aops_fnX rfl ?_ ?_; focus (simp (maxSteps := 4000000) only [sks, d1, d2, Option.map_none, Option.getD_none, Option.isSome_none, Bt.mcNil, List.map_nil, pProg, pChs, pMc, pInts, pI, tvl, simprocAttr]; done)) | (simp (maxSteps := 4000000) only [d1, d2, Option.map_none, Option.getD_none, Option.isSome_none, Bt.mcNil, List.map_nil, pProg, pChs, pMc, pInts, pI, tvl, simprocAttr]) | refine ftS (by kernel_rfl) ?_ | refine And.intro (by omega) ?_)
    all_goals (first | rfl | trivial | skip)
  have d2 : decide (n > (l.length : Int)) = false := by rw [decide_eq_false_iff_not]; exact c2
  rw [arrive_yes ⟨hP, by omega, by omega⟩]
  simp only [Option.map_some, Option.getD_some, Option.isSome_some]
  rw [hP] at hMk
  have hMP := tt_of hP
  clear hP
  obtain ⟨hpo, _, _⟩ := Bt.runOk_facts hMP.1
  have hne := progOk_ne hpo
  obtain ⟨N, rfl⟩ : ∃ N : Nat, n = N := ⟨n.toNat, by omega⟩
  rw [Int.toNat_natCast]
  have hNl : N ≤ l.length := by omega
  have hNear := snear_ok (mk := mk) (n := (N : Int)) hk hMP.2.1
  have hNew := snew_ok
  have e1 : (l.map pCh).take N = (l.take N).map pCh := by rw [List.map_take]
  rcases near_facts (n := (N : Int)) hMP (by omega) with ⟨g1, g2⟩ | ⟨q, fr, hq, g1, g2, g3, g4, g5⟩
  · obtain ⟨fr, hfr⟩ : ∃ fr : Nat, fr = 0 := ⟨0, rfl⟩
    obtain ⟨m0, hm0⟩ : ∃ m0, m0 = Bt.mcNew := ⟨_, rfl⟩
    obtain ⟨L2, hL2⟩ : ∃ L2, L2 = (l.take N).drop fr := ⟨_, rfl⟩
    have e2 : (l.take N).map pCh = L2.map pCh := by rw [hL2, hfr, List.drop_zero]
    have hL2n : fr + L2.length = N := by rw [hL2, List.length_drop, List.length_take]; omega
    have dq : decide (((0 : Nat) : Int) - 1 ≥ 0) = false := by decide
    have hA0 : Bt.after rs h Bt.mcNew (l.take (fr + 0)) = m0 := by rw [hfr, hm0, List.take_zero]; rfl
    rw [← hm0] at hNew
    rw [g1] at hNear
    rw [g2]
    refine fn_ok mixed Tryz.func23 rfl (by kernel_rfl) _ Tryz.results23 _ Tryz.ntmps23 (by simp) (by kernel_rfl) ?_
    repeat (first | (refine aops_fnX rfl ?_ ?_; focus (simp (maxSteps := 4000000) only [sks, pProg, pChs, pI, tvl, simprocAttr]; done)) | (simp (maxSteps := 4000000) only [pProg, pChs, pI, tvl, simprocAttr]) | refine ftS (by kernel_rfl) ?_ | refine And.intro (by omega) ?_)
    refine aops_callF (hMk) (hidB rfl) rfl ?_
    repeat (first | (refine aops_fnX rfl ?_ ?_; focus (simp (maxSteps := 4000000) only [sks, d1, d2, pProg, pChs, pI, tvl, simprocAttr]; done)) | (simp (maxSteps := 4000000) only [d1, d2, pProg, pChs, pI, tvl, simprocAttr]) | refine ftS (by kernel_rfl) ?_ | refine And.intro (by omega) ?_)
    refine aops_callF (hNew.read) (hidB rfl) rfl ?_
    repeat (first | (refine aops_fnX rfl ?_ ?_; focus (simp (maxSteps := 4000000) only [sks, pProg, pChs, pMc, pInts, pI, tvl, simprocAttr]; done)) | (simp (maxSteps := 4000000) only [pProg, pChs, pMc, pInts, pI, tvl, simprocAttr]) | refine ftS (by kernel_rfl) ?_ | refine And.intro (by omega) ?_)
    refine aops_fn (hNear) (hidB rfl) rfl ?_
    repeat (first | (refine aops_fnX rfl ?_ ?_; focus (simp (maxSteps := 4000000) only [sks, dq, pProg, pChs, pMc, pInts, pI, tvl, simprocAttr]; done)) | (simp (maxSteps := 4000000) only [dq, pProg, pChs, pMc, pInts, pI, tvl, simprocAttr]) | refine ftS (by kernel_rfl) ?_ | refine And.intro (by omega) ?_)
    have hA1 : Bt.after rs h Bt.mcNew (l.take fr) = m0 := hA0
    refine awp_loop (X := Nat) (fun k => [(1, .pv (.lst 71 (l.map pCh))), (3, .pv (.int .i64 N)), (4, .ptr 0 0), (8, .ptr 1 0), (11, .ptr 2 0), (12, .pv (.int .i64 0)), (14, .pv (.int .i64 ((fr + k : Nat) : Int)))])
      (fun k => [(0, .box [.pv (.lst 105 (rs.map pCode)), .pv (.int .i64 h)]), (1, .box [.nil 115, .nil 3, .nil 3, .nil 3]), (2, .box (bMc (wayM rs h l fr k)))])
      (fun k => fr + k ≤ N) (fun k => N - (fr + k)) 100 0 (by omega) (by simp (maxSteps := 4000000) only [wayM, bMc, pMc, pInts, Nat.add_zero, hA1, pI, tvl, simprocAttr]; try simp [hfr]) (fun k hk => ?_)
    have hsm : Small (wayM rs h l fr k) := Small.of (Bt.after_sz rs h _)
    by_cases c3 : fr + k < N
    rotate_left
    · have d3 : decide (((fr + k : Nat) : Int) < (N : Int)) = false := by rw [decide_eq_false_iff_not]; omega
      have e9 : wayM rs h l fr k = Bt.after rs h Bt.mcNew (l.take N) := by unfold wayM; rw [show fr + k = N by omega]
      rw [e9]
      generalize Bt.after rs h Bt.mcNew (l.take N) = m9
      repeat (first | (refine aops_fnX rfl ?_ ?_; focus (simp (maxSteps := 4000000) only [sks, d3, bMc, pMc, pInts, pI, tvl, simprocAttr]; done)) | (simp (maxSteps := 4000000) only [d3, bMc, pMc, pInts, pI, tvl, simprocAttr]) | refine ftS (by kernel_rfl) ?_ | refine And.intro (by omega) ?_)
      all_goals (first | rfl | trivial | skip)
    have d3 : decide (((fr + k : Nat) : Int) < (N : Int)) = true := by rw [decide_eq_true_eq]; omega
    have hkl : fr + k < l.length := by omega
    have e6 : (l.map pCh)[fr + k]? = some (pCh l[fr + k]) := by simp [hkl]
    have hD := sdo_ok (rs := rs) (h := h) (m := wayM rs h l fr k) (c := l[fr + k]) hne hn hsm
    have e8 : wayM rs h l fr (k + 1) = (Bt.doM rs h (wayM rs h l fr k) l[fr + k]).getD Bt.mcNil := Bt.after_take hkl
    rw [← e8] at hD
    generalize (Bt.doM rs h (wayM rs h l fr k) l[fr + k]).isSome = is at hD
    clear e8
    generalize l[fr + k] = c at hD e6
    generalize hm1 : wayM rs h l fr (k + 1) = m1 at hD
    generalize wayM rs h l fr k = m at hD
    obtain ⟨cw, ck, cr⟩ := c
    repeat (first | (refine aops_fnX rfl ?_ ?_; focus (simp (maxSteps := 4000000) only [sks, d3, e6, bMc, pMc, pCh, pInts, pI, tvl, simprocAttr]; done)) | (simp (maxSteps := 4000000) only [d3, e6, bMc, pMc, pCh, pInts, pI, tvl, simprocAttr]) | refine ftS (by kernel_rfl) ?_ | refine And.intro (by omega) ?_)
    refine aops_callF (hD) (hidB rfl) rfl ?_
    repeat (first | (refine aops_fnX rfl ?_ ?_; focus (simp (maxSteps := 4000000) only [sks, pProg, bMc, pMc, pCh, pInts, pI, tvl, simprocAttr]; done)) | (simp (maxSteps := 4000000) only [pProg, bMc, pMc, pCh, pInts, pI, tvl, simprocAttr]) | refine ftS (by kernel_rfl) ?_ | refine And.intro (by omega) ?_)
    refine ⟨k + 1, by omega, by omega, ?_⟩
    simp [hm1, bMc, pMc, pInts, pI]
    try omega
  · obtain ⟨L2, hL2⟩ : ∃ L2, L2 = (l.take N).drop fr := ⟨_, rfl⟩
    have e2 : ((l.take N).map pCh).drop fr = L2.map pCh := by rw [hL2, List.map_drop]
    have hL2n : fr + L2.length = N := by rw [hL2, List.length_drop, List.length_take]; omega
    have dq : decide (((q + 1 : Nat) : Int) - 1 ≥ 0) = true := by rw [decide_eq_true_eq]; omega
    have x1 : ((q + 1 : Nat) : Int) - 1 = (q : Int) := by omega
    have e5 : (mk.map pMk)[q]? = some (pMk ((fr : Int), Bt.after rs h Bt.mcNew (l.take fr))) := by rw [List.getElem?_map, List.getElem?_eq_getElem hq, g5]; rfl
    have hCp := scopy_ok (m := Bt.after rs h Bt.mcNew (l.take fr)) (Small.of (Bt.after_sz rs h _))
    obtain ⟨mf, hmf⟩ : ∃ mf, mf = Bt.after rs h Bt.mcNew (l.take fr) := ⟨_, rfl⟩
    rw [← hmf] at e5 hCp
    have hA0 : Bt.after rs h Bt.mcNew (l.take (fr + 0)) = mf := hmf.symm
    rw [g1] at hNear
    rw [g2]
    clear g1 g2 g5 hMP hs
    refine fn_ok mixed Tryz.func23 rfl (by kernel_rfl) _ Tryz.results23 _ Tryz.ntmps23 (by simp) (by kernel_rfl) ?_
    repeat (first | (refine aops_fnX rfl ?_ ?_; focus (simp (maxSteps := 4000000) only [sks, pProg, pChs, pI, tvl, simprocAttr]; done)) | (simp (maxSteps := 4000000) only [pProg, pChs, pI, tvl, simprocAttr]) | refine ftS (by kernel_rfl) ?_ | refine And.intro (by omega) ?_)
    refine aops_callF (hMk) (hidB rfl) rfl ?_
    repeat (first | (refine aops_fnX rfl ?_ ?_; focus (simp (maxSteps := 4000000) only [sks, d1, d2, pProg, pChs, pI, tvl, simprocAttr]; done)) | (simp (maxSteps := 4000000) only [d1, d2, pProg, pChs, pI, tvl, simprocAttr]) | refine ftS (by kernel_rfl) ?_ | refine And.intro (by omega) ?_)
    refine aops_callF (hNew.read) (hidB rfl) rfl ?_
    repeat (first | (refine aops_fnX rfl ?_ ?_; focus (simp (maxSteps := 4000000) only [sks, pProg, pChs, pMc, pInts, pI, tvl, simprocAttr]; done)) | (simp (maxSteps := 4000000) only [pProg, pChs, pMc, pInts, pI, tvl, simprocAttr]) | refine ftS (by kernel_rfl) ?_ | refine And.intro (by omega) ?_)
    refine aops_fn (hNear) (hidB rfl) rfl ?_
    repeat (first | (refine aops_fnX rfl ?_ ?_; focus (simp (maxSteps := 4000000) only [sks, dq, pProg, pChs, pMc, pInts, pI, tvl, simprocAttr]; done)) | (simp (maxSteps := 4000000) only [dq, pProg, pChs, pMc, pInts, pI, tvl, simprocAttr]) | refine ftS (by kernel_rfl) ?_ | refine And.intro (by omega) ?_)
    repeat (first | (refine aops_fnX rfl ?_ ?_; focus (simp (maxSteps := 4000000) only [sks, dq, x1, e5, pProg, pChs, pMk, pMc, pInts, pI, tvl, simprocAttr]; done)) | (simp (maxSteps := 4000000) only [dq, x1, e5, pProg, pChs, pMk, pMc, pInts, pI, tvl, simprocAttr]) | refine ftS (by kernel_rfl) ?_ | refine And.intro (by omega) ?_)
    refine aops_callF (hCp.read) (hidB rfl) rfl ?_
    repeat (first | (refine aops_fnX rfl ?_ ?_; focus (simp (maxSteps := 4000000) only [sks, x1, e5, pProg, pChs, pMk, pMc, pInts, pI, tvl, simprocAttr]; done)) | (simp (maxSteps := 4000000) only [x1, e5, pProg, pChs, pMk, pMc, pInts, pI, tvl, simprocAttr]) | refine ftS (by kernel_rfl) ?_ | refine And.intro (by omega) ?_)
    have hA1 : Bt.after rs h Bt.mcNew (l.take fr) = mf := hA0
    refine awp_loop (X := Nat) (fun k => [(1, .pv (.lst 71 (l.map pCh))), (3, .pv (.int .i64 N)), (4, .ptr 0 0), (8, .ptr 1 0), (11, .ptr 2 0), (12, .pv (.int .i64 fr)), (14, .pv (.int .i64 ((fr + k : Nat) : Int)))])
      (fun k => [(0, .box [.pv (.lst 105 (rs.map pCode)), .pv (.int .i64 h)]), (1, .box [.nil 115, .nil 3, .nil 3, .nil 3]), (2, .box (bMc (wayM rs h l fr k)))])
      (fun k => fr + k ≤ N) (fun k => N - (fr + k)) 100 0 (by omega) (by simp (maxSteps := 4000000) only [wayM, bMc, pMc, pInts, Nat.add_zero, hA1, pI, tvl, simprocAttr]; try simp) (fun k hk => ?_)
    have hsm : Small (wayM rs h l fr k) := Small.of (Bt.after_sz rs h _)
    by_cases c3 : fr + k < N
    rotate_left
    · have d3 : decide (((fr + k : Nat) : Int) < (N : Int)) = false := by rw [decide_eq_false_iff_not]; omega
      have e9 : wayM rs h l fr k = Bt.after rs h Bt.mcNew (l.take N) := by unfold wayM; rw [show fr + k = N by omega]
      rw [e9]
      generalize Bt.after rs h Bt.mcNew (l.take N) = m9
      repeat (first | (refine aops_fnX rfl ?_ ?_; focus (simp (maxSteps := 4000000) only [sks, d3, bMc, pMc, pInts, pI, tvl, simprocAttr]; done)) | (simp (maxSteps := 4000000) only [d3, bMc, pMc, pInts, pI, tvl, simprocAttr]) | refine ftS (by kernel_rfl) ?_ | refine And.intro (by omega) ?_)
      all_goals (first | rfl | trivial | skip)
    have d3 : decide (((fr + k : Nat) : Int) < (N : Int)) = true := by rw [decide_eq_true_eq]; omega
    have hkl : fr + k < l.length := by omega
    have e6 : (l.map pCh)[fr + k]? = some (pCh l[fr + k]) := by simp [hkl]
    have hD := sdo_ok (rs := rs) (h := h) (m := wayM rs h l fr k) (c := l[fr + k]) hne hn hsm
    have e8 : wayM rs h l fr (k + 1) = (Bt.doM rs h (wayM rs h l fr k) l[fr + k]).getD Bt.mcNil := Bt.after_take hkl
    rw [← e8] at hD
    generalize (Bt.doM rs h (wayM rs h l fr k) l[fr + k]).isSome = is at hD
    clear e8
    generalize l[fr + k] = c at hD e6
    generalize hm1 : wayM rs h l fr (k + 1) = m1 at hD
    generalize wayM rs h l fr k = m at hD
    obtain ⟨cw, ck, cr⟩ := c
    repeat (first | (refine aops_fnX rfl ?_ ?_; focus (simp (maxSteps := 4000000) only [sks, d3, e6, bMc, pMc, pCh, pInts, pI, tvl, simprocAttr]; done)) | (simp (maxSteps := 4000000) only [d3, e6, bMc, pMc, pCh, pInts, pI, tvl, simprocAttr]) | refine ftS (by kernel_rfl) ?_ | refine And.intro (by omega) ?_)
    refine aops_callF (hD) (hidB rfl) rfl ?_
    repeat (first | (refine aops_fnX rfl ?_ ?_; focus (simp (maxSteps := 4000000) only [sks, pProg, bMc, pMc, pCh, pInts, pI, tvl, simprocAttr]; done)) | (simp (maxSteps := 4000000) only [pProg, bMc, pMc, pCh, pInts, pI, tvl, simprocAttr]) | refine ftS (by kernel_rfl) ?_ | refine And.intro (by omega) ?_)
    refine ⟨k + 1, by omega, by omega, ?_⟩
    simp [hm1, bMc, pMc, pInts, pI]
    try omega
end Av
end Go.Proofs.YtbkbppllcjcmhaaGreat
