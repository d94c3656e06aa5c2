/-
  Chapter 6: which marks are ones of a run, both packages.
-/
import Derived.Test.YtbkbppllcjcmhaaGreatSm
import Derived.Test.YtbkbppllcjcmhaaGreatIThr
import Derived.Test.YtbkbppllcjcmhaaGreatSThs
set_option linter.unusedSimpArgs false
set_option linter.unusedVariables false
namespace Go.Proofs.YtbkbppllcjcmhaaGreat
open Go.RowKit
namespace Bt
def Asc (mk : List (Int × Mc)) : Prop := ∀ j (hj : j + 1 < mk.length), (mk[j]'(by omega)).1 < (mk[j + 1]'hj).1
def MarksP (rs : List C4) (h : Int) (l : List Ch) (mk : List (Int × Mc)) : Prop := runOk rs h l = true ∧ Asc mk ∧ ∀ k (hk : k < mk.length), machAt rs h l mk[k].1 = some mk[k].2
end Bt
namespace Av
def pMk (x : Int × Bt.Mc) : List PV := [pI x.1, .lst 115 (x.2.ths.map pTh), pInts x.2.cells, pInts x.2.locks, pInts x.2.told]
set_option maxRecDepth 10000 in
set_option maxHeartbeats 8000000 in
theorem asc_ok {mk : List (Int × Bt.Mc)} (hl : mk.length ≤ 1048576) : FnOk E.P 81 [.lst 92 (mk.map pMk)] (.bool (Bt.tt (Bt.Asc mk))) true := by
  obtain ⟨z, hz⟩ : ∃ z, z = Bt.tt (Bt.Asc mk) := ⟨_, rfl⟩
  rw [← hz]
  have z1 : Bt.Asc mk → z = true := fun e => hz.trans (Bt.tt_t e)
  have z2 : ¬ Bt.Asc mk → z = false := fun e => hz.trans (Bt.tt_f e)
  clear hz
  refine fn_ok mixed Tryz.func81 rfl (by kernel_rfl) _ Tryz.results81 _ Tryz.ntmps81 (by simp) (by kernel_rfl) ?_
  repeat (first | (refine aops_fnX rfl ?_ ?_; focus (simp (maxSteps := 4000000) only [sks, pI, tvl, simprocAttr]; done)) | (simp (maxSteps := 4000000) only [pI, tvl, simprocAttr]) | refine ftS (by kernel_rfl) ?_ | refine And.intro (by omega) ?_)
  refine awp_loop (X := Nat) (fun k => [(0, .pv (.lst 92 (mk.map pMk))), (3, .pv (.int .i64 ((k : Int) + 1)))]) (fun k => []) (fun k => (k = 0 ∨ k + 1 ≤ mk.length) ∧ ∀ j (hj : j + 1 < mk.length), j < k → (mk[j]'(by omega)).1 < (mk[j + 1]'hj).1) (fun k => mk.length - k) 100 0 ⟨.inl rfl, fun j _ hj => absurd hj (by omega)⟩ (by simp (maxSteps := 4000000) only [pI, tvl, simprocAttr]; try simp) (fun k hk => ?_)
  obtain ⟨hk, hp⟩ := hk
  by_cases c1 : k + 1 < mk.length
  · have d1 : decide ((k : Int) + 1 < (mk.length : Int)) = true := by rw [decide_eq_true_eq]; omega
    have x1 : (k : Int) + 1 - 1 = k := by omega
    have x2 : ((k : Int) + 1).toNat = k + 1 := by omega
    have x3 : (k : Int) + 1 + 1 = ((k + 1 : Nat) : Int) + 1 := by omega
    have e5 : (mk.map pMk)[k]? = some (pMk mk[k]) := by rw [List.getElem?_map, List.getElem?_eq_getElem (by omega)]; rfl
    have e6 : (mk.map pMk)[k + 1]? = some (pMk mk[k + 1]) := by rw [List.getElem?_map, List.getElem?_eq_getElem c1]; rfl
    by_cases c2 : mk[k].1 ≥ mk[k + 1].1
    · have d2 : decide (mk[k].1 ≥ mk[k + 1].1) = true := by rw [decide_eq_true_eq]; exact c2
      obtain rfl := z2 (fun e => by have := e k c1; omega)
      generalize mk[k] = p at *
      generalize mk[k + 1] = q at *
      repeat (first | (refine aops_fnX rfl ?_ ?_; focus (simp (maxSteps := 4000000) only [sks, d1, x1, x2, e5, e6, d2, pMk, pInts, pI, tvl, simprocAttr]; done)) | (simp (maxSteps := 4000000) only [d1, x1, x2, e5, e6, d2, pMk, pInts, pI, tvl, simprocAttr]) | refine ftS (by kernel_rfl) ?_ | refine And.intro (by omega) ?_)
      all_goals (first | rfl | trivial | skip)
    · have d2 : decide (mk[k].1 ≥ mk[k + 1].1) = false := by rw [decide_eq_false_iff_not]; exact c2
      have hn : ∀ j (hj : j + 1 < mk.length), j < k + 1 → (mk[j]'(by omega)).1 < (mk[j + 1]'hj).1 := fun j hj hjk => by
        rcases Nat.lt_succ_iff_lt_or_eq.1 hjk with hjk | rfl
        · exact hp j hj hjk
        · omega
      generalize mk[k] = p at d2 e5
      generalize mk[k + 1] = q at d2 e6
      repeat (first | (refine aops_fnX rfl ?_ ?_; focus (simp (maxSteps := 4000000) only [sks, d1, x1, x2, e5, e6, d2, pMk, pInts, pI, tvl, simprocAttr]; done)) | (simp (maxSteps := 4000000) only [d1, x1, x2, e5, e6, d2, pMk, pInts, pI, tvl, simprocAttr]) | refine ftS (by kernel_rfl) ?_ | refine And.intro (by omega) ?_)
      refine ⟨k + 1, ⟨.inr (by omega), hn⟩, by omega, ?_⟩
      simp [x3]
      try omega
  · have d1 : decide ((k : Int) + 1 < (mk.length : Int)) = false := by rw [decide_eq_false_iff_not]; omega
    obtain rfl := z1 (fun j hj => hp j hj (by omega))
    repeat (first | (refine aops_fnX rfl ?_ ?_; focus (simp (maxSteps := 4000000) only [sks, d1, pI, tvl, simprocAttr]; done)) | (simp (maxSteps := 4000000) only [d1, pI, tvl, simprocAttr]) | refine ftS (by kernel_rfl) ?_ | refine And.intro (by omega) ?_)
    all_goals (first | rfl | trivial | skip)
theorem machAt_in {rs : List Bt.C4} {h n : Int} {l : List Bt.Ch} (ho : Bt.runOk rs h l = true) (h0 : 0 ≤ n) (h1 : n ≤ l.length) : Bt.machAt rs h l n = some (Bt.after rs h Bt.mcNew (l.take n.toNat)) := if_pos ⟨ho, h0, h1⟩
theorem machAt_out {rs : List Bt.C4} {h n : Int} {l : List Bt.Ch} (hh : ¬ (Bt.runOk rs h l = true ∧ 0 ≤ n ∧ n ≤ l.length)) : Bt.machAt rs h l n = none := if_neg hh
set_option maxRecDepth 10000 in
set_option maxHeartbeats 8000000 in
theorem iMarksOk_ok {rs : List Bt.C4} {h : Int} {l : List Bt.Ch} {mk : List (Int × Bt.Mc)} (hn : rs.length ≤ 1048576) (hl : l.length ≤ 1048576) (hk : mk.length ≤ 1048576) (hs : ∀ x ∈ mk, Small x.2) :
    FnOk E.P 52 [pProg rs h, pChs l, .lst 92 (mk.map pMk)] (.bool (Bt.tt (Bt.MarksP rs h l mk))) true := by
  have hM := iMachines_ok (rs := rs) (h := h) (l := l) hn hl
  have hA := asc_ok hk
  obtain ⟨z, hz⟩ : ∃ z, z = Bt.tt (Bt.MarksP rs h l mk) := ⟨_, rfl⟩
  rw [← hz]
  have z1 : Bt.MarksP rs h l mk → z = true := fun e => hz.trans (Bt.tt_t e)
  have z2 : ¬ Bt.MarksP rs h l mk → z = false := fun e => hz.trans (Bt.tt_f e)
  clear hz
  cases ho : Bt.runOk rs h l
  · have e : machs rs h l = [] := by unfold machs; rw [ho]; rfl
    rw [e] at hM
    obtain rfl := z2 (fun e => by rw [e.1] at ho; cases ho)
    refine fn_ok mixed Tryz.func52 rfl (by kernel_rfl) _ Tryz.results52 _ Tryz.ntmps52 (by simp) (by kernel_rfl) ?_
    repeat (first | (refine aops_fnX rfl ?_ ?_; focus (simp (maxSteps := 4000000) only [sks, pProg, pChs, pI, tvl, simprocAttr]; done)) | (simp (maxSteps := 4000000) only [pProg, pChs, pI, tvl, simprocAttr]) | refine ftS (by kernel_rfl) ?_ | refine And.intro (by omega) ?_)
    refine aops_fn (hM) (hidB rfl) rfl ?_
    repeat (first | (refine aops_fnX rfl ?_ ?_; focus (simp (maxSteps := 4000000) only [sks, List.length_nil, pProg, pChs, pI, tvl, simprocAttr]; done)) | (simp (maxSteps := 4000000) only [List.length_nil, pProg, pChs, pI, tvl, simprocAttr]) | refine ftS (by kernel_rfl) ?_ | refine And.intro (by omega) ?_)
    all_goals (first | rfl | trivial | skip)
  have e : machs rs h l = alongTo rs h l l.length := by unfold machs; rw [ho]; rfl
  rw [e] at hM
  have e3 : (alongTo rs h l l.length).length = l.length + 1 := by simp [alongTo]
  have d0 : (((l.length + 1 : Nat) : Int) == 0) = false := by rw [beq_eq_false_iff_ne]; omega
  by_cases ca : Bt.Asc mk
  rotate_left
  · rw [Bt.tt_f ca] at hA
    obtain rfl := z2 (fun e => ca e.2.1)
    refine fn_ok mixed Tryz.func52 rfl (by kernel_rfl) _ Tryz.results52 _ Tryz.ntmps52 (by simp) (by kernel_rfl) ?_
    repeat (first | (refine aops_fnX rfl ?_ ?_; focus (simp (maxSteps := 4000000) only [sks, pProg, pChs, pI, tvl, simprocAttr]; done)) | (simp (maxSteps := 4000000) only [pProg, pChs, pI, tvl, simprocAttr]) | refine ftS (by kernel_rfl) ?_ | refine And.intro (by omega) ?_)
    refine aops_fn (hM) (hidB rfl) rfl ?_
    repeat (first | (refine aops_fnX rfl ?_ ?_; focus (simp (maxSteps := 4000000) only [sks, e3, d0, pProg, pChs, pI, tvl, simprocAttr]; done)) | (simp (maxSteps := 4000000) only [e3, d0, pProg, pChs, pI, tvl, simprocAttr]) | refine ftS (by kernel_rfl) ?_ | refine And.intro (by omega) ?_)
    refine aops_fnG (hA) (hidB rfl) rfl rfl (by simp (maxSteps := 4000000) only [e3, d0, pI, tvl, simprocAttr]) ?_
    repeat (first | (refine aops_fnX rfl ?_ ?_; focus (simp (maxSteps := 4000000) only [sks, e3, d0, pProg, pChs, pI, tvl, simprocAttr]; done)) | (simp (maxSteps := 4000000) only [e3, d0, pProg, pChs, pI, tvl, simprocAttr]) | refine ftS (by kernel_rfl) ?_ | refine And.intro (by omega) ?_)
    all_goals (first | rfl | trivial | skip)
  rw [Bt.tt_t ca] at hA
  refine fn_ok mixed Tryz.func52 rfl (by kernel_rfl) _ Tryz.results52 _ Tryz.ntmps52 (by simp) (by kernel_rfl) ?_
  repeat (first | (refine aops_fnX rfl ?_ ?_; focus (simp (maxSteps := 4000000) only [sks, pProg, pChs, pI, tvl, simprocAttr]; done)) | (simp (maxSteps := 4000000) only [pProg, pChs, pI, tvl, simprocAttr]) | refine ftS (by kernel_rfl) ?_ | refine And.intro (by omega) ?_)
  refine aops_fn (hM) (hidB rfl) rfl ?_
  repeat (first | (refine aops_fnX rfl ?_ ?_; focus (simp (maxSteps := 4000000) only [sks, e3, d0, pProg, pChs, pI, tvl, simprocAttr]; done)) | (simp (maxSteps := 4000000) only [e3, d0, pProg, pChs, pI, tvl, simprocAttr]) | refine ftS (by kernel_rfl) ?_ | refine And.intro (by omega) ?_)
  refine aops_fnG (hA) (hidB rfl) rfl rfl (by simp (maxSteps := 4000000) only [e3, d0, pI, tvl, simprocAttr]) ?_
  repeat (first | (refine aops_fnX rfl ?_ ?_; focus (simp (maxSteps := 4000000) only [sks, e3, d0, pProg, pChs, pI, tvl, simprocAttr]; done)) | (simp (maxSteps := 4000000) only [e3, d0, pProg, pChs, pI, tvl, simprocAttr]) | refine ftS (by kernel_rfl) ?_ | refine And.intro (by omega) ?_)
  refine awp_loop (X := Nat) (fun k => [(7, .sl 0), (21, .pv (.lst 92 (mk.map pMk))), (22, .pv (.int .i64 mk.length)), (23, .pv (.int .i64 k))])
    (fun k => [(0, .row true 54 (alongTo rs h l l.length))])
    (fun k => k ≤ mk.length ∧ ∀ j (hj : j < mk.length), j < k → Bt.machAt rs h l mk[j].1 = some mk[j].2) (fun k => mk.length - k) 100 0 ⟨Nat.zero_le _, fun j _ hj => absurd hj (by omega)⟩ (by simp (maxSteps := 4000000) only [pI, tvl, simprocAttr]; try simp) (fun k hk2 => ?_)
  obtain ⟨hk2, hp⟩ := hk2
  by_cases c1 : k < mk.length
  rotate_left
  · have d1 : decide ((k : Int) < (mk.length : Int)) = false := by rw [decide_eq_false_iff_not]; omega
    obtain rfl := z1 ⟨ho, ca, fun j hj => hp j hj (by omega)⟩
    repeat (first | (refine aops_fnX rfl ?_ ?_; focus (simp (maxSteps := 4000000) only [sks, d1, pI, tvl, simprocAttr]; done)) | (simp (maxSteps := 4000000) only [d1, pI, tvl, simprocAttr]) | refine ftS (by kernel_rfl) ?_ | refine And.intro (by omega) ?_)
    all_goals (first | rfl | trivial | skip)
  have d1 : decide ((k : Int) < (mk.length : Int)) = true := by rw [decide_eq_true_eq]; omega
  have e5 : (mk.map pMk)[k]? = some (pMk mk[k]) := by rw [List.getElem?_map, List.getElem?_eq_getElem c1]; rfl
  have hsx := hs mk[k] (List.getElem_mem c1)
  have hne : Bt.machAt rs h l mk[k].1 ≠ some mk[k].2 → ¬ Bt.MarksP rs h l mk := fun hx e => hx (e.2.2 k c1)
  have hnx : Bt.machAt rs h l mk[k].1 = some mk[k].2 → ∀ j (hj : j < mk.length), j < k + 1 → Bt.machAt rs h l mk[j].1 = some mk[j].2 := fun hx j hj hjk => by
    rcases Nat.lt_succ_iff_lt_or_eq.1 hjk with hjk | rfl
    · exact hp j hj hjk
    · exact hx
  clear hs hp hM hA
  obtain ⟨x, hx⟩ : ∃ x, mk[k] = x := ⟨_, rfl⟩
  rw [hx] at e5 hsx hne hnx
  clear hx
  obtain ⟨at_, m⟩ := x
  simp only at hsx hne hnx
  by_cases c2 : at_ < 0
  · have d2 : decide (at_ < 0) = true := by rw [decide_eq_true_eq]; exact c2
    obtain rfl := z2 (hne (by rw [machAt_out (by omega)]; simp))
    repeat (first | (refine aops_fnX rfl ?_ ?_; focus (simp (maxSteps := 4000000) only [sks, d1, e5, d2, pMk, pInts, pI, tvl, simprocAttr]; done)) | (simp (maxSteps := 4000000) only [d1, e5, d2, pMk, pInts, pI, tvl, simprocAttr]) | refine ftS (by kernel_rfl) ?_ | refine And.intro (by omega) ?_)
    all_goals (first | rfl | trivial | skip)
  have d2 : decide (at_ < 0) = false := by rw [decide_eq_false_iff_not]; exact c2
  by_cases c3 : at_ ≥ l.length + 1
  · have d3 : decide (at_ ≥ ((l.length + 1 : Nat) : Int)) = true := by rw [decide_eq_true_eq]; omega
    obtain rfl := z2 (hne (by rw [machAt_out (by omega)]; simp))
    repeat (first | (refine aops_fnX rfl ?_ ?_; focus (simp (maxSteps := 4000000) only [sks, e3, d1, e5, d2, d3, pMk, pInts, pI, tvl, simprocAttr]; done)) | (simp (maxSteps := 4000000) only [e3, d1, e5, d2, d3, pMk, pInts, pI, tvl, simprocAttr]) | refine ftS (by kernel_rfl) ?_ | refine And.intro (by omega) ?_)
    all_goals (first | rfl | trivial | skip)
  have d3 : decide (at_ ≥ ((l.length + 1 : Nat) : Int)) = false := by rw [decide_eq_false_iff_not]; omega
  have e6 : (alongTo rs h l l.length)[at_.toNat]? = some (pMc (Bt.after rs h Bt.mcNew (l.take at_.toNat))) := by
    unfold alongTo
    rw [List.getElem?_map, List.getElem?_range (by omega)]
    rfl
  have hq := iSame_ok (a := m) (b := Bt.after rs h Bt.mcNew (l.take at_.toNat)) hsx (Small.of (Bt.after_sz rs h _))
  rw [machAt_in ho (by omega) (by omega)] at hne hnx
  generalize Bt.after rs h Bt.mcNew (l.take at_.toNat) = m2 at e6 hq hne hnx
  by_cases c4 : m = m2
  · rw [Bt.tt_t c4] at hq
    have hnx' := hnx (by rw [c4])
    clear hnx hne
    repeat (first | (refine aops_fnX rfl ?_ ?_; focus (simp (maxSteps := 4000000) only [sks, e3, d1, e5, d2, d3, e6, pMk, pMc, pInts, pI, tvl, simprocAttr]; done)) | (simp (maxSteps := 4000000) only [e3, d1, e5, d2, d3, e6, pMk, pMc, pInts, pI, tvl, simprocAttr]) | refine ftS (by kernel_rfl) ?_ | refine And.intro (by omega) ?_)
    refine aops_fnG (hq) (hidB rfl) rfl rfl (by simp (maxSteps := 4000000) only [e3, d1, e5, d2, d3, e6, pMk, pMc, pInts, pI, tvl, simprocAttr]) ?_
    repeat (first | (refine aops_fnX rfl ?_ ?_; focus (simp (maxSteps := 4000000) only [sks, e3, d1, e5, d2, d3, e6, pMk, pMc, pInts, pI, tvl, simprocAttr]; done)) | (simp (maxSteps := 4000000) only [e3, d1, e5, d2, d3, e6, pMk, pMc, pInts, pI, tvl, simprocAttr]) | refine ftS (by kernel_rfl) ?_ | refine And.intro (by omega) ?_)
    refine ⟨k + 1, ⟨by omega, hnx'⟩, by omega, ?_⟩
    simp
  · rw [Bt.tt_f c4] at hq
    obtain rfl := z2 (hne (fun e => c4 (Option.some.inj e).symm))
    repeat (first | (refine aops_fnX rfl ?_ ?_; focus (simp (maxSteps := 4000000) only [sks, e3, d1, e5, d2, d3, e6, pMk, pMc, pInts, pI, tvl, simprocAttr]; done)) | (simp (maxSteps := 4000000) only [e3, d1, e5, d2, d3, e6, pMk, pMc, pInts, pI, tvl, simprocAttr]) | refine ftS (by kernel_rfl) ?_ | refine And.intro (by omega) ?_)
    refine aops_fnG (hq) (hidB rfl) rfl rfl (by simp (maxSteps := 4000000) only [e3, d1, e5, d2, d3, e6, pMk, pMc, pInts, pI, tvl, simprocAttr]) ?_
    repeat (first | (refine aops_fnX rfl ?_ ?_; focus (simp (maxSteps := 4000000) only [sks, e3, d1, e5, d2, d3, e6, pMk, pMc, pInts, pI, tvl, simprocAttr]; done)) | (simp (maxSteps := 4000000) only [e3, d1, e5, d2, d3, e6, pMk, pMc, pInts, pI, tvl, simprocAttr]) | refine ftS (by kernel_rfl) ?_ | refine And.intro (by omega) ?_)
    all_goals (first | rfl | trivial | skip)
set_option maxRecDepth 10000 in
set_option maxHeartbeats 8000000 in
theorem sMarksOk_ok {rs : List Bt.C4} {h : Int} {l : List Bt.Ch} {mk : List (Int × Bt.Mc)} (hn : rs.length ≤ 1048576) (hl : l.length ≤ 1048576) (hk : mk.length ≤ 1048576) (hs : ∀ x ∈ mk, Small x.2) :
    FnOk E.P 46 [pProg rs h, pChs l, .lst 92 (mk.map pMk)] (.bool (Bt.tt (Bt.MarksP rs h l mk))) false := by
  refine FnOk.read ?_
  have hR := sok_ok (rs := rs) (h := h) (l := l) hn hl
  obtain ⟨z, hz⟩ : ∃ z, z = Bt.tt (Bt.MarksP rs h l mk) := ⟨_, rfl⟩
  rw [← hz]
  have z1 : Bt.MarksP rs h l mk → z = true := fun e => hz.trans (Bt.tt_t e)
  have z2 : ¬ Bt.MarksP rs h l mk → z = false := fun e => hz.trans (Bt.tt_f e)
  clear hz
  refine fn_ok mixed Tryz.func46 rfl (by kernel_rfl) _ Tryz.results46 _ Tryz.ntmps46 (by simp) (by kernel_rfl) ?_
  repeat (first | (refine aops_fnX rfl ?_ ?_; focus (simp (maxSteps := 4000000) only [sks, pProg, pChs, pI, tvl, simprocAttr]; done)) | (simp (maxSteps := 4000000) only [pProg, pChs, pI, tvl, simprocAttr]) | refine ftS (by kernel_rfl) ?_ | refine And.intro (by omega) ?_)
  refine awp_loop (X := Nat) (fun k => [(1, .pv (.lst 71 (l.map pCh))), (2, .pv (.lst 92 (mk.map pMk))), (3, .ptr 0 0), (7, .pv (.int .i64 k))])
    (fun k => [(0, .box [.pv (.lst 105 (rs.map pCode)), .pv (.int .i64 h)])])
    (fun k => k ≤ mk.length ∧ (∀ j (hj : j < mk.length), j < k → Bt.machAt rs h l mk[j].1 = some mk[j].2) ∧ ∀ j (hj : j + 1 < mk.length), j + 1 < k → (mk[j]'(by omega)).1 < (mk[j + 1]'hj).1) (fun k => mk.length - k) 100 0 ⟨Nat.zero_le _, fun j _ hj => absurd hj (by omega), fun j _ hj => absurd hj (by omega)⟩ (by simp (maxSteps := 4000000) only [pI, tvl, simprocAttr]; try simp) (fun k hk2 => ?_)
  obtain ⟨hk2, hp, hq⟩ := hk2
  by_cases c1 : k < mk.length
  rotate_left
  · have d1 : decide ((k : Int) < (mk.length : Int)) = false := by rw [decide_eq_false_iff_not]; omega
    have hz : z = Bt.runOk rs h l := by
      cases ho : Bt.runOk rs h l
      · exact z2 (fun e => by rw [e.1] at ho; cases ho)
      · exact z1 ⟨ho, fun j hj => hq j hj (by omega), fun j hj => hp j hj (by omega)⟩
    rw [hz]
    repeat (first | (refine aops_fnX rfl ?_ ?_; focus (simp (maxSteps := 4000000) only [sks, d1, pProg, pChs, pI, tvl, simprocAttr]; done)) | (simp (maxSteps := 4000000) only [d1, pProg, pChs, pI, tvl, simprocAttr]) | refine ftS (by kernel_rfl) ?_ | refine And.intro (by omega) ?_)
    refine aops_fn (hR) (hidB rfl) rfl ?_
    repeat (first | (refine aops_fnX rfl ?_ ?_; focus (simp (maxSteps := 4000000) only [sks, d1, pProg, pChs, pI, tvl, simprocAttr]; done)) | (simp (maxSteps := 4000000) only [d1, pProg, pChs, pI, tvl, simprocAttr]) | refine ftS (by kernel_rfl) ?_ | refine And.intro (by omega) ?_)
    all_goals (first | rfl | trivial | skip)
  have d1 : decide ((k : Int) < (mk.length : Int)) = true := by rw [decide_eq_true_eq]; omega
  have e5 : (mk.map pMk)[k]? = some (pMk mk[k]) := by rw [List.getElem?_map, List.getElem?_eq_getElem c1]; rfl
  have hsx := hs mk[k] (List.getElem_mem c1)
  have hAt := sMachineAt_ok (rs := rs) (h := h) (n := mk[k].1) (l := l) hn hl
  have hsm := Small.of (Bt.machAt_sz rs h l mk[k].1)
  have hne : Bt.machAt rs h l mk[k].1 ≠ some mk[k].2 → ¬ Bt.MarksP rs h l mk := fun hx e => hx (e.2.2 k c1)
  have hnx : Bt.machAt rs h l mk[k].1 = some mk[k].2 → ∀ j (hj : j < mk.length), j < k + 1 → Bt.machAt rs h l mk[j].1 = some mk[j].2 := fun hx j hj hjk => by
    rcases Nat.lt_succ_iff_lt_or_eq.1 hjk with hjk | rfl
    · exact hp j hj hjk
    · exact hx
  cases hm : Bt.machAt rs h l mk[k].1 with
  | none =>
    rw [hm] at hAt
    obtain rfl := z2 (hne (by rw [hm]; simp))
    generalize mk[k] = x at e5 hAt
    repeat (first | (refine aops_fnX rfl ?_ ?_; focus (simp (maxSteps := 4000000) only [sks, d1, e5, pProg, pChs, pMk, pMc, pInts, pI, tvl, simprocAttr]; done)) | (simp (maxSteps := 4000000) only [d1, e5, pProg, pChs, pMk, pMc, pInts, pI, tvl, simprocAttr]) | refine ftS (by kernel_rfl) ?_ | refine And.intro (by omega) ?_)
    refine aops_callF (hAt) (hidB rfl) rfl ?_
    repeat (first | (refine aops_fnX rfl ?_ ?_; focus (simp (maxSteps := 4000000) only [sks, d1, e5, Option.getD_none, Option.isSome_none, Bt.mcNil, List.map_nil, pProg, pChs, pMk, pMc, pInts, pI, tvl, simprocAttr]; done)) | (simp (maxSteps := 4000000) only [d1, e5, Option.getD_none, Option.isSome_none, Bt.mcNil, List.map_nil, pProg, pChs, pMk, pMc, pInts, pI, tvl, simprocAttr]) | refine ftS (by kernel_rfl) ?_ | refine And.intro (by omega) ?_)
    all_goals (first | rfl | trivial | skip)
  | some m2 =>
    rw [hm, Option.getD_some, Option.isSome_some] at hAt
    rw [hm, Option.getD_some] at hsm
    rw [hm] at hne hnx
    have hsq := sSame_ok (a := m2) (b := mk[k].2) hsm hsx
    by_cases c2 : m2 = mk[k].2
    rotate_left
    · rw [Bt.tt_f c2] at hsq
      obtain rfl := z2 (hne (fun e => c2 (Option.some.inj e)))
      generalize mk[k] = x at e5 hAt hsq
      repeat (first | (refine aops_fnX rfl ?_ ?_; focus (simp (maxSteps := 4000000) only [sks, d1, e5, pProg, pChs, pMk, pMc, pInts, pI, tvl, simprocAttr]; done)) | (simp (maxSteps := 4000000) only [d1, e5, pProg, pChs, pMk, pMc, pInts, pI, tvl, simprocAttr]) | refine ftS (by kernel_rfl) ?_ | refine And.intro (by omega) ?_)
      refine aops_callF (hAt) (hidB rfl) rfl ?_
      repeat (first | (refine aops_fnX rfl ?_ ?_; focus (simp (maxSteps := 4000000) only [sks, d1, e5, pProg, pChs, pMk, pMc, pInts, pI, tvl, simprocAttr]; done)) | (simp (maxSteps := 4000000) only [d1, e5, pProg, pChs, pMk, pMc, pInts, pI, tvl, simprocAttr]) | refine ftS (by kernel_rfl) ?_ | refine And.intro (by omega) ?_)
      refine aops_fnG (hsq) (hidB rfl) rfl rfl (by simp (maxSteps := 4000000) only [d1, e5, pMk, pMc, pInts, pI, tvl, simprocAttr]) ?_
      repeat (first | (refine aops_fnX rfl ?_ ?_; focus (simp (maxSteps := 4000000) only [sks, d1, e5, pProg, pChs, pMk, pMc, pInts, pI, tvl, simprocAttr]; done)) | (simp (maxSteps := 4000000) only [d1, e5, pProg, pChs, pMk, pMc, pInts, pI, tvl, simprocAttr]) | refine ftS (by kernel_rfl) ?_ | refine And.intro (by omega) ?_)
      all_goals (first | rfl | trivial | skip)
    rw [Bt.tt_t c2] at hsq
    have hnx' := hnx (by rw [c2])
    clear hnx hne hR
    rcases k with _ | j
    · have hq' : ∀ j (hj : j + 1 < mk.length), j + 1 < 0 + 1 → (mk[j]'(by omega)).1 < (mk[j + 1]'hj).1 := fun j _ hj => absurd hj (by omega)
      have d2 : decide ((0 : Int) > 0) = false := by simp
      have d0 : decide ((0 : Int) < (mk.length : Int)) = true := by rw [decide_eq_true_eq]; omega
      generalize mk[0] = x at e5 hAt hsq
      repeat (first | (refine aops_fnX rfl ?_ ?_; focus (simp (maxSteps := 4000000) only [sks, d0, d1, d2, e5, pProg, pChs, pMk, pMc, pInts, pI, tvl, simprocAttr]; done)) | (simp (maxSteps := 4000000) only [d0, d1, d2, e5, pProg, pChs, pMk, pMc, pInts, pI, tvl, simprocAttr]) | refine ftS (by kernel_rfl) ?_ | refine And.intro (by omega) ?_)
      refine aops_callF (hAt) (hidB rfl) rfl ?_
      repeat (first | (refine aops_fnX rfl ?_ ?_; focus (simp (maxSteps := 4000000) only [sks, d0, d1, d2, e5, pProg, pChs, pMk, pMc, pInts, pI, tvl, simprocAttr]; done)) | (simp (maxSteps := 4000000) only [d0, d1, d2, e5, pProg, pChs, pMk, pMc, pInts, pI, tvl, simprocAttr]) | refine ftS (by kernel_rfl) ?_ | refine And.intro (by omega) ?_)
      refine aops_fnG (hsq) (hidB rfl) rfl rfl (by simp (maxSteps := 4000000) only [d0, d1, d2, e5, pMk, pMc, pInts, pI, tvl, simprocAttr]) ?_
      repeat (first | (refine aops_fnX rfl ?_ ?_; focus (simp (maxSteps := 4000000) only [sks, d0, d1, d2, e5, pProg, pChs, pMk, pMc, pInts, pI, tvl, simprocAttr]; done)) | (simp (maxSteps := 4000000) only [d0, d1, d2, e5, pProg, pChs, pMk, pMc, pInts, pI, tvl, simprocAttr]) | refine ftS (by kernel_rfl) ?_ | refine And.intro (by omega) ?_)
      refine ⟨0 + 1, ⟨by omega, hnx', hq'⟩, by omega, ?_⟩
      simp
    · have d2 : decide (((j + 1 : Nat) : Int) > 0) = true := by rw [decide_eq_true_eq]; omega
      have x1 : ((j + 1 : Nat) : Int) - 1 = (j : Int) := by omega
      have e6 : (mk.map pMk)[j]? = some (pMk mk[j]) := by rw [List.getElem?_map, List.getElem?_eq_getElem (by omega)]; rfl
      by_cases c3 : mk[j].1 ≥ mk[j + 1].1
      · have d3 : decide (mk[j].1 ≥ mk[j + 1].1) = true := by rw [decide_eq_true_eq]; exact c3
        obtain rfl := z2 (fun e => by have := e.2.1 j c1; omega)
        generalize mk[j + 1] = x at e5 hAt hsq d3
        generalize mk[j] = y at e6 d3
        repeat (first | (refine aops_fnX rfl ?_ ?_; focus (simp (maxSteps := 4000000) only [sks, d1, d2, e5, pProg, pChs, pMk, pMc, pInts, pI, tvl, simprocAttr]; done)) | (simp (maxSteps := 4000000) only [d1, d2, e5, pProg, pChs, pMk, pMc, pInts, pI, tvl, simprocAttr]) | refine ftS (by kernel_rfl) ?_ | refine And.intro (by omega) ?_)
        refine aops_callF (hAt) (hidB rfl) rfl ?_
        repeat (first | (refine aops_fnX rfl ?_ ?_; focus (simp (maxSteps := 4000000) only [sks, d1, d2, e5, pProg, pChs, pMk, pMc, pInts, pI, tvl, simprocAttr]; done)) | (simp (maxSteps := 4000000) only [d1, d2, e5, pProg, pChs, pMk, pMc, pInts, pI, tvl, simprocAttr]) | refine ftS (by kernel_rfl) ?_ | refine And.intro (by omega) ?_)
        refine aops_fnG (hsq) (hidB rfl) rfl rfl (by simp (maxSteps := 4000000) only [d1, d2, e5, pMk, pMc, pInts, pI, tvl, simprocAttr]) ?_
        repeat (first | (refine aops_fnX rfl ?_ ?_; focus (simp (maxSteps := 4000000) only [sks, d1, d2, d3, x1, e5, e6, pProg, pChs, pMk, pMc, pInts, pI, tvl, simprocAttr]; done)) | (simp (maxSteps := 4000000) only [d1, d2, d3, x1, e5, e6, pProg, pChs, pMk, pMc, pInts, pI, tvl, simprocAttr]) | refine ftS (by kernel_rfl) ?_ | refine And.intro (by omega) ?_)
        all_goals (first | rfl | trivial | skip)
      · have d3 : decide (mk[j].1 ≥ mk[j + 1].1) = false := by rw [decide_eq_false_iff_not]; exact c3
        have hq' : ∀ i (hi : i + 1 < mk.length), i + 1 < j + 1 + 1 → (mk[i]'(by omega)).1 < (mk[i + 1]'hi).1 := fun i hi hij => by
          rcases Nat.lt_succ_iff_lt_or_eq.1 hij with hij | hij
          · exact hq i hi hij
          · obtain rfl : i = j := by omega
            omega
        generalize mk[j + 1] = x at e5 hAt hsq d3
        generalize mk[j] = y at e6 d3
        repeat (first | (refine aops_fnX rfl ?_ ?_; focus (simp (maxSteps := 4000000) only [sks, d1, d2, e5, pProg, pChs, pMk, pMc, pInts, pI, tvl, simprocAttr]; done)) | (simp (maxSteps := 4000000) only [d1, d2, e5, pProg, pChs, pMk, pMc, pInts, pI, tvl, simprocAttr]) | refine ftS (by kernel_rfl) ?_ | refine And.intro (by omega) ?_)
        refine aops_callF (hAt) (hidB rfl) rfl ?_
        repeat (first | (refine aops_fnX rfl ?_ ?_; focus (simp (maxSteps := 4000000) only [sks, d1, d2, e5, pProg, pChs, pMk, pMc, pInts, pI, tvl, simprocAttr]; done)) | (simp (maxSteps := 4000000) only [d1, d2, e5, pProg, pChs, pMk, pMc, pInts, pI, tvl, simprocAttr]) | refine ftS (by kernel_rfl) ?_ | refine And.intro (by omega) ?_)
        refine aops_fnG (hsq) (hidB rfl) rfl rfl (by simp (maxSteps := 4000000) only [d1, d2, e5, pMk, pMc, pInts, pI, tvl, simprocAttr]) ?_
        repeat (first | (refine aops_fnX rfl ?_ ?_; focus (simp (maxSteps := 4000000) only [sks, d1, d2, d3, x1, e5, e6, pProg, pChs, pMk, pMc, pInts, pI, tvl, simprocAttr]; done)) | (simp (maxSteps := 4000000) only [d1, d2, d3, x1, e5, e6, pProg, pChs, pMk, pMc, pInts, pI, tvl, simprocAttr]) | refine ftS (by kernel_rfl) ?_ | refine And.intro (by omega) ?_)
        refine ⟨j + 1 + 1, ⟨by omega, hnx', hq'⟩, by omega, ?_⟩
        simp
end Av
end Go.Proofs.YtbkbppllcjcmhaaGreat
