/-
  Chapter 6: the nearest mark, copies of marks, and the way from there, both packages.
-/
import Derived.Test.YtbkbppllcjcmhaaGreatMk
set_option linter.unusedSimpArgs false
set_option linter.unusedVariables false
namespace Go.Proofs.YtbkbppllcjcmhaaGreat
open Go.RowKit
namespace Bt
/-- how many marks are no farther -/
def nearN (mk : List (Int × Mc)) (n : Int) : Nat := mk.countP (fun x => decide (x.1 ≤ n))
theorem nearN_of {mk : List (Int × Mc)} {n : Int} {low : Nat} (hl : low ≤ mk.length) (h1 : ∀ j (hj : j < mk.length), j < low → mk[j].1 ≤ n) (h2 : ∀ j (hj : j < mk.length), low ≤ j → n < mk[j].1) : nearN mk n = low := by
  unfold nearN
  rw [← List.take_append_drop low mk, List.countP_append]
  have e1 : (mk.take low).countP (fun x => decide (x.1 ≤ n)) = (mk.take low).length := List.countP_eq_length.2 (fun x hx => by
    obtain ⟨j, hj, rfl⟩ := List.getElem_of_mem hx
    rw [List.length_take] at hj
    rw [List.getElem_take, decide_eq_true_eq]
    exact h1 j (by omega) (by omega))
  have e2 : (mk.drop low).countP (fun x => decide (x.1 ≤ n)) = 0 := List.countP_eq_zero.2 (fun x hx => by
    obtain ⟨j, hj, rfl⟩ := List.getElem_of_mem hx
    rw [List.length_drop] at hj
    rw [List.getElem_drop, decide_eq_true_eq]
    have := h2 (low + j) (by omega) (by omega)
    omega)
  rw [e1, e2, List.length_take]
  omega
theorem asc_lt {mk : List (Int × Mc)} (h : Asc mk) : ∀ (i j : Nat) (hi : i < mk.length) (hj : j < mk.length), i < j → mk[i].1 < mk[j].1
  | i, 0, _, _, hij => absurd hij (Nat.not_lt_zero _)
  | i, j + 1, hi, hj, hij => by
    have h1 := h j hj
    rcases Nat.lt_succ_iff_lt_or_eq.1 hij with h2 | rfl
    · have := asc_lt h i j hi (by omega) h2
      omega
    · exact h1
theorem nearN_le (mk : List (Int × Mc)) (n : Int) : nearN mk n ≤ mk.length := List.countP_le_length
/-- the last of those that are no farther -/
theorem nearN_last {mk : List (Int × Mc)} {n : Int} {q : Nat} (ha : Asc mk) (h : nearN mk n = q + 1) (hq : q < mk.length) : mk[q].1 ≤ n := by
  rcases Int.lt_or_le n mk[q].1 with h1 | h1
  · exfalso
    have h2 : (mk.drop q).countP (fun x => decide (x.1 ≤ n)) = 0 := List.countP_eq_zero.2 (fun x hx => by
      obtain ⟨j, hj, rfl⟩ := List.getElem_of_mem hx
      rw [List.length_drop] at hj
      rw [List.getElem_drop, decide_eq_true_eq]
      rcases Nat.eq_zero_or_pos j with rfl | hj0
      · simp only [Nat.add_zero]; omega
      · have := asc_lt ha q (q + j) hq (by omega) (by omega)
        omega)
    have h3 : (mk.take q).countP (fun x => decide (x.1 ≤ n)) ≤ (mk.take q).length := List.countP_le_length
    unfold nearN at h
    rw [← List.take_append_drop q mk, List.countP_append, h2] at h
    rw [List.length_take] at h3
    omega
  · exact h1
/-- the place of the nearest mark -/
def fromN (mk : List (Int × Mc)) (n : Int) : Int := if h : 0 < nearN mk n then (mk[nearN mk n - 1]'(by have := nearN_le mk n; omega)).1 else 0
/-- the machine behind so many choices, and how many were made for it -/
noncomputable def arrive (rs : List C4) (h : Int) (l : List Ch) (mk : List (Int × Mc)) (n : Int) : Option (Mc × Int) := if tt (MarksP rs h l mk) = true ∧ 0 ≤ n ∧ n ≤ l.length then some (after rs h mcNew (l.take n.toNat), n - fromN mk n) else none
end Bt
namespace Av
set_option maxRecDepth 10000 in
set_option maxHeartbeats 8000000 in
theorem inear_ok {mk : List (Int × Bt.Mc)} {n : Int} (hl : mk.length ≤ 1048576) (ha : Bt.Asc mk) : FnOk E.P 54 [.lst 92 (mk.map pMk), pI n] (pI ((Bt.nearN mk n : Int) - 1)) true := by
  have hA := asc_ok hl
  rw [Bt.tt_t ha] at hA
  refine fn_ok mixed Tryz.func54 rfl (by kernel_rfl) _ Tryz.results54 _ Tryz.ntmps54 (by simp) (by kernel_rfl) ?_
  repeat (first | (refine aops_fnX rfl ?_ ?_; focus (simp (maxSteps := 4000000) only [sks, pI, tvl, simprocAttr]; done)) | (simp (maxSteps := 4000000) only [pI, tvl, simprocAttr]) | refine ftS (by kernel_rfl) ?_ | refine And.intro (by omega) ?_)
  refine aops_fn (hA) (hidB rfl) rfl ?_
  repeat (first | (refine aops_fnX rfl ?_ ?_; focus (simp (maxSteps := 4000000) only [sks, pI, tvl, simprocAttr]; done)) | (simp (maxSteps := 4000000) only [pI, tvl, simprocAttr]) | refine ftS (by kernel_rfl) ?_ | refine And.intro (by omega) ?_)
  refine awp_loop (X := Nat × Nat) (fun x => [(0, .pv (.lst 92 (mk.map pMk))), (1, .pv (.int .i64 n)), (5, .pv (.int .i64 x.1)), (6, .pv (.int .i64 x.2))]) (fun x => [])
    (fun x => x.1 ≤ x.2 ∧ x.2 ≤ mk.length ∧ (∀ j (hj : j < mk.length), j < x.1 → mk[j].1 ≤ n) ∧ ∀ j (hj : j < mk.length), x.2 ≤ j → n < mk[j].1) (fun x => x.2 - x.1) 100 (0, mk.length)
    ⟨Nat.zero_le _, Nat.le_refl _, fun j _ h => absurd h (Nat.not_lt_zero _), fun j hj h => absurd h (by simp only; omega)⟩ (by simp (maxSteps := 4000000) only [pI, tvl, simprocAttr]; try simp) (fun x hx => ?_)
  obtain ⟨lo, hi⟩ := x
  obtain ⟨i1, i2, i3, i4⟩ := hx
  simp only at i1 i2 i3 i4
  by_cases c1 : lo < hi
  rotate_left
  · have d1 : decide ((lo : Int) < (hi : Int)) = false := by rw [decide_eq_false_iff_not]; omega
    rw [Bt.nearN_of (low := lo) (by omega) i3 (fun j hj h => i4 j hj (by omega))]
    repeat (first | (refine aops_fnX rfl ?_ ?_; focus (simp (maxSteps := 4000000) only [sks, d1, pI, tvl, simprocAttr]; done)) | (simp (maxSteps := 4000000) only [d1, pI, tvl, simprocAttr]) | refine ftS (by kernel_rfl) ?_ | refine And.intro (by omega) ?_)
    all_goals (first | rfl | trivial | skip)
  have d1 : decide ((lo : Int) < (hi : Int)) = true := by rw [decide_eq_true_eq]; omega
  obtain ⟨md, hmd⟩ : ∃ md, md = (lo + hi) / 2 := ⟨_, rfl⟩
  have x1 : ((lo : Int) + (hi : Int)).tdiv 2 = (md : Int) := by rw [Int.tdiv_eq_ediv_of_nonneg (by omega)]; omega
  have hml : md < mk.length := by omega
  have e5 : (mk.map pMk)[md]? = some (pMk mk[md]) := by rw [List.getElem?_map, List.getElem?_eq_getElem hml]; rfl
  by_cases c2 : mk[md].1 ≤ n
  · have d2 : decide (mk[md].1 ≤ n) = true := by rw [decide_eq_true_eq]; exact c2
    have hn : ∀ j (hj : j < mk.length), j < md + 1 → mk[j].1 ≤ n := fun j hj h => by
      rcases Nat.lt_succ_iff_lt_or_eq.1 h with h | rfl
      · have := Bt.asc_lt ha j md hj hml h; omega
      · exact c2
    generalize mk[md] = y at e5 d2
    repeat (first | (refine aops_fnX rfl ?_ ?_; focus (simp (maxSteps := 4000000) only [sks, d1, x1, e5, d2, pMk, pInts, pI, tvl, simprocAttr]; done)) | (simp (maxSteps := 4000000) only [d1, x1, e5, d2, pMk, pInts, pI, tvl, simprocAttr]) | refine ftS (by kernel_rfl) ?_ | refine And.intro (by omega) ?_)
    refine ⟨(md + 1, hi), ⟨by simp only; omega, i2, hn, i4⟩, by simp only; omega, ?_⟩
    simp
  · have d2 : decide (mk[md].1 ≤ n) = false := by rw [decide_eq_false_iff_not]; exact c2
    have hn : ∀ j (hj : j < mk.length), md ≤ j → n < mk[j].1 := fun j hj h => by
      rcases Nat.lt_or_eq_of_le h with h | rfl
      · have := Bt.asc_lt ha md j hml hj h; omega
      · omega
    generalize mk[md] = y at e5 d2
    repeat (first | (refine aops_fnX rfl ?_ ?_; focus (simp (maxSteps := 4000000) only [sks, d1, x1, e5, d2, pMk, pInts, pI, tvl, simprocAttr]; done)) | (simp (maxSteps := 4000000) only [d1, x1, e5, d2, pMk, pInts, pI, tvl, simprocAttr]) | refine ftS (by kernel_rfl) ?_ | refine And.intro (by omega) ?_)
    refine ⟨(lo, md), ⟨by simp only; omega, by simp only; omega, i3, hn⟩, by simp only; omega, ?_⟩
    simp
set_option maxRecDepth 10000 in
set_option maxHeartbeats 8000000 in
theorem snear_ok {mk : List (Int × Bt.Mc)} {n : Int} (hl : mk.length ≤ 1048576) (ha : Bt.Asc mk) : FnOk E.P 48 [.lst 92 (mk.map pMk), pI n] (pI ((Bt.nearN mk n : Int) - 1)) true := by
  refine fn_ok mixed Tryz.func48 rfl (by kernel_rfl) _ Tryz.results48 _ Tryz.ntmps48 (by simp) (by kernel_rfl) ?_
  repeat (first | (refine aops_fnX rfl ?_ ?_; focus (simp (maxSteps := 4000000) only [sks, pI, tvl, simprocAttr]; done)) | (simp (maxSteps := 4000000) only [pI, tvl, simprocAttr]) | refine ftS (by kernel_rfl) ?_ | refine And.intro (by omega) ?_)
  refine awp_loop (X := Nat × Nat) (fun x => [(0, .pv (.lst 92 (mk.map pMk))), (1, .pv (.int .i64 n)), (5, .pv (.int .i64 x.1)), (6, .pv (.int .i64 x.2))]) (fun x => [])
    (fun x => x.1 ≤ x.2 ∧ x.2 ≤ mk.length ∧ (∀ j (hj : j < mk.length), j < x.1 → mk[j].1 ≤ n) ∧ ∀ j (hj : j < mk.length), x.2 ≤ j → n < mk[j].1) (fun x => x.2 - x.1) 100 (0, mk.length)
    ⟨Nat.zero_le _, Nat.le_refl _, fun j _ h => absurd h (Nat.not_lt_zero _), fun j hj h => absurd h (by simp only; omega)⟩ (by simp (maxSteps := 4000000) only [pI, tvl, simprocAttr]; try simp) (fun x hx => ?_)
  obtain ⟨lo, hi⟩ := x
  obtain ⟨i1, i2, i3, i4⟩ := hx
  simp only at i1 i2 i3 i4
  by_cases c1 : lo < hi
  rotate_left
  · have d1 : decide ((lo : Int) < (hi : Int)) = false := by rw [decide_eq_false_iff_not]; omega
    rw [Bt.nearN_of (low := lo) (by omega) i3 (fun j hj h => i4 j hj (by omega))]
    repeat (first | (refine aops_fnX rfl ?_ ?_; focus (simp (maxSteps := 4000000) only [sks, d1, pI, tvl, simprocAttr]; done)) | (simp (maxSteps := 4000000) only [d1, pI, tvl, simprocAttr]) | refine ftS (by kernel_rfl) ?_ | refine And.intro (by omega) ?_)
    all_goals (first | rfl | trivial | skip)
  have d1 : decide ((lo : Int) < (hi : Int)) = true := by rw [decide_eq_true_eq]; omega
  obtain ⟨md, hmd⟩ : ∃ md, md = (lo + hi) / 2 := ⟨_, rfl⟩
  have x1 : ((lo : Int) + (hi : Int)).tdiv 2 = (md : Int) := by rw [Int.tdiv_eq_ediv_of_nonneg (by omega)]; omega
  have hml : md < mk.length := by omega
  have e5 : (mk.map pMk)[md]? = some (pMk mk[md]) := by rw [List.getElem?_map, List.getElem?_eq_getElem hml]; rfl
  by_cases c2 : mk[md].1 ≤ n
  · have d2 : decide (mk[md].1 ≤ n) = true := by rw [decide_eq_true_eq]; exact c2
    have hn : ∀ j (hj : j < mk.length), j < md + 1 → mk[j].1 ≤ n := fun j hj h => by
      rcases Nat.lt_succ_iff_lt_or_eq.1 h with h | rfl
      · have := Bt.asc_lt ha j md hj hml h; omega
      · exact c2
    generalize mk[md] = y at e5 d2
    repeat (first | (refine aops_fnX rfl ?_ ?_; focus (simp (maxSteps := 4000000) only [sks, d1, x1, e5, d2, pMk, pInts, pI, tvl, simprocAttr]; done)) | (simp (maxSteps := 4000000) only [d1, x1, e5, d2, pMk, pInts, pI, tvl, simprocAttr]) | refine ftS (by kernel_rfl) ?_ | refine And.intro (by omega) ?_)
    refine ⟨(md + 1, hi), ⟨by simp only; omega, i2, hn, i4⟩, by simp only; omega, ?_⟩
    simp
  · have d2 : decide (mk[md].1 ≤ n) = false := by rw [decide_eq_false_iff_not]; exact c2
    have hn : ∀ j (hj : j < mk.length), md ≤ j → n < mk[j].1 := fun j hj h => by
      rcases Nat.lt_or_eq_of_le h with h | rfl
      · have := Bt.asc_lt ha md j hml hj h; omega
      · omega
    generalize mk[md] = y at e5 d2
    repeat (first | (refine aops_fnX rfl ?_ ?_; focus (simp (maxSteps := 4000000) only [sks, d1, x1, e5, d2, pMk, pInts, pI, tvl, simprocAttr]; done)) | (simp (maxSteps := 4000000) only [d1, x1, e5, d2, pMk, pInts, pI, tvl, simprocAttr]) | refine ftS (by kernel_rfl) ?_ | refine And.intro (by omega) ?_)
    refine ⟨(lo, md), ⟨by simp only; omega, by simp only; omega, i3, hn⟩, by simp only; omega, ?_⟩
    simp
def thsTo (m : Bt.Mc) (k : Nat) : List (List PV) := (m.ths.take k).map pTh
theorem thsTo_len {m : Bt.Mc} {k : Nat} (h : k ≤ m.ths.length) : (thsTo m k).length = k := by simp [thsTo]; omega
theorem thsTo_succ {m : Bt.Mc} {k : Nat} (h : k < m.ths.length) : thsTo m (k + 1) = thsTo m k ++ [pTh m.ths[k]] := by
  unfold thsTo
  rw [List.take_succ_eq_append_getElem h, List.map_append]
  rfl
theorem thsTo_all (m : Bt.Mc) : thsTo m m.ths.length = m.ths.map pTh := by simp [thsTo]
set_option maxRecDepth 10000 in
set_option maxHeartbeats 8000000 in
theorem icopyMc_ok {m : Bt.Mc} (hm : Small m) : FnOk E.P 85 [.agg (pMc m)] (.agg (pMc m)) true := by
  have hC := copy_ok (xs := m.cells) hm.cells
  have hL := copy_ok (xs := m.locks) hm.locks
  have hT := copy_ok (xs := m.told) hm.told
  have hml := hm.ths
  refine fn_ok mixed Tryz.func85 rfl (by kernel_rfl) _ Tryz.results85 _ Tryz.ntmps85 (by simp) (by kernel_rfl) ?_
  repeat (first | (refine aops_fnX rfl ?_ ?_; focus (simp (maxSteps := 4000000) only [sks, pMc, pInts, pI, tvl, simprocAttr]; done)) | (simp (maxSteps := 4000000) only [pMc, pInts, pI, tvl, simprocAttr]) | refine ftS (by kernel_rfl) ?_ | refine And.intro (by omega) ?_)
  refine awp_loop (X := Nat) (fun k => [(1, .ptr 0 0), (2, .ptr 1 0), (3, .sl 2), (8, .pv (.lst 115 (m.ths.map pTh))), (9, .pv (.int .i64 m.ths.length)), (10, .pv (.int .i64 k))])
    (fun k => [(0, .box [.pv (.lst 115 (m.ths.map pTh)), .pv (.lst 3 (m.cells.map fun x => [.int .i64 x])), .pv (.lst 3 (m.locks.map fun x => [.int .i64 x])), .pv (.lst 3 (m.told.map fun x => [.int .i64 x]))]), (1, .box [.nil 115, .nil 3, .nil 3, .nil 3]), (2, .row true 115 (thsTo m k))])
    (fun k => k ≤ m.ths.length) (fun k => m.ths.length - k) 100 0 (Nat.zero_le _) (by simp (maxSteps := 4000000) only [pI, tvl, simprocAttr]; try simp [thsTo]) (fun k hk => ?_)
  have e7 := thsTo_len hk
  by_cases c1 : k < m.ths.length
  rotate_left
  · have d1 : decide ((k : Int) < (m.ths.length : Int)) = false := by rw [decide_eq_false_iff_not]; omega
    obtain rfl : k = m.ths.length := by omega
    rw [thsTo_all]
    repeat (first | (refine aops_fnX rfl ?_ ?_; focus (simp (maxSteps := 4000000) only [sks, d1, pI, tvl, simprocAttr]; done)) | (simp (maxSteps := 4000000) only [d1, pI, tvl, simprocAttr]) | refine ftS (by kernel_rfl) ?_ | refine And.intro (by omega) ?_)
    refine aops_fn (hC) (hidB rfl) rfl ?_
    repeat (first | (refine aops_fnX rfl ?_ ?_; focus (simp (maxSteps := 4000000) only [sks, pInts, pI, tvs, simprocAttr]; done)) | (simp (maxSteps := 4000000) only [pInts, pI, tvs, simprocAttr]) | refine ftS (by kernel_rfl) ?_ | refine And.intro (by omega) ?_)
    refine aops_fn (hL) (hidB rfl) rfl ?_
    repeat (first | (refine aops_fnX rfl ?_ ?_; focus (simp (maxSteps := 4000000) only [sks, pInts, pI, tvs, simprocAttr]; done)) | (simp (maxSteps := 4000000) only [pInts, pI, tvs, simprocAttr]) | refine ftS (by kernel_rfl) ?_ | refine And.intro (by omega) ?_)
    refine aops_fn (hT) (hidB rfl) rfl ?_
    repeat (first | (refine aops_fnX rfl ?_ ?_; focus (simp (maxSteps := 4000000) only [sks, pMc, pInts, pI, tvl, simprocAttr]; done)) | (simp (maxSteps := 4000000) only [pMc, pInts, pI, tvl, simprocAttr]) | refine ftS (by kernel_rfl) ?_ | refine And.intro (by omega) ?_)
    all_goals (first | rfl | trivial | skip)
  have d1 : decide ((k : Int) < (m.ths.length : Int)) = true := by rw [decide_eq_true_eq]; omega
  have e5 : (m.ths.map pTh)[k]? = some (pTh m.ths[k]) := by simp [c1]
  have hP := copyTh_ok (t := m.ths[k]) (hm.regs k c1) (hm.stack k c1)
  have e8 := thsTo_succ c1
  generalize m.ths[k] = t at e5 hP e8
  repeat (first | (refine aops_fnX rfl ?_ ?_; focus (simp (maxSteps := 4000000) only [sks, d1, e5, pTh, pInts, pI, tvl, simprocAttr]; done)) | (simp (maxSteps := 4000000) only [d1, e5, pTh, pInts, pI, tvl, simprocAttr]) | refine ftS (by kernel_rfl) ?_ | refine And.intro (by omega) ?_)
  refine aops_fn (hP) (hidB rfl) rfl ?_
  repeat (first | (refine aops_fnX rfl ?_ ?_; focus (simp (maxSteps := 4000000) only [sks, e7, pTh, pInts, pI, tvl, simprocAttr]; done)) | (simp (maxSteps := 4000000) only [e7, pTh, pInts, pI, tvl, simprocAttr]) | refine ftS (by kernel_rfl) ?_ | refine And.intro (by omega) ?_)
  refine ⟨k + 1, by omega, by omega, ?_⟩
  simp [e8, pTh, pInts, pI]
set_option maxRecDepth 10000 in
set_option maxHeartbeats 8000000 in
theorem icopyMk_ok {x : Int × Bt.Mc} (hm : Small x.2) : FnOk E.P 55 [.agg (pMk x)] (.agg (pMk x)) true := by
  have hC := icopyMc_ok hm
  obtain ⟨n, m⟩ := x
  refine fn_ok mixed Tryz.func55 rfl (by kernel_rfl) _ Tryz.results55 _ Tryz.ntmps55 (by simp) (by kernel_rfl) ?_
  repeat (first | (refine aops_fnX rfl ?_ ?_; focus (simp (maxSteps := 4000000) only [sks, pMk, pInts, pI, tvl, simprocAttr]; done)) | (simp (maxSteps := 4000000) only [pMk, pInts, pI, tvl, simprocAttr]) | refine ftS (by kernel_rfl) ?_ | refine And.intro (by omega) ?_)
  refine aops_fn (hC) (hidB rfl) rfl ?_
  repeat (first | (refine aops_fnX rfl ?_ ?_; focus (simp (maxSteps := 4000000) only [sks, pMk, pMc, pInts, pI, tvl, simprocAttr]; done)) | (simp (maxSteps := 4000000) only [pMk, pMc, pInts, pI, tvl, simprocAttr]) | refine ftS (by kernel_rfl) ?_ | refine And.intro (by omega) ?_)
  all_goals (first | rfl | trivial | skip)
end Av
end Go.Proofs.YtbkbppllcjcmhaaGreat
