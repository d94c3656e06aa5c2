/-
  Chapter 7: TakeBack, the program's.
-/
import Derived.Test.YtdjenlnomibniaaUnP
import Derived.Test.YtdjenlnomibniaaC2L
set_option linter.unusedSimpArgs false
set_option linter.unusedVariables false
namespace Go.Proofs.Ytdjenlnomibniaa
open Go.RowKit
namespace Av
set_option maxHeartbeats 4000000 in
theorem there_ok {xs : List Int} {k : Int} (hl : xs.length ≤ 1048576) : FnOk E.P 78 [pInts xs, pI k] (.bool (decide (-1 ≤ k ∧ k < xs.length))) true := by
  by_cases c1 : -1 ≤ k
  · have d1 : decide (k ≥ -1) = true := by simpa using c1
    have e : decide (-1 ≤ k ∧ k < xs.length) = decide (k < (xs.length : Int)) := by simp [c1]
    rw [e]
    refine fn_ok mixed Try.func78 rfl (by kernel_rfl) _ Try.results78 _ Try.ntmps78 (by simp) (by kernel_rfl) ?_
    repeat (first | (refine aops_fnX rfl ?_ ?_; focus (simp (maxSteps := 4000000) only [sks, d1, pInts, pI, tvl, simprocAttr]; done)) | (simp (maxSteps := 4000000) only [d1, pInts, pI, tvl, simprocAttr]) | refine ftS (by kernel_rfl) ?_ | refine And.intro (by omega) ?_)
    all_goals (first | rfl | trivial | skip)
  · have d1 : decide (k ≥ -1) = false := by simpa using c1
    have e : decide (-1 ≤ k ∧ k < xs.length) = false := by simp [c1]
    rw [e]
    refine fn_ok mixed Try.func78 rfl (by kernel_rfl) _ Try.results78 _ Try.ntmps78 (by simp) (by kernel_rfl) ?_
    repeat (first | (refine aops_fnX rfl ?_ ?_; focus (simp (maxSteps := 4000000) only [sks, d1, pInts, pI, tvl, simprocAttr]; done)) | (simp (maxSteps := 4000000) only [d1, pInts, pI, tvl, simprocAttr]) | refine ftS (by kernel_rfl) ?_ | refine And.intro (by omega) ?_)
    all_goals (first | rfl | trivial | skip)
set_option maxHeartbeats 4000000 in
theorem nback_ok {xs : List Int} {k n : Int} (hl : xs.length ≤ 1048576) (h1 : -1 ≤ k) (h2 : k < xs.length) : FnOk E.P 80 [pInts xs, pI k, pI n] (pInts (Bt.setAt xs k n)) true := by
  unfold Bt.setAt
  by_cases c1 : k = -1
  · have d1 : (k == -1) = true := by simpa using c1
    have hC := copy_ok (xs := xs) hl
    rw [if_pos c1]
    refine fn_ok mixed Try.func80 rfl (by kernel_rfl) _ Try.results80 _ Try.ntmps80 (by simp) (by kernel_rfl) ?_
    repeat (first | (refine aops_fnX rfl ?_ ?_; focus (simp (maxSteps := 4000000) only [sks, d1, pInts, pI, tvl, simprocAttr]; done)) | (simp (maxSteps := 4000000) only [d1, pInts, pI, tvl, simprocAttr]) | refine ftS (by kernel_rfl) ?_ | refine And.intro (by omega) ?_)
    refine aops_fn (hC) (hidB rfl) rfl ?_
    repeat (first | (refine aops_fnX rfl ?_ ?_; focus (simp (maxSteps := 4000000) only [sks, pInts, pI, tvl, simprocAttr]; done)) | (simp (maxSteps := 4000000) only [pInts, pI, tvl, simprocAttr]) | refine ftS (by kernel_rfl) ?_ | refine And.intro (by omega) ?_)
    all_goals (first | rfl | trivial | skip)
  · have d1 : (k == -1) = false := by simpa using c1
    rw [if_neg c1]
    obtain ⟨j, rfl⟩ : ∃ j : Nat, k = j := ⟨k.toNat, by omega⟩
    have hC := with_ok (xs := xs) (k := j) (n := n) hl (by omega)
    refine fn_ok mixed Try.func80 rfl (by kernel_rfl) _ Try.results80 _ Try.ntmps80 (by simp) (by kernel_rfl) ?_
    repeat (first | (refine aops_fnX rfl ?_ ?_; focus (simp (maxSteps := 4000000) only [sks, d1, pInts, pI, tvl, simprocAttr]; done)) | (simp (maxSteps := 4000000) only [d1, pInts, pI, tvl, simprocAttr]) | refine ftS (by kernel_rfl) ?_ | refine And.intro (by omega) ?_)
    refine aops_fn (hC) (hidB rfl) rfl ?_
    repeat (first | (refine aops_fnX rfl ?_ ?_; focus (simp (maxSteps := 4000000) only [sks, pInts, pI, tvl, simprocAttr]; done)) | (simp (maxSteps := 4000000) only [pInts, pI, tvl, simprocAttr]) | refine ftS (by kernel_rfl) ?_ | refine And.intro (by omega) ?_)
    all_goals (first | rfl | trivial | skip)
set_option maxRecDepth 10000 in
set_option maxHeartbeats 8000000 in
theorem iTakeBack_ok {m : Bt.Mc} {u : Bt.Un} (hm : Small m) (h1 : u.old.regs.length ≤ 1048576) (h2 : u.old.stack.length ≤ 1048576) :
    FnOk E.P 22 [.agg (pMc m), .agg (pUn u)] (.tup [.agg (pMc ((Bt.takeBack m u).getD Bt.mcNil)), .bool (Bt.takeBack m u).isSome]) true := by
  have hB := oneIf_ok (b := u.begun)
  have hD := oneIf_ok (b := u.told)
  have hc := there_ok (xs := m.cells) (k := u.cell) hm.cells
  have hl := there_ok (xs := m.locks) (k := u.lock) hm.locks
  have z1 := Bt.cutTh_len m u
  have z2 := fun n => Bt.cutTh_take m u (n := n)
  have z3 := fun n => Bt.cutTold_take m u (n := n)
  have y1 : (u.begun = true → 0 < m.ths.length) ↔ 0 ≤ (m.ths.length : Int) - (if u.begun then 1 else 0) := by cases u.begun <;> simp <;> omega
  have y2 : (u.told = true → 0 < m.told.length) ↔ 0 ≤ (m.told.length : Int) - (if u.told then 1 else 0) := by cases u.told <;> simp <;> omega
  obtain ⟨e1, he1, le1⟩ : ∃ e1 : Int, (if u.begun then (1 : Int) else 0) = e1 ∧ 0 ≤ e1 ∧ e1 ≤ 1 := ⟨_, rfl, by cases u.begun <;> simp⟩
  obtain ⟨e2, he2, le2⟩ : ∃ e2 : Int, (if u.told then (1 : Int) else 0) = e2 ∧ 0 ≤ e2 ∧ e2 ≤ 1 := ⟨_, rfl, by cases u.told <;> simp⟩
  rw [he1] at hB z1 z2 y1
  rw [he2] at hD z3 y2
  have m1 := hm.ths
  have m2 := hm.told
  obtain ⟨n1, hn1⟩ : ∃ n1 : Int, (m.ths.length : Int) - e1 = n1 := ⟨_, rfl⟩
  obtain ⟨n2, hn2⟩ : ∃ n2 : Int, (m.told.length : Int) - e2 = n2 := ⟨_, rfl⟩
  rw [hn1] at z1 y1
  rw [hn2] at y2
  replace z2 := z2 n1 hn1.symm
  replace z3 := z3 n2 hn2.symm
  have no : ¬ Bt.backIn m u → Bt.takeBack m u = none := fun h => if_neg h
  by_cases c1 : u.who < 0
  · have d1 : decide (u.who < 0) = true := by simpa using c1
    rw [no (fun h => by have := h.2.2.1; omega)]
    refine fn_ok mixed Try.func22 rfl (by kernel_rfl) _ Try.results22 _ Try.ntmps22 (by simp) (by kernel_rfl) ?_
    repeat (first | (refine aops_fnX rfl ?_ ?_; focus (simp (maxSteps := 4000000) only [sks, pMc, pUn, pInts, pI, tvl, simprocAttr]; done)) | (simp (maxSteps := 4000000) only [pMc, pUn, pInts, pI, tvl, simprocAttr]) | refine ftS (by kernel_rfl) ?_ | refine And.intro (by omega) ?_)
    refine aops_fn (hB) (hidB rfl) rfl ?_
    repeat (first | (refine aops_fnX rfl ?_ ?_; focus (simp (maxSteps := 4000000) only [sks, hn1, pMc, pUn, pInts, pI, tvl, simprocAttr]; done)) | (simp (maxSteps := 4000000) only [hn1, pMc, pUn, pInts, pI, tvl, simprocAttr]) | refine ftS (by kernel_rfl) ?_ | refine And.intro (by omega) ?_)
    refine aops_fn (hD) (hidB rfl) rfl ?_
    repeat (first | (refine aops_fnX rfl ?_ ?_; focus (simp (maxSteps := 4000000) only [sks, hn2, d1, Option.getD_none, Option.isSome_none, Bt.mcNil, List.map_nil, pMc, pUn, pInts, pI, tvl, simprocAttr]; done)) | (simp (maxSteps := 4000000) only [hn2, d1, Option.getD_none, Option.isSome_none, Bt.mcNil, List.map_nil, pMc, pUn, pInts, pI, tvl, simprocAttr]) | refine ftS (by kernel_rfl) ?_ | refine And.intro (by omega) ?_)
    all_goals (first | rfl | trivial | skip)
  have d1 : decide (u.who < 0) = false := by simpa using c1
  by_cases c2 : u.who ≥ n1
  · have d2 : decide (u.who ≥ n1) = true := by simpa using c2
    rw [no (fun h => by have h3 := h.2.2.2.1; rw [z1 h.1] at h3; omega)]
    refine fn_ok mixed Try.func22 rfl (by kernel_rfl) _ Try.results22 _ Try.ntmps22 (by simp) (by kernel_rfl) ?_
    repeat (first | (refine aops_fnX rfl ?_ ?_; focus (simp (maxSteps := 4000000) only [sks, pMc, pUn, pInts, pI, tvl, simprocAttr]; done)) | (simp (maxSteps := 4000000) only [pMc, pUn, pInts, pI, tvl, simprocAttr]) | refine ftS (by kernel_rfl) ?_ | refine And.intro (by omega) ?_)
    refine aops_fn (hB) (hidB rfl) rfl ?_
    repeat (first | (refine aops_fnX rfl ?_ ?_; focus (simp (maxSteps := 4000000) only [sks, hn1, pMc, pUn, pInts, pI, tvl, simprocAttr]; done)) | (simp (maxSteps := 4000000) only [hn1, pMc, pUn, pInts, pI, tvl, simprocAttr]) | refine ftS (by kernel_rfl) ?_ | refine And.intro (by omega) ?_)
    refine aops_fn (hD) (hidB rfl) rfl ?_
    repeat (first | (refine aops_fnX rfl ?_ ?_; focus (simp (maxSteps := 4000000) only [sks, hn2, d1, d2, Option.getD_none, Option.isSome_none, Bt.mcNil, List.map_nil, pMc, pUn, pInts, pI, tvl, simprocAttr]; done)) | (simp (maxSteps := 4000000) only [hn2, d1, d2, Option.getD_none, Option.isSome_none, Bt.mcNil, List.map_nil, pMc, pUn, pInts, pI, tvl, simprocAttr]) | refine ftS (by kernel_rfl) ?_ | refine And.intro (by omega) ?_)
    all_goals (first | rfl | trivial | skip)
  have d2 : decide (u.who ≥ n1) = false := by simpa using c2
  by_cases c3 : n2 < 0
  · have d3 : decide (n2 < 0) = true := by simpa using c3
    rw [no (fun h => by have := y2.1 h.2.1; omega)]
    refine fn_ok mixed Try.func22 rfl (by kernel_rfl) _ Try.results22 _ Try.ntmps22 (by simp) (by kernel_rfl) ?_
    repeat (first | (refine aops_fnX rfl ?_ ?_; focus (simp (maxSteps := 4000000) only [sks, pMc, pUn, pInts, pI, tvl, simprocAttr]; done)) | (simp (maxSteps := 4000000) only [pMc, pUn, pInts, pI, tvl, simprocAttr]) | refine ftS (by kernel_rfl) ?_ | refine And.intro (by omega) ?_)
    refine aops_fn (hB) (hidB rfl) rfl ?_
    repeat (first | (refine aops_fnX rfl ?_ ?_; focus (simp (maxSteps := 4000000) only [sks, hn1, pMc, pUn, pInts, pI, tvl, simprocAttr]; done)) | (simp (maxSteps := 4000000) only [hn1, pMc, pUn, pInts, pI, tvl, simprocAttr]) | refine ftS (by kernel_rfl) ?_ | refine And.intro (by omega) ?_)
    refine aops_fn (hD) (hidB rfl) rfl ?_
    repeat (first | (refine aops_fnX rfl ?_ ?_; focus (simp (maxSteps := 4000000) only [sks, hn2, d1, d2, d3, Option.getD_none, Option.isSome_none, Bt.mcNil, List.map_nil, pMc, pUn, pInts, pI, tvl, simprocAttr]; done)) | (simp (maxSteps := 4000000) only [hn2, d1, d2, d3, Option.getD_none, Option.isSome_none, Bt.mcNil, List.map_nil, pMc, pUn, pInts, pI, tvl, simprocAttr]) | refine ftS (by kernel_rfl) ?_ | refine And.intro (by omega) ?_)
    all_goals (first | rfl | trivial | skip)
  have d3 : decide (n2 < 0) = false := by simpa using c3
  by_cases c4 : -1 ≤ u.cell ∧ u.cell < m.cells.length
  rotate_left
  · rw [show decide (-1 ≤ u.cell ∧ u.cell < m.cells.length) = false by simpa using c4] at hc
    rw [no (fun h => c4 ⟨h.2.2.2.2.1, h.2.2.2.2.2.1⟩)]
    refine fn_ok mixed Try.func22 rfl (by kernel_rfl) _ Try.results22 _ Try.ntmps22 (by simp) (by kernel_rfl) ?_
    repeat (first | (refine aops_fnX rfl ?_ ?_; focus (simp (maxSteps := 4000000) only [sks, pMc, pUn, pInts, pI, tvl, simprocAttr]; done)) | (simp (maxSteps := 4000000) only [pMc, pUn, pInts, pI, tvl, simprocAttr]) | refine ftS (by kernel_rfl) ?_ | refine And.intro (by omega) ?_)
    refine aops_fn (hB) (hidB rfl) rfl ?_
    repeat (first | (refine aops_fnX rfl ?_ ?_; focus (simp (maxSteps := 4000000) only [sks, hn1, pMc, pUn, pInts, pI, tvl, simprocAttr]; done)) | (simp (maxSteps := 4000000) only [hn1, pMc, pUn, pInts, pI, tvl, simprocAttr]) | refine ftS (by kernel_rfl) ?_ | refine And.intro (by omega) ?_)
    refine aops_fn (hD) (hidB rfl) rfl ?_
    repeat (first | (refine aops_fnX rfl ?_ ?_; focus (simp (maxSteps := 4000000) only [sks, hn2, d1, d2, d3, pMc, pUn, pInts, pI, tvl, simprocAttr]; done)) | (simp (maxSteps := 4000000) only [hn2, d1, d2, d3, pMc, pUn, pInts, pI, tvl, simprocAttr]) | refine ftS (by kernel_rfl) ?_ | refine And.intro (by omega) ?_)
    refine aops_fn (hc) (hidB rfl) rfl ?_
    repeat (first | (refine aops_fnX rfl ?_ ?_; focus (simp (maxSteps := 4000000) only [sks, Option.getD_none, Option.isSome_none, Bt.mcNil, List.map_nil, pMc, pUn, pInts, pI, tvl, simprocAttr]; done)) | (simp (maxSteps := 4000000) only [Option.getD_none, Option.isSome_none, Bt.mcNil, List.map_nil, pMc, pUn, pInts, pI, tvl, simprocAttr]) | refine ftS (by kernel_rfl) ?_ | refine And.intro (by omega) ?_)
    all_goals (first | rfl | trivial | skip)
  rw [show decide (-1 ≤ u.cell ∧ u.cell < m.cells.length) = true by simpa using c4] at hc
  by_cases c5 : -1 ≤ u.lock ∧ u.lock < m.locks.length
  rotate_left
  · rw [show decide (-1 ≤ u.lock ∧ u.lock < m.locks.length) = false by simpa using c5] at hl
    rw [no (fun h => c5 ⟨h.2.2.2.2.2.2.1, h.2.2.2.2.2.2.2⟩)]
    refine fn_ok mixed Try.func22 rfl (by kernel_rfl) _ Try.results22 _ Try.ntmps22 (by simp) (by kernel_rfl) ?_
    repeat (first | (refine aops_fnX rfl ?_ ?_; focus (simp (maxSteps := 4000000) only [sks, pMc, pUn, pInts, pI, tvl, simprocAttr]; done)) | (simp (maxSteps := 4000000) only [pMc, pUn, pInts, pI, tvl, simprocAttr]) | refine ftS (by kernel_rfl) ?_ | refine And.intro (by omega) ?_)
    refine aops_fn (hB) (hidB rfl) rfl ?_
    repeat (first | (refine aops_fnX rfl ?_ ?_; focus (simp (maxSteps := 4000000) only [sks, hn1, pMc, pUn, pInts, pI, tvl, simprocAttr]; done)) | (simp (maxSteps := 4000000) only [hn1, pMc, pUn, pInts, pI, tvl, simprocAttr]) | refine ftS (by kernel_rfl) ?_ | refine And.intro (by omega) ?_)
    refine aops_fn (hD) (hidB rfl) rfl ?_
    repeat (first | (refine aops_fnX rfl ?_ ?_; focus (simp (maxSteps := 4000000) only [sks, hn2, d1, d2, d3, pMc, pUn, pInts, pI, tvl, simprocAttr]; done)) | (simp (maxSteps := 4000000) only [hn2, d1, d2, d3, pMc, pUn, pInts, pI, tvl, simprocAttr]) | refine ftS (by kernel_rfl) ?_ | refine And.intro (by omega) ?_)
    refine aops_fn (hc) (hidB rfl) rfl ?_
    repeat (first | (refine aops_fnX rfl ?_ ?_; focus (simp (maxSteps := 4000000) only [sks, pMc, pUn, pInts, pI, tvl, simprocAttr]; done)) | (simp (maxSteps := 4000000) only [pMc, pUn, pInts, pI, tvl, simprocAttr]) | refine ftS (by kernel_rfl) ?_ | refine And.intro (by omega) ?_)
    refine aops_fnG (hl) (hidB rfl) rfl rfl (by simp (maxSteps := 4000000) only [pMc, pUn, pInts, pI, tvs, simprocAttr]) ?_
    repeat (first | (refine aops_fnX rfl ?_ ?_; focus (simp (maxSteps := 4000000) only [sks, Option.getD_none, Option.isSome_none, Bt.mcNil, List.map_nil, pMc, pUn, pInts, pI, tvl, simprocAttr]; done)) | (simp (maxSteps := 4000000) only [Option.getD_none, Option.isSome_none, Bt.mcNil, List.map_nil, pMc, pUn, pInts, pI, tvl, simprocAttr]) | refine ftS (by kernel_rfl) ?_ | refine And.intro (by omega) ?_)
    all_goals (first | rfl | trivial | skip)
  rw [show decide (-1 ≤ u.lock ∧ u.lock < m.locks.length) = true by simpa using c5] at hl
  have hin : Bt.backIn m u := by
    have hb := y1.2 (by omega)
    exact ⟨hb, y2.2 (by omega), by omega, by rw [z1 hb]; omega, c4.1, c4.2, c5.1, c5.2⟩
  rw [show Bt.takeBack m u = some ⟨(Bt.cutTh m u).set u.who.toNat u.old, Bt.setAt m.cells u.cell u.was, Bt.setAt m.locks u.lock u.held, Bt.cutTold m u⟩ from if_pos hin, z2, z3]
  have w1 : u.who = (u.who.toNat : Int) := by omega
  have hT := thsWith_ok (ths := m.ths.take n1.toNat) (w := u.who.toNat) (t := u.old) (by rw [List.length_take]; omega) h1 h2 (fun i hi => by
    rw [List.getElem_take]; exact hm.regs i (by rw [List.length_take] at hi; omega)) (fun i hi => by
    rw [List.getElem_take]; exact hm.stack i (by rw [List.length_take] at hi; omega))
  rw [← w1] at hT
  have hC := nback_ok (xs := m.cells) (k := u.cell) (n := u.was) hm.cells c4.1 c4.2
  have hL := nback_ok (xs := m.locks) (k := u.lock) (n := u.held) hm.locks c5.1 c5.2
  have hT2 := copy_ok (xs := m.told.take n2.toNat) (by rw [List.length_take]; omega)
  have q1 : (m.ths.map pTh).take n1.toNat = (m.ths.take n1.toNat).map pTh := List.map_take.symm
  have q2 : (m.told.map fun x => [PV.int .i64 x]).take n2.toNat = (m.told.take n2.toNat).map fun x => [PV.int .i64 x] := List.map_take.symm
  refine fn_ok mixed Try.func22 rfl (by kernel_rfl) _ Try.results22 _ Try.ntmps22 (by simp) (by kernel_rfl) ?_
  repeat (first | (refine aops_fnX rfl ?_ ?_; focus (simp (maxSteps := 4000000) only [sks, pMc, pUn, pInts, pI, tvl, simprocAttr]; done)) | (simp (maxSteps := 4000000) only [pMc, pUn, pInts, pI, tvl, simprocAttr]) | refine ftS (by kernel_rfl) ?_ | refine And.intro (by omega) ?_)
  refine aops_fn (hB) (hidB rfl) rfl ?_
  repeat (first | (refine aops_fnX rfl ?_ ?_; focus (simp (maxSteps := 4000000) only [sks, hn1, pMc, pUn, pInts, pI, tvl, simprocAttr]; done)) | (simp (maxSteps := 4000000) only [hn1, pMc, pUn, pInts, pI, tvl, simprocAttr]) | refine ftS (by kernel_rfl) ?_ | refine And.intro (by omega) ?_)
  refine aops_fn (hD) (hidB rfl) rfl ?_
  repeat (first | (refine aops_fnX rfl ?_ ?_; focus (simp (maxSteps := 4000000) only [sks, hn2, d1, d2, d3, pMc, pUn, pInts, pI, tvl, simprocAttr]; done)) | (simp (maxSteps := 4000000) only [hn2, d1, d2, d3, pMc, pUn, pInts, pI, tvl, simprocAttr]) | refine ftS (by kernel_rfl) ?_ | refine And.intro (by omega) ?_)
  refine aops_fn (hc) (hidB rfl) rfl ?_
  repeat (first | (refine aops_fnX rfl ?_ ?_; focus (simp (maxSteps := 4000000) only [sks, pMc, pUn, pInts, pI, tvl, simprocAttr]; done)) | (simp (maxSteps := 4000000) only [pMc, pUn, pInts, pI, tvl, simprocAttr]) | refine ftS (by kernel_rfl) ?_ | refine And.intro (by omega) ?_)
  refine aops_fnG (hl) (hidB rfl) rfl rfl (by simp (maxSteps := 4000000) only [pMc, pUn, pInts, pI, tvs, simprocAttr]) ?_
  repeat (first | (refine aops_fnX rfl ?_ ?_; focus (simp (maxSteps := 4000000) only [sks, List.drop_zero, q1, q2, pMc, pUn, pTh, pInts, pI, tvl, simprocAttr]; done)) | (simp (maxSteps := 4000000) only [List.drop_zero, q1, q2, pMc, pUn, pTh, pInts, pI, tvl, simprocAttr]) | refine ftS (by kernel_rfl) ?_ | refine And.intro (by omega) ?_)
  refine aops_fn (hT) (hidB rfl) rfl ?_
  repeat (first | (refine aops_fnX rfl ?_ ?_; focus (simp (maxSteps := 4000000) only [sks, List.drop_zero, q1, q2, pMc, pUn, pTh, pInts, pI, tvl, simprocAttr]; done)) | (simp (maxSteps := 4000000) only [List.drop_zero, q1, q2, pMc, pUn, pTh, pInts, pI, tvl, simprocAttr]) | refine ftS (by kernel_rfl) ?_ | refine And.intro (by omega) ?_)
  refine aops_fn (hC) (hidB rfl) rfl ?_
  repeat (first | (refine aops_fnX rfl ?_ ?_; focus (simp (maxSteps := 4000000) only [sks, List.drop_zero, q1, q2, pMc, pUn, pTh, pInts, pI, tvl, simprocAttr]; done)) | (simp (maxSteps := 4000000) only [List.drop_zero, q1, q2, pMc, pUn, pTh, pInts, pI, tvl, simprocAttr]) | refine ftS (by kernel_rfl) ?_ | refine And.intro (by omega) ?_)
  refine aops_fn (hL) (hidB rfl) rfl ?_
  repeat (first | (refine aops_fnX rfl ?_ ?_; focus (simp (maxSteps := 4000000) only [sks, List.drop_zero, q1, q2, pMc, pUn, pTh, pInts, pI, tvl, simprocAttr]; done)) | (simp (maxSteps := 4000000) only [List.drop_zero, q1, q2, pMc, pUn, pTh, pInts, pI, tvl, simprocAttr]) | refine ftS (by kernel_rfl) ?_ | refine And.intro (by omega) ?_)
  refine aops_fn (hT2) (hidB rfl) rfl ?_
  repeat (first | (refine aops_fnX rfl ?_ ?_; focus (simp (maxSteps := 4000000) only [sks, List.drop_zero, Option.getD_some, Option.isSome_some, q1, q2, pMc, pUn, pTh, pInts, pI, tvl, simprocAttr]; done)) | (simp (maxSteps := 4000000) only [List.drop_zero, Option.getD_some, Option.isSome_some, q1, q2, pMc, pUn, pTh, pInts, pI, tvl, simprocAttr]) | refine ftS (by kernel_rfl) ?_ | refine And.intro (by omega) ?_)
  all_goals (first | rfl | trivial | skip)
end Av
end Go.Proofs.Ytdjenlnomibniaa
