/-
  Conditions, the program's: what A and B are below, parts moved, numbers that a machine has.
-/
import Derived.Test.YtbkbppllcjcmhaaGreatWhP
import Derived.Test.YtbkbppllcjcmhaaGreatTab
set_option linter.unusedSimpArgs false
set_option linter.unusedVariables false
namespace Go.Proofs.YtbkbppllcjcmhaaGreat
open Go.RowKit
namespace Av
set_option maxHeartbeats 4000000 in
theorem itops_ok {k i : Int} : FnOk E.P 67 [pI k, pI i] (.tup [pI (Bt.tops k i).1, pI (Bt.tops k i).2]) true := by
  rcases Bt.kinds k with h | h
  · rcases h with rfl | rfl | rfl | rfl | rfl | rfl | rfl | rfl | rfl | rfl | rfl | rfl
    all_goals
      refine fn_ok mixed Tryz.func67 rfl (by kernel_rfl) _ Tryz.results67 _ Tryz.ntmps67 (by simp) (by kernel_rfl) ?_
      repeat (first | (refine aops_fnX rfl ?_ ?_; focus (simp (maxSteps := 4000000) only [sks, Int.reduceBEq, pI, tvs, simprocAttr]; done)) | (simp (maxSteps := 4000000) only [Int.reduceBEq, pI, tvs, simprocAttr]) | refine ftS (by kernel_rfl) ?_ | refine And.intro (by omega) ?_)
      all_goals (first | rfl | trivial | skip)
  · rw [Bt.tops_none i h]
    obtain ⟨h0, h1, h2, h3, h4, h5, h6, h7, h8, h9, h10, h11⟩ := h
    refine fn_ok mixed Tryz.func67 rfl (by kernel_rfl) _ Tryz.results67 _ Tryz.ntmps67 (by simp) (by kernel_rfl) ?_
    repeat (first | (refine aops_fnX rfl ?_ ?_; focus (simp (maxSteps := 4000000) only [sks, h0, h1, h2, h3, h4, h5, h6, h7, h8, h9, h10, h11, pI, tvs, simprocAttr]; done)) | (simp (maxSteps := 4000000) only [h0, h1, h2, h3, h4, h5, h6, h7, h8, h9, h10, h11, pI, tvs, simprocAttr]) | refine ftS (by kernel_rfl) ?_ | refine And.intro (by omega) ?_)
    all_goals (first | rfl | trivial | skip)
set_option maxHeartbeats 4000000 in
theorem ifrom_ok {n top : Int} : FnOk E.P 68 [pI n, pI top] (.bool (decide (0 ≤ n ∧ n < top))) true := by
  by_cases c1 : 0 ≤ n
  · have d1 : decide (n ≥ 0) = true := by simpa using c1
    have e : decide (0 ≤ n ∧ n < top) = decide (n < top) := by simp [c1]
    rw [e]
    refine fn_ok mixed Tryz.func68 rfl (by kernel_rfl) _ Tryz.results68 _ Tryz.ntmps68 (by simp) (by kernel_rfl) ?_
    repeat (first | (refine aops_fnX rfl ?_ ?_; focus (simp (maxSteps := 4000000) only [sks, d1, pI, tvs, simprocAttr]; done)) | (simp (maxSteps := 4000000) only [d1, pI, tvs, simprocAttr]) | refine ftS (by kernel_rfl) ?_ | refine And.intro (by omega) ?_)
    all_goals (first | rfl | trivial | skip)
  · have d1 : decide (n ≥ 0) = false := by simpa using c1
    have e : decide (0 ≤ n ∧ n < top) = false := by simp [c1]
    rw [e]
    refine fn_ok mixed Tryz.func68 rfl (by kernel_rfl) _ Tryz.results68 _ Tryz.ntmps68 (by simp) (by kernel_rfl) ?_
    repeat (first | (refine aops_fnX rfl ?_ ?_; focus (simp (maxSteps := 4000000) only [sks, d1, pI, tvs, simprocAttr]; done)) | (simp (maxSteps := 4000000) only [d1, pI, tvs, simprocAttr]) | refine ftS (by kernel_rfl) ?_ | refine And.intro (by omega) ?_)
    all_goals (first | rfl | trivial | skip)
set_option maxHeartbeats 4000000 in
theorem ithere_ok {xs : List Int} {k : Nat} (hl : xs.length ≤ 1048576) : FnOk E.P 141 [pInts xs, pI k] (pI (xs.getD k 0)) true := by
  by_cases c1 : k < xs.length
  · have d1 : decide ((k : Int) ≥ (xs.length : Int)) = false := by simpa using c1
    have e5 : (xs.map fun x => [PV.int .i64 x])[k]? = some [.int .i64 xs[k]] := by simp [c1]
    have e6 : xs.getD k 0 = xs[k] := by simp [c1]
    rw [e6]
    refine fn_ok mixed Tryz.func141 rfl (by kernel_rfl) _ Tryz.results141 _ Tryz.ntmps141 (by simp) (by kernel_rfl) ?_
    repeat (first | (refine aops_fnX rfl ?_ ?_; focus (simp (maxSteps := 4000000) only [sks, d1, e5, pInts, pI, tvl, simprocAttr]; done)) | (simp (maxSteps := 4000000) only [d1, e5, pInts, pI, tvl, simprocAttr]) | refine ftS (by kernel_rfl) ?_ | refine And.intro (by omega) ?_)
    all_goals (first | rfl | trivial | skip)
  · have d1 : decide ((k : Int) ≥ (xs.length : Int)) = true := by simpa using c1
    have e6 : xs.getD k 0 = 0 := by simp; rw [List.getElem?_eq_none (by omega)]; rfl
    rw [e6]
    refine fn_ok mixed Tryz.func141 rfl (by kernel_rfl) _ Tryz.results141 _ Tryz.ntmps141 (by simp) (by kernel_rfl) ?_
    repeat (first | (refine aops_fnX rfl ?_ ?_; focus (simp (maxSteps := 4000000) only [sks, d1, pInts, pI, tvl, simprocAttr]; done)) | (simp (maxSteps := 4000000) only [d1, pInts, pI, tvl, simprocAttr]) | refine ftS (by kernel_rfl) ?_ | refine And.intro (by omega) ?_)
    all_goals (first | rfl | trivial | skip)
theorem ioneIf_ok {b : Bool} : FnOk E.P 124 [.bool b] (pI (if b then 1 else 0)) true := by
  cases b
  all_goals
    refine fn_ok mixed Tryz.func124 rfl (by kernel_rfl) _ Tryz.results124 _ Tryz.ntmps124 (by simp) (by kernel_rfl) ?_
    repeat (first | (refine aops_fnX rfl ?_ ?_; focus (simp (maxSteps := 4000000) only [sks, pI, tvs, simprocAttr]; done)) | (simp (maxSteps := 4000000) only [pI, tvs, simprocAttr]) | refine ftS (by kernel_rfl) ?_ | refine And.intro (by omega) ?_)
    all_goals (first | rfl | trivial | skip)
set_option maxHeartbeats 4000000 in
theorem iword_ok {n : Int} : FnOk E.P 125 [pI n] (pI (Bt.word n)) true := by
  have hF := ifrom_ok (n := n) (top := 10000)
  unfold Bt.word
  by_cases c1 : 0 ≤ n ∧ n < 10000
  · rw [if_pos c1]
    rw [decide_eq_true c1] at hF
    refine fn_ok mixed Tryz.func125 rfl (by kernel_rfl) _ Tryz.results125 _ Tryz.ntmps125 (by simp) (by kernel_rfl) ?_
    repeat (first | (refine aops_fnX rfl ?_ ?_; focus (simp (maxSteps := 4000000) only [sks, pI, tvs, simprocAttr]; done)) | (simp (maxSteps := 4000000) only [pI, tvs, simprocAttr]) | refine ftS (by kernel_rfl) ?_ | refine And.intro (by omega) ?_)
    refine aops_fn (hF) (hidB rfl) rfl ?_
    repeat (first | (refine aops_fnX rfl ?_ ?_; focus (simp (maxSteps := 4000000) only [sks, pI, tvs, simprocAttr]; done)) | (simp (maxSteps := 4000000) only [pI, tvs, simprocAttr]) | refine ftS (by kernel_rfl) ?_ | refine And.intro (by omega) ?_)
    all_goals (first | rfl | trivial | skip)
  · rw [if_neg c1]
    rw [decide_eq_false c1] at hF
    refine fn_ok mixed Tryz.func125 rfl (by kernel_rfl) _ Tryz.results125 _ Tryz.ntmps125 (by simp) (by kernel_rfl) ?_
    repeat (first | (refine aops_fnX rfl ?_ ?_; focus (simp (maxSteps := 4000000) only [sks, pI, tvs, simprocAttr]; done)) | (simp (maxSteps := 4000000) only [pI, tvs, simprocAttr]) | refine ftS (by kernel_rfl) ?_ | refine And.intro (by omega) ?_)
    refine aops_fn (hF) (hidB rfl) rfl ?_
    repeat (first | (refine aops_fnX rfl ?_ ?_; focus (simp (maxSteps := 4000000) only [sks, pI, tvs, simprocAttr]; done)) | (simp (maxSteps := 4000000) only [pI, tvs, simprocAttr]) | refine ftS (by kernel_rfl) ?_ | refine And.intro (by omega) ?_)
    all_goals (first | rfl | trivial | skip)
set_option maxHeartbeats 4000000 in
theorem ithNum_ok {t : Bt.Th} {x : Bt.Pt} {i : Int} (h : Bt.partOk x i) (hk : x.kind = 1 ∨ x.kind = 3 ∨ x.kind = 4 ∨ x.kind = 5) (hr : t.regs.length ≤ 1048576) (hs : t.stack.length ≤ 1048576) : FnOk E.P 142 [.agg (pTh t), .agg (pPt x)] (pI (Bt.thNum t x)) true := by
  obtain ⟨b, hb⟩ : ∃ b : Nat, x.b = b := ⟨x.b.toNat, by have := h.2.1; omega⟩
  obtain ⟨k, a, b'⟩ := x
  simp only at hb hk
  subst hb
  have hT := ithere_ok (xs := t.regs) (k := b) hr
  rcases hk with rfl | rfl | rfl | rfl
  · rw [show Bt.thNum t ⟨1, a, b⟩ = t.regs.getD b 0 from rfl]
    refine fn_ok mixed Tryz.func142 rfl (by kernel_rfl) _ Tryz.results142 _ Tryz.ntmps142 (by simp) (by kernel_rfl) ?_
    repeat (first | (refine aops_fnX rfl ?_ ?_; focus (simp (maxSteps := 4000000) only [sks, Int.reduceBEq, pPt, pTh, pInts, pI, tvs, simprocAttr]; done)) | (simp (maxSteps := 4000000) only [Int.reduceBEq, pPt, pTh, pInts, pI, tvs, simprocAttr]) | refine ftS (by kernel_rfl) ?_ | refine And.intro (by omega) ?_)
    refine aops_fn (hT) (hidB rfl) rfl ?_
    repeat (first | (refine aops_fnX rfl ?_ ?_; focus (simp (maxSteps := 4000000) only [sks, pInts, pI, tvs, simprocAttr]; done)) | (simp (maxSteps := 4000000) only [pInts, pI, tvs, simprocAttr]) | refine ftS (by kernel_rfl) ?_ | refine And.intro (by omega) ?_)
    all_goals (first | rfl | trivial | skip)
  all_goals
    refine fn_ok mixed Tryz.func142 rfl (by kernel_rfl) _ Tryz.results142 _ Tryz.ntmps142 (by simp) (by kernel_rfl) ?_
    repeat (first | (refine aops_fnX rfl ?_ ?_; focus (simp (maxSteps := 4000000) only [sks, Int.reduceBEq, pPt, pTh, pInts, pI, tvl, simprocAttr]; done)) | (simp (maxSteps := 4000000) only [Int.reduceBEq, pPt, pTh, pInts, pI, tvl, simprocAttr]) | refine ftS (by kernel_rfl) ?_ | refine And.intro (by omega) ?_)
    all_goals (first | rfl | trivial | skip)
set_option maxHeartbeats 4000000 in
theorem imacNum_ok {m : Bt.Mc} {x : Bt.Pt} {i : Int} (h : Bt.partOk x i) (hk : x.kind = 1 ∨ x.kind = 2 ∨ x.kind = 3 ∨ x.kind = 4 ∨ x.kind = 5 ∨ x.kind = 6) (hm : Small m) : FnOk E.P 126 [.agg (pMc m), .agg (pPt x)] (pI (Bt.macNum m x)) true := by
  obtain ⟨a, ha⟩ : ∃ a : Nat, x.a = a := ⟨x.a.toNat, by have := h.1.1; omega⟩
  obtain ⟨k, a', b⟩ := x
  simp only at ha hk
  subst ha
  have hml := hm.ths
  have hT := ithere_ok (xs := m.cells) (k := a) hm.cells
  have hto := hm.told
  by_cases c2 : k = 2
  · subst c2
    rw [show Bt.macNum m ⟨2, a, b⟩ = m.cells.getD a 0 from rfl]
    refine fn_ok mixed Tryz.func126 rfl (by kernel_rfl) _ Tryz.results126 _ Tryz.ntmps126 (by simp) (by kernel_rfl) ?_
    repeat (first | (refine aops_fnX rfl ?_ ?_; focus (simp (maxSteps := 4000000) only [sks, Int.reduceBEq, pPt, pMc, pInts, pI, tvs, simprocAttr]; done)) | (simp (maxSteps := 4000000) only [Int.reduceBEq, pPt, pMc, pInts, pI, tvs, simprocAttr]) | refine ftS (by kernel_rfl) ?_ | refine And.intro (by omega) ?_)
    refine aops_fn (hT) (hidB rfl) rfl ?_
    repeat (first | (refine aops_fnX rfl ?_ ?_; focus (simp (maxSteps := 4000000) only [sks, pInts, pI, tvs, simprocAttr]; done)) | (simp (maxSteps := 4000000) only [pInts, pI, tvs, simprocAttr]) | refine ftS (by kernel_rfl) ?_ | refine And.intro (by omega) ?_)
    all_goals (first | rfl | trivial | skip)
  by_cases c6 : k = 6
  · subst c6
    rw [show Bt.macNum m ⟨6, a, b⟩ = m.told.length from rfl]
    refine fn_ok mixed Tryz.func126 rfl (by kernel_rfl) _ Tryz.results126 _ Tryz.ntmps126 (by simp) (by kernel_rfl) ?_
    repeat (first | (refine aops_fnX rfl ?_ ?_; focus (simp (maxSteps := 4000000) only [sks, Int.reduceBEq, pPt, pMc, pInts, pI, tvl, simprocAttr]; done)) | (simp (maxSteps := 4000000) only [Int.reduceBEq, pPt, pMc, pInts, pI, tvl, simprocAttr]) | refine ftS (by kernel_rfl) ?_ | refine And.intro (by omega) ?_)
    all_goals (first | rfl | trivial | skip)
  have d2 : (k == 2) = false := by simpa using c2
  have d6 : (k == 6) = false := by simpa using c6
  by_cases c1 : a < m.ths.length
  · have d1 : decide ((a : Int) ≥ (m.ths.length : Int)) = false := by simpa using c1
    have e6 : (m.ths.map pTh)[a]? = some (pTh m.ths[a]) := by simp [c1]
    have e : Bt.macNum m ⟨k, a, b⟩ = Bt.thNum m.ths[a] ⟨k, a, b⟩ := by
      unfold Bt.macNum
      rw [if_neg c2, if_neg c6]
      simp [c1]
    have hN := ithNum_ok (t := m.ths[a]) h (by simp only; omega) (hm.regs a c1) (hm.stack a c1)
    rw [e]
    generalize m.ths[a] = t at e6 hN
    generalize Bt.thNum t ⟨k, a, b⟩ = v at hN
    refine fn_ok mixed Tryz.func126 rfl (by kernel_rfl) _ Tryz.results126 _ Tryz.ntmps126 (by simp) (by kernel_rfl) ?_
    repeat (first | (refine aops_fnX rfl ?_ ?_; focus (simp (maxSteps := 4000000) only [sks, Int.reduceBEq, d1, d2, d6, e6, pPt, pMc, pTh, pInts, pI, tvl, simprocAttr]; done)) | (simp (maxSteps := 4000000) only [Int.reduceBEq, d1, d2, d6, e6, pPt, pMc, pTh, pInts, pI, tvl, simprocAttr]) | refine ftS (by kernel_rfl) ?_ | refine And.intro (by omega) ?_)
    refine aops_fn (hN) (hidB rfl) rfl ?_
    repeat (first | (refine aops_fnX rfl ?_ ?_; focus (simp (maxSteps := 4000000) only [sks, pInts, pI, tvs, simprocAttr]; done)) | (simp (maxSteps := 4000000) only [pInts, pI, tvs, simprocAttr]) | refine ftS (by kernel_rfl) ?_ | refine And.intro (by omega) ?_)
    all_goals (first | rfl | trivial | skip)
  · have d1 : decide ((a : Int) ≥ (m.ths.length : Int)) = true := by simpa using c1
    have e : Bt.macNum m ⟨k, a, b⟩ = 0 := by
      unfold Bt.macNum
      rw [if_neg c2, if_neg c6]
      simp [c1]
    rw [e]
    refine fn_ok mixed Tryz.func126 rfl (by kernel_rfl) _ Tryz.results126 _ Tryz.ntmps126 (by simp) (by kernel_rfl) ?_
    repeat (first | (refine aops_fnX rfl ?_ ?_; focus (simp (maxSteps := 4000000) only [sks, Int.reduceBEq, d1, d2, d6, pPt, pMc, pInts, pI, tvl, simprocAttr]; done)) | (simp (maxSteps := 4000000) only [Int.reduceBEq, d1, d2, d6, pPt, pMc, pInts, pI, tvl, simprocAttr]) | refine ftS (by kernel_rfl) ?_ | refine And.intro (by omega) ?_)
    all_goals (first | rfl | trivial | skip)
theorem getD_at {o : List Int} {k : Nat} (h : k < o.length) : o.getD k 0 = o[k] := by simp [h]
theorem row_at {o : List Int} {k : Nat} (h : k < o.length) : (o.map fun x => [PV.int .i64 x])[k]? = some [.int .i64 (o.getD k 0)] := by simp [h]
set_option maxHeartbeats 8000000 in
theorem ipart_ok {m : Bt.Mc} {x : Bt.Pt} {o : List Int} (h : Bt.partOk x (o.length : Int)) (ho : ∀ v ∈ o, 0 ≤ v ∧ v < 10000) (ho2 : o.length ≤ 20) (hm : Small m) : FnOk E.P 98 [.agg (pMc m), .agg (pPt x), pInts o] (pI (Bt.partVal m x o)) true := by
  obtain ⟨⟨h1, h2⟩, h3, h4⟩ := id h
  have hM : (x.kind = 1 ∨ x.kind = 2 ∨ x.kind = 3 ∨ x.kind = 4 ∨ x.kind = 5 ∨ x.kind = 6) → FnOk E.P 126 [.agg (pMc m), .agg (pPt x)] (pI (Bt.macNum m x)) true := fun hk => imacNum_ok h hk hm
  have hW := iword_ok (n := Bt.macNum m x)
  obtain ⟨k, a', b'⟩ := x
  simp only at h1 h2 h3 h4 hM
  obtain ⟨a, rfl⟩ : ∃ a : Nat, a' = a := ⟨a'.toNat, by omega⟩
  obtain ⟨b, rfl⟩ : ∃ b : Nat, b' = b := ⟨b'.toNat, by omega⟩
  have hg : ∀ j : Nat, j < o.length → 0 ≤ o.getD j 0 ∧ o.getD j 0 < 10000 := fun j hj => by rw [getD_at hj]; exact ho _ (List.getElem_mem hj)
  have hE : (k = 1 ∨ k = 2 ∨ k = 3 ∨ k = 4 ∨ k = 5 ∨ k = 6) → Bt.partVal m ⟨k, a, b⟩ o = Bt.word (Bt.macNum m ⟨k, a, b⟩) := by
    exact fun hk => Bt.part_mac hk
  rcases Bt.kinds k with hk | hk
  rotate_left
  · rw [Bt.tops_none _ hk] at h2
    simp only at h2
    omega
  rcases hk with rfl | rfl | rfl | rfl | rfl | rfl | rfl | rfl | rfl | rfl | rfl | rfl
  · refine fn_ok mixed Tryz.func98 rfl (by kernel_rfl) _ Tryz.results98 _ Tryz.ntmps98 (by simp) (by kernel_rfl) ?_
    repeat (first | (refine aops_fnX rfl ?_ ?_; focus (simp (maxSteps := 4000000) only [sks, Int.reduceBEq, pPt, pMc, pInts, pI, tvs, simprocAttr]; done)) | (simp (maxSteps := 4000000) only [Int.reduceBEq, pPt, pMc, pInts, pI, tvs, simprocAttr]) | refine ftS (by kernel_rfl) ?_ | refine And.intro (by omega) ?_)
    all_goals (first | rfl | trivial | skip)
  rotate_left 6
  · have ka : a < o.length := by rw [show Bt.tops 7 (o.length : Int) = ((o.length : Int), (o.length : Int)) from rfl] at h2; simp only at h2; omega
    have kb : b < o.length := by rw [show Bt.tops 7 (o.length : Int) = ((o.length : Int), (o.length : Int)) from rfl] at h4; simp only at h4; omega
    have e1 := row_at ka
    have e2 := row_at kb
    have g1 := hg a ka
    have g2 := hg b kb
    rw [show Bt.partVal m ⟨7, a, b⟩ o = (o.getD a 0 + o.getD b 0).tmod 10000 from rfl]
    generalize o.getD a 0 = va at e1 g1
    generalize o.getD b 0 = vb at e2 g2
    refine fn_ok mixed Tryz.func98 rfl (by kernel_rfl) _ Tryz.results98 _ Tryz.ntmps98 (by simp) (by kernel_rfl) ?_
    repeat (first | (refine aops_fnX rfl ?_ ?_; focus (simp (maxSteps := 4000000) only [sks, Int.reduceBEq, e1, e2, pPt, pMc, pInts, pI, tvl, simprocAttr]; done)) | (simp (maxSteps := 4000000) only [Int.reduceBEq, e1, e2, pPt, pMc, pInts, pI, tvl, simprocAttr]) | refine ftS (by kernel_rfl) ?_ | refine And.intro (by omega) ?_)
    all_goals (first | rfl | trivial | skip)
  · have ka : a < o.length := by rw [show Bt.tops 8 (o.length : Int) = ((o.length : Int), (o.length : Int)) from rfl] at h2; simp only at h2; omega
    have kb : b < o.length := by rw [show Bt.tops 8 (o.length : Int) = ((o.length : Int), (o.length : Int)) from rfl] at h4; simp only at h4; omega
    have e1 := row_at ka
    have e2 := row_at kb
    rw [show Bt.partVal m ⟨8, a, b⟩ o = Bt.yes (decide (o.getD a 0 < o.getD b 0)) from rfl]
    generalize o.getD a 0 = va at e1
    generalize o.getD b 0 = vb at e2
    have hY : FnOk E.P 124 [.bool (decide (va < vb))] (pI (Bt.yes (decide (va < vb)))) true := ioneIf_ok
    refine fn_ok mixed Tryz.func98 rfl (by kernel_rfl) _ Tryz.results98 _ Tryz.ntmps98 (by simp) (by kernel_rfl) ?_
    repeat (first | (refine aops_fnX rfl ?_ ?_; focus (simp (maxSteps := 4000000) only [sks, Int.reduceBEq, e1, e2, pPt, pMc, pInts, pI, tvl, simprocAttr]; done)) | (simp (maxSteps := 4000000) only [Int.reduceBEq, e1, e2, pPt, pMc, pInts, pI, tvl, simprocAttr]) | refine ftS (by kernel_rfl) ?_ | refine And.intro (by omega) ?_)
    refine aops_fn (hY) (hidB rfl) rfl ?_
    repeat (first | (refine aops_fnX rfl ?_ ?_; focus (simp (maxSteps := 4000000) only [sks, pI, tvs, simprocAttr]; done)) | (simp (maxSteps := 4000000) only [pI, tvs, simprocAttr]) | refine ftS (by kernel_rfl) ?_ | refine And.intro (by omega) ?_)
    all_goals (first | rfl | trivial | skip)
  · have ka : a < o.length := by rw [show Bt.tops 9 (o.length : Int) = ((o.length : Int), (o.length : Int)) from rfl] at h2; simp only at h2; omega
    have kb : b < o.length := by rw [show Bt.tops 9 (o.length : Int) = ((o.length : Int), (o.length : Int)) from rfl] at h4; simp only at h4; omega
    have e1 := row_at ka
    have e2 := row_at kb
    rw [show Bt.partVal m ⟨9, a, b⟩ o = Bt.yes (o.getD a 0 == o.getD b 0) from rfl]
    generalize o.getD a 0 = va at e1
    generalize o.getD b 0 = vb at e2
    have hY : FnOk E.P 124 [.bool (va == vb)] (pI (Bt.yes (va == vb))) true := ioneIf_ok
    refine fn_ok mixed Tryz.func98 rfl (by kernel_rfl) _ Tryz.results98 _ Tryz.ntmps98 (by simp) (by kernel_rfl) ?_
    repeat (first | (refine aops_fnX rfl ?_ ?_; focus (simp (maxSteps := 4000000) only [sks, Int.reduceBEq, e1, e2, pPt, pMc, pInts, pI, tvl, simprocAttr]; done)) | (simp (maxSteps := 4000000) only [Int.reduceBEq, e1, e2, pPt, pMc, pInts, pI, tvl, simprocAttr]) | refine ftS (by kernel_rfl) ?_ | refine And.intro (by omega) ?_)
    refine aops_fn (hY) (hidB rfl) rfl ?_
    repeat (first | (refine aops_fnX rfl ?_ ?_; focus (simp (maxSteps := 4000000) only [sks, pI, tvs, simprocAttr]; done)) | (simp (maxSteps := 4000000) only [pI, tvs, simprocAttr]) | refine ftS (by kernel_rfl) ?_ | refine And.intro (by omega) ?_)
    all_goals (first | rfl | trivial | skip)
  · have ka : a < o.length := by rw [show Bt.tops 10 (o.length : Int) = ((o.length : Int), (o.length : Int)) from rfl] at h2; simp only at h2; omega
    have kb : b < o.length := by rw [show Bt.tops 10 (o.length : Int) = ((o.length : Int), (o.length : Int)) from rfl] at h4; simp only at h4; omega
    have e1 := row_at ka
    have e2 := row_at kb
    rw [show Bt.partVal m ⟨10, a, b⟩ o = Bt.yes (o.getD a 0 != 0 && o.getD b 0 != 0) from rfl]
    generalize o.getD a 0 = va at e1
    generalize o.getD b 0 = vb at e2
    have hY : FnOk E.P 124 [.bool (va != 0 && vb != 0)] (pI (Bt.yes (va != 0 && vb != 0))) true := ioneIf_ok
    cases c1 : (va != 0)
    · simp only [c1, Bool.false_and] at hY ⊢
      refine fn_ok mixed Tryz.func98 rfl (by kernel_rfl) _ Tryz.results98 _ Tryz.ntmps98 (by simp) (by kernel_rfl) ?_
      repeat (first | (refine aops_fnX rfl ?_ ?_; focus (simp (maxSteps := 4000000) only [sks, Int.reduceBEq, e1, e2, c1, pPt, pMc, pInts, pI, tvl, simprocAttr]; done)) | (simp (maxSteps := 4000000) only [Int.reduceBEq, e1, e2, c1, pPt, pMc, pInts, pI, tvl, simprocAttr]) | refine ftS (by kernel_rfl) ?_ | refine And.intro (by omega) ?_)
      refine aops_fn (hY) (hidB rfl) rfl ?_
      repeat (first | (refine aops_fnX rfl ?_ ?_; focus (simp (maxSteps := 4000000) only [sks, pI, tvs, simprocAttr]; done)) | (simp (maxSteps := 4000000) only [pI, tvs, simprocAttr]) | refine ftS (by kernel_rfl) ?_ | refine And.intro (by omega) ?_)
      all_goals (first | rfl | trivial | skip)
    · simp only [c1, Bool.true_and] at hY ⊢
      refine fn_ok mixed Tryz.func98 rfl (by kernel_rfl) _ Tryz.results98 _ Tryz.ntmps98 (by simp) (by kernel_rfl) ?_
      repeat (first | (refine aops_fnX rfl ?_ ?_; focus (simp (maxSteps := 4000000) only [sks, Int.reduceBEq, e1, e2, c1, pPt, pMc, pInts, pI, tvl, simprocAttr]; done)) | (simp (maxSteps := 4000000) only [Int.reduceBEq, e1, e2, c1, pPt, pMc, pInts, pI, tvl, simprocAttr]) | refine ftS (by kernel_rfl) ?_ | refine And.intro (by omega) ?_)
      refine aops_fn (hY) (hidB rfl) rfl ?_
      repeat (first | (refine aops_fnX rfl ?_ ?_; focus (simp (maxSteps := 4000000) only [sks, pI, tvs, simprocAttr]; done)) | (simp (maxSteps := 4000000) only [pI, tvs, simprocAttr]) | refine ftS (by kernel_rfl) ?_ | refine And.intro (by omega) ?_)
      all_goals (first | rfl | trivial | skip)
  · have ka : a < o.length := by rw [show Bt.tops 11 (o.length : Int) = ((o.length : Int), 1) from rfl] at h2; simp only at h2; omega
    have e1 := row_at ka
    rw [show Bt.partVal m ⟨11, a, b⟩ o = Bt.yes (o.getD a 0 == 0) from rfl]
    generalize o.getD a 0 = va at e1
    have hY : FnOk E.P 124 [.bool (va == 0)] (pI (Bt.yes (va == 0))) true := ioneIf_ok
    refine fn_ok mixed Tryz.func98 rfl (by kernel_rfl) _ Tryz.results98 _ Tryz.ntmps98 (by simp) (by kernel_rfl) ?_
    repeat (first | (refine aops_fnX rfl ?_ ?_; focus (simp (maxSteps := 4000000) only [sks, Int.reduceBEq, e1, pPt, pMc, pInts, pI, tvl, simprocAttr]; done)) | (simp (maxSteps := 4000000) only [Int.reduceBEq, e1, pPt, pMc, pInts, pI, tvl, simprocAttr]) | refine ftS (by kernel_rfl) ?_ | refine And.intro (by omega) ?_)
    refine aops_fn (hY) (hidB rfl) rfl ?_
    repeat (first | (refine aops_fnX rfl ?_ ?_; focus (simp (maxSteps := 4000000) only [sks, pI, tvs, simprocAttr]; done)) | (simp (maxSteps := 4000000) only [pI, tvs, simprocAttr]) | refine ftS (by kernel_rfl) ?_ | refine And.intro (by omega) ?_)
    all_goals (first | rfl | trivial | skip)
  all_goals
    replace hM := hM (by omega)
    rw [hE (by omega)]
    clear hE
    generalize Bt.macNum m _ = v at hM hW ⊢
    refine fn_ok mixed Tryz.func98 rfl (by kernel_rfl) _ Tryz.results98 _ Tryz.ntmps98 (by simp) (by kernel_rfl) ?_
    repeat (first | (refine aops_fnX rfl ?_ ?_; focus (simp (maxSteps := 4000000) only [sks, Int.reduceBEq, pPt, pMc, pInts, pI, tvs, simprocAttr]; done)) | (simp (maxSteps := 4000000) only [Int.reduceBEq, pPt, pMc, pInts, pI, tvs, simprocAttr]) | refine ftS (by kernel_rfl) ?_ | refine And.intro (by omega) ?_)
    refine aops_fn (hM) (hidB rfl) rfl ?_
    repeat (first | (refine aops_fnX rfl ?_ ?_; focus (simp (maxSteps := 4000000) only [sks, pPt, pMc, pInts, pI, tvs, simprocAttr]; done)) | (simp (maxSteps := 4000000) only [pPt, pMc, pInts, pI, tvs, simprocAttr]) | refine ftS (by kernel_rfl) ?_ | refine And.intro (by omega) ?_)
    refine aops_fn (hW) (hidB rfl) rfl ?_
    repeat (first | (refine aops_fnX rfl ?_ ?_; focus (simp (maxSteps := 4000000) only [sks, pI, tvs, simprocAttr]; done)) | (simp (maxSteps := 4000000) only [pI, tvs, simprocAttr]) | refine ftS (by kernel_rfl) ?_ | refine And.intro (by omega) ?_)
    all_goals (first | rfl | trivial | skip)
end Av
end Go.Proofs.YtbkbppllcjcmhaaGreat
