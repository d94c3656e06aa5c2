/-
  Conditions, the model's: the number of an expression.
-/
import Derived.Test.YtbkbppllcjcmhaaGreatWhO
set_option linter.unusedSimpArgs false
set_option linter.unusedVariables false
namespace Go.Proofs.YtbkbppllcjcmhaaGreat
open Go.RowKit
namespace Av
set_option maxHeartbeats 4000000 in
theorem syes_ok {b : Bool} : FnOk E.P 94 [.bool b] (pI (Bt.yes b)) true := by
  cases b
  all_goals
    refine fn_ok mixed Tryz.func94 rfl (by kernel_rfl) _ Tryz.results94 _ Tryz.ntmps94 (by simp) (by kernel_rfl) ?_
    repeat (first | (refine aops_fnX rfl ?_ ?_; focus (simp (maxSteps := 4000000) only [sks, pI, tvs, simprocAttr]; done)) | (simp (maxSteps := 4000000) only [pI, tvs, simprocAttr]) | refine ftS (by kernel_rfl) ?_ | refine And.intro (by omega) ?_)
    all_goals (first | rfl | trivial | skip)
set_option maxHeartbeats 4000000 in
theorem sin_ok {n : Int} : FnOk E.P 95 [pI n] (pI (Bt.word n)) true := by
  unfold Bt.word
  by_cases c1 : n < 0
  · have d1 : decide (n < 0) = true := by rw [decide_eq_true_eq]; exact c1
    rw [if_neg (by omega)]
    refine fn_ok mixed Tryz.func95 rfl (by kernel_rfl) _ Tryz.results95 _ Tryz.ntmps95 (by simp) (by kernel_rfl) ?_
    repeat (first | (refine aops_fnX rfl ?_ ?_; focus (simp (maxSteps := 4000000) only [sks, d1, pI, tvs, simprocAttr]; done)) | (simp (maxSteps := 4000000) only [d1, pI, tvs, simprocAttr]) | refine ftS (by kernel_rfl) ?_ | refine And.intro (by omega) ?_)
    all_goals (first | rfl | trivial | skip)
  have d1 : decide (n < 0) = false := by rw [decide_eq_false_iff_not]; exact c1
  by_cases c2 : n ≥ 10000
  · have d2 : decide (n ≥ 10000) = true := by rw [decide_eq_true_eq]; exact c2
    rw [if_neg (by omega)]
    refine fn_ok mixed Tryz.func95 rfl (by kernel_rfl) _ Tryz.results95 _ Tryz.ntmps95 (by simp) (by kernel_rfl) ?_
    repeat (first | (refine aops_fnX rfl ?_ ?_; focus (simp (maxSteps := 4000000) only [sks, d1, d2, pI, tvs, simprocAttr]; done)) | (simp (maxSteps := 4000000) only [d1, d2, pI, tvs, simprocAttr]) | refine ftS (by kernel_rfl) ?_ | refine And.intro (by omega) ?_)
    all_goals (first | rfl | trivial | skip)
  have d2 : decide (n ≥ 10000) = false := by rw [decide_eq_false_iff_not]; exact c2
  rw [if_pos (by omega)]
  refine fn_ok mixed Tryz.func95 rfl (by kernel_rfl) _ Tryz.results95 _ Tryz.ntmps95 (by simp) (by kernel_rfl) ?_
  repeat (first | (refine aops_fnX rfl ?_ ?_; focus (simp (maxSteps := 4000000) only [sks, d1, d2, pI, tvs, simprocAttr]; done)) | (simp (maxSteps := 4000000) only [d1, d2, pI, tvs, simprocAttr]) | refine ftS (by kernel_rfl) ?_ | refine And.intro (by omega) ?_)
  all_goals (first | rfl | trivial | skip)
def ofNum (m : Bt.Mc) (x : Bt.Pt) : Int := if x.kind = 0 then x.a else Bt.macNum m x
theorem row_lt {o : List Int} {k : Nat} (h : k < o.length) : (o.map fun x => [PV.int .i64 x])[k]? = some [.int .i64 o[k]] := by simp [h]
set_option maxRecDepth 10000 in
set_option maxHeartbeats 16000000 in
theorem sof_ok {m : Bt.Mc} {x : Bt.Pt} {i : Int} (h : Bt.partOk x i) (hk : x.kind = 0 ∨ x.kind = 1 ∨ x.kind = 2 ∨ x.kind = 3 ∨ x.kind = 4 ∨ x.kind = 5 ∨ x.kind = 6) (hm : Small m) : FnOk E.P 96 [.agg (pMc m), .agg (pPt x)] (pI (ofNum m x)) true := by
  obtain ⟨a, ha⟩ : ∃ a : Nat, x.a = a := ⟨x.a.toNat, by have := h.1.1; omega⟩
  obtain ⟨b, hb⟩ : ∃ b : Nat, x.b = b := ⟨x.b.toNat, by have := h.2.1; omega⟩
  clear h
  obtain ⟨k, a', b'⟩ := x
  simp only at ha hb hk
  subst ha hb
  have hml := hm.ths
  have hcl := hm.cells
  have hto := hm.told
  by_cases c0 : k = 0
  · subst c0
    rw [show ofNum m ⟨0, a, b⟩ = a from rfl]
    refine fn_ok mixed Tryz.func96 rfl (by kernel_rfl) _ Tryz.results96 _ Tryz.ntmps96 (by simp) (by kernel_rfl) ?_
    repeat (first | (refine aops_fnX rfl ?_ ?_; focus (simp (maxSteps := 4000000) only [sks, Int.reduceBEq, pPt, pMc, pInts, pI, tvs, simprocAttr]; done)) | (simp (maxSteps := 4000000) only [Int.reduceBEq, pPt, pMc, pInts, pI, tvs, simprocAttr]) | refine ftS (by kernel_rfl) ?_ | refine And.intro (by omega) ?_)
    all_goals (first | rfl | trivial | skip)
  by_cases c2 : k = 2
  · subst c2
    rw [show ofNum m ⟨2, a, b⟩ = m.cells.getD a 0 from rfl]
    by_cases c3 : a < m.cells.length
    · have d3 : decide ((a : Int) < (m.cells.length : Int)) = true := by rw [decide_eq_true_eq]; omega
      have e5 := row_lt c3
      rw [getD_at c3]
      refine fn_ok mixed Tryz.func96 rfl (by kernel_rfl) _ Tryz.results96 _ Tryz.ntmps96 (by simp) (by kernel_rfl) ?_
      repeat (first | (refine aops_fnX rfl ?_ ?_; focus (simp (maxSteps := 4000000) only [sks, Int.reduceBEq, d3, e5, pPt, pMc, pInts, pI, tvl, simprocAttr]; done)) | (simp (maxSteps := 4000000) only [Int.reduceBEq, d3, e5, pPt, pMc, pInts, pI, tvl, simprocAttr]) | refine ftS (by kernel_rfl) ?_ | refine And.intro (by omega) ?_)
      all_goals (first | rfl | trivial | skip)
    · have d3 : decide ((a : Int) < (m.cells.length : Int)) = false := by rw [decide_eq_false_iff_not]; omega
      rw [show m.cells.getD a 0 = 0 by simp; rw [List.getElem?_eq_none (by omega)]; rfl]
      refine fn_ok mixed Tryz.func96 rfl (by kernel_rfl) _ Tryz.results96 _ Tryz.ntmps96 (by simp) (by kernel_rfl) ?_
      repeat (first | (refine aops_fnX rfl ?_ ?_; focus (simp (maxSteps := 4000000) only [sks, Int.reduceBEq, d3, pPt, pMc, pInts, pI, tvl, simprocAttr]; done)) | (simp (maxSteps := 4000000) only [Int.reduceBEq, d3, pPt, pMc, pInts, pI, tvl, simprocAttr]) | refine ftS (by kernel_rfl) ?_ | refine And.intro (by omega) ?_)
      all_goals (first | rfl | trivial | skip)
  by_cases c6 : k = 6
  · subst c6
    rw [show ofNum m ⟨6, a, b⟩ = m.told.length from rfl]
    refine fn_ok mixed Tryz.func96 rfl (by kernel_rfl) _ Tryz.results96 _ Tryz.ntmps96 (by simp) (by kernel_rfl) ?_
    repeat (first | (refine aops_fnX rfl ?_ ?_; focus (simp (maxSteps := 4000000) only [sks, Int.reduceBEq, pPt, pMc, pInts, pI, tvl, simprocAttr]; done)) | (simp (maxSteps := 4000000) only [Int.reduceBEq, pPt, pMc, pInts, pI, tvl, simprocAttr]) | refine ftS (by kernel_rfl) ?_ | refine And.intro (by omega) ?_)
    all_goals (first | rfl | trivial | skip)
  have d0 : (k == 0) = false := by simpa using c0
  have d2 : (k == 2) = false := by simpa using c2
  have d6 : (k == 6) = false := by simpa using c6
  have e : ofNum m ⟨k, a, b⟩ = Bt.macNum m ⟨k, a, b⟩ := if_neg c0
  rw [e]
  by_cases c1 : a < m.ths.length
  rotate_left
  · have d1 : decide ((a : Int) ≥ (m.ths.length : Int)) = true := by rw [decide_eq_true_eq]; omega
    have e : Bt.macNum m ⟨k, a, b⟩ = 0 := by
      unfold Bt.macNum
      rw [if_neg c2, if_neg c6]
      simp [c1]
    rw [e]
    refine fn_ok mixed Tryz.func96 rfl (by kernel_rfl) _ Tryz.results96 _ Tryz.ntmps96 (by simp) (by kernel_rfl) ?_
    repeat (first | (refine aops_fnX rfl ?_ ?_; focus (simp (maxSteps := 4000000) only [sks, Int.reduceBEq, d0, d1, d2, d6, pPt, pMc, pInts, pI, tvl, simprocAttr]; done)) | (simp (maxSteps := 4000000) only [Int.reduceBEq, d0, d1, d2, d6, pPt, pMc, pInts, pI, tvl, simprocAttr]) | refine ftS (by kernel_rfl) ?_ | refine And.intro (by omega) ?_)
    all_goals (first | rfl | trivial | skip)
  have d1 : decide ((a : Int) ≥ (m.ths.length : Int)) = false := by rw [decide_eq_false_iff_not]; omega
  have e6 : (m.ths.map pTh)[a]? = some (pTh m.ths[a]) := by simp [c1]
  have e : Bt.macNum m ⟨k, a, b⟩ = Bt.thNum m.ths[a] ⟨k, a, b⟩ := by
    unfold Bt.macNum
    rw [if_neg c2, if_neg c6]
    simp [c1]
  rw [e]
  have hrl := hm.regs a c1
  have hsl := hm.stack a c1
  generalize m.ths[a] = t at *
  clear e hm hcl hto
  have hk : k = 1 ∨ k = 3 ∨ k = 4 ∨ k = 5 := by omega
  rcases hk with rfl | rfl | rfl | rfl
  · rw [show Bt.thNum t ⟨1, a, b⟩ = t.regs.getD b 0 from rfl]
    by_cases c3 : b < t.regs.length
    · have d3 : decide ((b : Int) < (t.regs.length : Int)) = true := by rw [decide_eq_true_eq]; omega
      have e5 := row_lt c3
      rw [getD_at c3]
      refine fn_ok mixed Tryz.func96 rfl (by kernel_rfl) _ Tryz.results96 _ Tryz.ntmps96 (by simp) (by kernel_rfl) ?_
      repeat (first | (refine aops_fnX rfl ?_ ?_; focus (simp (maxSteps := 4000000) only [sks, Int.reduceBEq, d1, d3, e5, e6, pPt, pMc, pTh, pInts, pI, tvl, simprocAttr]; done)) | (simp (maxSteps := 4000000) only [Int.reduceBEq, d1, d3, e5, e6, pPt, pMc, pTh, pInts, pI, tvl, simprocAttr]) | refine ftS (by kernel_rfl) ?_ | refine And.intro (by omega) ?_)
      all_goals (first | rfl | trivial | skip)
    · have d3 : decide ((b : Int) < (t.regs.length : Int)) = false := by rw [decide_eq_false_iff_not]; omega
      rw [show t.regs.getD b 0 = 0 by simp; rw [List.getElem?_eq_none (by omega)]; rfl]
      refine fn_ok mixed Tryz.func96 rfl (by kernel_rfl) _ Tryz.results96 _ Tryz.ntmps96 (by simp) (by kernel_rfl) ?_
      repeat (first | (refine aops_fnX rfl ?_ ?_; focus (simp (maxSteps := 4000000) only [sks, Int.reduceBEq, d1, d3, e6, pPt, pMc, pTh, pInts, pI, tvl, simprocAttr]; done)) | (simp (maxSteps := 4000000) only [Int.reduceBEq, d1, d3, e6, pPt, pMc, pTh, pInts, pI, tvl, simprocAttr]) | refine ftS (by kernel_rfl) ?_ | refine And.intro (by omega) ?_)
      all_goals (first | rfl | trivial | skip)
  all_goals
    refine fn_ok mixed Tryz.func96 rfl (by kernel_rfl) _ Tryz.results96 _ Tryz.ntmps96 (by simp) (by kernel_rfl) ?_
    repeat (first | (refine aops_fnX rfl ?_ ?_; focus (simp (maxSteps := 4000000) only [sks, Int.reduceBEq, d1, e6, pPt, pMc, pTh, pInts, pI, tvl, simprocAttr]; done)) | (simp (maxSteps := 4000000) only [Int.reduceBEq, d1, e6, pPt, pMc, pTh, pInts, pI, tvl, simprocAttr]) | refine ftS (by kernel_rfl) ?_ | refine And.intro (by omega) ?_)
    all_goals (first | rfl | trivial | skip)
theorem word_of {m : Bt.Mc} {x : Bt.Pt} {i : Int} {o : List Int} (h : Bt.partOk x i) (hk : x.kind = 0 ∨ x.kind = 1 ∨ x.kind = 2 ∨ x.kind = 3 ∨ x.kind = 4 ∨ x.kind = 5 ∨ x.kind = 6) : Bt.word (ofNum m x) = Bt.partVal m x o := by
  obtain ⟨k, a, b⟩ := x
  simp only at hk
  rcases hk with rfl | rfl | rfl | rfl | rfl | rfl | rfl
  · have h1 := h.1
    rw [tops_0] at h1
    simp only at h1
    show Bt.word a = a
    unfold Bt.word
    rw [if_pos h1]
  all_goals
    rw [Bt.part_mac (by simp)]
    unfold ofNum
    rw [if_neg (by simp)]
/-- the rounds of the model's loop -/
def wvT (l : List Bt.Pt) (k : Nat) : List (Nat × AV) := [(1, .pv (.lst 75 (l.map pPt))), (2, .ptr 0 0), (5, .sl 1), (6, .pv (.int .i64 k))]
def wvH (m : Bt.Mc) (l : List Bt.Pt) (k : Nat) : List (Nat × Blk) := [(0, .box [.pv (.lst 115 (m.ths.map pTh)), .pv (.lst 3 (m.cells.map fun x => [.int .i64 x])), .pv (.lst 3 (m.locks.map fun x => [.int .i64 x])), .pv (.lst 3 (m.told.map fun x => [.int .i64 x]))]), (1, .row true 3 ((Bt.vals m l k).map fun x => [.int .i64 x]))]
set_option maxRecDepth 10000 in
set_option maxHeartbeats 40000000 in
theorem sWhenValue_ok {m : Bt.Mc} {l : List Bt.Pt} (hm : Small m) (hl : l.length ≤ 1048576) : FnOk E.P 65 [.agg (pMc m), pPts l] (pI (Bt.whenValue m l)) true := by
  have hO := sWhenOk_ok hl
  unfold Bt.whenValue
  cases ho : Bt.whenOk l
  · rw [ho] at hO
    rw [if_neg (by simp)]
    refine fn_ok mixed Tryz.func65 rfl (by kernel_rfl) _ Tryz.results65 _ Tryz.ntmps65 (by simp) (by kernel_rfl) ?_
    repeat (first | (refine aops_fnX rfl ?_ ?_; focus (simp (maxSteps := 4000000) only [sks, pMc, pInts, pPts, pI, tvl, simprocAttr]; done)) | (simp (maxSteps := 4000000) only [pMc, pInts, pPts, pI, tvl, simprocAttr]) | refine ftS (by kernel_rfl) ?_ | refine And.intro (by omega) ?_)
    refine aops_fn (hO) (hidB rfl) rfl ?_
    repeat (first | (refine aops_fnX rfl ?_ ?_; focus (simp (maxSteps := 4000000) only [sks, pMc, pInts, pPts, pI, tvl, simprocAttr]; done)) | (simp (maxSteps := 4000000) only [pMc, pInts, pPts, pI, tvl, simprocAttr]) | refine ftS (by kernel_rfl) ?_ | refine And.intro (by omega) ?_)
    all_goals (first | rfl | trivial | skip)
  rw [ho] at hO
  obtain ⟨w1, w2, w3⟩ := Bt.whenOk_facts ho
  rw [if_pos rfl]
  refine fn_ok mixed Tryz.func65 rfl (by kernel_rfl) _ Tryz.results65 _ Tryz.ntmps65 (by simp) (by kernel_rfl) ?_
  repeat (first | (refine aops_fnX rfl ?_ ?_; focus (simp (maxSteps := 4000000) only [sks, pMc, pInts, pPts, pI, tvl, simprocAttr]; done)) | (simp (maxSteps := 4000000) only [pMc, pInts, pPts, pI, tvl, simprocAttr]) | refine ftS (by kernel_rfl) ?_ | refine And.intro (by omega) ?_)
  refine aops_fn (hO) (hidB rfl) rfl ?_
  repeat (first | (refine aops_fnX rfl ?_ ?_; focus (simp (maxSteps := 4000000) only [sks, pMc, pInts, pPts, pI, tvl, simprocAttr]; done)) | (simp (maxSteps := 4000000) only [pMc, pInts, pPts, pI, tvl, simprocAttr]) | refine ftS (by kernel_rfl) ?_ | refine And.intro (by omega) ?_)
  refine awp_loop (X := Nat) (wvT l) (wvH m l) (fun k => k ≤ l.length) (fun k => l.length - k) 100 0 (Nat.zero_le _) (by simp (maxSteps := 4000000) only [wvT, wvH, Bt.vals, List.map_nil, pI, tvl, simprocAttr]; try simp) (fun k hk => ?_)
  have hv := Bt.vals_len m l k
  by_cases c1 : k < l.length
  rotate_left
  · have d1 : decide ((k : Int) < (l.length : Int)) = false := by rw [decide_eq_false_iff_not]; omega
    obtain rfl : k = l.length := by omega
    have x1 : ((l.length : Int) - 1).toNat = l.length - 1 := by omega
    have e5 : ((Bt.vals m l l.length).map fun x => [PV.int .i64 x])[l.length - 1]? = some [.int .i64 ((Bt.vals m l l.length).getD (l.length - 1) 0)] := row_at (by omega)
    simp only [mkS, wvT, wvH]
    repeat (first | (refine aops_fnX rfl ?_ ?_; focus (simp (maxSteps := 4000000) only [sks, d1, hv, x1, e5, pI, tvl, simprocAttr]; done)) | (simp (maxSteps := 4000000) only [d1, hv, x1, e5, pI, tvl, simprocAttr]) | refine ftS (by kernel_rfl) ?_ | refine And.intro (by omega) ?_)
    all_goals (first | rfl | trivial | skip)
  have d1 : decide ((k : Int) < (l.length : Int)) = true := by rw [decide_eq_true_eq]; omega
  have e5 : (l.map pPt)[k]? = some (pPt l[k]) := by simp [c1]
  have hp := w3 k c1 c1
  have e8 := Bt.vals_succ (m := m) c1
  have ho2 := Bt.vals_in (m := m) (fun j hj h1 => w3 j hj hj : Bt.allTo l k)
  have hF : (l[k].kind = 0 ∨ l[k].kind = 1 ∨ l[k].kind = 2 ∨ l[k].kind = 3 ∨ l[k].kind = 4 ∨ l[k].kind = 5 ∨ l[k].kind = 6) → FnOk E.P 96 [.agg (pMc m), .agg (pPt l[k])] (pI (ofNum m l[k])) true := fun hk => sof_ok hp hk hm
  have hI := sin_ok (n := ofNum m l[k])
  have hW : (l[k].kind = 0 ∨ l[k].kind = 1 ∨ l[k].kind = 2 ∨ l[k].kind = 3 ∨ l[k].kind = 4 ∨ l[k].kind = 5 ∨ l[k].kind = 6) → Bt.word (ofNum m l[k]) = Bt.partVal m l[k] (Bt.vals m l k) := fun hk => word_of hp hk
  simp only [mkS, wvT, wvH]
  generalize Bt.vals m l k = o at *
  have hg : ∀ j : Nat, j < o.length → 0 ≤ o.getD j 0 ∧ o.getD j 0 < 10000 := fun j hj => by rw [getD_at hj]; exact ho2 _ (List.getElem_mem hj)
  generalize l[k] = x at *
  obtain ⟨⟨h1, h2⟩, h3, h4⟩ := hp
  obtain ⟨kd, a', b'⟩ := x
  simp only at h1 h2 h3 h4 hF hI hW
  obtain ⟨a, rfl⟩ : ∃ a : Nat, a' = a := ⟨a'.toNat, by omega⟩
  obtain ⟨b, rfl⟩ : ∃ b : Nat, b' = b := ⟨b'.toNat, by omega⟩
  rcases Bt.kinds kd with hk2 | hk2
  rotate_left
  · rw [Bt.tops_none _ hk2] at h2
    simp only at h2
    omega
  by_cases c7 : kd = 7 ∨ kd = 8 ∨ kd = 9 ∨ kd = 10
  · have ht : Bt.tops kd (k : Int) = ((k : Int), (k : Int)) := by rcases c7 with rfl | rfl | rfl | rfl <;> rfl
    rw [ht] at h2 h4
    simp only at h2 h4
    have ka : a < o.length := by omega
    have kb : b < o.length := by omega
    have e1 := row_at ka
    have e2 := row_at kb
    have g1 := hg a ka
    have g2 := hg b kb
    obtain ⟨va, hva⟩ : ∃ va, o.getD a 0 = va := ⟨_, rfl⟩
    obtain ⟨vb, hvb⟩ : ∃ vb, o.getD b 0 = vb := ⟨_, rfl⟩
    rw [hva] at e1 g1
    rw [hvb] at e2 g2
    clear hF hI hW hg hk2
    rcases c7 with rfl | rfl | rfl | rfl
    · rw [show Bt.partVal m ⟨7, a, b⟩ o = (o.getD a 0 + o.getD b 0).tmod 10000 from rfl, hva, hvb] at e8
      repeat (first | (refine aops_fnX rfl ?_ ?_; focus (simp (maxSteps := 4000000) only [sks, d1, e5, e1, e2, hv, Int.reduceBEq, pPt, pI, tvl, simprocAttr]; done)) | (simp (maxSteps := 4000000) only [d1, e5, e1, e2, hv, Int.reduceBEq, pPt, pI, tvl, simprocAttr]) | refine ftS (by kernel_rfl) ?_ | refine And.intro (by omega) ?_)
      refine ⟨k + 1, by omega, by omega, ?_⟩
      simp (maxSteps := 4000000) only [wvT, wvH, e8, pI, tvl, simprocAttr]
      simp
    · have hY := syes_ok (b := decide (va < vb))
      rw [show Bt.partVal m ⟨8, a, b⟩ o = Bt.yes (decide (o.getD a 0 < o.getD b 0)) from rfl, hva, hvb] at e8
      repeat (first | (refine aops_fnX rfl ?_ ?_; focus (simp (maxSteps := 4000000) only [sks, d1, e5, e1, e2, hv, Int.reduceBEq, pPt, pI, tvl, simprocAttr]; done)) | (simp (maxSteps := 4000000) only [d1, e5, e1, e2, hv, Int.reduceBEq, pPt, pI, tvl, simprocAttr]) | refine ftS (by kernel_rfl) ?_ | refine And.intro (by omega) ?_)
      refine aops_fn (hY) (hidB rfl) rfl ?_
      repeat (first | (refine aops_fnX rfl ?_ ?_; focus (simp (maxSteps := 4000000) only [sks, hv, pI, tvl, simprocAttr]; done)) | (simp (maxSteps := 4000000) only [hv, pI, tvl, simprocAttr]) | refine ftS (by kernel_rfl) ?_ | refine And.intro (by omega) ?_)
      refine ⟨k + 1, by omega, by omega, ?_⟩
      simp (maxSteps := 4000000) only [wvT, wvH, e8, pI, tvl, simprocAttr]
      simp
    · have hY := syes_ok (b := va == vb)
      rw [show Bt.partVal m ⟨9, a, b⟩ o = Bt.yes (o.getD a 0 == o.getD b 0) from rfl, hva, hvb] at e8
      repeat (first | (refine aops_fnX rfl ?_ ?_; focus (simp (maxSteps := 4000000) only [sks, d1, e5, e1, e2, hv, Int.reduceBEq, pPt, pI, tvl, simprocAttr]; done)) | (simp (maxSteps := 4000000) only [d1, e5, e1, e2, hv, Int.reduceBEq, pPt, pI, tvl, simprocAttr]) | refine ftS (by kernel_rfl) ?_ | refine And.intro (by omega) ?_)
      refine aops_fn (hY) (hidB rfl) rfl ?_
      repeat (first | (refine aops_fnX rfl ?_ ?_; focus (simp (maxSteps := 4000000) only [sks, hv, pI, tvl, simprocAttr]; done)) | (simp (maxSteps := 4000000) only [hv, pI, tvl, simprocAttr]) | refine ftS (by kernel_rfl) ?_ | refine And.intro (by omega) ?_)
      refine ⟨k + 1, by omega, by omega, ?_⟩
      simp (maxSteps := 4000000) only [wvT, wvH, e8, pI, tvl, simprocAttr]
      simp
    · have hY := syes_ok (b := (va != 0 && vb != 0))
      rw [show Bt.partVal m ⟨10, a, b⟩ o = Bt.yes (o.getD a 0 != 0 && o.getD b 0 != 0) from rfl, hva, hvb] at e8
      cases cc : (va != 0)
      all_goals
        simp only [cc, Bool.false_and, Bool.true_and] at hY e8
        repeat (first | (refine aops_fnX rfl ?_ ?_; focus (simp (maxSteps := 4000000) only [sks, d1, e5, e1, e2, hv, cc, Int.reduceBEq, pPt, pI, tvl, simprocAttr]; done)) | (simp (maxSteps := 4000000) only [d1, e5, e1, e2, hv, cc, Int.reduceBEq, pPt, pI, tvl, simprocAttr]) | refine ftS (by kernel_rfl) ?_ | refine And.intro (by omega) ?_)
        refine aops_fn (hY) (hidB rfl) rfl ?_
        repeat (first | (refine aops_fnX rfl ?_ ?_; focus (simp (maxSteps := 4000000) only [sks, hv, pI, tvl, simprocAttr]; done)) | (simp (maxSteps := 4000000) only [hv, pI, tvl, simprocAttr]) | refine ftS (by kernel_rfl) ?_ | refine And.intro (by omega) ?_)
        refine ⟨k + 1, by omega, by omega, ?_⟩
        simp (maxSteps := 4000000) only [wvT, wvH, e8, pI, tvl, simprocAttr]
        simp
  by_cases c11 : kd = 11
  · subst c11
    rw [tops_11] at h2
    simp only at h2
    have ka : a < o.length := by omega
    have e1 := row_at ka
    obtain ⟨va, hva⟩ : ∃ va, o.getD a 0 = va := ⟨_, rfl⟩
    rw [hva] at e1
    have hY := syes_ok (b := va == 0)
    rw [show Bt.partVal m ⟨11, a, b⟩ o = Bt.yes (o.getD a 0 == 0) from rfl, hva] at e8
    repeat (first | (refine aops_fnX rfl ?_ ?_; focus (simp (maxSteps := 4000000) only [sks, d1, e5, e1, hv, Int.reduceBEq, pPt, pI, tvl, simprocAttr]; done)) | (simp (maxSteps := 4000000) only [d1, e5, e1, hv, Int.reduceBEq, pPt, pI, tvl, simprocAttr]) | refine ftS (by kernel_rfl) ?_ | refine And.intro (by omega) ?_)
    refine aops_fn (hY) (hidB rfl) rfl ?_
    repeat (first | (refine aops_fnX rfl ?_ ?_; focus (simp (maxSteps := 4000000) only [sks, hv, pI, tvl, simprocAttr]; done)) | (simp (maxSteps := 4000000) only [hv, pI, tvl, simprocAttr]) | refine ftS (by kernel_rfl) ?_ | refine And.intro (by omega) ?_)
    refine ⟨k + 1, by omega, by omega, ?_⟩
    simp (maxSteps := 4000000) only [wvT, wvH, e8, pI, tvl, simprocAttr]
    simp
  have hk3 : kd = 0 ∨ kd = 1 ∨ kd = 2 ∨ kd = 3 ∨ kd = 4 ∨ kd = 5 ∨ kd = 6 := by omega
  have hF := hF hk3
  rw [← hW hk3] at e8
  generalize ofNum m ⟨kd, a, b⟩ = u at *
  generalize Bt.word u = v at *
  have q7 : (kd == 7) = false := by rw [beq_eq_false_iff_ne]; omega
  have q8 : (kd == 8) = false := by rw [beq_eq_false_iff_ne]; omega
  have q9 : (kd == 9) = false := by rw [beq_eq_false_iff_ne]; omega
  have q10 : (kd == 10) = false := by rw [beq_eq_false_iff_ne]; omega
  have q11 : (kd == 11) = false := by rw [beq_eq_false_iff_ne]; omega
  repeat (first | (refine aops_fnX rfl ?_ ?_; focus (simp (maxSteps := 4000000) only [sks, d1, e5, hv, q7, q8, q9, q10, q11, pPt, pI, tvl, simprocAttr]; done)) | (simp (maxSteps := 4000000) only [d1, e5, hv, q7, q8, q9, q10, q11, pPt, pI, tvl, simprocAttr]) | refine ftS (by kernel_rfl) ?_ | refine And.intro (by omega) ?_)
  refine aops_fn (hF) (hidB rfl) rfl ?_
  repeat (first | (refine aops_fnX rfl ?_ ?_; focus (simp (maxSteps := 4000000) only [sks, pMc, pInts, pPt, pI, tvs, simprocAttr]; done)) | (simp (maxSteps := 4000000) only [pMc, pInts, pPt, pI, tvs, simprocAttr]) | refine ftS (by kernel_rfl) ?_ | refine And.intro (by omega) ?_)
  refine aops_fn (hI) (hidB rfl) rfl ?_
  repeat (first | (refine aops_fnX rfl ?_ ?_; focus (simp (maxSteps := 4000000) only [sks, hv, pI, tvl, simprocAttr]; done)) | (simp (maxSteps := 4000000) only [hv, pI, tvl, simprocAttr]) | refine ftS (by kernel_rfl) ?_ | refine And.intro (by omega) ?_)
  refine ⟨k + 1, by omega, by omega, ?_⟩
  simp (maxSteps := 4000000) only [wvT, wvH, e8, pI, tvl, simprocAttr]
  simp
set_option maxHeartbeats 4000000 in
theorem sHolds_ok {m : Bt.Mc} {l : List Bt.Pt} (hm : Small m) (hl : l.length ≤ 1048576) : FnOk E.P 34 [.agg (pMc m), pPts l] (.bool (Bt.holds m l)) true := by
  have hV := sWhenValue_ok hm hl
  unfold Bt.holds
  generalize Bt.whenValue m l = v at hV
  refine fn_ok mixed Tryz.func34 rfl (by kernel_rfl) _ Tryz.results34 _ Tryz.ntmps34 (by simp) (by kernel_rfl) ?_
  repeat (first | (refine aops_fnX rfl ?_ ?_; focus (simp (maxSteps := 4000000) only [sks, pMc, pInts, pPts, pI, tvl, simprocAttr]; done)) | (simp (maxSteps := 4000000) only [pMc, pInts, pPts, pI, tvl, simprocAttr]) | refine ftS (by kernel_rfl) ?_ | refine And.intro (by omega) ?_)
  refine aops_fn (hV) (hidB rfl) rfl ?_
  repeat (first | (refine aops_fnX rfl ?_ ?_; focus (simp (maxSteps := 4000000) only [sks, pI, tvs, simprocAttr]; done)) | (simp (maxSteps := 4000000) only [pI, tvs, simprocAttr]) | refine ftS (by kernel_rfl) ?_ | refine And.intro (by omega) ?_)
  all_goals (first | rfl | trivial | skip)
end Av
end Go.Proofs.YtbkbppllcjcmhaaGreat
