/-
  Conditions, the program's: which parts are an expression, its number, contraries, two made one.
-/
import Derived.Test.YtbkbppllcjcmhaaGreatWhA
set_option linter.unusedSimpArgs false
set_option linter.unusedVariables false
namespace Go.Proofs.YtbkbppllcjcmhaaGreat
open Go.RowKit
namespace Av
set_option maxRecDepth 10000 in
set_option maxHeartbeats 8000000 in
theorem iWhenOk_ok {l : List Bt.Pt} (hl : l.length ≤ 1048576) : FnOk E.P 38 [pPts l] (.bool (Bt.whenOk l)) true := by
  obtain ⟨z, hz⟩ : ∃ z, z = Bt.whenOk l := ⟨_, rfl⟩
  rw [← hz]
  have z1 : 1 ≤ l.length ∧ l.length ≤ 20 ∧ Bt.allTo l l.length → z = true := fun e => hz.trans (Bt.tw_t e)
  have z2 : ¬ (1 ≤ l.length ∧ l.length ≤ 20 ∧ Bt.allTo l l.length) → z = false := fun e => hz.trans (Bt.tw_f e)
  clear hz
  by_cases c0 : l.length < 1
  · have d0 : decide ((l.length : Int) < 1) = true := by rw [decide_eq_true_eq]; omega
    obtain rfl := z2 (fun e => by omega)
    refine fn_ok mixed Tryz.func38 rfl (by kernel_rfl) _ Tryz.results38 _ Tryz.ntmps38 (by simp) (by kernel_rfl) ?_
    repeat (first | (refine aops_fnX rfl ?_ ?_; focus (simp (maxSteps := 4000000) only [sks, d0, pPts, pI, tvl, simprocAttr]; done)) | (simp (maxSteps := 4000000) only [d0, pPts, pI, tvl, simprocAttr]) | refine ftS (by kernel_rfl) ?_ | refine And.intro (by omega) ?_)
    all_goals (first | rfl | trivial | skip)
  have d0 : decide ((l.length : Int) < 1) = false := by rw [decide_eq_false_iff_not]; omega
  by_cases cT : l.length > 20
  · have dT : decide ((l.length : Int) > 20) = true := by rw [decide_eq_true_eq]; omega
    obtain rfl := z2 (fun e => by omega)
    refine fn_ok mixed Tryz.func38 rfl (by kernel_rfl) _ Tryz.results38 _ Tryz.ntmps38 (by simp) (by kernel_rfl) ?_
    repeat (first | (refine aops_fnX rfl ?_ ?_; focus (simp (maxSteps := 4000000) only [sks, d0, dT, pPts, pI, tvl, simprocAttr]; done)) | (simp (maxSteps := 4000000) only [d0, dT, pPts, pI, tvl, simprocAttr]) | refine ftS (by kernel_rfl) ?_ | refine And.intro (by omega) ?_)
    all_goals (first | rfl | trivial | skip)
  have dT : decide ((l.length : Int) > 20) = false := by rw [decide_eq_false_iff_not]; omega
  refine fn_ok mixed Tryz.func38 rfl (by kernel_rfl) _ Tryz.results38 _ Tryz.ntmps38 (by simp) (by kernel_rfl) ?_
  repeat (first | (refine aops_fnX rfl ?_ ?_; focus (simp (maxSteps := 4000000) only [sks, d0, dT, pPts, pI, tvl, simprocAttr]; done)) | (simp (maxSteps := 4000000) only [d0, dT, pPts, pI, tvl, simprocAttr]) | refine ftS (by kernel_rfl) ?_ | refine And.intro (by omega) ?_)
  refine awp_loop (X := Nat) (fun k => [(15, .pv (.lst 75 (l.map pPt))), (16, .pv (.int .i64 l.length)), (17, .pv (.int .i64 k))])
    (fun k => []) (fun k => k ≤ l.length ∧ Bt.allTo l k) (fun k => l.length - k) 100 0 ⟨Nat.zero_le _, Bt.allTo_zero l⟩ (by simp (maxSteps := 4000000) only [pI, tvl, simprocAttr]; try simp) (fun k hk => ?_)
  obtain ⟨hk, hp⟩ := hk
  by_cases c1 : k < l.length
  rotate_left
  · have d1 : decide ((k : Int) < (l.length : Int)) = false := by rw [decide_eq_false_iff_not]; omega
    obtain rfl : k = l.length := by omega
    obtain rfl := z1 ⟨by omega, by omega, hp⟩
    repeat (first | (refine aops_fnX rfl ?_ ?_; focus (simp (maxSteps := 4000000) only [sks, d1, pI, tvl, simprocAttr]; done)) | (simp (maxSteps := 4000000) only [d1, pI, tvl, simprocAttr]) | refine ftS (by kernel_rfl) ?_ | refine And.intro (by omega) ?_)
    all_goals (first | rfl | trivial | skip)
  have d1 : decide ((k : Int) < (l.length : Int)) = true := by rw [decide_eq_true_eq]; omega
  have e5 : (l.map pPt)[k]? = some (pPt l[k]) := by simp [c1]
  have hT := itops_ok (k := l[k].kind) (i := (k : Int))
  have hA := ifrom_ok (n := l[k].a) (top := (Bt.tops l[k].kind k).1)
  have hB := ifrom_ok (n := l[k].b) (top := (Bt.tops l[k].kind k).2)
  have hn : Bt.partOk l[k] k → Bt.allTo l (k + 1) := fun h => Bt.allTo_succ hp c1 h
  have hx : ¬ Bt.partOk l[k] k → z = false := fun h => z2 (fun e => Bt.allTo_not c1 h e.2.2)
  unfold Bt.partOk at hn hx
  generalize Bt.tops l[k].kind k = tp at *
  generalize l[k] = x at *
  obtain ⟨xk, xa, xb⟩ := x
  obtain ⟨t1, t2⟩ := tp
  simp only at hT hA hB hn hx
  by_cases cA : 0 ≤ xa ∧ xa < t1
  rotate_left
  · rw [decide_eq_false cA] at hA
    obtain rfl := hx (fun e => cA e.1)
    repeat (first | (refine aops_fnX rfl ?_ ?_; focus (simp (maxSteps := 4000000) only [sks, d1, e5, pPt, pI, tvl, simprocAttr]; done)) | (simp (maxSteps := 4000000) only [d1, e5, pPt, pI, tvl, simprocAttr]) | refine ftS (by kernel_rfl) ?_ | refine And.intro (by omega) ?_)
    refine aops_fn (hT) (hidB rfl) rfl ?_
    repeat (first | (refine aops_fnX rfl ?_ ?_; focus (simp (maxSteps := 4000000) only [sks, pPt, pI, tvs, simprocAttr]; done)) | (simp (maxSteps := 4000000) only [pPt, pI, tvs, simprocAttr]) | refine ftS (by kernel_rfl) ?_ | refine And.intro (by omega) ?_)
    refine aops_fn (hA) (hidB rfl) rfl ?_
    repeat (first | (refine aops_fnX rfl ?_ ?_; focus (simp (maxSteps := 4000000) only [sks, pPt, pI, tvs, simprocAttr]; done)) | (simp (maxSteps := 4000000) only [pPt, pI, tvs, simprocAttr]) | refine ftS (by kernel_rfl) ?_ | refine And.intro (by omega) ?_)
    all_goals (first | rfl | trivial | skip)
  rw [decide_eq_true cA] at hA
  by_cases cB : 0 ≤ xb ∧ xb < t2
  rotate_left
  · rw [decide_eq_false cB] at hB
    obtain rfl := hx (fun e => cB e.2)
    repeat (first | (refine aops_fnX rfl ?_ ?_; focus (simp (maxSteps := 4000000) only [sks, d1, e5, pPt, pI, tvl, simprocAttr]; done)) | (simp (maxSteps := 4000000) only [d1, e5, pPt, pI, tvl, simprocAttr]) | refine ftS (by kernel_rfl) ?_ | refine And.intro (by omega) ?_)
    refine aops_fn (hT) (hidB rfl) rfl ?_
    repeat (first | (refine aops_fnX rfl ?_ ?_; focus (simp (maxSteps := 4000000) only [sks, pPt, pI, tvs, simprocAttr]; done)) | (simp (maxSteps := 4000000) only [pPt, pI, tvs, simprocAttr]) | refine ftS (by kernel_rfl) ?_ | refine And.intro (by omega) ?_)
    refine aops_fn (hA) (hidB rfl) rfl ?_
    repeat (first | (refine aops_fnX rfl ?_ ?_; focus (simp (maxSteps := 4000000) only [sks, pPt, pI, tvs, simprocAttr]; done)) | (simp (maxSteps := 4000000) only [pPt, pI, tvs, simprocAttr]) | refine ftS (by kernel_rfl) ?_ | refine And.intro (by omega) ?_)
    refine aops_fnG (hB) (hidB rfl) rfl rfl (by simp (maxSteps := 4000000) only [pPt, pI, tvs, simprocAttr]) ?_
    repeat (first | (refine aops_fnX rfl ?_ ?_; focus (simp (maxSteps := 4000000) only [sks, pPt, pI, tvs, simprocAttr]; done)) | (simp (maxSteps := 4000000) only [pPt, pI, tvs, simprocAttr]) | refine ftS (by kernel_rfl) ?_ | refine And.intro (by omega) ?_)
    all_goals (first | rfl | trivial | skip)
  rw [decide_eq_true cB] at hB
  repeat (first | (refine aops_fnX rfl ?_ ?_; focus (simp (maxSteps := 4000000) only [sks, d1, e5, pPt, pI, tvl, simprocAttr]; done)) | (simp (maxSteps := 4000000) only [d1, e5, pPt, pI, tvl, simprocAttr]) | refine ftS (by kernel_rfl) ?_ | refine And.intro (by omega) ?_)
  refine aops_fn (hT) (hidB rfl) rfl ?_
  repeat (first | (refine aops_fnX rfl ?_ ?_; focus (simp (maxSteps := 4000000) only [sks, pPt, pI, tvs, simprocAttr]; done)) | (simp (maxSteps := 4000000) only [pPt, pI, tvs, simprocAttr]) | refine ftS (by kernel_rfl) ?_ | refine And.intro (by omega) ?_)
  refine aops_fn (hA) (hidB rfl) rfl ?_
  repeat (first | (refine aops_fnX rfl ?_ ?_; focus (simp (maxSteps := 4000000) only [sks, pPt, pI, tvs, simprocAttr]; done)) | (simp (maxSteps := 4000000) only [pPt, pI, tvs, simprocAttr]) | refine ftS (by kernel_rfl) ?_ | refine And.intro (by omega) ?_)
  refine aops_fnG (hB) (hidB rfl) rfl rfl (by simp (maxSteps := 4000000) only [pPt, pI, tvs, simprocAttr]) ?_
  repeat (first | (refine aops_fnX rfl ?_ ?_; focus (simp (maxSteps := 4000000) only [sks, pPt, pI, tvs, simprocAttr]; done)) | (simp (maxSteps := 4000000) only [pPt, pI, tvs, simprocAttr]) | refine ftS (by kernel_rfl) ?_ | refine And.intro (by omega) ?_)
  refine ⟨k + 1, ⟨by omega, hn ⟨cA, cB⟩⟩, by omega, ?_⟩
  simp
def mv (l : List Bt.Pt) (n : Int) (k : Nat) : List (List PV) := ((l.take k).map (Bt.moved n)).map pPt
theorem mv_zero (l : List Bt.Pt) (n : Int) : mv l n 0 = [] := rfl
theorem mv_len {l : List Bt.Pt} {n : Int} {k : Nat} (h : k ≤ l.length) : (mv l n k).length = k := by simp [mv]; omega
theorem mv_succ {l : List Bt.Pt} {n : Int} {k : Nat} (h : k < l.length) : mv l n (k + 1) = mv l n k ++ [pPt (Bt.moved n l[k])] := by
  unfold mv
  rw [List.take_succ_eq_append_getElem h, List.map_append, List.map_append]
  rfl
theorem mv_all (l : List Bt.Pt) (n : Int) : mv l n l.length = (l.map (Bt.moved n)).map pPt := by simp [mv]
set_option maxRecDepth 10000 in
set_option maxHeartbeats 8000000 in
theorem iWhenValue_ok {m : Bt.Mc} {l : List Bt.Pt} (hm : Small m) (hl : l.length ≤ 1048576) : FnOk E.P 70 [.agg (pMc m), pPts l] (pI (Bt.whenValue m l)) true := by
  have hO := iWhenOk_ok hl
  unfold Bt.whenValue
  cases ho : Bt.whenOk l
  · rw [ho] at hO
    rw [if_neg (by simp)]
    refine fn_ok mixed Tryz.func70 rfl (by kernel_rfl) _ Tryz.results70 _ Tryz.ntmps70 (by simp) (by kernel_rfl) ?_
    repeat (first | (refine aops_fnX rfl ?_ ?_; focus (simp (maxSteps := 4000000) only [sks, pMc, pInts, pPts, pI, tvl, simprocAttr]; done)) | (simp (maxSteps := 4000000) only [pMc, pInts, pPts, pI, tvl, simprocAttr]) | refine ftS (by kernel_rfl) ?_ | refine And.intro (by omega) ?_)
    refine aops_fn (hO) (hidB rfl) rfl ?_
    repeat (first | (refine aops_fnX rfl ?_ ?_; focus (simp (maxSteps := 4000000) only [sks, pMc, pInts, pPts, pI, tvl, simprocAttr]; done)) | (simp (maxSteps := 4000000) only [pMc, pInts, pPts, pI, tvl, simprocAttr]) | refine ftS (by kernel_rfl) ?_ | refine And.intro (by omega) ?_)
    all_goals (first | rfl | trivial | skip)
  rw [ho] at hO
  obtain ⟨w1, w2, w3⟩ := Bt.whenOk_facts ho
  rw [if_pos rfl]
  refine fn_ok mixed Tryz.func70 rfl (by kernel_rfl) _ Tryz.results70 _ Tryz.ntmps70 (by simp) (by kernel_rfl) ?_
  repeat (first | (refine aops_fnX rfl ?_ ?_; focus (simp (maxSteps := 4000000) only [sks, pMc, pInts, pPts, pI, tvl, simprocAttr]; done)) | (simp (maxSteps := 4000000) only [pMc, pInts, pPts, pI, tvl, simprocAttr]) | refine ftS (by kernel_rfl) ?_ | refine And.intro (by omega) ?_)
  refine aops_fn (hO) (hidB rfl) rfl ?_
  repeat (first | (refine aops_fnX rfl ?_ ?_; focus (simp (maxSteps := 4000000) only [sks, pMc, pInts, pPts, pI, tvl, simprocAttr]; done)) | (simp (maxSteps := 4000000) only [pMc, pInts, pPts, pI, tvl, simprocAttr]) | refine ftS (by kernel_rfl) ?_ | refine And.intro (by omega) ?_)
  refine awp_loop (X := Nat) (fun k => [(2, .ptr 0 0), (5, .sl 1), (12, .pv (.lst 75 (l.map pPt))), (13, .pv (.int .i64 l.length)), (14, .pv (.int .i64 k))])
    (fun k => [(0, .box [.pv (.lst 115 (m.ths.map pTh)), .pv (.lst 3 (m.cells.map fun x => [.int .i64 x])), .pv (.lst 3 (m.locks.map fun x => [.int .i64 x])), .pv (.lst 3 (m.told.map fun x => [.int .i64 x]))]), (1, .row true 3 ((Bt.vals m l k).map fun x => [.int .i64 x]))])
    (fun k => k ≤ l.length) (fun k => l.length - k) 100 0 (Nat.zero_le _) (by simp (maxSteps := 4000000) only [Bt.vals, List.map_nil, pI, tvl, simprocAttr]; try simp) (fun k hk => ?_)
  have hv := Bt.vals_len m l k
  by_cases c1 : k < l.length
  rotate_left
  · have d1 : decide ((k : Int) < (l.length : Int)) = false := by rw [decide_eq_false_iff_not]; omega
    obtain rfl : k = l.length := by omega
    have x1 : ((l.length : Int) - 1).toNat = l.length - 1 := by omega
    have e5 : ((Bt.vals m l l.length).map fun x => [PV.int .i64 x])[l.length - 1]? = some [.int .i64 ((Bt.vals m l l.length).getD (l.length - 1) 0)] := row_at (by omega)
    repeat (first | (refine aops_fnX rfl ?_ ?_; focus (simp (maxSteps := 4000000) only [sks, d1, hv, x1, e5, pI, tvl, simprocAttr]; done)) | (simp (maxSteps := 4000000) only [d1, hv, x1, e5, pI, tvl, simprocAttr]) | refine ftS (by kernel_rfl) ?_ | refine And.intro (by omega) ?_)
    all_goals (first | rfl | trivial | skip)
  have d1 : decide ((k : Int) < (l.length : Int)) = true := by rw [decide_eq_true_eq]; omega
  have e5 : (l.map pPt)[k]? = some (pPt l[k]) := by simp [c1]
  have hp := w3 k c1 c1
  have hP := ipart_ok (m := m) (x := l[k]) (o := Bt.vals m l k) (by rw [hv]; exact hp) (Bt.vals_in (fun j hj h1 => w3 j hj hj)) (by omega) hm
  have e8 := Bt.vals_succ (m := m) c1
  generalize Bt.partVal m l[k] (Bt.vals m l k) = v at *
  generalize Bt.vals m l k = o at *
  generalize l[k] = x at *
  obtain ⟨xk, xa, xb⟩ := x
  repeat (first | (refine aops_fnX rfl ?_ ?_; focus (simp (maxSteps := 4000000) only [sks, d1, e5, pPt, pI, tvl, simprocAttr]; done)) | (simp (maxSteps := 4000000) only [d1, e5, pPt, pI, tvl, simprocAttr]) | refine ftS (by kernel_rfl) ?_ | refine And.intro (by omega) ?_)
  refine aops_fn (hP) (hidB rfl) rfl ?_
  repeat (first | (refine aops_fnX rfl ?_ ?_; focus (simp (maxSteps := 4000000) only [sks, hv, pMc, pInts, pPt, pI, tvl, simprocAttr]; done)) | (simp (maxSteps := 4000000) only [hv, pMc, pInts, pPt, pI, tvl, simprocAttr]) | refine ftS (by kernel_rfl) ?_ | refine And.intro (by omega) ?_)
  refine ⟨k + 1, by omega, by omega, ?_⟩
  simp [e8]
set_option maxHeartbeats 4000000 in
theorem iHolds_ok {m : Bt.Mc} {l : List Bt.Pt} (hm : Small m) (hl : l.length ≤ 1048576) : FnOk E.P 40 [.agg (pMc m), pPts l] (.bool (Bt.holds m l)) true := by
  have hV := iWhenValue_ok hm hl
  unfold Bt.holds
  generalize Bt.whenValue m l = v at hV
  refine fn_ok mixed Tryz.func40 rfl (by kernel_rfl) _ Tryz.results40 _ Tryz.ntmps40 (by simp) (by kernel_rfl) ?_
  repeat (first | (refine aops_fnX rfl ?_ ?_; focus (simp (maxSteps := 4000000) only [sks, pMc, pInts, pPts, pI, tvl, simprocAttr]; done)) | (simp (maxSteps := 4000000) only [pMc, pInts, pPts, pI, tvl, simprocAttr]) | refine ftS (by kernel_rfl) ?_ | refine And.intro (by omega) ?_)
  refine aops_fn (hV) (hidB rfl) rfl ?_
  repeat (first | (refine aops_fnX rfl ?_ ?_; focus (simp (maxSteps := 4000000) only [sks, pI, tvs, simprocAttr]; done)) | (simp (maxSteps := 4000000) only [pI, tvs, simprocAttr]) | refine ftS (by kernel_rfl) ?_ | refine And.intro (by omega) ?_)
  all_goals (first | rfl | trivial | skip)
end Av
end Go.Proofs.YtbkbppllcjcmhaaGreat
