/-
  Conditions, the program's: which parts are an expression, its number, contraries, two made one.
-/
import Derived.Test.YtbkbppllcjcmhaaWhA
set_option linter.unusedSimpArgs false
set_option linter.unusedVariables false
namespace Go.Proofs.Ytbkbppllcjcmhaa
open Go.RowKit
namespace Av
set_option maxRecDepth 10000 in
set_option maxHeartbeats 8000000 in
theorem iWhenOk_ok {l : List Bt.Pt} (hl : l.length ≤ 1048576) : FnOk E.P 14 [pPts l] (.bool (Bt.whenOk l)) true := by
  obtain ⟨z, hz⟩ : ∃ z, z = Bt.whenOk l := ⟨_, rfl⟩
  rw [← hz]
  have z1 : 1 ≤ l.length ∧ l.length ≤ 20 ∧ Bt.allTo l l.length → z = true := fun e => hz.trans (Bt.tw_t e)
  have z2 : ¬ (1 ≤ l.length ∧ l.length ≤ 20 ∧ Bt.allTo l l.length) → z = false := fun e => hz.trans (Bt.tw_f e)
  clear hz
  by_cases c0 : l.length < 1
  · have d0 : decide ((l.length : Int) < 1) = true := by rw [decide_eq_true_eq]; omega
    obtain rfl := z2 (fun e => by omega)
    refine fn_ok mixed Try.func14 rfl (by kernel_rfl) _ Try.results14 _ Try.ntmps14 (by simp) (by kernel_rfl) ?_
    repeat (first | (refine aops_fnX rfl ?_ ?_; focus (simp (maxSteps := 4000000) only [sks, d0, pPts, pI, tvl, simprocAttr]; done)) | (simp (maxSteps := 4000000) only [d0, pPts, pI, tvl, simprocAttr]) | refine ftS (by kernel_rfl) ?_ | refine And.intro (by omega) ?_)
    all_goals (first | rfl | trivial | skip)
  have d0 : decide ((l.length : Int) < 1) = false := by rw [decide_eq_false_iff_not]; omega
  by_cases cT : l.length > 20
  · have dT : decide ((l.length : Int) > 20) = true := by rw [decide_eq_true_eq]; omega
    obtain rfl := z2 (fun e => by omega)
    refine fn_ok mixed Try.func14 rfl (by kernel_rfl) _ Try.results14 _ Try.ntmps14 (by simp) (by kernel_rfl) ?_
    repeat (first | (refine aops_fnX rfl ?_ ?_; focus (simp (maxSteps := 4000000) only [sks, d0, dT, pPts, pI, tvl, simprocAttr]; done)) | (simp (maxSteps := 4000000) only [d0, dT, pPts, pI, tvl, simprocAttr]) | refine ftS (by kernel_rfl) ?_ | refine And.intro (by omega) ?_)
    all_goals (first | rfl | trivial | skip)
  have dT : decide ((l.length : Int) > 20) = false := by rw [decide_eq_false_iff_not]; omega
  refine fn_ok mixed Try.func14 rfl (by kernel_rfl) _ Try.results14 _ Try.ntmps14 (by simp) (by kernel_rfl) ?_
  repeat (first | (refine aops_fnX rfl ?_ ?_; focus (simp (maxSteps := 4000000) only [sks, d0, dT, pPts, pI, tvl, simprocAttr]; done)) | (simp (maxSteps := 4000000) only [d0, dT, pPts, pI, tvl, simprocAttr]) | refine ftS (by kernel_rfl) ?_ | refine And.intro (by omega) ?_)
  refine awp_loop (X := Nat) (fun k => [(15, .pv (.lst 83 (l.map pPt))), (16, .pv (.int .i64 l.length)), (17, .pv (.int .i64 k))])
    (fun k => []) (fun k => k ≤ l.length ∧ Bt.allTo l k) (fun k => l.length - k) 100 0 ⟨Nat.zero_le _, Bt.allTo_zero l⟩ (by simp (maxSteps := 4000000) only [pI, tvl, simprocAttr]; try simp) (fun k hk => ?_)
  obtain ⟨hk, hp⟩ := hk
  by_cases c1 : k < l.length
  rotate_left
  · have d1 : decide ((k : Int) < (l.length : Int)) = false := by rw [decide_eq_false_iff_not]; omega
    obtain rfl : k = l.length := by omega
    obtain rfl := z1 ⟨by omega, by omega, hp⟩
    repeat (first | (refine aops_fnX rfl ?_ ?_; focus (simp (maxSteps := 4000000) only [sks, d1, pI, tvl, simprocAttr]; done)) | (simp (maxSteps := 4000000) only [d1, pI, tvl, simprocAttr]) | refine ftS (by kernel_rfl) ?_ | refine And.intro (by omega) ?_)
    all_goals (first | rfl | trivial | skip)
  have d1 : decide ((k : Int) < (l.length : Int)) = true := by rw [decide_eq_true_eq]; omega
  have e5 : (l.map pPt)[k]? = some (pPt l[k]) := by simp [c1]
  have hT := itops_ok (k := l[k].kind) (i := (k : Int))
  have hA := ifrom_ok (n := l[k].a) (top := (Bt.tops l[k].kind k).1)
  have hB := ifrom_ok (n := l[k].b) (top := (Bt.tops l[k].kind k).2)
  have hn : Bt.partOk l[k] k → Bt.allTo l (k + 1) := fun h => Bt.allTo_succ hp c1 h
  have hx : ¬ Bt.partOk l[k] k → z = false := fun h => z2 (fun e => Bt.allTo_not c1 h e.2.2)
  unfold Bt.partOk at hn hx
  generalize Bt.tops l[k].kind k = tp at *
  generalize l[k] = x at *
  obtain ⟨xk, xa, xb⟩ := x
  obtain ⟨t1, t2⟩ := tp
  simp only at hT hA hB hn hx
  by_cases cA : 0 ≤ xa ∧ xa < t1
  rotate_left
  · rw [decide_eq_false cA] at hA
    obtain rfl := hx (fun e => cA e.1)
    repeat (first | (refine aops_fnX rfl ?_ ?_; focus (simp (maxSteps := 4000000) only [sks, d1, e5, pPt, pI, tvl, simprocAttr]; done)) | (simp (maxSteps := 4000000) only [d1, e5, pPt, pI, tvl, simprocAttr]) | refine ftS (by kernel_rfl) ?_ | refine And.intro (by omega) ?_)
    refine aops_fn (hT) (hidB rfl) rfl ?_
    repeat (first | (refine aops_fnX rfl ?_ ?_; focus (simp (maxSteps := 4000000) only [sks, pPt, pI, tvs, simprocAttr]; done)) | (simp (maxSteps := 4000000) only [pPt, pI, tvs, simprocAttr]) | refine ftS (by kernel_rfl) ?_ | refine And.intro (by omega) ?_)
    refine aops_fn (hA) (hidB rfl) rfl ?_
    repeat (first | (refine aops_fnX rfl ?_ ?_; focus (simp (maxSteps := 4000000) only [sks, pPt, pI, tvs, simprocAttr]; done)) | (simp (maxSteps := 4000000) only [pPt, pI, tvs, simprocAttr]) | refine ftS (by kernel_rfl) ?_ | refine And.intro (by omega) ?_)
    all_goals (first | rfl | trivial | skip)
  rw [decide_eq_true cA] at hA
  by_cases cB : 0 ≤ xb ∧ xb < t2
  rotate_left
  · rw [decide_eq_false cB] at hB
    obtain rfl := hx (fun e => cB e.2)
    repeat (first | (refine aops_fnX rfl ?_ ?_; focus (simp (maxSteps := 4000000) only [sks, d1, e5, pPt, pI, tvl, simprocAttr]; done)) | (simp (maxSteps := 4000000) only [d1, e5, pPt, pI, tvl, simprocAttr]) | refine ftS (by kernel_rfl) ?_ | refine And.intro (by omega) ?_)
    refine aops_fn (hT) (hidB rfl) rfl ?_
    repeat (first | (refine aops_fnX rfl ?_ ?_; focus (simp (maxSteps := 4000000) only [sks, pPt, pI, tvs, simprocAttr]; done)) | (simp (maxSteps := 4000000) only [pPt, pI, tvs, simprocAttr]) | refine ftS (by kernel_rfl) ?_ | refine And.intro (by omega) ?_)
    refine aops_fn (hA) (hidB rfl) rfl ?_
    repeat (first | (refine aops_fnX rfl ?_ ?_; focus (simp (maxSteps := 4000000) only [sks, pPt, pI, tvs, simprocAttr]; done)) | (simp (maxSteps := 4000000) only [pPt, pI, tvs, simprocAttr]) | refine ftS (by kernel_rfl) ?_ | refine And.intro (by omega) ?_)
    refine aops_fnG (hB) (hidB rfl) rfl rfl (by simp (maxSteps := 4000000) only [pPt, pI, tvs, simprocAttr]) ?_
    repeat (first | (refine aops_fnX rfl ?_ ?_; focus (simp (maxSteps := 4000000) only [sks, pPt, pI, tvs, simprocAttr]; done)) | (simp (maxSteps := 4000000) only [pPt, pI, tvs, simprocAttr]) | refine ftS (by kernel_rfl) ?_ | refine And.intro (by omega) ?_)
    all_goals (first | rfl | trivial | skip)
  rw [decide_eq_true cB] at hB
  repeat (first | (refine aops_fnX rfl ?_ ?_; focus (simp (maxSteps := 4000000) only [sks, d1, e5, pPt, pI, tvl, simprocAttr]; done)) | (simp (maxSteps := 4000000) only [d1, e5, pPt, pI, tvl, simprocAttr]) | refine ftS (by kernel_rfl) ?_ | refine And.intro (by omega) ?_)
  refine aops_fn (hT) (hidB rfl) rfl ?_
  repeat (first | (refine aops_fnX rfl ?_ ?_; focus (simp (maxSteps := 4000000) only [sks, pPt, pI, tvs, simprocAttr]; done)) | (simp (maxSteps := 4000000) only [pPt, pI, tvs, simprocAttr]) | refine ftS (by kernel_rfl) ?_ | refine And.intro (by omega) ?_)
  refine aops_fn (hA) (hidB rfl) rfl ?_
  repeat (first | (refine aops_fnX rfl ?_ ?_; focus (simp (maxSteps := 4000000) only [sks, pPt, pI, tvs, simprocAttr]; done)) | (simp (maxSteps := 4000000) only [pPt, pI, tvs, simprocAttr]) | refine ftS (by kernel_rfl) ?_ | refine And.intro (by omega) ?_)
  refine aops_fnG (hB) (hidB rfl) rfl rfl (by simp (maxSteps := 4000000) only [pPt, pI, tvs, simprocAttr]) ?_
  repeat (first | (refine aops_fnX rfl ?_ ?_; focus (simp (maxSteps := 4000000) only [sks, pPt, pI, tvs, simprocAttr]; done)) | (simp (maxSteps := 4000000) only [pPt, pI, tvs, simprocAttr]) | refine ftS (by kernel_rfl) ?_ | refine And.intro (by omega) ?_)
  refine ⟨k + 1, ⟨by omega, hn ⟨cA, cB⟩⟩, by omega, ?_⟩
  simp
def mv (l : List Bt.Pt) (n : Int) (k : Nat) : List (List PV) := ((l.take k).map (Bt.moved n)).map pPt
theorem mv_zero (l : List Bt.Pt) (n : Int) : mv l n 0 = [] := rfl
theorem mv_len {l : List Bt.Pt} {n : Int} {k : Nat} (h : k ≤ l.length) : (mv l n k).length = k := by simp [mv]; omega
theorem mv_succ {l : List Bt.Pt} {n : Int} {k : Nat} (h : k < l.length) : mv l n (k + 1) = mv l n k ++ [pPt (Bt.moved n l[k])] := by
  unfold mv
  rw [List.take_succ_eq_append_getElem h, List.map_append, List.map_append]
  rfl
theorem mv_all (l : List Bt.Pt) (n : Int) : mv l n l.length = (l.map (Bt.moved n)).map pPt := by simp [mv]
set_option maxRecDepth 10000 in
set_option maxHeartbeats 8000000 in
theorem imoveds_ok {l : List Bt.Pt} {n : Int} (hl : l.length ≤ 20) (ho : Bt.allTo l l.length) (hn0 : 0 ≤ n) (hn : n ≤ 20) : FnOk E.P 55 [pPts l, pI n] (.lst 83 (mv l n l.length)) true := by
  refine fn_ok mixed Try.func55 rfl (by kernel_rfl) _ Try.results55 _ Try.ntmps55 (by simp) (by kernel_rfl) ?_
  repeat (first | (refine aops_fnX rfl ?_ ?_; focus (simp (maxSteps := 4000000) only [sks, pPts, pI, tvl, simprocAttr]; done)) | (simp (maxSteps := 4000000) only [pPts, pI, tvl, simprocAttr]) | refine ftS (by kernel_rfl) ?_ | refine And.intro (by omega) ?_)
  refine awp_loop (X := Nat) (fun k => [(1, .pv (.int .i64 n)), (5, .sl 0), (9, .pv (.lst 83 (l.map pPt))), (10, .pv (.int .i64 l.length)), (11, .pv (.int .i64 k))])
    (fun k => [(0, .row true 83 (mv l n k))]) (fun k => k ≤ l.length) (fun k => l.length - k) 100 0 (Nat.zero_le _) (by simp (maxSteps := 4000000) only [mv_zero, pI, tvl, simprocAttr]; try simp) (fun k hk => ?_)
  by_cases c1 : k < l.length
  rotate_left
  · have d1 : decide ((k : Int) < (l.length : Int)) = false := by rw [decide_eq_false_iff_not]; omega
    obtain rfl : k = l.length := by omega
    repeat (first | (refine aops_fnX rfl ?_ ?_; focus (simp (maxSteps := 4000000) only [sks, d1, pI, tvl, simprocAttr]; done)) | (simp (maxSteps := 4000000) only [d1, pI, tvl, simprocAttr]) | refine ftS (by kernel_rfl) ?_ | refine And.intro (by omega) ?_)
    all_goals (first | rfl | trivial | skip)
  have d1 : decide ((k : Int) < (l.length : Int)) = true := by rw [decide_eq_true_eq]; omega
  have e5 : (l.map pPt)[k]? = some (pPt l[k]) := by simp [c1]
  have hM := imoved_ok (x := l[k]) (n := n) (i := (k : Int)) (ho k c1 c1) (by omega) (by omega) hn0 hn
  have e7 := mv_len (n := n) hk
  have e8 := mv_succ (n := n) c1
  generalize Bt.moved n l[k] = y at *
  generalize l[k] = x at *
  obtain ⟨xk, xa, xb⟩ := x
  obtain ⟨yk, ya, yb⟩ := y
  repeat (first | (refine aops_fnX rfl ?_ ?_; focus (simp (maxSteps := 4000000) only [sks, d1, e5, pPt, pI, tvl, simprocAttr]; done)) | (simp (maxSteps := 4000000) only [d1, e5, pPt, pI, tvl, simprocAttr]) | refine ftS (by kernel_rfl) ?_ | refine And.intro (by omega) ?_)
  refine aops_fn (hM) (hidB rfl) rfl ?_
  repeat (first | (refine aops_fnX rfl ?_ ?_; focus (simp (maxSteps := 4000000) only [sks, e7, pPt, pI, tvl, simprocAttr]; done)) | (simp (maxSteps := 4000000) only [e7, pPt, pI, tvl, simprocAttr]) | refine ftS (by kernel_rfl) ?_ | refine And.intro (by omega) ?_)
  refine ⟨k + 1, by omega, by omega, ?_⟩
  simp [e8, pPt, pI]
set_option maxRecDepth 10000 in
set_option maxHeartbeats 8000000 in
theorem iWhenNot_ok {l : List Bt.Pt} (hl : l.length ≤ 1048576) : FnOk E.P 17 [pPts l] (pPts (Bt.whenNot l)) true := by
  have hO := iWhenOk_ok hl
  unfold Bt.whenNot
  cases ho : Bt.whenOk l
  · rw [ho] at hO
    rw [if_neg (by simp)]
    refine fn_ok mixed Try.func17 rfl (by kernel_rfl) _ Try.results17 _ Try.ntmps17 (by simp) (by kernel_rfl) ?_
    repeat (first | (refine aops_fnX rfl ?_ ?_; focus (simp (maxSteps := 4000000) only [sks, pPts, pI, tvl, simprocAttr]; done)) | (simp (maxSteps := 4000000) only [pPts, pI, tvl, simprocAttr]) | refine ftS (by kernel_rfl) ?_ | refine And.intro (by omega) ?_)
    refine aops_fn (hO) (hidB rfl) rfl ?_
    repeat (first | (refine aops_fnX rfl ?_ ?_; focus (simp (maxSteps := 4000000) only [sks, List.map_nil, pPts, pI, tvl, simprocAttr]; done)) | (simp (maxSteps := 4000000) only [List.map_nil, pPts, pI, tvl, simprocAttr]) | refine ftS (by kernel_rfl) ?_ | refine And.intro (by omega) ?_)
    all_goals (first | rfl | trivial | skip)
  rw [ho] at hO
  obtain ⟨w1, w2, w3⟩ := Bt.whenOk_facts ho
  by_cases c : l.length < 20
  rotate_left
  · have d : decide ((l.length : Int) ≥ 20) = true := by rw [decide_eq_true_eq]; omega
    rw [if_neg (by simp; omega)]
    refine fn_ok mixed Try.func17 rfl (by kernel_rfl) _ Try.results17 _ Try.ntmps17 (by simp) (by kernel_rfl) ?_
    repeat (first | (refine aops_fnX rfl ?_ ?_; focus (simp (maxSteps := 4000000) only [sks, pPts, pI, tvl, simprocAttr]; done)) | (simp (maxSteps := 4000000) only [pPts, pI, tvl, simprocAttr]) | refine ftS (by kernel_rfl) ?_ | refine And.intro (by omega) ?_)
    refine aops_fn (hO) (hidB rfl) rfl ?_
    repeat (first | (refine aops_fnX rfl ?_ ?_; focus (simp (maxSteps := 4000000) only [sks, d, List.map_nil, pPts, pI, tvl, simprocAttr]; done)) | (simp (maxSteps := 4000000) only [d, List.map_nil, pPts, pI, tvl, simprocAttr]) | refine ftS (by kernel_rfl) ?_ | refine And.intro (by omega) ?_)
    all_goals (first | rfl | trivial | skip)
  have d : decide ((l.length : Int) ≥ 20) = false := by rw [decide_eq_false_iff_not]; omega
  have hM := imoveds_ok (n := 0) w2 w3 (by omega) (by omega)
  have e7 := mv_len (n := 0) (Nat.le_refl l.length)
  have e8 : (l ++ [(⟨11, (l.length : Int) - 1, 0⟩ : Bt.Pt)]).map pPt = mv l 0 l.length ++ [[PV.int .i64 11, PV.int .i64 ((l.length : Int) - 1), PV.int .i64 0]] := by
    rw [mv_all, Bt.moved_map_zero w3, List.map_append]
    rfl
  rw [if_pos ⟨rfl, c⟩]
  rw [show pPts (l ++ [(⟨11, (l.length : Int) - 1, 0⟩ : Bt.Pt)]) = .lst 83 (mv l 0 l.length ++ [[PV.int .i64 11, PV.int .i64 ((l.length : Int) - 1), PV.int .i64 0]]) by unfold pPts; rw [e8]]
  generalize mv l 0 l.length = R at *
  refine fn_ok mixed Try.func17 rfl (by kernel_rfl) _ Try.results17 _ Try.ntmps17 (by simp) (by kernel_rfl) ?_
  repeat (first | (refine aops_fnX rfl ?_ ?_; focus (simp (maxSteps := 4000000) only [sks, pPts, pI, tvl, simprocAttr]; done)) | (simp (maxSteps := 4000000) only [pPts, pI, tvl, simprocAttr]) | refine ftS (by kernel_rfl) ?_ | refine And.intro (by omega) ?_)
  refine aops_fn (hO) (hidB rfl) rfl ?_
  repeat (first | (refine aops_fnX rfl ?_ ?_; focus (simp (maxSteps := 4000000) only [sks, d, pPts, pI, tvl, simprocAttr]; done)) | (simp (maxSteps := 4000000) only [d, pPts, pI, tvl, simprocAttr]) | refine ftS (by kernel_rfl) ?_ | refine And.intro (by omega) ?_)
  refine aops_fn (hM) (hidB rfl) rfl ?_
  repeat (first | (refine aops_fnX rfl ?_ ?_; focus (simp (maxSteps := 4000000) only [sks, e7, pPts, pI, tvl, simprocAttr]; done)) | (simp (maxSteps := 4000000) only [e7, pPts, pI, tvl, simprocAttr]) | refine ftS (by kernel_rfl) ?_ | refine And.intro (by omega) ?_)
  all_goals (first | rfl | trivial | skip)
set_option maxRecDepth 10000 in
set_option maxHeartbeats 8000000 in
theorem iWhenBoth_ok {a b : List Bt.Pt} (hl : a.length + b.length ≤ 1048576) : FnOk E.P 21 [pPts a, pPts b] (pPts (Bt.whenBoth a b)) true := by
  have hO := iWhenOk_ok (l := a) (by omega)
  have hP := iWhenOk_ok (l := b) (by omega)
  unfold Bt.whenBoth
  cases ho : Bt.whenOk a
  · rw [ho] at hO
    rw [if_neg (by simp)]
    refine fn_ok mixed Try.func21 rfl (by kernel_rfl) _ Try.results21 _ Try.ntmps21 (by simp) (by kernel_rfl) ?_
    repeat (first | (refine aops_fnX rfl ?_ ?_; focus (simp (maxSteps := 4000000) only [sks, pPts, pI, tvl, simprocAttr]; done)) | (simp (maxSteps := 4000000) only [pPts, pI, tvl, simprocAttr]) | refine ftS (by kernel_rfl) ?_ | refine And.intro (by omega) ?_)
    refine aops_fn (hO) (hidB rfl) rfl ?_
    repeat (first | (refine aops_fnX rfl ?_ ?_; focus (simp (maxSteps := 4000000) only [sks, List.map_nil, pPts, pI, tvl, simprocAttr]; done)) | (simp (maxSteps := 4000000) only [List.map_nil, pPts, pI, tvl, simprocAttr]) | refine ftS (by kernel_rfl) ?_ | refine And.intro (by omega) ?_)
    all_goals (first | rfl | trivial | skip)
  rw [ho] at hO
  cases hp : Bt.whenOk b
  · rw [hp] at hP
    rw [if_neg (by simp)]
    refine fn_ok mixed Try.func21 rfl (by kernel_rfl) _ Try.results21 _ Try.ntmps21 (by simp) (by kernel_rfl) ?_
    repeat (first | (refine aops_fnX rfl ?_ ?_; focus (simp (maxSteps := 4000000) only [sks, pPts, pI, tvl, simprocAttr]; done)) | (simp (maxSteps := 4000000) only [pPts, pI, tvl, simprocAttr]) | refine ftS (by kernel_rfl) ?_ | refine And.intro (by omega) ?_)
    refine aops_fn (hO) (hidB rfl) rfl ?_
    repeat (first | (refine aops_fnX rfl ?_ ?_; focus (simp (maxSteps := 4000000) only [sks, pPts, pI, tvl, simprocAttr]; done)) | (simp (maxSteps := 4000000) only [pPts, pI, tvl, simprocAttr]) | refine ftS (by kernel_rfl) ?_ | refine And.intro (by omega) ?_)
    refine aops_fnG (hP) (hidB rfl) rfl rfl (by simp (maxSteps := 4000000) only [pPts, pI, tvs, simprocAttr]) ?_
    repeat (first | (refine aops_fnX rfl ?_ ?_; focus (simp (maxSteps := 4000000) only [sks, List.map_nil, pPts, pI, tvl, simprocAttr]; done)) | (simp (maxSteps := 4000000) only [List.map_nil, pPts, pI, tvl, simprocAttr]) | refine ftS (by kernel_rfl) ?_ | refine And.intro (by omega) ?_)
    all_goals (first | rfl | trivial | skip)
  rw [hp] at hP
  obtain ⟨w1, w2, w3⟩ := Bt.whenOk_facts ho
  obtain ⟨v1, v2, v3⟩ := Bt.whenOk_facts hp
  by_cases c : a.length + b.length < 20
  rotate_left
  · have d : decide ((a.length : Int) + (b.length : Int) ≥ 20) = true := by rw [decide_eq_true_eq]; omega
    rw [if_neg (by simp; omega)]
    refine fn_ok mixed Try.func21 rfl (by kernel_rfl) _ Try.results21 _ Try.ntmps21 (by simp) (by kernel_rfl) ?_
    repeat (first | (refine aops_fnX rfl ?_ ?_; focus (simp (maxSteps := 4000000) only [sks, pPts, pI, tvl, simprocAttr]; done)) | (simp (maxSteps := 4000000) only [pPts, pI, tvl, simprocAttr]) | refine ftS (by kernel_rfl) ?_ | refine And.intro (by omega) ?_)
    refine aops_fn (hO) (hidB rfl) rfl ?_
    repeat (first | (refine aops_fnX rfl ?_ ?_; focus (simp (maxSteps := 4000000) only [sks, pPts, pI, tvl, simprocAttr]; done)) | (simp (maxSteps := 4000000) only [pPts, pI, tvl, simprocAttr]) | refine ftS (by kernel_rfl) ?_ | refine And.intro (by omega) ?_)
    refine aops_fnG (hP) (hidB rfl) rfl rfl (by simp (maxSteps := 4000000) only [pPts, pI, tvs, simprocAttr]) ?_
    repeat (first | (refine aops_fnX rfl ?_ ?_; focus (simp (maxSteps := 4000000) only [sks, d, List.map_nil, pPts, pI, tvl, simprocAttr]; done)) | (simp (maxSteps := 4000000) only [d, List.map_nil, pPts, pI, tvl, simprocAttr]) | refine ftS (by kernel_rfl) ?_ | refine And.intro (by omega) ?_)
    all_goals (first | rfl | trivial | skip)
  have d : decide ((a.length : Int) + (b.length : Int) ≥ 20) = false := by rw [decide_eq_false_iff_not]; omega
  have hM := imoveds_ok (n := 0) w2 w3 (by omega) (by omega)
  have hN := imoveds_ok (n := (a.length : Int)) v2 v3 (by omega) (by omega)
  have e7 := mv_len (n := 0) (Nat.le_refl a.length)
  have f7 := mv_len (n := (a.length : Int)) (Nat.le_refl b.length)
  have hlf : ((mv b a.length b.length).all fun r => r.all PV.leaf) = true := by simp [mv, pPt, PV.leaf, pI]
  have hfl : ((mv b a.length b.length).all fun r => r.all PV.flat) = true := by simp [mv, pPt, PV.flat, pI]
  have e8 : (a ++ b.map (Bt.moved a.length) ++ [(⟨10, (a.length : Int) - 1, (a.length : Int) + b.length - 1⟩ : Bt.Pt)]).map pPt = mv a 0 a.length ++ mv b a.length b.length ++ [[PV.int .i64 10, PV.int .i64 ((a.length : Int) - 1), PV.int .i64 ((a.length : Int) + b.length - 1)]] := by
    rw [mv_all, mv_all, Bt.moved_map_zero w3, List.map_append, List.map_append]
    rfl
  rw [if_pos ⟨rfl, rfl, c⟩]
  rw [show pPts (a ++ b.map (Bt.moved a.length) ++ [(⟨10, (a.length : Int) - 1, (a.length : Int) + b.length - 1⟩ : Bt.Pt)]) = .lst 83 (mv a 0 a.length ++ mv b a.length b.length ++ [[PV.int .i64 10, PV.int .i64 ((a.length : Int) - 1), PV.int .i64 ((a.length : Int) + b.length - 1)]]) by unfold pPts; rw [e8]]
  generalize mv a 0 a.length = R at *
  generalize mv b a.length b.length = R2 at *
  refine fn_ok mixed Try.func21 rfl (by kernel_rfl) _ Try.results21 _ Try.ntmps21 (by simp) (by kernel_rfl) ?_
  repeat (first | (refine aops_fnX rfl ?_ ?_; focus (simp (maxSteps := 4000000) only [sks, pPts, pI, tvl, simprocAttr]; done)) | (simp (maxSteps := 4000000) only [pPts, pI, tvl, simprocAttr]) | refine ftS (by kernel_rfl) ?_ | refine And.intro (by omega) ?_)
  refine aops_fn (hO) (hidB rfl) rfl ?_
  repeat (first | (refine aops_fnX rfl ?_ ?_; focus (simp (maxSteps := 4000000) only [sks, pPts, pI, tvl, simprocAttr]; done)) | (simp (maxSteps := 4000000) only [pPts, pI, tvl, simprocAttr]) | refine ftS (by kernel_rfl) ?_ | refine And.intro (by omega) ?_)
  refine aops_fnG (hP) (hidB rfl) rfl rfl (by simp (maxSteps := 4000000) only [pPts, pI, tvs, simprocAttr]) ?_
  repeat (first | (refine aops_fnX rfl ?_ ?_; focus (simp (maxSteps := 4000000) only [sks, d, pPts, pI, tvl, simprocAttr]; done)) | (simp (maxSteps := 4000000) only [d, pPts, pI, tvl, simprocAttr]) | refine ftS (by kernel_rfl) ?_ | refine And.intro (by omega) ?_)
  refine aops_fn (hM) (hidB rfl) rfl ?_
  repeat (first | (refine aops_fnX rfl ?_ ?_; focus (simp (maxSteps := 4000000) only [sks, pPts, pI, tvl, simprocAttr]; done)) | (simp (maxSteps := 4000000) only [pPts, pI, tvl, simprocAttr]) | refine ftS (by kernel_rfl) ?_ | refine And.intro (by omega) ?_)
  refine aops_fn (hN) (hidB rfl) rfl ?_
  repeat (first | (refine aops_fnX rfl ?_ ?_; focus (simp (maxSteps := 4000000) only [sks, List.length_append, e7, f7, hlf, hfl, Bool.and_self, pPts, pI, tvl, simprocAttr]; done)) | (simp (maxSteps := 4000000) only [List.length_append, e7, f7, hlf, hfl, Bool.and_self, pPts, pI, tvl, simprocAttr]) | refine ftS (by kernel_rfl) ?_ | refine And.intro (by omega) ?_)
  all_goals (first | rfl | trivial | skip)
set_option maxRecDepth 10000 in
set_option maxHeartbeats 8000000 in
theorem iWhenValue_ok {m : Bt.Mc} {l : List Bt.Pt} (hm : Small m) (hl : l.length ≤ 1048576) : FnOk E.P 25 [.agg (pMc m), pPts l] (pI (Bt.whenValue m l)) true := by
  have hO := iWhenOk_ok hl
  unfold Bt.whenValue
  cases ho : Bt.whenOk l
  · rw [ho] at hO
    rw [if_neg (by simp)]
    refine fn_ok mixed Try.func25 rfl (by kernel_rfl) _ Try.results25 _ Try.ntmps25 (by simp) (by kernel_rfl) ?_
    repeat (first | (refine aops_fnX rfl ?_ ?_; focus (simp (maxSteps := 4000000) only [sks, pMc, pInts, pPts, pI, tvl, simprocAttr]; done)) | (simp (maxSteps := 4000000) only [pMc, pInts, pPts, pI, tvl, simprocAttr]) | refine ftS (by kernel_rfl) ?_ | refine And.intro (by omega) ?_)
    refine aops_fn (hO) (hidB rfl) rfl ?_
    repeat (first | (refine aops_fnX rfl ?_ ?_; focus (simp (maxSteps := 4000000) only [sks, pMc, pInts, pPts, pI, tvl, simprocAttr]; done)) | (simp (maxSteps := 4000000) only [pMc, pInts, pPts, pI, tvl, simprocAttr]) | refine ftS (by kernel_rfl) ?_ | refine And.intro (by omega) ?_)
    all_goals (first | rfl | trivial | skip)
  rw [ho] at hO
  obtain ⟨w1, w2, w3⟩ := Bt.whenOk_facts ho
  rw [if_pos rfl]
  refine fn_ok mixed Try.func25 rfl (by kernel_rfl) _ Try.results25 _ Try.ntmps25 (by simp) (by kernel_rfl) ?_
  repeat (first | (refine aops_fnX rfl ?_ ?_; focus (simp (maxSteps := 4000000) only [sks, pMc, pInts, pPts, pI, tvl, simprocAttr]; done)) | (simp (maxSteps := 4000000) only [pMc, pInts, pPts, pI, tvl, simprocAttr]) | refine ftS (by kernel_rfl) ?_ | refine And.intro (by omega) ?_)
  refine aops_fn (hO) (hidB rfl) rfl ?_
  repeat (first | (refine aops_fnX rfl ?_ ?_; focus (simp (maxSteps := 4000000) only [sks, pMc, pInts, pPts, pI, tvl, simprocAttr]; done)) | (simp (maxSteps := 4000000) only [pMc, pInts, pPts, pI, tvl, simprocAttr]) | refine ftS (by kernel_rfl) ?_ | refine And.intro (by omega) ?_)
  refine awp_loop (X := Nat) (fun k => [(2, .ptr 0 0), (5, .sl 1), (12, .pv (.lst 83 (l.map pPt))), (13, .pv (.int .i64 l.length)), (14, .pv (.int .i64 k))])
    (fun k => [(0, .box [.pv (.lst 134 (m.ths.map pTh)), .pv (.lst 3 (m.cells.map fun x => [.int .i64 x])), .pv (.lst 3 (m.locks.map fun x => [.int .i64 x])), .pv (.lst 3 (m.told.map fun x => [.int .i64 x]))]), (1, .row true 3 ((Bt.vals m l k).map fun x => [.int .i64 x]))])
    (fun k => k ≤ l.length) (fun k => l.length - k) 100 0 (Nat.zero_le _) (by simp (maxSteps := 4000000) only [Bt.vals, List.map_nil, pI, tvl, simprocAttr]; try simp) (fun k hk => ?_)
  have hv := Bt.vals_len m l k
  by_cases c1 : k < l.length
  rotate_left
  · have d1 : decide ((k : Int) < (l.length : Int)) = false := by rw [decide_eq_false_iff_not]; omega
    obtain rfl : k = l.length := by omega
    have x1 : ((l.length : Int) - 1).toNat = l.length - 1 := by omega
    have e5 : ((Bt.vals m l l.length).map fun x => [PV.int .i64 x])[l.length - 1]? = some [.int .i64 ((Bt.vals m l l.length).getD (l.length - 1) 0)] := row_at (by omega)
    repeat (first | (refine aops_fnX rfl ?_ ?_; focus (simp (maxSteps := 4000000) only [sks, d1, hv, x1, e5, pI, tvl, simprocAttr]; done)) | (simp (maxSteps := 4000000) only [d1, hv, x1, e5, pI, tvl, simprocAttr]) | refine ftS (by kernel_rfl) ?_ | refine And.intro (by omega) ?_)
    all_goals (first | rfl | trivial | skip)
  have d1 : decide ((k : Int) < (l.length : Int)) = true := by rw [decide_eq_true_eq]; omega
  have e5 : (l.map pPt)[k]? = some (pPt l[k]) := by simp [c1]
  have hp := w3 k c1 c1
  have hP := ipart_ok (m := m) (x := l[k]) (o := Bt.vals m l k) (by rw [hv]; exact hp) (Bt.vals_in (fun j hj h1 => w3 j hj hj)) (by omega) hm
  have e8 := Bt.vals_succ (m := m) c1
  generalize Bt.partVal m l[k] (Bt.vals m l k) = v at *
  generalize Bt.vals m l k = o at *
  generalize l[k] = x at *
  obtain ⟨xk, xa, xb⟩ := x
  repeat (first | (refine aops_fnX rfl ?_ ?_; focus (simp (maxSteps := 4000000) only [sks, d1, e5, pPt, pI, tvl, simprocAttr]; done)) | (simp (maxSteps := 4000000) only [d1, e5, pPt, pI, tvl, simprocAttr]) | refine ftS (by kernel_rfl) ?_ | refine And.intro (by omega) ?_)
  refine aops_fn (hP) (hidB rfl) rfl ?_
  repeat (first | (refine aops_fnX rfl ?_ ?_; focus (simp (maxSteps := 4000000) only [sks, hv, pMc, pInts, pPt, pI, tvl, simprocAttr]; done)) | (simp (maxSteps := 4000000) only [hv, pMc, pInts, pPt, pI, tvl, simprocAttr]) | refine ftS (by kernel_rfl) ?_ | refine And.intro (by omega) ?_)
  refine ⟨k + 1, by omega, by omega, ?_⟩
  simp [e8]
set_option maxHeartbeats 4000000 in
theorem iHolds_ok {m : Bt.Mc} {l : List Bt.Pt} (hm : Small m) (hl : l.length ≤ 1048576) : FnOk E.P 28 [.agg (pMc m), pPts l] (.bool (Bt.holds m l)) true := by
  have hV := iWhenValue_ok hm hl
  unfold Bt.holds
  generalize Bt.whenValue m l = v at hV
  refine fn_ok mixed Try.func28 rfl (by kernel_rfl) _ Try.results28 _ Try.ntmps28 (by simp) (by kernel_rfl) ?_
  repeat (first | (refine aops_fnX rfl ?_ ?_; focus (simp (maxSteps := 4000000) only [sks, pMc, pInts, pPts, pI, tvl, simprocAttr]; done)) | (simp (maxSteps := 4000000) only [pMc, pInts, pPts, pI, tvl, simprocAttr]) | refine ftS (by kernel_rfl) ?_ | refine And.intro (by omega) ?_)
  refine aops_fn (hV) (hidB rfl) rfl ?_
  repeat (first | (refine aops_fnX rfl ?_ ?_; focus (simp (maxSteps := 4000000) only [sks, pI, tvs, simprocAttr]; done)) | (simp (maxSteps := 4000000) only [pI, tvs, simprocAttr]) | refine ftS (by kernel_rfl) ?_ | refine And.intro (by omega) ?_)
  all_goals (first | rfl | trivial | skip)
end Av
end Go.Proofs.Ytbkbppllcjcmhaa
