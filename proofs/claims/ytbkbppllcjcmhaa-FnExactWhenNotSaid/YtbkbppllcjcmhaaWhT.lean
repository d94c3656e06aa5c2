/-
  Conditions, the model's: contraries, two made one.
-/
import Derived.Test.YtbkbppllcjcmhaaWhI
import Derived.Test.YtbkbppllcjcmhaaWhS
set_option linter.unusedSimpArgs false
set_option linter.unusedVariables false
namespace Go.Proofs.Ytbkbppllcjcmhaa
open Go.RowKit
namespace Av
set_option maxRecDepth 10000 in
set_option maxHeartbeats 8000000 in
theorem sWhenNot_ok {l : List Bt.Pt} (hl : l.length ≤ 1048576) : FnOk E.P 16 [pPts l] (pPts (Bt.whenNot l)) true := by
  have hO := sWhenOk_ok hl
  unfold Bt.whenNot
  cases ho : Bt.whenOk l
  · rw [ho] at hO
    rw [if_neg (by simp)]
    refine fn_ok mixed Try.func16 rfl (by kernel_rfl) _ Try.results16 _ Try.ntmps16 (by simp) (by kernel_rfl) ?_
    repeat (first | (refine aops_fnX rfl ?_ ?_; focus (simp (maxSteps := 4000000) only [sks, pPts, pI, tvl, simprocAttr]; done)) | (simp (maxSteps := 4000000) only [pPts, pI, tvl, simprocAttr]) | refine ftS (by kernel_rfl) ?_ | refine And.intro (by omega) ?_)
    refine aops_fn (hO) (hidB rfl) rfl ?_
    repeat (first | (refine aops_fnX rfl ?_ ?_; focus (simp (maxSteps := 4000000) only [sks, List.map_nil, pPts, pI, tvl, simprocAttr]; done)) | (simp (maxSteps := 4000000) only [List.map_nil, pPts, pI, tvl, simprocAttr]) | refine ftS (by kernel_rfl) ?_ | refine And.intro (by omega) ?_)
    all_goals (first | rfl | trivial | skip)
  rw [ho] at hO
  obtain ⟨w1, w2, w3⟩ := Bt.whenOk_facts ho
  by_cases c : l.length < 20
  rotate_left
  · have d : ((l.length : Int) == 20) = true := by rw [beq_iff_eq]; omega
    rw [if_neg (by simp; omega)]
    refine fn_ok mixed Try.func16 rfl (by kernel_rfl) _ Try.results16 _ Try.ntmps16 (by simp) (by kernel_rfl) ?_
    repeat (first | (refine aops_fnX rfl ?_ ?_; focus (simp (maxSteps := 4000000) only [sks, pPts, pI, tvl, simprocAttr]; done)) | (simp (maxSteps := 4000000) only [pPts, pI, tvl, simprocAttr]) | refine ftS (by kernel_rfl) ?_ | refine And.intro (by omega) ?_)
    refine aops_fn (hO) (hidB rfl) rfl ?_
    repeat (first | (refine aops_fnX rfl ?_ ?_; focus (simp (maxSteps := 4000000) only [sks, d, List.map_nil, pPts, pI, tvl, simprocAttr]; done)) | (simp (maxSteps := 4000000) only [d, List.map_nil, pPts, pI, tvl, simprocAttr]) | refine ftS (by kernel_rfl) ?_ | refine And.intro (by omega) ?_)
    all_goals (first | rfl | trivial | skip)
  have d : ((l.length : Int) == 20) = false := by rw [beq_eq_false_iff_ne]; omega
  have hlf : ((l.map pPt).all fun r => r.all PV.leaf) = true := by simp [pPt, PV.leaf, pI]
  have hfl : ((l.map pPt).all fun r => r.all PV.flat) = true := by simp [pPt, PV.flat, pI]
  have e7 : (l.map pPt).length = l.length := by simp
  rw [if_pos ⟨rfl, c⟩]
  rw [show pPts (l ++ [(⟨11, (l.length : Int) - 1, 0⟩ : Bt.Pt)]) = .lst 83 (l.map pPt ++ [[PV.int .i64 11, PV.int .i64 ((l.length : Int) - 1), PV.int .i64 0]]) by unfold pPts; rw [List.map_append]; rfl]
  unfold pPts at hO ⊢
  generalize l.map pPt = R at *
  refine fn_ok mixed Try.func16 rfl (by kernel_rfl) _ Try.results16 _ Try.ntmps16 (by simp) (by kernel_rfl) ?_
  repeat (first | (refine aops_fnX rfl ?_ ?_; focus (simp (maxSteps := 4000000) only [sks, e7, pI, tvs, simprocAttr]; done)) | (simp (maxSteps := 4000000) only [e7, pI, tvs, simprocAttr]) | refine ftS (by kernel_rfl) ?_ | refine And.intro (by omega) ?_)
  refine aops_fn (hO) (hidB rfl) rfl ?_
  repeat (first | (refine aops_fnX rfl ?_ ?_; focus (simp (maxSteps := 4000000) only [sks, e7, d, hlf, hfl, Bool.and_self, List.nil_append, pI, tvs, simprocAttr]; done)) | (simp (maxSteps := 4000000) only [e7, d, hlf, hfl, Bool.and_self, List.nil_append, pI, tvs, simprocAttr]) | refine ftS (by kernel_rfl) ?_ | refine And.intro (by omega) ?_)
  all_goals (first | rfl | trivial | skip)
theorem moved_other {x : Bt.Pt} {n : Int} (h : ¬ (x.kind ≥ 7)) : Bt.moved n x = x := by
  unfold Bt.moved
  rw [if_neg (by omega), if_neg (by omega)]
theorem moved_two {x : Bt.Pt} {n : Int} (h : x.kind ≥ 7) (h2 : x.kind ≤ 10) : Bt.moved n x = ⟨x.kind, x.a + n, x.b + n⟩ := by
  unfold Bt.moved
  rw [if_pos ⟨h, h2⟩]
set_option maxRecDepth 10000 in
set_option maxHeartbeats 16000000 in
theorem sWhenBoth_ok {a b : List Bt.Pt} (hl : a.length + b.length ≤ 1048576) : FnOk E.P 20 [pPts a, pPts b] (pPts (Bt.whenBoth a b)) true := by
  have hO := sWhenOk_ok (l := a) (by omega)
  have hP := sWhenOk_ok (l := b) (by omega)
  unfold Bt.whenBoth
  cases ho : Bt.whenOk a
  · rw [ho] at hO
    rw [if_neg (by simp)]
    refine fn_ok mixed Try.func20 rfl (by kernel_rfl) _ Try.results20 _ Try.ntmps20 (by simp) (by kernel_rfl) ?_
    repeat (first | (refine aops_fnX rfl ?_ ?_; focus (simp (maxSteps := 4000000) only [sks, pPts, pI, tvl, simprocAttr]; done)) | (simp (maxSteps := 4000000) only [pPts, pI, tvl, simprocAttr]) | refine ftS (by kernel_rfl) ?_ | refine And.intro (by omega) ?_)
    refine aops_fn (hO) (hidB rfl) rfl ?_
    repeat (first | (refine aops_fnX rfl ?_ ?_; focus (simp (maxSteps := 4000000) only [sks, List.map_nil, pPts, pI, tvl, simprocAttr]; done)) | (simp (maxSteps := 4000000) only [List.map_nil, pPts, pI, tvl, simprocAttr]) | refine ftS (by kernel_rfl) ?_ | refine And.intro (by omega) ?_)
    all_goals (first | rfl | trivial | skip)
  rw [ho] at hO
  cases hp : Bt.whenOk b
  · rw [hp] at hP
    rw [if_neg (by simp)]
    refine fn_ok mixed Try.func20 rfl (by kernel_rfl) _ Try.results20 _ Try.ntmps20 (by simp) (by kernel_rfl) ?_
    repeat (first | (refine aops_fnX rfl ?_ ?_; focus (simp (maxSteps := 4000000) only [sks, pPts, pI, tvl, simprocAttr]; done)) | (simp (maxSteps := 4000000) only [pPts, pI, tvl, simprocAttr]) | refine ftS (by kernel_rfl) ?_ | refine And.intro (by omega) ?_)
    refine aops_fn (hO) (hidB rfl) rfl ?_
    repeat (first | (refine aops_fnX rfl ?_ ?_; focus (simp (maxSteps := 4000000) only [sks, pPts, pI, tvl, simprocAttr]; done)) | (simp (maxSteps := 4000000) only [pPts, pI, tvl, simprocAttr]) | refine ftS (by kernel_rfl) ?_ | refine And.intro (by omega) ?_)
    refine aops_fnG (hP) (hidB rfl) rfl rfl (by simp (maxSteps := 4000000) only [pPts, pI, tvs, simprocAttr]) ?_
    repeat (first | (refine aops_fnX rfl ?_ ?_; focus (simp (maxSteps := 4000000) only [sks, List.map_nil, pPts, pI, tvl, simprocAttr]; done)) | (simp (maxSteps := 4000000) only [List.map_nil, pPts, pI, tvl, simprocAttr]) | refine ftS (by kernel_rfl) ?_ | refine And.intro (by omega) ?_)
    all_goals (first | rfl | trivial | skip)
  rw [hp] at hP
  obtain ⟨w1, w2, w3⟩ := Bt.whenOk_facts ho
  obtain ⟨v1, v2, v3⟩ := Bt.whenOk_facts hp
  by_cases c : a.length + b.length < 20
  rotate_left
  · have d : decide ((a.length : Int) + (b.length : Int) + 1 > 20) = true := by rw [decide_eq_true_eq]; omega
    rw [if_neg (by simp; omega)]
    refine fn_ok mixed Try.func20 rfl (by kernel_rfl) _ Try.results20 _ Try.ntmps20 (by simp) (by kernel_rfl) ?_
    repeat (first | (refine aops_fnX rfl ?_ ?_; focus (simp (maxSteps := 4000000) only [sks, pPts, pI, tvl, simprocAttr]; done)) | (simp (maxSteps := 4000000) only [pPts, pI, tvl, simprocAttr]) | refine ftS (by kernel_rfl) ?_ | refine And.intro (by omega) ?_)
    refine aops_fn (hO) (hidB rfl) rfl ?_
    repeat (first | (refine aops_fnX rfl ?_ ?_; focus (simp (maxSteps := 4000000) only [sks, pPts, pI, tvl, simprocAttr]; done)) | (simp (maxSteps := 4000000) only [pPts, pI, tvl, simprocAttr]) | refine ftS (by kernel_rfl) ?_ | refine And.intro (by omega) ?_)
    refine aops_fnG (hP) (hidB rfl) rfl rfl (by simp (maxSteps := 4000000) only [pPts, pI, tvs, simprocAttr]) ?_
    repeat (first | (refine aops_fnX rfl ?_ ?_; focus (simp (maxSteps := 4000000) only [sks, d, List.map_nil, pPts, pI, tvl, simprocAttr]; done)) | (simp (maxSteps := 4000000) only [d, List.map_nil, pPts, pI, tvl, simprocAttr]) | refine ftS (by kernel_rfl) ?_ | refine And.intro (by omega) ?_)
    all_goals (first | rfl | trivial | skip)
  have d : decide ((a.length : Int) + (b.length : Int) + 1 > 20) = false := by rw [decide_eq_false_iff_not]; omega
  have hlf : ((a.map pPt).all fun r => r.all PV.leaf) = true := by simp [pPt, PV.leaf, pI]
  have hfl : ((a.map pPt).all fun r => r.all PV.flat) = true := by simp [pPt, PV.flat, pI]
  have e7 : (a.map pPt).length = a.length := by simp
  have e8 : (a ++ b.map (Bt.moved a.length) ++ [(⟨10, (a.length : Int) - 1, (a.length : Int) + b.length - 1⟩ : Bt.Pt)]).map pPt = a.map pPt ++ mv b a.length b.length ++ [[PV.int .i64 10, PV.int .i64 ((a.length : Int) - 1), PV.int .i64 ((a.length : Int) + b.length - 1)]] := by
    rw [mv_all, List.map_append, List.map_append]
    rfl
  rw [if_pos ⟨rfl, rfl, c⟩]
  rw [show pPts (a ++ b.map (Bt.moved a.length) ++ [(⟨10, (a.length : Int) - 1, (a.length : Int) + b.length - 1⟩ : Bt.Pt)]) = .lst 83 (a.map pPt ++ mv b a.length b.length ++ [[PV.int .i64 10, PV.int .i64 ((a.length : Int) - 1), PV.int .i64 ((a.length : Int) + b.length - 1)]]) by unfold pPts; rw [e8]]
  clear e8
  have haL : a.length ≤ 20 := w2
  rw [show pPts a = .lst 83 (a.map pPt) from rfl] at hO ⊢
  generalize a.map pPt = R at *
  generalize a.length = n at *
  clear w1 w2 w3
  refine fn_ok mixed Try.func20 rfl (by kernel_rfl) _ Try.results20 _ Try.ntmps20 (by simp) (by kernel_rfl) ?_
  repeat (first | (refine aops_fnX rfl ?_ ?_; focus (simp (maxSteps := 4000000) only [sks, e7, pPts, pI, tvl, simprocAttr]; done)) | (simp (maxSteps := 4000000) only [e7, pPts, pI, tvl, simprocAttr]) | refine ftS (by kernel_rfl) ?_ | refine And.intro (by omega) ?_)
  refine aops_fn (hO) (hidB rfl) rfl ?_
  repeat (first | (refine aops_fnX rfl ?_ ?_; focus (simp (maxSteps := 4000000) only [sks, e7, pPts, pI, tvl, simprocAttr]; done)) | (simp (maxSteps := 4000000) only [e7, pPts, pI, tvl, simprocAttr]) | refine ftS (by kernel_rfl) ?_ | refine And.intro (by omega) ?_)
  refine aops_fnG (hP) (hidB rfl) rfl rfl (by simp (maxSteps := 4000000) only [pPts, pI, tvs, simprocAttr]) ?_
  repeat (first | (refine aops_fnX rfl ?_ ?_; focus (simp (maxSteps := 4000000) only [sks, e7, d, hlf, hfl, Bool.and_self, List.nil_append, pPts, pI, tvl, simprocAttr]; done)) | (simp (maxSteps := 4000000) only [e7, d, hlf, hfl, Bool.and_self, List.nil_append, pPts, pI, tvl, simprocAttr]) | refine ftS (by kernel_rfl) ?_ | refine And.intro (by omega) ?_)
  refine awp_loop (X := Nat) (fun k => [(0, .pv (.lst 83 R)), (1, .pv (.lst 83 (b.map pPt))), (5, .sl 0), (6, .pv (.int .i64 k))])
    (fun k => [(0, .row true 83 (R ++ mv b n k))]) (fun k => k ≤ b.length) (fun k => b.length - k) 100 0 (Nat.zero_le _) (by simp (maxSteps := 4000000) only [mv_zero, List.append_nil, pI, tvl, simprocAttr]; try simp) (fun k hk => ?_)
  have f7 := mv_len (n := n) hk
  by_cases c1 : k < b.length
  rotate_left
  · have d1 : decide ((k : Int) < (b.length : Int)) = false := by rw [decide_eq_false_iff_not]; omega
    obtain rfl : k = b.length := by omega
    have x1 : ((n + b.length : Nat) : Int) - 1 = (n : Int) + b.length - 1 := by omega
    repeat (first | (refine aops_fnX rfl ?_ ?_; focus (simp (maxSteps := 4000000) only [sks, List.length_append, e7, f7, d1, x1, pI, tvl, simprocAttr]; done)) | (simp (maxSteps := 4000000) only [List.length_append, e7, f7, d1, x1, pI, tvl, simprocAttr]) | refine ftS (by kernel_rfl) ?_ | refine And.intro (by omega) ?_)
    all_goals (first | rfl | trivial | skip)
  have d1 : decide ((k : Int) < (b.length : Int)) = true := by rw [decide_eq_true_eq]; omega
  have e5 : (b.map pPt)[k]? = some (pPt b[k]) := by simp [c1]
  have g8 := mv_succ (n := n) c1
  have hq := v3 k c1 c1
  generalize b[k] = x at *
  by_cases cA : x.kind ≥ 7
  rotate_left
  · have dA : decide (x.kind ≥ 7) = false := by rw [decide_eq_false_iff_not]; exact cA
    rw [moved_other cA] at g8
    obtain ⟨xk, xa, xb⟩ := x
    simp only at dA
    repeat (first | (refine aops_fnX rfl ?_ ?_; focus (simp (maxSteps := 4000000) only [sks, List.length_append, e7, f7, d1, e5, dA, pPt, pI, tvl, simprocAttr]; done)) | (simp (maxSteps := 4000000) only [List.length_append, e7, f7, d1, e5, dA, pPt, pI, tvl, simprocAttr]) | refine ftS (by kernel_rfl) ?_ | refine And.intro (by omega) ?_)
    refine ⟨k + 1, by omega, by omega, ?_⟩
    simp [g8, pPt, pI]
  have dA : decide (x.kind ≥ 7) = true := by rw [decide_eq_true_eq]; exact cA
  obtain ⟨⟨h1, h2⟩, h3, h4⟩ := hq
  have h5 := Bt.tops_le x.kind (i := (k : Int)) (by omega) (by omega)
  by_cases cB : x.kind = 11
  · have dB : (x.kind != 11) = false := by simp [cB]
    obtain ⟨xk, xa, xb⟩ := x
    simp only at dA dB cB h1 h2 h3 h4 h5
    subst cB
    rw [tops_11] at h2 h4
    simp only at h2 h4
    obtain rfl : xb = 0 := by omega
    rw [show Bt.moved n ⟨11, xa, 0⟩ = ⟨11, xa + n, 0⟩ from rfl] at g8
    repeat (first | (refine aops_fnX rfl ?_ ?_; focus (simp (maxSteps := 4000000) only [sks, List.length_append, e7, f7, d1, e5, dA, dB, pPt, pI, tvl, simprocAttr]; done)) | (simp (maxSteps := 4000000) only [List.length_append, e7, f7, d1, e5, dA, dB, pPt, pI, tvl, simprocAttr]) | refine ftS (by kernel_rfl) ?_ | refine And.intro (by omega) ?_)
    refine ⟨k + 1, by omega, by omega, ?_⟩
    simp [g8, pPt, pI]
  have dB : (x.kind != 11) = true := by simp [cB]
  have hk10 : x.kind ≤ 10 := by
    rcases Bt.kinds x.kind with h | h
    · omega
    · rw [Bt.tops_none _ h] at h2; simp only at h2; omega
  rw [moved_two cA hk10] at g8
  obtain ⟨xk, xa, xb⟩ := x
  simp only at dA dB h1 h2 h3 h4 h5 g8
  have h6 : xa ≤ 10000 := by omega
  have h7 : xb ≤ 20 := by omega
  clear h2 h4 h5 cA cB hk10
  repeat (first | (refine aops_fnX rfl ?_ ?_; focus (simp (maxSteps := 4000000) only [sks, List.length_append, e7, f7, d1, e5, dA, dB, pPt, pI, tvl, simprocAttr]; done)) | (simp (maxSteps := 4000000) only [List.length_append, e7, f7, d1, e5, dA, dB, pPt, pI, tvl, simprocAttr]) | refine ftS (by kernel_rfl) ?_ | refine And.intro (by omega) ?_)
  refine ⟨k + 1, by omega, by omega, ?_⟩
  simp [g8, pPt, pI]
end Av
end Go.Proofs.Ytbkbppllcjcmhaa
