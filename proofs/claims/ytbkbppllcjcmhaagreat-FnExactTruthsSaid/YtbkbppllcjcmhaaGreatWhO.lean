/-
  Conditions, the model's: which parts are an expression.
-/
import Derived.Test.YtbkbppllcjcmhaaGreatWhA
import Derived.Test.YtbkbppllcjcmhaaGreatAvB
set_option linter.unusedSimpArgs false
set_option linter.unusedVariables false
namespace Go.Proofs.YtbkbppllcjcmhaaGreat
open Go.RowKit
namespace Av
theorem tops_0 (i : Int) : Bt.tops 0 i = (10000, 1) := rfl
theorem tops_11 (i : Int) : Bt.tops 11 i = (i, 1) := rfl
set_option maxRecDepth 10000 in
set_option maxHeartbeats 40000000 in
theorem sWhenOk_ok {l : List Bt.Pt} (hl : l.length ≤ 1048576) : FnOk E.P 33 [pPts l] (.bool (Bt.whenOk l)) true := by
  obtain ⟨z, hz⟩ : ∃ z, z = Bt.whenOk l := ⟨_, rfl⟩
  rw [← hz]
  have z1 : 1 ≤ l.length ∧ l.length ≤ 20 ∧ Bt.allTo l l.length → z = true := fun e => hz.trans (Bt.tw_t e)
  have z2 : ¬ (1 ≤ l.length ∧ l.length ≤ 20 ∧ Bt.allTo l l.length) → z = false := fun e => hz.trans (Bt.tw_f e)
  clear hz
  refine fn_okS mixed Tryz.func33 rfl (by kernel_rfl) _ Tryz.results33 _ Tryz.ntmps33 (by simp) (by kernel_rfl) (fun w0 => ?_)
  refine awpS_seq mixed ?_
  repeat (first | (refine aops_fnX rfl ?_ ?_; focus (simp (maxSteps := 4000000) only [sks, pPts, pI, tvl, simprocAttr]; done)) | (simp (maxSteps := 4000000) only [pPts, pI, tvl, simprocAttr]) | refine ftS (by kernel_rfl) ?_ | refine And.intro (by omega) ?_)
  refine awpS_seqS ?_
  refine awpS_seq mixed ?_
  repeat (first | (refine aops_fnX rfl ?_ ?_; focus (simp (maxSteps := 4000000) only [sks, pPts, pI, tvl, simprocAttr]; done)) | (simp (maxSteps := 4000000) only [pPts, pI, tvl, simprocAttr]) | refine ftS (by kernel_rfl) ?_ | refine And.intro (by omega) ?_)
  refine awpS_block ?_
  refine awpS_loop (X := Nat) (fun k => [(0, .pv (.lst 75 (l.map pPt))), (3, .pv (.int .i64 k))])
    (fun k => []) (fun k => k ≤ l.length ∧ Bt.allTo l k) (fun k => l.length - k) 100 0 ⟨Nat.zero_le _, Bt.allTo_zero l⟩ (by simp (maxSteps := 4000000) only [pI, tvl, simprocAttr]; try simp) (fun k hk => ?_)
  obtain ⟨hk, hp⟩ := hk
  by_cases c1 : k < l.length
  rotate_left
  · have d1 : decide ((k : Int) < (l.length : Int)) = false := by rw [decide_eq_false_iff_not]; omega
    obtain rfl : k = l.length := by omega
    refine awpS_seq mixed ?_
    repeat (first | (refine aops_fnX rfl ?_ ?_; focus (simp (maxSteps := 4000000) only [sks, d1, pI, tvl, simprocAttr]; done)) | (simp (maxSteps := 4000000) only [d1, pI, tvl, simprocAttr]) | refine ftS (by kernel_rfl) ?_ | refine And.intro (by omega) ?_)
    by_cases c2 : l.length ≥ 1
    · have d2 : decide ((l.length : Int) ≥ 1) = true := by rw [decide_eq_true_eq]; omega
      have e : z = decide ((l.length : Int) ≤ 20) := by
        by_cases c3 : l.length ≤ 20
        · rw [z1 ⟨c2, c3, hp⟩]; symm; rw [decide_eq_true_eq]; omega
        · rw [z2 (fun e => c3 e.2.1)]; symm; rw [decide_eq_false_iff_not]; omega
      rw [e]
      refine awpS_of mixed ?_
      repeat (first | (refine aops_fnX rfl ?_ ?_; focus (simp (maxSteps := 4000000) only [sks, d1, d2, pI, tvl, simprocAttr]; done)) | (simp (maxSteps := 4000000) only [d1, d2, pI, tvl, simprocAttr]) | refine ftS (by kernel_rfl) ?_ | refine And.intro (by omega) ?_)
      refine ⟨.inr rfl, _, Gh.refl, ?_⟩
      repeat (first | (refine aops_fnX rfl ?_ ?_; focus (simp (maxSteps := 4000000) only [sks, d1, d2, pI, tvl, simprocAttr]; done)) | (simp (maxSteps := 4000000) only [d1, d2, pI, tvl, simprocAttr]) | refine ftS (by kernel_rfl) ?_ | refine And.intro (by omega) ?_)
      all_goals (first | rfl | trivial | skip)
    · have d2 : decide ((l.length : Int) ≥ 1) = false := by rw [decide_eq_false_iff_not]; omega
      obtain rfl := z2 (fun e => c2 e.1)
      refine awpS_of mixed ?_
      repeat (first | (refine aops_fnX rfl ?_ ?_; focus (simp (maxSteps := 4000000) only [sks, d1, d2, pI, tvl, simprocAttr]; done)) | (simp (maxSteps := 4000000) only [d1, d2, pI, tvl, simprocAttr]) | refine ftS (by kernel_rfl) ?_ | refine And.intro (by omega) ?_)
      refine ⟨.inr rfl, _, Gh.refl, ?_⟩
      repeat (first | (refine aops_fnX rfl ?_ ?_; focus (simp (maxSteps := 4000000) only [sks, d1, d2, pI, tvl, simprocAttr]; done)) | (simp (maxSteps := 4000000) only [d1, d2, pI, tvl, simprocAttr]) | refine ftS (by kernel_rfl) ?_ | refine And.intro (by omega) ?_)
      all_goals (first | rfl | trivial | skip)
  have d1 : decide ((k : Int) < (l.length : Int)) = true := by rw [decide_eq_true_eq]; omega
  have e5 : (l.map pPt)[k]? = some (pPt l[k]) := by simp [c1]
  have hn : Bt.partOk l[k] k → Bt.allTo l (k + 1) := fun h => Bt.allTo_succ hp c1 h
  have hx : ¬ Bt.partOk l[k] k → z = false := fun h => z2 (fun e => Bt.allTo_not c1 h e.2.2)
  clear z1 z2 hp
  unfold Bt.partOk at hn hx
  generalize l[k] = x at *
  obtain ⟨xk, xa, xb⟩ := x
  simp only at hn hx
  obtain ⟨t1, t2, ht, hq⟩ : ∃ t1 t2 : Int, (((xk = 0 ∨ xk = 1 ∨ xk = 2 ∨ xk = 3 ∨ xk = 4 ∨ xk = 5 ∨ xk = 6 ∨ xk = 7 ∨ xk = 8 ∨ xk = 9 ∨ xk = 10 ∨ xk = 11) ∧ Bt.tops xk k = (t1, t2)) ∨ (((xk == 0) = false ∧ (xk == 1) = false ∧ (xk == 2) = false ∧ (xk == 3) = false ∧ (xk == 4) = false ∧ (xk == 5) = false ∧ (xk == 6) = false ∧ (xk == 7) = false ∧ (xk == 8) = false ∧ (xk == 9) = false ∧ (xk == 10) = false ∧ (xk == 11) = false) ∧ t1 = 0 ∧ t2 = 1)) ∧
      (((0 ≤ xa ∧ xa < (Bt.tops xk k).1) ∧ 0 ≤ xb ∧ xb < (Bt.tops xk k).2) ↔ ((0 ≤ xa ∧ xa < t1) ∧ 0 ≤ xb ∧ xb < t2)) := by
    rcases Bt.kinds xk with h | h
    · exact ⟨_, _, .inl ⟨h, rfl⟩, Iff.rfl⟩
    · refine ⟨0, 1, .inr ⟨h, rfl, rfl⟩, ?_⟩
      rw [Bt.tops_none _ h]
      simp only
      omega
  rw [hq] at hn hx
  clear hq
  refine awpS_seq mixed ?_
  repeat (first | (refine aops_fnX rfl ?_ ?_; focus (simp (maxSteps := 4000000) only [sks, d1, pI, tvl, simprocAttr]; done)) | (simp (maxSteps := 4000000) only [d1, pI, tvl, simprocAttr]) | refine ftS (by kernel_rfl) ?_ | refine And.intro (by omega) ?_)
  refine awpS_seqS ?_
  refine awpS_block ?_
  refine awpS_seq mixed ?_
  repeat (first | (refine aops_fnX rfl ?_ ?_; focus (simp (maxSteps := 4000000) only [sks, d1, e5, pPt, pI, tvl, simprocAttr]; done)) | (simp (maxSteps := 4000000) only [d1, e5, pPt, pI, tvl, simprocAttr]) | refine ftS (by kernel_rfl) ?_ | refine And.intro (by omega) ?_)
  refine awpS_seq mixed ?_
  repeat (first | (refine aops_fnX rfl ?_ ?_; focus (simp (maxSteps := 4000000) only [sks, d1, e5, pPt, pI, tvl, simprocAttr]; done)) | (simp (maxSteps := 4000000) only [d1, e5, pPt, pI, tvl, simprocAttr]) | refine ftS (by kernel_rfl) ?_ | refine And.intro (by omega) ?_)
  refine awpS_cut mixed [(0, .pv (.lst 75 (l.map pPt))), (3, .pv (.int .i64 k)), (4, .ptr 0 0), (5, .pv (.int .i64 t1)), (6, .pv (.int .i64 t2))] [(0, .box [.pv (.int .i64 xk), .pv (.int .i64 xa), .pv (.int .i64 xb)])] 100 ?_ ?_
  · clear hn hx
    rcases ht with ⟨h, ht⟩ | ⟨⟨h0, h1, h2, h3, h4, h5, h6, h7, h8, h9, h10, h11⟩, rfl, rfl⟩
    · rcases h with rfl | rfl | rfl | rfl | rfl | rfl | rfl | rfl | rfl | rfl | rfl | rfl
      all_goals
        obtain ⟨rfl, rfl⟩ := Prod.mk.inj ht
        repeat (first | (simp (maxSteps := 4000000) only [cqs, d1, e5, Int.reduceBEq, pPt, pI, tvl, simprocAttr]) | refine ftS (by kernel_rfl) ?_ | refine And.intro (by omega) ?_)
        unfold LessC
        simp (maxSteps := 4000000) only [pI, tvl, simprocAttr]
        all_goals (try simp)
    · repeat (first | (simp (maxSteps := 4000000) only [cqs, d1, e5, h0, h1, h2, h3, h4, h5, h6, h7, h8, h9, h10, h11, pPt, pI, tvl, simprocAttr]) | refine ftS (by kernel_rfl) ?_ | refine And.intro (by omega) ?_)
      unfold LessC
      simp (maxSteps := 4000000) only [pI, tvl, simprocAttr]
      all_goals (try simp)
  clear ht
  by_cases cA : xa < 0
  · have dA : decide (xa < 0) = true := by rw [decide_eq_true_eq]; exact cA
    obtain rfl := hx (fun e => by omega)
    refine awpS_of mixed ?_
    repeat (first | (refine aops_fnX rfl ?_ ?_; focus (simp (maxSteps := 4000000) only [sks, d1, dA, pI, tvl, simprocAttr]; done)) | (simp (maxSteps := 4000000) only [d1, dA, pI, tvl, simprocAttr]) | refine ftS (by kernel_rfl) ?_ | refine And.intro (by omega) ?_)
    refine ⟨.inr rfl, _, Gh.refl, ?_⟩
    repeat (first | (refine aops_fnX rfl ?_ ?_; focus (simp (maxSteps := 4000000) only [sks, pI, tvl, simprocAttr]; done)) | (simp (maxSteps := 4000000) only [pI, tvl, simprocAttr]) | refine ftS (by kernel_rfl) ?_ | refine And.intro (by omega) ?_)
    all_goals (first | rfl | trivial | skip)
  have dA : decide (xa < 0) = false := by rw [decide_eq_false_iff_not]; exact cA
  by_cases cB : xa ≥ t1
  · have dB : decide (xa ≥ t1) = true := by rw [decide_eq_true_eq]; exact cB
    obtain rfl := hx (fun e => by omega)
    refine awpS_of mixed ?_
    repeat (first | (refine aops_fnX rfl ?_ ?_; focus (simp (maxSteps := 4000000) only [sks, d1, dA, dB, pI, tvl, simprocAttr]; done)) | (simp (maxSteps := 4000000) only [d1, dA, dB, pI, tvl, simprocAttr]) | refine ftS (by kernel_rfl) ?_ | refine And.intro (by omega) ?_)
    refine ⟨.inr rfl, _, Gh.refl, ?_⟩
    repeat (first | (refine aops_fnX rfl ?_ ?_; focus (simp (maxSteps := 4000000) only [sks, pI, tvl, simprocAttr]; done)) | (simp (maxSteps := 4000000) only [pI, tvl, simprocAttr]) | refine ftS (by kernel_rfl) ?_ | refine And.intro (by omega) ?_)
    all_goals (first | rfl | trivial | skip)
  have dB : decide (xa ≥ t1) = false := by rw [decide_eq_false_iff_not]; exact cB
  by_cases cC : xb < 0
  · have dC : decide (xb < 0) = true := by rw [decide_eq_true_eq]; exact cC
    obtain rfl := hx (fun e => by omega)
    refine awpS_of mixed ?_
    repeat (first | (refine aops_fnX rfl ?_ ?_; focus (simp (maxSteps := 4000000) only [sks, d1, dA, dB, dC, pI, tvl, simprocAttr]; done)) | (simp (maxSteps := 4000000) only [d1, dA, dB, dC, pI, tvl, simprocAttr]) | refine ftS (by kernel_rfl) ?_ | refine And.intro (by omega) ?_)
    refine ⟨.inr rfl, _, Gh.refl, ?_⟩
    repeat (first | (refine aops_fnX rfl ?_ ?_; focus (simp (maxSteps := 4000000) only [sks, pI, tvl, simprocAttr]; done)) | (simp (maxSteps := 4000000) only [pI, tvl, simprocAttr]) | refine ftS (by kernel_rfl) ?_ | refine And.intro (by omega) ?_)
    all_goals (first | rfl | trivial | skip)
  have dC : decide (xb < 0) = false := by rw [decide_eq_false_iff_not]; exact cC
  by_cases cD : xb ≥ t2
  · have dD : decide (xb ≥ t2) = true := by rw [decide_eq_true_eq]; exact cD
    obtain rfl := hx (fun e => by omega)
    refine awpS_of mixed ?_
    repeat (first | (refine aops_fnX rfl ?_ ?_; focus (simp (maxSteps := 4000000) only [sks, d1, dA, dB, dC, dD, pI, tvl, simprocAttr]; done)) | (simp (maxSteps := 4000000) only [d1, dA, dB, dC, dD, pI, tvl, simprocAttr]) | refine ftS (by kernel_rfl) ?_ | refine And.intro (by omega) ?_)
    refine ⟨.inr rfl, _, Gh.refl, ?_⟩
    repeat (first | (refine aops_fnX rfl ?_ ?_; focus (simp (maxSteps := 4000000) only [sks, pI, tvl, simprocAttr]; done)) | (simp (maxSteps := 4000000) only [pI, tvl, simprocAttr]) | refine ftS (by kernel_rfl) ?_ | refine And.intro (by omega) ?_)
    all_goals (first | rfl | trivial | skip)
  have dD : decide (xb ≥ t2) = false := by rw [decide_eq_false_iff_not]; exact cD
  have hn2 := hn (by omega)
  refine awpS_of mixed ?_
  repeat (first | (refine aops_fnX rfl ?_ ?_; focus (simp (maxSteps := 4000000) only [sks, d1, dA, dB, dC, dD, pI, tvl, simprocAttr]; done)) | (simp (maxSteps := 4000000) only [d1, dA, dB, dC, dD, pI, tvl, simprocAttr]) | refine ftS (by kernel_rfl) ?_ | refine And.intro (by omega) ?_)
  refine awpS_of mixed ?_
  repeat (first | (refine aops_fnX rfl ?_ ?_; focus (simp (maxSteps := 4000000) only [sks, pI, tvl, simprocAttr]; done)) | (simp (maxSteps := 4000000) only [pI, tvl, simprocAttr]) | refine ftS (by kernel_rfl) ?_ | refine And.intro (by omega) ?_)
  refine ⟨k + 1, ⟨by omega, hn2⟩, by omega, ?_⟩
  simp
end Av
end Go.Proofs.YtbkbppllcjcmhaaGreat
