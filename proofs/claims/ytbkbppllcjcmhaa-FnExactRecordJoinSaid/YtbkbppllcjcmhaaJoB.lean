/-
  Recordings that are joined, the model's: the other rounds of its loop.
-/
import Derived.Test.YtbkbppllcjcmhaaJoA
set_option linter.unusedSimpArgs false
set_option linter.unusedVariables false
namespace Go.Proofs.Ytbkbppllcjcmhaa
open Go.RowKit
namespace Av
set_option maxRecDepth 10000 in
set_option maxHeartbeats 16000000 in
theorem rj_low {X0 X1 X2 X3 : PV} {h : Int} {R RO RA : List (List PV)} {w0 : W0} {k n : Nat} {bw bk bm : Int} (ck : k = 0) {j : Nat} (cn : n = j + 1) {aw ak am : Int} (er : RO[j]? = some [.int .i64 aw, .int .i64 ak, .int .i64 am]) (e1 : (aw == bw) = true) (e2 : (ak == bk) = true) (e3 : decide (bm > 0) = false) (hn : RO.length = n) (hnl : n ≤ 1048576) (hk : k ≤ 1048576) {fn : Func} {c0 c1 c2 c : Code} (hf : EW.P.funcs[31]? = some fn) (hb : fn.body = some c0) (hc1 : loopOf c0 = some c1) (hc2 : blockIn c1 = some c2) (hc : textAt 2 c2 = some c) {Q : Post}
    (hQ : ∀ S m, LessL 100 S (jT k) (jB X0 X1 X2 X3 h R (RO ++ [[.int .i64 bw, .int .i64 bk, .int .i64 bm]]) RA) → Q .normal S m) :
    awpS EW.P w0 107 c Q (mkS (jU k n) (jC X0 X1 X2 X3 h R RO RA bw bk bm)) 100 := by
  obtain rfl := Option.some.inj (hf.symm.trans Try.func31)
  obtain rfl := Option.some.inj hb
  simp only [loopOf] at hc1
  obtain rfl := Option.some.inj hc1
  simp only [blockIn] at hc2
  obtain rfl := Option.some.inj hc2
  simp only [textAt] at hc
  obtain rfl := Option.some.inj hc
  have t0 : ((k : Int) == 0) = true := by rw [beq_iff_eq]; omega
  have t1 : decide ((n : Int) - 1 ≥ 0) = true := by rw [decide_eq_true_eq]; omega
  have x1 : ((n : Int) - 1).toNat = j := by omega
  refine awpS_of mixedW ?_
  simp only [mkS, jU, jC]
  repeat (first | (simp (maxSteps := 4000000) only [ew_tb, hn, t0, t1, x1, er, e1, e2, e3, List.length_append, pI, tvs, simprocAttr]) | refine ftS (by kernel_rfl) ?_ | refine And.intro (by omega) ?_)
  refine hQ _ _ ?_
  simp (maxSteps := 4000000) only [jT, jB, pI, tvl, simprocAttr]
  all_goals (try simp)
set_option maxRecDepth 10000 in
set_option maxHeartbeats 16000000 in
theorem rj_high {X0 X1 X2 X3 : PV} {h : Int} {R RO RA : List (List PV)} {w0 : W0} {k n : Nat} {bw bk bm : Int} (ck : k = 0) {j : Nat} (cn : n = j + 1) {aw ak am : Int} (er : RO[j]? = some [.int .i64 aw, .int .i64 ak, .int .i64 am]) (e1 : (aw == bw) = true) (e2 : (ak == bk) = true) (e3 : decide (bm > 0) = true) (e4 : decide (bm ≤ 300) = false) (hn : RO.length = n) (hnl : n ≤ 1048576) (hk : k ≤ 1048576) {fn : Func} {c0 c1 c2 c : Code} (hf : EW.P.funcs[31]? = some fn) (hb : fn.body = some c0) (hc1 : loopOf c0 = some c1) (hc2 : blockIn c1 = some c2) (hc : textAt 2 c2 = some c) {Q : Post}
    (hQ : ∀ S m, LessL 100 S (jT k) (jB X0 X1 X2 X3 h R (RO ++ [[.int .i64 bw, .int .i64 bk, .int .i64 bm]]) RA) → Q .normal S m) :
    awpS EW.P w0 107 c Q (mkS (jU k n) (jC X0 X1 X2 X3 h R RO RA bw bk bm)) 100 := by
  obtain rfl := Option.some.inj (hf.symm.trans Try.func31)
  obtain rfl := Option.some.inj hb
  simp only [loopOf] at hc1
  obtain rfl := Option.some.inj hc1
  simp only [blockIn] at hc2
  obtain rfl := Option.some.inj hc2
  simp only [textAt] at hc
  obtain rfl := Option.some.inj hc
  have t0 : ((k : Int) == 0) = true := by rw [beq_iff_eq]; omega
  have t1 : decide ((n : Int) - 1 ≥ 0) = true := by rw [decide_eq_true_eq]; omega
  have x1 : ((n : Int) - 1).toNat = j := by omega
  refine awpS_of mixedW ?_
  simp only [mkS, jU, jC]
  repeat (first | (simp (maxSteps := 4000000) only [ew_tb, hn, t0, t1, x1, er, e1, e2, e3, e4, List.length_append, pI, tvs, simprocAttr]) | refine ftS (by kernel_rfl) ?_ | refine And.intro (by omega) ?_)
  refine hQ _ _ ?_
  simp (maxSteps := 4000000) only [jT, jB, pI, tvl, simprocAttr]
  all_goals (try simp)
set_option maxRecDepth 10000 in
set_option maxHeartbeats 16000000 in
theorem rj_one {X0 X1 X2 X3 : PV} {h : Int} {R RO RA : List (List PV)} {w0 : W0} {k n : Nat} {bw bk bm : Int} (ck : k = 0) {j : Nat} (cn : n = j + 1) {aw ak am : Int} (er : RO[j]? = some [.int .i64 aw, .int .i64 ak, .int .i64 am]) (e1 : (aw == bw) = true) (e2 : (ak == bk) = true) (e3 : decide (bm > 0) = true) (e4 : decide (bm ≤ 300) = true) (hn : RO.length = n) (hnl : n ≤ 1048576) (hk : k ≤ 1048576) {fn : Func} {c0 c1 c2 c : Code} (hf : EW.P.funcs[31]? = some fn) (hb : fn.body = some c0) (hc1 : loopOf c0 = some c1) (hc2 : blockIn c1 = some c2) (hc : textAt 2 c2 = some c) {Q : Post}
    (hQ : ∀ S m, LessL 100 S (jT k) (jB X0 X1 X2 X3 h R (RO.set j [.int .i64 aw, .int .i64 ak, .int .i64 (addW .i64 am bm)]) RA) → Q .normal S m) :
    awpS EW.P w0 107 c Q (mkS (jU k n) (jC X0 X1 X2 X3 h R RO RA bw bk bm)) 100 := by
  obtain rfl := Option.some.inj (hf.symm.trans Try.func31)
  obtain rfl := Option.some.inj hb
  simp only [loopOf] at hc1
  obtain rfl := Option.some.inj hc1
  simp only [blockIn] at hc2
  obtain rfl := Option.some.inj hc2
  simp only [textAt] at hc
  obtain rfl := Option.some.inj hc
  have t0 : ((k : Int) == 0) = true := by rw [beq_iff_eq]; omega
  have t1 : decide ((n : Int) - 1 ≥ 0) = true := by rw [decide_eq_true_eq]; omega
  have x1 : ((n : Int) - 1).toNat = j := by omega
  refine awpS_of mixedW ?_
  simp only [mkS, jU, jC]
  repeat (first | (simp (maxSteps := 4000000) only [ew_tb, hn, t0, t1, x1, er, e1, e2, e3, e4, List.length_append, pI, tvs, simprocAttr]) | refine ftS (by kernel_rfl) ?_ | refine And.intro (by omega) ?_)
  refine hQ _ _ ?_
  simp (maxSteps := 4000000) only [jT, jB, pI, tvl, simprocAttr]
  all_goals (try simp)
end Av
end Go.Proofs.Ytbkbppllcjcmhaa
