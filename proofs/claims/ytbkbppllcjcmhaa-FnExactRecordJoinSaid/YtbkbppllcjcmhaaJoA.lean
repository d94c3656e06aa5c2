/-
  Recordings that are joined, the model's: a round of its loop.
-/
import Derived.Test.YtbkbppllcjcmhaaAvB
import Derived.Test.YtbkbppllcjcmhaaTab
import Derived.Test.YtbkbppllcjcmhaaC1
set_option linter.unusedSimpArgs false
set_option linter.unusedVariables false
namespace Go.Proofs.Ytbkbppllcjcmhaa
open Go.RowKit
namespace Av
/-- the first loop of a text -/
def loopOf : Code → Option Code
  | .loop c => some c
  | .seq a b => match loopOf a with
    | some c => some c
    | none => loopOf b
  | .block _ b => loopOf b
  | .scope b => loopOf b
  | .cond _ a b => match loopOf a with
    | some c => some c
    | none => loopOf b
  | _ => none
/-- slots and blocks of the model's loop; what the rounds do not look at is any value -/
def jT (k : Nat) : List (Nat × AV) := [(3, .ptr 0 0), (4, .ptr 1 0), (5, .ptr 2 0), (6, .ptr 3 0), (8, .ptr 6 0), (9, .pv (.int .i64 k))]
def jB (X0 X1 X2 X3 : PV) (h : Int) (R RO RA : List (List PV)) : List (Nat × Blk) := [(0, .box [.pv X0, .pv (.int .i64 h)]), (1, .box [.pv X1, .pv X2]), (2, .box [.pv (.lst 104 R), .pv X3]), (3, .box [.nil 104, .nil 3]), (4, .row true 104 RO), (5, .row true 3 RA), (6, .box [.sl 4, .sl 5])]
def jU (k n : Nat) : List (Nat × AV) := [(3, .ptr 0 0), (4, .ptr 1 0), (5, .ptr 2 0), (6, .ptr 3 0), (8, .ptr 6 0), (9, .pv (.int .i64 k)), (10, .ptr 7 0), (11, .pv (.int .i64 ((n : Int) - 1)))]
def jC (X0 X1 X2 X3 : PV) (h : Int) (R RO RA : List (List PV)) (a b c : Int) : List (Nat × Blk) := [(0, .box [.pv X0, .pv (.int .i64 h)]), (1, .box [.pv X1, .pv X2]), (2, .box [.pv (.lst 104 R), .pv X3]), (3, .box [.nil 104, .nil 3]), (4, .row true 104 RO), (5, .row true 3 RA), (6, .box [.sl 4, .sl 5]), (7, .box [.pv (.int .i64 a), .pv (.int .i64 b), .pv (.int .i64 c)])]
/-- the text of a round's choice -/
def textAt : Nat → Code → Option Code
  | 0, c => some c
  | n + 1, .seq _ y => textAt n y
  | _, _ => none
def blockIn : Code → Option Code
  | .block _ c => some c
  | .seq a b => match blockIn a with
    | some c => some c
    | none => blockIn b
  | _ => none
set_option maxRecDepth 10000 in
set_option maxHeartbeats 16000000 in
theorem rj_later {X0 X1 X2 X3 : PV} {h : Int} {R RO RA : List (List PV)} {w0 : W0} {k n : Nat} {bw bk bm : Int} (ck : k ≠ 0) (hn : RO.length = n) (hnl : n ≤ 1048576) (hk : k ≤ 1048576) {fn : Func} {c0 c1 c2 c : Code} (hf : EW.P.funcs[31]? = some fn) (hb : fn.body = some c0) (hc1 : loopOf c0 = some c1) (hc2 : blockIn c1 = some c2) (hc : textAt 2 c2 = some c) {Q : Post}
    (hQ : ∀ S m, LessL 100 S (jT k) (jB X0 X1 X2 X3 h R (RO ++ [[.int .i64 bw, .int .i64 bk, .int .i64 bm]]) RA) → Q .normal S m) :
    awpS EW.P w0 107 c Q (mkS (jU k n) (jC X0 X1 X2 X3 h R RO RA bw bk bm)) 100 := by
  obtain rfl := Option.some.inj (hf.symm.trans Try.func31)
  obtain rfl := Option.some.inj hb
  simp only [loopOf] at hc1
  obtain rfl := Option.some.inj hc1
  simp only [blockIn] at hc2
  obtain rfl := Option.some.inj hc2
  simp only [textAt] at hc
  obtain rfl := Option.some.inj hc
  have t0 : ((k : Int) == 0) = false := by rw [beq_eq_false_iff_ne]; omega
  refine awpS_of mixedW ?_
  simp only [mkS, jU, jC]
  repeat (first | (simp (maxSteps := 4000000) only [ew_tb, hn, t0, List.length_append, pI, tvs, simprocAttr]) | refine ftS (by kernel_rfl) ?_ | refine And.intro (by omega) ?_)
  refine hQ _ _ ?_
  simp (maxSteps := 4000000) only [jT, jB, pI, tvl, simprocAttr]
  all_goals (try simp)
set_option maxRecDepth 10000 in
set_option maxHeartbeats 16000000 in
theorem rj_nil {X0 X1 X2 X3 : PV} {h : Int} {R RO RA : List (List PV)} {w0 : W0} {k n : Nat} {bw bk bm : Int} (ck : k = 0) (cn : n = 0) (hn : RO.length = n) (hnl : n ≤ 1048576) (hk : k ≤ 1048576) {fn : Func} {c0 c1 c2 c : Code} (hf : EW.P.funcs[31]? = some fn) (hb : fn.body = some c0) (hc1 : loopOf c0 = some c1) (hc2 : blockIn c1 = some c2) (hc : textAt 2 c2 = some c) {Q : Post}
    (hQ : ∀ S m, LessL 100 S (jT k) (jB X0 X1 X2 X3 h R (RO ++ [[.int .i64 bw, .int .i64 bk, .int .i64 bm]]) RA) → Q .normal S m) :
    awpS EW.P w0 107 c Q (mkS (jU k n) (jC X0 X1 X2 X3 h R RO RA bw bk bm)) 100 := by
  obtain rfl := Option.some.inj (hf.symm.trans Try.func31)
  obtain rfl := Option.some.inj hb
  simp only [loopOf] at hc1
  obtain rfl := Option.some.inj hc1
  simp only [blockIn] at hc2
  obtain rfl := Option.some.inj hc2
  simp only [textAt] at hc
  obtain rfl := Option.some.inj hc
  have t0 : ((k : Int) == 0) = true := by rw [beq_iff_eq]; omega
  have t1 : decide ((n : Int) - 1 ≥ 0) = false := by rw [decide_eq_false_iff_not]; omega
  refine awpS_of mixedW ?_
  simp only [mkS, jU, jC]
  repeat (first | (simp (maxSteps := 4000000) only [ew_tb, hn, t0, t1, List.length_append, pI, tvs, simprocAttr]) | refine ftS (by kernel_rfl) ?_ | refine And.intro (by omega) ?_)
  refine hQ _ _ ?_
  simp (maxSteps := 4000000) only [jT, jB, pI, tvl, simprocAttr]
  all_goals (try simp)
set_option maxRecDepth 10000 in
set_option maxHeartbeats 16000000 in
theorem rj_who {X0 X1 X2 X3 : PV} {h : Int} {R RO RA : List (List PV)} {w0 : W0} {k n : Nat} {bw bk bm : Int} (ck : k = 0) {j : Nat} (cn : n = j + 1) {aw ak am : Int} (er : RO[j]? = some [.int .i64 aw, .int .i64 ak, .int .i64 am]) (e1 : (aw == bw) = false) (hn : RO.length = n) (hnl : n ≤ 1048576) (hk : k ≤ 1048576) {fn : Func} {c0 c1 c2 c : Code} (hf : EW.P.funcs[31]? = some fn) (hb : fn.body = some c0) (hc1 : loopOf c0 = some c1) (hc2 : blockIn c1 = some c2) (hc : textAt 2 c2 = some c) {Q : Post}
    (hQ : ∀ S m, LessL 100 S (jT k) (jB X0 X1 X2 X3 h R (RO ++ [[.int .i64 bw, .int .i64 bk, .int .i64 bm]]) RA) → Q .normal S m) :
    awpS EW.P w0 107 c Q (mkS (jU k n) (jC X0 X1 X2 X3 h R RO RA bw bk bm)) 100 := by
  obtain rfl := Option.some.inj (hf.symm.trans Try.func31)
  obtain rfl := Option.some.inj hb
  simp only [loopOf] at hc1
  obtain rfl := Option.some.inj hc1
  simp only [blockIn] at hc2
  obtain rfl := Option.some.inj hc2
  simp only [textAt] at hc
  obtain rfl := Option.some.inj hc
  have t0 : ((k : Int) == 0) = true := by rw [beq_iff_eq]; omega
  have t1 : decide ((n : Int) - 1 ≥ 0) = true := by rw [decide_eq_true_eq]; omega
  have x1 : ((n : Int) - 1).toNat = j := by omega
  refine awpS_of mixedW ?_
  simp only [mkS, jU, jC]
  repeat (first | (simp (maxSteps := 4000000) only [ew_tb, hn, t0, t1, x1, er, e1, List.length_append, pI, tvs, simprocAttr]) | refine ftS (by kernel_rfl) ?_ | refine And.intro (by omega) ?_)
  refine hQ _ _ ?_
  simp (maxSteps := 4000000) only [jT, jB, pI, tvl, simprocAttr]
  all_goals (try simp)
set_option maxRecDepth 10000 in
set_option maxHeartbeats 16000000 in
theorem rj_kind {X0 X1 X2 X3 : PV} {h : Int} {R RO RA : List (List PV)} {w0 : W0} {k n : Nat} {bw bk bm : Int} (ck : k = 0) {j : Nat} (cn : n = j + 1) {aw ak am : Int} (er : RO[j]? = some [.int .i64 aw, .int .i64 ak, .int .i64 am]) (e1 : (aw == bw) = true) (e2 : (ak == bk) = false) (hn : RO.length = n) (hnl : n ≤ 1048576) (hk : k ≤ 1048576) {fn : Func} {c0 c1 c2 c : Code} (hf : EW.P.funcs[31]? = some fn) (hb : fn.body = some c0) (hc1 : loopOf c0 = some c1) (hc2 : blockIn c1 = some c2) (hc : textAt 2 c2 = some c) {Q : Post}
    (hQ : ∀ S m, LessL 100 S (jT k) (jB X0 X1 X2 X3 h R (RO ++ [[.int .i64 bw, .int .i64 bk, .int .i64 bm]]) RA) → Q .normal S m) :
    awpS EW.P w0 107 c Q (mkS (jU k n) (jC X0 X1 X2 X3 h R RO RA bw bk bm)) 100 := by
  obtain rfl := Option.some.inj (hf.symm.trans Try.func31)
  obtain rfl := Option.some.inj hb
  simp only [loopOf] at hc1
  obtain rfl := Option.some.inj hc1
  simp only [blockIn] at hc2
  obtain rfl := Option.some.inj hc2
  simp only [textAt] at hc
  obtain rfl := Option.some.inj hc
  have t0 : ((k : Int) == 0) = true := by rw [beq_iff_eq]; omega
  have t1 : decide ((n : Int) - 1 ≥ 0) = true := by rw [decide_eq_true_eq]; omega
  have x1 : ((n : Int) - 1).toNat = j := by omega
  refine awpS_of mixedW ?_
  simp only [mkS, jU, jC]
  repeat (first | (simp (maxSteps := 4000000) only [ew_tb, hn, t0, t1, x1, er, e1, e2, List.length_append, pI, tvs, simprocAttr]) | refine ftS (by kernel_rfl) ?_ | refine And.intro (by omega) ?_)
  refine hQ _ _ ?_
  simp (maxSteps := 4000000) only [jT, jB, pI, tvl, simprocAttr]
  all_goals (try simp)
end Av
end Go.Proofs.Ytbkbppllcjcmhaa
