/-
  When an instruction is one, in both packages: contracts for every instruction.
-/
import Derived.Test.YtdhkaediffiplaaCode
import Derived.Lib.SmallJoins
namespace Go.Proofs.Ytdhkaediffiplaa
open Go.RowKit

set_option maxHeartbeats 1000000 in
theorem toCode_any (op a b c : Int) (w : World) :
    Calls Try.prog 30 #[.agg #[.int .i64 op, .int .i64 a, .int .i64 b, .int .i64 c]] w fun e w' => e = .returned (.agg #[.int .i64 op, .int .i64 a, .int .i64 b, .int .i64 c]) ∧ Below w.heap.size w w' := by
  go_enter Try.func30, Try.ntmps30
  go_wp2
  refine bodyPost_ret (v := .agg #[.int .i64 op, .int .i64 a, .int .i64 b, .int .i64 c]) (by simp [results, Try.results30, go_sem]) rfl ⟨rfl, ?_⟩
  repeat (first | exact Below.refl _ _ | (refine Below.alloc ?_ (by simp <;> omega) _))

set_option maxHeartbeats 1000000 in
theorem formOf_any (op : Int) (w : World) :
    Calls Try.prog 88 #[.int .i64 op] w fun e w' => e = .returned (.agg #[.string ⟨(Bt.name op).toArray⟩, .int .i64 (Bt.fA op), .int .i64 (Bt.fB op), .int .i64 (Bt.fC op)]) ∧ Below w.heap.size w w' := by
  rcases Bt.ops op with h | h | h | h | h | h | h | h | h | h | h | h | h | h | h | h | h | h | h
  case inr.inr.inr.inr.inr.inr.inr.inr.inr.inr.inr.inr.inr.inr.inr.inr.inr.inr =>
    have t0 := ops_none h 0 (by decide) (by decide)
    have t1 := ops_none h 1 (by decide) (by decide)
    have t2 := ops_none h 2 (by decide) (by decide)
    have t3 := ops_none h 3 (by decide) (by decide)
    have t4 := ops_none h 4 (by decide) (by decide)
    have t5 := ops_none h 5 (by decide) (by decide)
    have t6 := ops_none h 6 (by decide) (by decide)
    have t7 := ops_none h 7 (by decide) (by decide)
    have t8 := ops_none h 8 (by decide) (by decide)
    have t9 := ops_none h 9 (by decide) (by decide)
    have t10 := ops_none h 10 (by decide) (by decide)
    have t11 := ops_none h 11 (by decide) (by decide)
    have t12 := ops_none h 12 (by decide) (by decide)
    have t13 := ops_none h 13 (by decide) (by decide)
    have t14 := ops_none h 14 (by decide) (by decide)
    have t15 := ops_none h 15 (by decide) (by decide)
    have t16 := ops_none h 16 (by decide) (by decide)
    have t17 := ops_none h 17 (by decide) (by decide)
    go_enter Try.func88, Try.ntmps88
    go_wp2
    refine bodyPost_ret (v := .agg #[.string ⟨#[]⟩, .int .i64 0, .int .i64 0, .int .i64 0]) (by simp [results, Try.results88, go_sem]) rfl ⟨?_, (Below.refl _ _).alloc (Nat.le_refl _) _⟩
    have e1 : Bt.uA op = false := by simp only [Bt.uA, decide_eq_false_iff_not]; omega
    have e2 : Bt.uB op = false := by simp only [Bt.uB, decide_eq_false_iff_not]; omega
    have e4 : Bt.uC op = 0 := by unfold Bt.uC; repeat (rw [if_neg (by omega)])
    simp [Bt.name_none h, Bt.fA, Bt.fB, Bt.fC, e1, e2, e4]
  all_goals
    subst h
    go_enter Try.func88, Try.ntmps88
    go_wp2
    exact bodyPost_ret (by simp [results, Try.results88, go_sem]; decide) rfl ⟨rfl, (Below.refl _ _).alloc (Nat.le_refl _) _⟩
end Go.Proofs.Ytdhkaediffiplaa
