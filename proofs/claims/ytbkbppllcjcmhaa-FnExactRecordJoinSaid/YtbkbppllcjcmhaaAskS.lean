/-
  What the model's l4Asks hands back, for any program.
-/
import Derived.Test.YtbkbppllcjcmhaaIRec
import Derived.Test.YtbkbppllcjcmhaaBrS
set_option linter.unusedSimpArgs false
set_option linter.unusedVariables false
namespace Go.Proofs.Ytbkbppllcjcmhaa
open Go.RowKit
namespace Av
set_option maxHeartbeats 4000000 in
theorem l4AsksA_ok {rs : List Bt.C4} {h who kind rep : Int} {m : Bt.Mc} (hn : rs.length ≤ 1048576) (hm : Small m) : FnOk E.P 120 [pProg rs h, .agg (pMc m), .agg (pCh ⟨who, kind, rep⟩)] (.bool (Bt.asks rs h m ⟨who, kind, rep⟩)) true := by
  have hI := (sinstrA_ok (rs := rs) (h := h) (m := m) (who := who) hn hm).read
  unfold Bt.asks
  simp only
  generalize Bt.instrOf rs h m who = X at *
  cases X with
  | none =>
    refine fn_ok mixed Try.func120 rfl (by kernel_rfl) _ Try.results120 _ Try.ntmps120 (by simp) (by kernel_rfl) ?_
    simp (maxSteps := 4000000) only [pProg, pMc, pCh, pInts, pI, tvs, simprocAttr]
    repeat (first | refine ftS (by kernel_rfl) ?_ | refine And.intro (by omega) ?_)
    refine aops_callF (hI) (hidB rfl) rfl ?_
    simp (maxSteps := 4000000) only [Option.getD_none, Option.isSome_none, pProg, pMc, pCh, pCode, pInts, pI, tvs, simprocAttr]
    repeat (first | refine ftS (by kernel_rfl) ?_ | refine And.intro (by omega) ?_)
    all_goals (first | rfl | trivial | skip)
  | some x =>
    obtain ⟨op, xa, xb, xc⟩ := x
    simp only
    refine fn_ok mixed Try.func120 rfl (by kernel_rfl) _ Try.results120 _ Try.ntmps120 (by simp) (by kernel_rfl) ?_
    simp (maxSteps := 4000000) only [pProg, pMc, pCh, pInts, pI, tvs, simprocAttr]
    repeat (first | refine ftS (by kernel_rfl) ?_ | refine And.intro (by omega) ?_)
    refine aops_callF (hI) (hidB rfl) rfl ?_
    cases d1 : op == 13 <;> cases d2 : kind == 0
    all_goals
      simp (maxSteps := 4000000) only [d1, d2, Bool.and_true, Bool.and_false, Bool.false_and, Bool.true_and, Option.getD_some, Option.isSome_some, pProg, pMc, pCh, pCode, pInts, pI, tvs, simprocAttr]
      repeat (first | refine ftS (by kernel_rfl) ?_ | refine And.intro (by omega) ?_)
      all_goals (first | rfl | trivial | skip)
end Av
end Go.Proofs.Ytbkbppllcjcmhaa
