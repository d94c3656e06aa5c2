/-
  What both packages' UndoSize answer.
-/
import Derived.Test.YtdjenlnomibniaaExactUndoSize
set_option linter.unusedSimpArgs false
set_option linter.unusedVariables false
namespace Go.Proofs.Ytdjenlnomibniaa
open Go.RowKit
namespace Av
set_option maxHeartbeats 4000000 in
theorem both_UndoSize (a0 a1 : Int) (R2 R3 : List (List PV)) (a4 a5 a6 a7 a8 : Int) (a9 a10 : Bool) (h2 : ∀ r ∈ R2, ShInt r) (h3 : ∀ r ∈ R3, ShInt r) (hh : R2.length + R3.length ≤ 1048576) : exactUndoSize_both a0 a1 R2 R3 a4 a5 a6 a7 a8 a9 a10 := by
  refine ⟨7 + R2.length + R3.length, ?_, ?_⟩
  · refine FnOk.read ?_
    refine fn_ok mixed Try.func15 rfl (by kernel_rfl) _ Try.results15 _ Try.ntmps15 (by simp) (by kernel_rfl) ?_
    simp (maxSteps := 4000000) only [pI, tvs, simprocAttr]
    repeat (first | refine ftS (by kernel_rfl) ?_ | refine And.intro (by omega) ?_)
    all_goals (first | rfl | trivial | skip)
  · refine fn_ok mixed Try.func17 rfl (by kernel_rfl) _ Try.results17 _ Try.ntmps17 (by simp) (by kernel_rfl) ?_
    simp (maxSteps := 4000000) only [pI, tvs, simprocAttr]
    repeat (first | refine ftS (by kernel_rfl) ?_ | refine And.intro (by omega) ?_)
    all_goals (first | rfl | trivial | skip)
end Av
end Go.Proofs.Ytdjenlnomibniaa
