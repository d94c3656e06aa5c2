/-
  What both packages answer: Kept.
-/
import Derived.Test.YtemogjmghgfdfaaKept
import Derived.Test.YtemogjmghgfdfaaExactKept
set_option linter.unusedSimpArgs false
set_option linter.unusedVariables false
namespace Go.Proofs.Ytemogjmghgfdfaa
open Go.RowKit
namespace Av
theorem both_Kept (n0 n1 : Int) (_b0 : -9223372036854775808 ≤ n0 ∧ n0 ≤ 9223372036854775807) (b1 : -9223372036854775808 ≤ n1 ∧ n1 ≤ 9223372036854775807) : exactKept_both n0 n1 :=
  ⟨_, (skept_ok b1.2).read, ikept_ok b1.2⟩
end Av
end Go.Proofs.Ytemogjmghgfdfaa
