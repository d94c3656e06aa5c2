/-
  What both packages answer: TakeNum.
-/
import Derived.Test.YtemogjmghgfdfaaTake
import Derived.Test.YtemogjmghgfdfaaExactTakeNum
set_option linter.unusedSimpArgs false
set_option linter.unusedVariables false
namespace Go.Proofs.Ytemogjmghgfdfaa
open Go.RowKit
namespace Av
theorem both_TakeNum (s0 : ByteArray) (n1 : Int) (hs : s0.size ≤ 1048576) : exactTakeNum_both s0 n1 :=
  ⟨_, _, _, (stake_ok hs).read, itake_ok hs⟩
end Av
end Go.Proofs.Ytemogjmghgfdfaa
