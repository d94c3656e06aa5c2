/-
  Two closed facts on the program, which every law's proof wants.
-/
import Derived.Test.YtlfckcgifndbaaaRows
import Derived.Test.YtlfckcgifndbaaaLaw
namespace Go.Proofs.Ytlfckcgifndbaaa
open Go.ChangeShapes Go.WideShapes Go.ChangeAt Go.RowKit

theorem own : ownKnob Try.prog.godebug = none := by kernel_rfl
theorem laidOut : laidOutB Try.prog = true := by kernel_rfl
end Go.Proofs.Ytlfckcgifndbaaa
