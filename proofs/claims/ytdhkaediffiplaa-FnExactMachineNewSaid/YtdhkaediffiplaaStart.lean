/-
  Two closed facts on the program, which every law's proof wants.
-/
import Derived.Test.YtdhkaediffiplaaRows
import Derived.Test.YtdhkaediffiplaaLaw
namespace Go.Proofs.Ytdhkaediffiplaa
open Go.ChangeShapes Go.WideShapes Go.ChangeAt Go.RowKit

theorem own : ownKnob Try.prog.godebug = none := by kernel_rfl
theorem laidOut : laidOutB Try.prog = true := by kernel_rfl
end Go.Proofs.Ytdhkaediffiplaa
