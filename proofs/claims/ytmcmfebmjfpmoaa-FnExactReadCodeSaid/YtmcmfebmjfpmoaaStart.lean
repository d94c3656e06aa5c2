/-
  Two closed facts on the program, which every law's proof wants.
-/
import Derived.Test.YtmcmfebmjfpmoaaRows
import Derived.Test.YtmcmfebmjfpmoaaLaw
namespace Go.Proofs.Ytmcmfebmjfpmoaa
open Go.ChangeShapes Go.WideShapes Go.ChangeAt Go.RowKit

theorem own : ownKnob Try.prog.godebug = none := by kernel_rfl
theorem laidOut : laidOutB Try.prog = true := by kernel_rfl
end Go.Proofs.Ytmcmfebmjfpmoaa
