/-
  When a program is one, in the program's own package: a contract for every row of instructions in memory.
-/
import Derived.Test.YtkihalnkfneegaaPok
namespace Go.Proofs.Ytkihalnkfneegaa
open Go.RowKit

namespace Bt
theorem fC_place {op : Int} : fC op = 4 ↔ uC op = 3 := by unfold fC; split <;> omega
theorem progOk_out {rs : List C4} {h : Int} {n : Nat} (hn : rs.length = n) (hno : ¬ (1 ≤ n ∧ n ≤ 60 ∧ -1 ≤ h ∧ h < n)) : progOk rs h = false := by
  subst hn
  simp only [progOk, Bool.and_eq_false_iff, decide_eq_false_iff_not]
  exact .inr hno
end Bt

theorem run_form_c (x y z t : Value) (w : World) : (Instr.field 30 (.agg #[x, y, z, t]) 3).run Try.prog w = .ok t w := by kernel_rfl

end Go.Proofs.Ytkihalnkfneegaa
