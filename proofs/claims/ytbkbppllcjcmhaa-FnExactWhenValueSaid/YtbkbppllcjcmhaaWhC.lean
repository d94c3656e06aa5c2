/-
  What both packages answer: WhenValue, Holds.
-/
import Derived.Test.YtbkbppllcjcmhaaExactWhenValue
import Derived.Test.YtbkbppllcjcmhaaExactHolds
import Derived.Test.YtbkbppllcjcmhaaShN
import Derived.Test.YtbkbppllcjcmhaaWhB
set_option linter.unusedSimpArgs false
set_option linter.unusedVariables false
namespace Go.Proofs.Ytbkbppllcjcmhaa
open Go.RowKit
namespace Av
theorem both_WhenValue (R0 R1 R2 R3 Q : List (List PV)) (t0 : ∀ r ∈ R0, LoThread r) (t1 : ∀ r ∈ R1, ShInt r) (t2 : ∀ r ∈ R2, ShInt r) (t3 : ∀ r ∈ R3, ShInt r) (t4 : ∀ r ∈ Q, ShPart r)
    (hh : totR R0 + R1.length + R2.length + R3.length + Q.length ≤ 1048576) : exactWhenValue_both R0 R1 R2 R3 Q := by
  obtain ⟨m, hmc, hm, _⟩ := mc_of t0 t1 t2 t3 (by omega)
  obtain ⟨l, rfl⟩ := pts_of Q t4
  simp only [List.length_map] at hh
  unfold exactWhenValue_both
  rw [hmc]
  exact ⟨_, (sWhenValue_ok hm (by omega)).read, iWhenValue_ok hm (by omega)⟩
theorem both_Holds (R0 R1 R2 R3 Q : List (List PV)) (t0 : ∀ r ∈ R0, LoThread r) (t1 : ∀ r ∈ R1, ShInt r) (t2 : ∀ r ∈ R2, ShInt r) (t3 : ∀ r ∈ R3, ShInt r) (t4 : ∀ r ∈ Q, ShPart r)
    (hh : totR R0 + R1.length + R2.length + R3.length + Q.length ≤ 1048576) : exactHolds_both R0 R1 R2 R3 Q := by
  obtain ⟨m, hmc, hm, _⟩ := mc_of t0 t1 t2 t3 (by omega)
  obtain ⟨l, rfl⟩ := pts_of Q t4
  simp only [List.length_map] at hh
  unfold exactHolds_both
  rw [hmc]
  exact ⟨_, (sHolds_ok hm (by omega)).read, iHolds_ok hm (by omega)⟩
end Av
end Go.Proofs.Ytbkbppllcjcmhaa
