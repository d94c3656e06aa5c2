/-
  Nested parameters of laws, opened.
-/
import Derived.Test.YtbkbppllcjcmhaaTyN
import Derived.Test.YtbkbppllcjcmhaaOpnN
set_option linter.unusedSimpArgs false
set_option linter.unusedVariables false
namespace Go.Proofs.Ytbkbppllcjcmhaa
open Go.ChangeShapes Go.WideShapes Go.ChangeAt Go.RowKit Go.Deep
namespace Av
theorem opn_IntS : Opn Try.prog 34 (fun ps => ∃ R : List (List PV), ps = [.lst 3 R] ∧ R.length ≤ maxLen ∧ ∀ r ∈ R, ShInt r) := opn_sl Try.underlying34 (by rw [(by kernel_rfl : Try.prog.cellsOf 3 = 1)]; decide) (opn_int Try.underlying3)
def LoChoice (r : List PV) : Prop := ∃ a0 a1 a2 : Int, r = [pI a0, pI a1, pI a2]
set_option maxRecDepth 10000 in
set_option maxHeartbeats 4000000 in
theorem opn_Choice : Opn Try.prog 124 LoChoice := by
  refine (opn_struct Try.underlying124 (l := [(0, 3), (1, 3), (2, 3)]) (by kernel_rfl) (by kernel_rfl : Try.prog.cellsOf 124 = 3) (opnF_cons (opn_int Try.underlying3) (by kernel_rfl : Try.prog.cellsOf 3 = 1) (opnF_cons (opn_int Try.underlying3) (by kernel_rfl : Try.prog.cellsOf 3 = 1) (opnF_cons (opn_int Try.underlying3) (by kernel_rfl : Try.prog.cellsOf 3 = 1) (opnF_nil _ 3))))).mono (fun ps h => ?_)
  obtain ⟨_, _, rfl, ⟨a0, rfl⟩, ⟨_, _, rfl, ⟨a1, rfl⟩, ⟨_, _, rfl, ⟨a2, rfl⟩, rfl⟩⟩⟩ := h
  exact ⟨a0, a1, a2, rfl⟩
set_option maxRecDepth 10000 in
set_option maxHeartbeats 4000000 in
theorem opn_Thread : Opn Try.prog 133 LoThread := by
  refine (opn_struct Try.underlying133 (l := [(0, 3), (1, 34), (2, 34), (3, 3)]) (by kernel_rfl) (by kernel_rfl : Try.prog.cellsOf 133 = 4) (opnF_cons (opn_int Try.underlying3) (by kernel_rfl : Try.prog.cellsOf 3 = 1) (opnF_cons (opn_IntS) (by kernel_rfl : Try.prog.cellsOf 34 = 1) (opnF_cons (opn_IntS) (by kernel_rfl : Try.prog.cellsOf 34 = 1) (opnF_cons (opn_int Try.underlying3) (by kernel_rfl : Try.prog.cellsOf 3 = 1) (opnF_nil _ 4)))))).mono (fun ps h => ?_)
  obtain ⟨_, _, rfl, ⟨a0, rfl⟩, ⟨_, _, rfl, ⟨a1, rfl, l1, s1⟩, ⟨_, _, rfl, ⟨a2, rfl, l2, s2⟩, ⟨_, _, rfl, ⟨a3, rfl⟩, rfl⟩⟩⟩⟩ := h
  exact ⟨a0, a1, a2, a3, rfl, ⟨by unfold maxLen at l1; omega, s1⟩, ⟨by unfold maxLen at l2; omega, s2⟩⟩
theorem opn_ThreadS : Opn Try.prog 33 (fun ps => ∃ R : List (List PV), ps = [.lst 133 R] ∧ R.length ≤ maxLen ∧ ∀ r ∈ R, LoThread r) := opn_sl Try.underlying33 (by rw [(by kernel_rfl : Try.prog.cellsOf 133 = 4)]; decide) opn_Thread
set_option maxRecDepth 10000 in
set_option maxHeartbeats 4000000 in
theorem opn_Machine : Opn Try.prog 36 LoMachine := by
  refine (opn_struct Try.underlying36 (l := [(0, 33), (1, 34), (2, 34), (3, 34)]) (by kernel_rfl) (by kernel_rfl : Try.prog.cellsOf 36 = 4) (opnF_cons (opn_ThreadS) (by kernel_rfl : Try.prog.cellsOf 33 = 1) (opnF_cons (opn_IntS) (by kernel_rfl : Try.prog.cellsOf 34 = 1) (opnF_cons (opn_IntS) (by kernel_rfl : Try.prog.cellsOf 34 = 1) (opnF_cons (opn_IntS) (by kernel_rfl : Try.prog.cellsOf 34 = 1) (opnF_nil _ 4)))))).mono (fun ps h => ?_)
  obtain ⟨_, _, rfl, ⟨a0, rfl, l0, s0⟩, ⟨_, _, rfl, ⟨a1, rfl, l1, s1⟩, ⟨_, _, rfl, ⟨a2, rfl, l2, s2⟩, ⟨_, _, rfl, ⟨a3, rfl, l3, s3⟩, rfl⟩⟩⟩⟩ := h
  exact ⟨a0, a1, a2, a3, rfl, ⟨by unfold maxLen at l0; omega, s0⟩, ⟨by unfold maxLen at l1; omega, s1⟩, ⟨by unfold maxLen at l2; omega, s2⟩, ⟨by unfold maxLen at l3; omega, s3⟩⟩
end Av
end Go.Proofs.Ytbkbppllcjcmhaa
