/-
  Nested parameters of laws, opened.
-/
import Derived.Test.YtdjenlnomibniaaTyN
import Derived.Test.YtdjenlnomibniaaOpnN
set_option linter.unusedSimpArgs false
set_option linter.unusedVariables false
namespace Go.Proofs.Ytdjenlnomibniaa
open Go.ChangeShapes Go.WideShapes Go.ChangeAt Go.RowKit Go.Deep
namespace Av
theorem opn_IntS : Opn Try.prog 22 (fun ps => ∃ R : List (List PV), ps = [.lst 3 R] ∧ R.length ≤ maxLen ∧ ∀ r ∈ R, ShInt r) := opn_sl Try.underlying22 (by rw [(by kernel_rfl : Try.prog.cellsOf 3 = 1)]; decide) (opn_int Try.underlying3)
def LoChoice (r : List PV) : Prop := ∃ a0 a1 a2 : Int, r = [pI a0, pI a1, pI a2]
set_option maxRecDepth 10000 in
set_option maxHeartbeats 4000000 in
theorem opn_Choice : Opn Try.prog 88 LoChoice := by
  refine (opn_struct Try.underlying88 (l := [(0, 3), (1, 3), (2, 3)]) (by kernel_rfl) (by kernel_rfl : Try.prog.cellsOf 88 = 3) (opnF_cons (opn_int Try.underlying3) (by kernel_rfl : Try.prog.cellsOf 3 = 1) (opnF_cons (opn_int Try.underlying3) (by kernel_rfl : Try.prog.cellsOf 3 = 1) (opnF_cons (opn_int Try.underlying3) (by kernel_rfl : Try.prog.cellsOf 3 = 1) (opnF_nil _ 3))))).mono (fun ps h => ?_)
  obtain ⟨_, _, rfl, ⟨a0, rfl⟩, ⟨_, _, rfl, ⟨a1, rfl⟩, ⟨_, _, rfl, ⟨a2, rfl⟩, rfl⟩⟩⟩ := h
  exact ⟨a0, a1, a2, rfl⟩
set_option maxRecDepth 10000 in
set_option maxHeartbeats 4000000 in
theorem opn_Thread : Opn Try.prog 24 LoThread := by
  refine (opn_struct Try.underlying24 (l := [(0, 3), (1, 22), (2, 22), (3, 3)]) (by kernel_rfl) (by kernel_rfl : Try.prog.cellsOf 24 = 4) (opnF_cons (opn_int Try.underlying3) (by kernel_rfl : Try.prog.cellsOf 3 = 1) (opnF_cons (opn_IntS) (by kernel_rfl : Try.prog.cellsOf 22 = 1) (opnF_cons (opn_IntS) (by kernel_rfl : Try.prog.cellsOf 22 = 1) (opnF_cons (opn_int Try.underlying3) (by kernel_rfl : Try.prog.cellsOf 3 = 1) (opnF_nil _ 4)))))).mono (fun ps h => ?_)
  obtain ⟨_, _, rfl, ⟨a0, rfl⟩, ⟨_, _, rfl, ⟨a1, rfl, l1, s1⟩, ⟨_, _, rfl, ⟨a2, rfl, l2, s2⟩, ⟨_, _, rfl, ⟨a3, rfl⟩, rfl⟩⟩⟩⟩ := h
  exact ⟨a0, a1, a2, a3, rfl, ⟨by unfold maxLen at l1; omega, s1⟩, ⟨by unfold maxLen at l2; omega, s2⟩⟩
theorem opn_ThreadS : Opn Try.prog 35 (fun ps => ∃ R : List (List PV), ps = [.lst 24 R] ∧ R.length ≤ maxLen ∧ ∀ r ∈ R, LoThread r) := opn_sl Try.underlying35 (by rw [(by kernel_rfl : Try.prog.cellsOf 24 = 4)]; decide) opn_Thread
set_option maxRecDepth 10000 in
set_option maxHeartbeats 4000000 in
theorem opn_Machine : Opn Try.prog 37 LoMachine := by
  refine (opn_struct Try.underlying37 (l := [(0, 35), (1, 22), (2, 22), (3, 22)]) (by kernel_rfl) (by kernel_rfl : Try.prog.cellsOf 37 = 4) (opnF_cons (opn_ThreadS) (by kernel_rfl : Try.prog.cellsOf 35 = 1) (opnF_cons (opn_IntS) (by kernel_rfl : Try.prog.cellsOf 22 = 1) (opnF_cons (opn_IntS) (by kernel_rfl : Try.prog.cellsOf 22 = 1) (opnF_cons (opn_IntS) (by kernel_rfl : Try.prog.cellsOf 22 = 1) (opnF_nil _ 4)))))).mono (fun ps h => ?_)
  obtain ⟨_, _, rfl, ⟨a0, rfl, l0, s0⟩, ⟨_, _, rfl, ⟨a1, rfl, l1, s1⟩, ⟨_, _, rfl, ⟨a2, rfl, l2, s2⟩, ⟨_, _, rfl, ⟨a3, rfl, l3, s3⟩, rfl⟩⟩⟩⟩ := h
  exact ⟨a0, a1, a2, a3, rfl, ⟨by unfold maxLen at l0; omega, s0⟩, ⟨by unfold maxLen at l1; omega, s1⟩, ⟨by unfold maxLen at l2; omega, s2⟩, ⟨by unfold maxLen at l3; omega, s3⟩⟩
set_option maxRecDepth 10000 in
set_option maxHeartbeats 4000000 in
theorem opn_Undo : Opn Try.prog 26 LoUndo := by
  refine (opn_struct Try.underlying26 (l := [(0, 3), (1, 24), (5, 3), (6, 3), (7, 3), (8, 3), (9, 4), (10, 4)]) (by kernel_rfl) (by kernel_rfl : Try.prog.cellsOf 26 = 11) (opnF_cons (opn_int Try.underlying3) (by kernel_rfl : Try.prog.cellsOf 3 = 1) (opnF_cons (opn_Thread) (by kernel_rfl : Try.prog.cellsOf 24 = 4) (opnF_cons (opn_int Try.underlying3) (by kernel_rfl : Try.prog.cellsOf 3 = 1) (opnF_cons (opn_int Try.underlying3) (by kernel_rfl : Try.prog.cellsOf 3 = 1) (opnF_cons (opn_int Try.underlying3) (by kernel_rfl : Try.prog.cellsOf 3 = 1) (opnF_cons (opn_int Try.underlying3) (by kernel_rfl : Try.prog.cellsOf 3 = 1) (opnF_cons (opn_bool Try.underlying4) (by kernel_rfl : Try.prog.cellsOf 4 = 1) (opnF_cons (opn_bool Try.underlying4) (by kernel_rfl : Try.prog.cellsOf 4 = 1) (opnF_nil _ 11)))))))))).mono (fun ps h => ?_)
  obtain ⟨_, _, rfl, ⟨a0, rfl⟩, ⟨_, _, rfl, ⟨a1, a2, a3, a4, rfl, s2, s3⟩, ⟨_, _, rfl, ⟨a5, rfl⟩, ⟨_, _, rfl, ⟨a6, rfl⟩, ⟨_, _, rfl, ⟨a7, rfl⟩, ⟨_, _, rfl, ⟨a8, rfl⟩, ⟨_, _, rfl, ⟨a9, rfl⟩, ⟨_, _, rfl, ⟨a10, rfl⟩, rfl⟩⟩⟩⟩⟩⟩⟩⟩ := h
  exact ⟨a0, a1, a2, a3, a4, a5, a6, a7, a8, a9, a10, rfl, s2, s3⟩
end Av
end Go.Proofs.Ytdjenlnomibniaa
