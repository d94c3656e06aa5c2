/-
  Nested parameters of laws, opened.
-/
import Derived.Test.YtbkbppllcjcmhaaGreatTyN
import Derived.Test.YtbkbppllcjcmhaaGreatOpnN
set_option linter.unusedSimpArgs false
set_option linter.unusedVariables false
namespace Go.Proofs.YtbkbppllcjcmhaaGreat
open Go.ChangeShapes Go.WideShapes Go.ChangeAt Go.RowKit Go.Deep
namespace Av
theorem opn_IntS : Opn Tryz.prog 52 (fun ps => ∃ R : List (List PV), ps = [.lst 3 R] ∧ R.length ≤ maxLen ∧ ∀ r ∈ R, ShInt r) := opn_sl Tryz.underlying52 (by rw [(by kernel_rfl : Tryz.prog.cellsOf 3 = 1)]; decide) (opn_int Tryz.underlying3)
def LoChoice (r : List PV) : Prop := ∃ a0 a1 a2 : Int, r = [pI a0, pI a1, pI a2]
set_option maxRecDepth 10000 in
set_option maxHeartbeats 4000000 in
theorem opn_Choice : Opn Tryz.prog 73 LoChoice := by
  refine (opn_struct Tryz.underlying73 (l := [(0, 3), (1, 3), (2, 3)]) (by kernel_rfl) (by kernel_rfl : Tryz.prog.cellsOf 73 = 3) (opnF_cons (opn_int Tryz.underlying3) (by kernel_rfl : Tryz.prog.cellsOf 3 = 1) (opnF_cons (opn_int Tryz.underlying3) (by kernel_rfl : Tryz.prog.cellsOf 3 = 1) (opnF_cons (opn_int Tryz.underlying3) (by kernel_rfl : Tryz.prog.cellsOf 3 = 1) (opnF_nil _ 3))))).mono (fun ps h => ?_)
  obtain ⟨_, _, rfl, ⟨a0, rfl⟩, ⟨_, _, rfl, ⟨a1, rfl⟩, ⟨_, _, rfl, ⟨a2, rfl⟩, rfl⟩⟩⟩ := h
  exact ⟨a0, a1, a2, rfl⟩
set_option maxRecDepth 10000 in
set_option maxHeartbeats 4000000 in
theorem opn_Thread : Opn Tryz.prog 153 LoThread := by
  refine (opn_struct Tryz.underlying153 (l := [(0, 3), (1, 52), (2, 52), (3, 3)]) (by kernel_rfl) (by kernel_rfl : Tryz.prog.cellsOf 153 = 4) (opnF_cons (opn_int Tryz.underlying3) (by kernel_rfl : Tryz.prog.cellsOf 3 = 1) (opnF_cons (opn_IntS) (by kernel_rfl : Tryz.prog.cellsOf 52 = 1) (opnF_cons (opn_IntS) (by kernel_rfl : Tryz.prog.cellsOf 52 = 1) (opnF_cons (opn_int Tryz.underlying3) (by kernel_rfl : Tryz.prog.cellsOf 3 = 1) (opnF_nil _ 4)))))).mono (fun ps h => ?_)
  obtain ⟨_, _, rfl, ⟨a0, rfl⟩, ⟨_, _, rfl, ⟨a1, rfl, l1, s1⟩, ⟨_, _, rfl, ⟨a2, rfl, l2, s2⟩, ⟨_, _, rfl, ⟨a3, rfl⟩, rfl⟩⟩⟩⟩ := h
  exact ⟨a0, a1, a2, a3, rfl, ⟨by unfold maxLen at l1; omega, s1⟩, ⟨by unfold maxLen at l2; omega, s2⟩⟩
theorem opn_ThreadS : Opn Tryz.prog 83 (fun ps => ∃ R : List (List PV), ps = [.lst 153 R] ∧ R.length ≤ maxLen ∧ ∀ r ∈ R, LoThread r) := opn_sl Tryz.underlying83 (by rw [(by kernel_rfl : Tryz.prog.cellsOf 153 = 4)]; decide) opn_Thread
set_option maxRecDepth 10000 in
set_option maxHeartbeats 4000000 in
theorem opn_Machine : Opn Tryz.prog 85 LoMachine := by
  refine (opn_struct Tryz.underlying85 (l := [(0, 83), (1, 52), (2, 52), (3, 52)]) (by kernel_rfl) (by kernel_rfl : Tryz.prog.cellsOf 85 = 4) (opnF_cons (opn_ThreadS) (by kernel_rfl : Tryz.prog.cellsOf 83 = 1) (opnF_cons (opn_IntS) (by kernel_rfl : Tryz.prog.cellsOf 52 = 1) (opnF_cons (opn_IntS) (by kernel_rfl : Tryz.prog.cellsOf 52 = 1) (opnF_cons (opn_IntS) (by kernel_rfl : Tryz.prog.cellsOf 52 = 1) (opnF_nil _ 4)))))).mono (fun ps h => ?_)
  obtain ⟨_, _, rfl, ⟨a0, rfl, l0, s0⟩, ⟨_, _, rfl, ⟨a1, rfl, l1, s1⟩, ⟨_, _, rfl, ⟨a2, rfl, l2, s2⟩, ⟨_, _, rfl, ⟨a3, rfl, l3, s3⟩, rfl⟩⟩⟩⟩ := h
  exact ⟨a0, a1, a2, a3, rfl, ⟨by unfold maxLen at l0; omega, s0⟩, ⟨by unfold maxLen at l1; omega, s1⟩, ⟨by unfold maxLen at l2; omega, s2⟩, ⟨by unfold maxLen at l3; omega, s3⟩⟩
end Av
end Go.Proofs.YtbkbppllcjcmhaaGreat
