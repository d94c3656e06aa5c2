/-
  What both packages answer: RecordJoin.
-/
import Derived.Test.YtbkbppllcjcmhaaJoC
import Derived.Test.YtbkbppllcjcmhaaShp
import Derived.Test.YtbkbppllcjcmhaaExactRecordJoin
set_option linter.unusedSimpArgs false
set_option linter.unusedVariables false
namespace Go.Proofs.Ytbkbppllcjcmhaa
open Go.RowKit
namespace Av
theorem join_few (rs : List Bt.C4) (h : Int) (S : List Bt.Sl) (Q : List Int) (S' : List Bt.Sl) (Q' : List Int) : (Bt.recJoin rs h S Q S' Q').1.1.length ≤ S.length + S'.length ∧ (Bt.recJoin rs h S Q S' Q').1.2.length ≤ Q.length + Q'.length := by
  unfold Bt.recJoin
  split
  · exact ⟨Bt.joinSl_len S S', by simp⟩
  · simp
theorem both_RecordJoin (R0_0 : List (List PV)) (h0_1 : Int) (R1_0 R1_1 R2_0 R2_1 : List (List PV)) (t0 : ∀ r ∈ R0_0, ShCode r) (t1 : ∀ r ∈ R1_0, ShSlice r) (t2 : ∀ r ∈ R1_1, ShInt r) (t3 : ∀ r ∈ R2_0, ShSlice r) (t4 : ∀ r ∈ R2_1, ShInt r) (hh : R0_0.length + R1_0.length + R1_1.length + R2_0.length + R2_1.length ≤ 1048576) : exactRecordJoin_both R0_0 h0_1 R1_0 R1_1 R2_0 R2_1 := by
  obtain ⟨rs, rfl⟩ := codes_of R0_0 t0
  obtain ⟨S, rfl⟩ := sls_of R1_0 t1
  obtain ⟨Q, rfl⟩ := nums_of R1_1 t2
  obtain ⟨S', rfl⟩ := sls_of R2_0 t3
  obtain ⟨Q', rfl⟩ := nums_of R2_1 t4
  simp only [List.length_map] at hh
  have hf := join_few rs h0_1 S Q S' Q'
  have c1 := cnt_sls (Bt.recJoin rs h0_1 S Q S' Q').1.1
  have c2 := cnt_ints (Bt.recJoin rs h0_1 S Q S' Q').1.2
  exact ⟨_, _, _, (sRecordJoin_ok (by omega) (by omega) (by omega)).read, iRecordJoin_ok (by omega) (by omega) (by omega), sh_sls (by omega), sh_ints (by omega), by omega⟩
end Av
end Go.Proofs.Ytbkbppllcjcmhaa
