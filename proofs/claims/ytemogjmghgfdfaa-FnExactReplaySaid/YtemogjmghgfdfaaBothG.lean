/-
  What both packages answer: RecordOk, Replay.
-/
import Derived.Test.YtemogjmghgfdfaaRepU
import Derived.Test.YtemogjmghgfdfaaShq
import Derived.Test.YtemogjmghgfdfaaExactRecordOk
import Derived.Test.YtemogjmghgfdfaaExactReplay
set_option linter.unusedSimpArgs false
set_option linter.unusedVariables false
namespace Go.Proofs.Ytemogjmghgfdfaa
open Go.RowKit
namespace Av
theorem both_RecordOk (R0_0 : List (List PV)) (h0_1 : Int) (R1_0 R1_1 : List (List PV)) (t0 : ∀ r ∈ R0_0, ShCode r) (t1 : ∀ r ∈ R1_0, ShSlice r) (t2 : ∀ r ∈ R1_1, ShInt r) (hh : R0_0.length + R1_0.length + R1_1.length ≤ 1048576) : exactRecordOk_both R0_0 h0_1 R1_0 R1_1 := by
  obtain ⟨rs, rfl⟩ := codes_of R0_0 t0
  obtain ⟨S, rfl⟩ := sls_of R1_0 t1
  obtain ⟨Q, rfl⟩ := nums_of R1_1 t2
  simp only [List.length_map] at hh
  exact ⟨_, (sRecordOk_ok (by omega) (by omega) (by omega)).read, iRecordOk_ok (by omega) (by omega) (by omega)⟩
theorem replay_len {rs : List Bt.C4} {h : Int} {S : List Bt.Sl} {Q : List Int} : ((Bt.replay rs h S Q).getD []).length ≤ 300 := by
  cases e : Bt.replay rs h S Q with
  | none => simp
  | some l =>
    have hm := many_of (rs := rs) (h := h) (S := S) (Q := Q) (by rw [e]; rfl)
    have hr := Bt.replay_is (rs := rs) (h := h) (Q := Q) hm
    rw [e] at hr
    split at hr
    · rename_i hc
      obtain rfl := Option.some.inj hr
      exact runS_le (Nat.zero_le _)
    · cases hr
theorem both_Replay (R0_0 : List (List PV)) (h0_1 : Int) (R1_0 R1_1 : List (List PV)) (t0 : ∀ r ∈ R0_0, ShCode r) (t1 : ∀ r ∈ R1_0, ShSlice r) (t2 : ∀ r ∈ R1_1, ShInt r) (hh : R0_0.length + R1_0.length + R1_1.length ≤ 1048576) : exactReplay_both R0_0 h0_1 R1_0 R1_1 := by
  obtain ⟨rs, rfl⟩ := codes_of R0_0 t0
  obtain ⟨S, rfl⟩ := sls_of R1_0 t1
  obtain ⟨Q, rfl⟩ := nums_of R1_1 t2
  simp only [List.length_map] at hh
  have hl := replay_len (rs := rs) (h := h0_1) (S := S) (Q := Q)
  have hc := cnt_chs ((Bt.replay rs h0_1 S Q).getD [])
  exact ⟨_, _, (sReplay_ok (by omega) (by omega) (by omega)).read, iReplay_ok (by omega) (by omega) (by omega), sh_chs (by omega), by omega⟩
end Av
end Go.Proofs.Ytemogjmghgfdfaa
