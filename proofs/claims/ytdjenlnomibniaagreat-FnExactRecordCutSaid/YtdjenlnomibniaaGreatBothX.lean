/-
  What both packages answer: RecordCut.
-/
import Derived.Test.YtdjenlnomibniaaGreatCut
import Derived.Test.YtdjenlnomibniaaGreatRepT
import Derived.Test.YtdjenlnomibniaaGreatIRec
import Derived.Test.YtdjenlnomibniaaGreatSRec
import Derived.Test.YtdjenlnomibniaaGreatShp
import Derived.Test.YtdjenlnomibniaaGreatExactRecordCut
set_option linter.unusedSimpArgs false
set_option linter.unusedVariables false
namespace Go.Proofs.YtdjenlnomibniaaGreat
open Go.RowKit
namespace Av
theorem replay_few {rs : List Bt.C4} {h : Int} {S : List Bt.Sl} {Q : List Int} : ((Bt.replay rs h S Q).getD []).length ≤ 300 := by
  cases e : Bt.replay rs h S Q with
  | none => simp
  | some l =>
    have hm := many_of (rs := rs) (h := h) (S := S) (Q := Q) (by rw [e]; rfl)
    have hr := Bt.replay_is (rs := rs) (h := h) (Q := Q) hm
    rw [e] at hr
    split at hr
    · obtain rfl := Option.some.inj hr
      exact runS_le (Nat.zero_le _)
    · cases hr
theorem cut_few {rs : List Bt.C4} {h : Int} {R : Option (List Bt.Ch)} (hl : (R.getD []).length ≤ 300) (n : Int) : (Bt.cutOf R (Bt.recOf rs h) (Bt.runOk rs h) n).1.1.length ≤ 300 ∧ (Bt.cutOf R (Bt.recOf rs h) (Bt.runOk rs h) n).1.2.length ≤ 300 := by
  unfold Bt.cutOf
  split
  · simp
  · rename_i l
    simp only [Option.getD_some] at hl
    split
    · have h1 : (l.take n.toNat).length ≤ 300 := by rw [List.length_take]; omega
      unfold Bt.recOf
      split
      · have h2 := (Bt.slices_ok (l.take n.toNat) (l.take n.toNat).length (Nat.le_refl _)).1
        rw [List.take_length] at h2
        have h3 := Bt.answers_len rs h (l.take n.toNat) (l.take n.toNat).length
        simp only
        omega
      · simp
    · simp
theorem both_RecordCut (R0_0 : List (List PV)) (h0_1 : Int) (R1_0 R1_1 : List (List PV)) (n2 : Int) (t0 : ∀ r ∈ R0_0, ShCode r) (t1 : ∀ r ∈ R1_0, ShSlice r) (t2 : ∀ r ∈ R1_1, ShInt r) (hh : R0_0.length + R1_0.length + R1_1.length ≤ 1048576) : exactRecordCut_both R0_0 h0_1 R1_0 R1_1 n2 := by
  obtain ⟨rs, rfl⟩ := codes_of R0_0 t0
  obtain ⟨S, rfl⟩ := sls_of R1_0 t1
  obtain ⟨Q, rfl⟩ := nums_of R1_1 t2
  simp only [List.length_map] at hh
  have hl := replay_few (rs := rs) (h := h0_1) (S := S) (Q := Q)
  have hf := cut_few (rs := rs) (h := h0_1) hl n2
  have hs := s_cut (n := n2) (sReplay_ok (rs := rs) (h := h0_1) (S := S) (Q := Q) (by omega) (by omega) (by omega)) hl (F := Bt.recOf rs h0_1) (K := Bt.runOk rs h0_1) (fun l hl => sRecordOf_ok (by omega) (by omega))
  have hi := i_cut (n := n2) (iReplay_ok (rs := rs) (h := h0_1) (S := S) (Q := Q) (by omega) (by omega) (by omega)) hl (F := Bt.recOf rs h0_1) (K := Bt.runOk rs h0_1) (fun l hl => iRecordOf_ok (by omega) (by omega))
  have c1 := cnt_sls (Bt.cutOf (Bt.replay rs h0_1 S Q) (Bt.recOf rs h0_1) (Bt.runOk rs h0_1) n2).1.1
  have c2 := cnt_ints (Bt.cutOf (Bt.replay rs h0_1 S Q) (Bt.recOf rs h0_1) (Bt.runOk rs h0_1) n2).1.2
  exact ⟨_, _, _, hs.read, hi, sh_sls (by omega), sh_ints (by omega), by omega⟩
end Av
end Go.Proofs.YtdjenlnomibniaaGreat
