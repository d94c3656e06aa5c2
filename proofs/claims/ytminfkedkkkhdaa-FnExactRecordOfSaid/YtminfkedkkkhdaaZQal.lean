/-
  Part of a proof: BothF. No condition.
-/
import Derived.Test.YtminfkedkkkhdaaZQai
import Derived.Test.YtminfkedkkkhdaaZQaj
import Derived.Test.YtminfkedkkkhdaaZQak
set_option linter.unusedSimpArgs false
set_option linter.unusedVariables false
namespace Go.Proofs.Ytminfkedkkkhdaa
open Go.RowKit
namespace Av
theorem sh_sls {l : List Bt.Sl} (h : l.length ≤ 1048576) : ShSliceS (l.map pSl) := ⟨by simpa using h, fun r hr => by
 obtain ⟨x, _, rfl⟩ := List.mem_map.1 hr
 exact ⟨_, _, _, rfl⟩⟩
theorem cnt_sls : ∀ (l : List Bt.Sl), cntR (l.map pSl) = 3 * l.length
 | [] => rfl
 | c :: l => by simp [cntR, cntL, cntP, pSl, pI, cnt_sls l]; omega
theorem both_RecordOf (R0_0 : List (List PV)) (h0_1 : Int) (R1 : List (List PV)) (t0 : ∀ r ∈ R0_0, ShCode r) (t1 : ∀ r ∈ R1, ShChoice r) (hh : R0_0.length + R1.length ≤ 1048576) : exactRecordOf_both R0_0 h0_1 R1 := by
 obtain ⟨rs, rfl⟩ := codes_of R0_0 t0
 obtain ⟨l, rfl⟩ := chs_of R1 t1
 simp only [List.length_map] at hh
 have h1 : (Bt.recOf rs h0_1 l).1.length ≤ 1048576 ∧ (Bt.recOf rs h0_1 l).2.length ≤ 1048576 := by
  unfold Bt.recOf
  split
  ·have := (Bt.slices_ok l l.length (Nat.le_refl _)).1
   rw [List.take_length] at this
   have := Bt.answers_len rs h0_1 l l.length
   simp only
   omega
  ·simp
 have c1 := cnt_sls (Bt.recOf rs h0_1 l).1
 have c2 := cnt_ints (Bt.recOf rs h0_1 l).2
 exact ⟨_, _, _, (sRecordOf_ok (by omega) (by omega)).read, iRecordOf_ok (by omega) (by omega), sh_sls h1.1, sh_ints h1.2, by omega⟩
end Av
end Go.Proofs.Ytminfkedkkkhdaa
