/-
  Part of a proof: BothB. No condition.
-/
import Derived.Test.YtminfkedkkkhdaaZBao
import Derived.Test.YtminfkedkkkhdaaZBam
set_option linter.unusedSimpArgs false
set_option linter.unusedVariables false
namespace Go.Proofs.Ytminfkedkkkhdaa
open Go.RowKit
namespace Av
theorem both_Choosing (R0_0 : List (List PV)) (h0_1 : Int) (R1 : List (List PV)) (t0 : ∀ r ∈ R0_0, ShCode r) (t1 : ∀ r ∈ R1, ShChoice r) (hh : R0_0.length + R1.length ≤ 1048576) : exactChoosing_both R0_0 h0_1 R1 := by
 obtain ⟨rs, rfl⟩ := codes_of R0_0 t0
 obtain ⟨l, rfl⟩ := chs_of R1 t1
 simp only [List.length_map] at hh
 have hl := Bt.choosing_len rs h0_1 l
 have hc := cnt_chs (Bt.choosing rs h0_1 l)
 exact ⟨(Bt.choosing rs h0_1 l).map pCh, (sChoosing_ok (by omega) (by omega)).read, iChoosing_ok (by omega) (by omega), sh_chs hl, by omega⟩
end Av
end Go.Proofs.Ytminfkedkkkhdaa
