/-
  What both packages answer: TapeOk, TapeMend.
-/
import Derived.Test.YtdjenlnomibniaaTapM
import Derived.Test.YtdjenlnomibniaaShp
import Derived.Test.YtdjenlnomibniaaExactTapeOk
import Derived.Test.YtdjenlnomibniaaExactTapeMend
set_option linter.unusedSimpArgs false
set_option linter.unusedVariables false
namespace Go.Proofs.Ytdjenlnomibniaa
open Go.RowKit
namespace Av
theorem both_TapeOk (R0_0 : List (List PV)) (h0_1 : Int) (s1 : ByteArray) (t0 : ∀ r ∈ R0_0, ShCode r) (hs : s1.size ≤ 1048576) (hh : R0_0.length ≤ 1048576) : exactTapeOk_both R0_0 h0_1 s1 := by
  obtain ⟨rs, rfl⟩ := codes_of R0_0 t0
  simp only [List.length_map] at hh
  exact ⟨_, (stapeOk_ok hh hs).read, itapeOk_ok hh hs⟩
theorem both_TapeMend (R0_0 : List (List PV)) (h0_1 : Int) (s1 : ByteArray) (t0 : ∀ r ∈ R0_0, ShCode r) (hs : s1.size ≤ 1048576) (hh : R0_0.length ≤ 1048576) : exactTapeMend_both R0_0 h0_1 s1 := by
  obtain ⟨rs, rfl⟩ := codes_of R0_0 t0
  simp only [List.length_map] at hh
  exact ⟨_, (stapeMend_ok hh hs).read, itapeMend_ok hh hs⟩
end Av
end Go.Proofs.Ytdjenlnomibniaa
