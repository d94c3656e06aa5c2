/-
  What both packages answer: ReadTape.
-/
import Derived.Test.YtemogjmghgfdfaaRdI
import Derived.Test.YtemogjmghgfdfaaRdS
import Derived.Test.YtemogjmghgfdfaaShp
import Derived.Test.YtemogjmghgfdfaaExactReadTape
set_option linter.unusedSimpArgs false
set_option linter.unusedVariables false
namespace Go.Proofs.Ytemogjmghgfdfaa
open Go.RowKit
namespace Av
theorem both_ReadTape (R0_0 : List (List PV)) (h0_1 : Int) (s1 : ByteArray) (t0 : ∀ r ∈ R0_0, ShCode r) (hs : s1.size ≤ 1048576) (hh : R0_0.length ≤ 1048576) : exactReadTape_both R0_0 h0_1 s1 := by
  obtain ⟨rs, rfl⟩ := codes_of R0_0 t0
  simp only [List.length_map] at hh
  have hl := Bt.readTape_le rs h0_1 (byteAt s1) s1.size
  have hc := cnt_chs (Bt.readTape rs h0_1 (byteAt s1) s1.size)
  exact ⟨_, (sreadTape_ok hh hs).read, ireadTape_ok hh hs, sh_chs (by omega), by omega⟩
end Av
end Go.Proofs.Ytemogjmghgfdfaa
