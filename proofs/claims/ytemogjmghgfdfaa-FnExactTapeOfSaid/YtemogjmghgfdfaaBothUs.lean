/-
  What both packages answer: TapeOf.
-/
import Derived.Test.YtemogjmghgfdfaaTapI
import Derived.Test.YtemogjmghgfdfaaTapS
import Derived.Test.YtemogjmghgfdfaaShqs
import Derived.Test.YtemogjmghgfdfaaExactTapeOfs
set_option linter.unusedSimpArgs false
set_option linter.unusedVariables false
namespace Go.Proofs.Ytemogjmghgfdfaa
open Go.RowKit
namespace Av
theorem both_TapeOf (R0_0 : List (List PV)) (h0_1 : Int) (R1_0 R1_1 : List (List PV)) (t0 : ∀ r ∈ R0_0, ShCode r) (t1 : ∀ r ∈ R1_0, ShSlice r) (t2 : ∀ r ∈ R1_1, ShInt r) (hh : R0_0.length + R1_0.length + R1_1.length ≤ 1048576) : exactTapeOf_both R0_0 h0_1 R1_0 R1_1 := by
  obtain ⟨rs, rfl⟩ := codes_of R0_0 t0
  obtain ⟨S, rfl⟩ := sls_of R1_0 t1
  obtain ⟨Q, rfl⟩ := nums_of R1_1 t2
  simp only [List.length_map] at hh
  exact ⟨_, (stapeOf_ok (by omega) (by omega) (by omega)).read, itapeOf_ok (by omega) (by omega) (by omega)⟩
end Av
end Go.Proofs.Ytemogjmghgfdfaa
