/-
  Part of a proof: BothD. No condition.
-/
import Derived.Test.YtminfkedkkkhdaaZBaj
import Derived.Test.YtminfkedkkkhdaaZBak
set_option linter.unusedSimpArgs false
set_option linter.unusedVariables false
namespace Go.Proofs.Ytminfkedkkkhdaa
open Go.RowKit
namespace Av
theorem both_MachineAt (R0_0 : List (List PV)) (h0_1 : Int) (R1 : List (List PV)) (n2 : Int) (t0 : ∀ r ∈ R0_0, ShCode r) (t1 : ∀ r ∈ R1, ShChoice r) (hh : R0_0.length + R1.length ≤ 1048576) : exactMachineAt_both R0_0 h0_1 R1 n2 := by
 obtain ⟨rs, rfl⟩ := codes_of R0_0 t0
 obtain ⟨l, rfl⟩ := chs_of R1 t1
 simp only [List.length_map] at hh
 have hsz := Bt.machAt_sz rs h0_1 l n2
 have hs := Small.of hsz
 have hc := cnt_mc ((Bt.machAt rs h0_1 l n2).getD Bt.mcNil)
 have e : cntL (pMc ((Bt.machAt rs h0_1 l n2).getD Bt.mcNil)) = cntR (((Bt.machAt rs h0_1 l n2).getD Bt.mcNil).ths.map pTh) + (cntR (((Bt.machAt rs h0_1 l n2).getD Bt.mcNil).cells.map fun x => [pI x]) + (cntR (((Bt.machAt rs h0_1 l n2).getD Bt.mcNil).locks.map fun x => [pI x]) + (cntR (((Bt.machAt rs h0_1 l n2).getD Bt.mcNil).told.map fun x => [pI x]) + 0))) := rfl
 exact ⟨_, _, _, _, _, sMachineAt_ok (by omega) (by omega), iMachineAt_ok (by omega) (by omega), sh_ths hs, sh_ints hs.cells, sh_ints hs.locks, sh_ints hs.told, by omega⟩
end Av
end Go.Proofs.Ytminfkedkkkhdaa
