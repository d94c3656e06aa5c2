/-
  Part of a proof: BothC. No condition.
-/
import Derived.Test.YtminfkedkkkhdaaZSaj
import Derived.Test.YtminfkedkkkhdaaZSaf
import Derived.Test.YtminfkedkkkhdaaZSag
set_option linter.unusedSimpArgs false
set_option linter.unusedVariables false
namespace Go.Proofs.Ytminfkedkkkhdaa
open Go.RowKit
namespace Av
theorem seedRun_len (rs : List Bt.C4) (h : Int) : ∀ (n : Nat) (s : Int) (m : Bt.Mc), (Bt.seedRun rs h n s m).length ≤ n
 | 0, _, _ => by simp [Bt.seedRun]
 | n + 1, s, m => by
  unfold Bt.seedRun
  split
  ·simp
  ·have := seedRun_len rs h n (s * 16807 % 2147483647)
   simp only [List.length_cons]
   exact Nat.succ_le_succ (this _)
theorem both_RunOfSeed (R0_0 : List (List PV)) (h0_1 : Int) (n1 n2 : Int) (t0 : ∀ r ∈ R0_0, ShCode r) (hh : R0_0.length ≤ 1048576) : exactRunOfSeed_both R0_0 h0_1 n1 n2 := by
 obtain ⟨rs, rfl⟩ := codes_of R0_0 t0
 simp only [List.length_map] at hh
 have hl : (Bt.runOfSeed rs h0_1 n1 n2).length ≤ 300 := by
  unfold Bt.runOfSeed
  split
  ·rename_i e
   have := seedRun_len rs h0_1 n2.toNat n1 Bt.mcNew
   omega
  ·simp
 have hc := cnt_chs (Bt.runOfSeed rs h0_1 n1 n2)
 exact ⟨(Bt.runOfSeed rs h0_1 n1 n2).map pCh, (sRunOfSeed_ok (by omega)).read, iRunOfSeed_ok (by omega), sh_chs (by omega), by omega⟩
end Av
end Go.Proofs.Ytminfkedkkkhdaa
