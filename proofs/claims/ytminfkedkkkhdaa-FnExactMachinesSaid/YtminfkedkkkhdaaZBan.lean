/-
  Part of a proof: BothA. No condition.
-/
import Derived.Test.YtminfkedkkkhdaaZBaj
import Derived.Test.YtminfkedkkkhdaaZBal
set_option linter.unusedSimpArgs false
set_option linter.unusedVariables false
namespace Go.Proofs.Ytminfkedkkkhdaa
open Go.RowKit
namespace Av
theorem machs_sh (rs : List Bt.C4) (h : Int) (l : List Bt.Ch) : ShMachineS (machs rs h l) ∧ cntR (machs rs h l) ≤ 1152921504606846976 := by
 have hl : (machs rs h l).length ≤ 301 := by
  unfold machs
  split
  ·rename_i e
   have := (Bt.runOk_facts e).2.1
   simp only [alongTo, List.length_map, List.length_range]
   omega
  ·simp
 have hr : ∀ r ∈ machs rs h l, ∃ m, r = pMc m ∧ Bt.mcSz m ≤ 1048576 := fun r hr => by
  unfold machs at hr
  split at hr
  ·obtain ⟨j, _, rfl⟩ := List.mem_map.1 hr
   exact ⟨_, rfl, Bt.after_sz rs h _⟩
  ·cases hr
 refine ⟨⟨by omega, fun r h' => ?_⟩, ?_⟩
 ·obtain ⟨m, rfl, hm⟩ := hr r h'
  exact sh_mc (Small.of hm)
 ·have := cntR_le (B := 3145728) (machs rs h l) (fun r h' => by
   obtain ⟨m, rfl, hm⟩ := hr r h'
   have := cnt_mc m
   omega)
  omega
theorem both_Machines (R0_0 : List (List PV)) (h0_1 : Int) (R1 : List (List PV)) (t0 : ∀ r ∈ R0_0, ShCode r) (t1 : ∀ r ∈ R1, ShChoice r) (hh : R0_0.length + R1.length ≤ 1048576) : exactMachines_both R0_0 h0_1 R1 := by
 obtain ⟨rs, rfl⟩ := codes_of R0_0 t0
 obtain ⟨l, rfl⟩ := chs_of R1 t1
 simp only [List.length_map] at hh
 exact ⟨machs rs h0_1 l, sMachines_ok (by omega) (by omega), iMachines_ok (by omega) (by omega), (machs_sh rs h0_1 l).1, (machs_sh rs h0_1 l).2⟩
end Av
end Go.Proofs.Ytminfkedkkkhdaa
