/-
  What both packages' Arrive answer.
-/
import Derived.Test.YtbkbppllcjcmhaaGreatExactArrive
import Derived.Test.YtbkbppllcjcmhaaGreatShM
import Derived.Test.YtbkbppllcjcmhaaGreatArv
set_option linter.unusedSimpArgs false
set_option linter.unusedVariables false
namespace Go.Proofs.YtbkbppllcjcmhaaGreat
open Go.RowKit
namespace Av
theorem small_cntA {m : Bt.Mc} (hm : Small m) : cntR (m.ths.map pTh) + cntR (m.cells.map fun x => [pI x]) + cntR (m.locks.map fun x => [pI x]) + cntR (m.told.map fun x => [pI x]) ≤ 1152921504606846976 := by
  have e1 := cnt_ths m.ths
  have e2 := cnt_ints m.cells
  have e3 := cnt_ints m.locks
  have e4 := cnt_ints m.told
  have h1 := hm.ths
  have h2 := hm.cells
  have h3 := hm.locks
  have h4 := hm.told
  have h5 := Bt.sum_all (ts := m.ths) (q := 2097152) (fun t ht => by
    obtain ⟨i, hi, rfl⟩ := List.getElem_of_mem ht
    have := hm.regs i hi
    have := hm.stack i hi
    omega)
  have h6 : 2097152 * m.ths.length ≤ 2097152 * 1048576 := Nat.mul_le_mul_left _ h1
  omega
theorem small_arr (rs : List Bt.C4) (h : Int) (l : List Bt.Ch) (mk : List (Int × Bt.Mc)) (n : Int) : Small (((Bt.arrive rs h l mk n).map (·.1)).getD Bt.mcNil) := by
  unfold Bt.arrive
  split
  · exact Small.of (Bt.after_sz rs h _)
  · exact ⟨Nat.zero_le _, Nat.zero_le _, Nat.zero_le _, Nat.zero_le _, fun i hi => absurd hi (by simp [Bt.mcNil]), fun i hi => absurd hi (by simp [Bt.mcNil])⟩
theorem both_Arrive (P0 : List (List PV)) (h : Int) (R1 R2 : List (List PV)) (n : Int) (tp : ∀ r ∈ P0, ShCode r) (t1 : ∀ r ∈ R1, ShChoice r) (t2 : ∀ r ∈ R2, LoMark r) (hh : P0.length + R1.length + totR R2 ≤ 1048576) : exactArrive_both P0 h R1 R2 n := by
  obtain ⟨rs, rfl⟩ := codes_of P0 tp
  obtain ⟨l, rfl⟩ := chs_of R1 t1
  simp only [List.length_map] at hh
  obtain ⟨mk, e, el, hs⟩ := mks_of R2 t2 (by omega)
  have hk : mk.length ≤ 1048576 := by have := tot_len R2; omega
  have hS := sArrive_ok (rs := rs) (h := h) (n := n) (l := l) (mk := mk) (by omega) (by omega) hk hs
  have hI := iArrive_ok (rs := rs) (h := h) (n := n) (l := l) (mk := mk) (by omega) (by omega) hk hs
  have hm := small_arr rs h l mk n
  unfold exactArrive_both
  rw [e]
  exact ⟨_, _, _, _, _, _, hS, hI, sh_ths hm, sh_ints hm.cells, sh_ints hm.locks, sh_ints hm.told, small_cntA hm⟩
end Av
end Go.Proofs.YtbkbppllcjcmhaaGreat
