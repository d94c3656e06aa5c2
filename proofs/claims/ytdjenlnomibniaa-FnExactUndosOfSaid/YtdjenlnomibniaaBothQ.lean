/-
  What both packages' UndosOf answer.
-/
import Derived.Test.YtdjenlnomibniaaExactUndosOf
import Derived.Test.YtdjenlnomibniaaUdI
import Derived.Test.YtdjenlnomibniaaUdS
set_option linter.unusedSimpArgs false
set_option linter.unusedVariables false
namespace Go.Proofs.Ytdjenlnomibniaa
open Go.RowKit
namespace Av
theorem undos_row {rs : List Bt.C4} {h : Int} {l : List Bt.Ch} {r : List PV} (hr : r ∈ undos rs h l) : ∃ k, r = pUn (Bt.undoAt rs h l k) := by
  unfold undos at hr
  split at hr
  · unfold undosTo at hr
    obtain ⟨k, _, rfl⟩ := List.mem_map.1 hr
    exact ⟨k, rfl⟩
  · cases hr
theorem undos_len (rs : List Bt.C4) (h : Int) (l : List Bt.Ch) : (undos rs h l).length ≤ l.length := by
  unfold undos
  split
  · rw [undosTo_len]; exact Nat.le_refl _
  · exact Nat.zero_le _
theorem both_UndosOf (P0 : List (List PV)) (h : Int) (R1 : List (List PV)) (tp : ∀ r ∈ P0, ShCode r) (t1 : ∀ r ∈ R1, ShChoice r) (hh : P0.length + R1.length ≤ 1048576) : exactUndosOf_both P0 h R1 := by
  obtain ⟨rs, rfl⟩ := codes_of P0 tp
  obtain ⟨l, rfl⟩ := chs_of R1 t1
  simp only [List.length_map] at hh
  have hn : rs.length ≤ 1048576 := by omega
  have hl : l.length ≤ 1048576 := by omega
  have hu := undos_len rs h l
  refine ⟨undos rs h l, sUndosOf_ok hn hl, iUndosOf_ok hn hl, ⟨by omega, fun r hr => ?_⟩, ?_⟩
  · obtain ⟨k, rfl⟩ := undos_row hr
    exact ⟨_, _, _, _, _, _, _, _, _, _, _, rfl, sh_ints (smallA k).1, sh_ints (smallA k).2⟩
  · have h1 := cntR_le (B := 2097161) (undos rs h l) (fun r hr => by
      obtain ⟨k, rfl⟩ := undos_row hr
      have e1 := cnt_ints (Bt.undoAt rs h l k).old.regs
      have e2 := cnt_ints (Bt.undoAt rs h l k).old.stack
      have h2 := smallA (rs := rs) (h := h) (l := l) k
      simp only [pUn, pInts, cntL, cntP, pI] at e1 e2 ⊢
      omega)
    have h2 : (undos rs h l).length * 2097161 ≤ 1048576 * 2097161 := Nat.mul_le_mul_right _ (by omega)
    omega
end Av
end Go.Proofs.Ytdjenlnomibniaa
