/-
  What both packages' BackFrom answer.
-/
import Derived.Test.YtdjenlnomibniaaExactBackFrom
import Derived.Test.YtdjenlnomibniaaUdI
import Derived.Test.YtdjenlnomibniaaUdS
set_option linter.unusedSimpArgs false
set_option linter.unusedVariables false
namespace Go.Proofs.Ytdjenlnomibniaa
open Go.RowKit
namespace Av
theorem cntS {m : Bt.Mc} (hm : Small m) : cntR (m.ths.map pTh) + cntR (m.cells.map fun x => [pI x]) + cntR (m.locks.map fun x => [pI x]) + cntR (m.told.map fun x => [pI x]) ≤ 1152921504606846976 := by
  have e1 := cnt_ths m.ths
  have e2 := cnt_ints m.cells
  have e3 := cnt_ints m.locks
  have e4 := cnt_ints m.told
  have h1 := hm.ths
  have h2 := hm.cells
  have h3 := hm.locks
  have h4 := hm.told
  have h5 := Bt.sum_all (ts := m.ths) (q := 2097152) (fun t ht => by
    obtain ⟨i, hi, rfl⟩ := List.getElem_of_mem ht
    have := hm.regs i hi
    have := hm.stack i hi
    omega)
  have h6 : 2097152 * m.ths.length ≤ 2097152 * 1048576 := Nat.mul_le_mul_left _ h1
  omega
theorem both_BackFrom (P0 : List (List PV)) (h : Int) (R1 : List (List PV)) (n : Int) (tp : ∀ r ∈ P0, ShCode r) (t1 : ∀ r ∈ R1, ShChoice r) (hh : P0.length + R1.length ≤ 1048576) : exactBackFrom_both P0 h R1 n := by
  obtain ⟨rs, rfl⟩ := codes_of P0 tp
  obtain ⟨l, rfl⟩ := chs_of R1 t1
  simp only [List.length_map] at hh
  have hn : rs.length ≤ 1048576 := by omega
  have hl : l.length ≤ 1048576 := by omega
  have hs : Small ((Bt.backFrom rs h l n).getD Bt.mcNil) := by
    unfold Bt.backFrom
    split
    · exact smallT rs h l _
    · exact smallN
  exact ⟨_, _, _, _, _, sBackFrom_ok (rs := rs) (h := h) (n := n) (l := l) hn hl, iBackFrom_ok (rs := rs) (h := h) (n := n) (l := l) hn hl, sh_ths hs, sh_ints hs.cells, sh_ints hs.locks, sh_ints hs.told, cntS hs⟩
end Av
end Go.Proofs.Ytdjenlnomibniaa
