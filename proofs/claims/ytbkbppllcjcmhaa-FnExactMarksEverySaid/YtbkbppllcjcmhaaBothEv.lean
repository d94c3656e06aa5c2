/-
  What both packages' MarksEvery and MarksThin answer.
-/
import Derived.Test.YtbkbppllcjcmhaaExactMarksEvery
import Derived.Test.YtbkbppllcjcmhaaExactMarksThin
import Derived.Test.YtbkbppllcjcmhaaShM
import Derived.Test.YtbkbppllcjcmhaaMvS
import Derived.Test.YtbkbppllcjcmhaaMvI
set_option linter.unusedSimpArgs false
set_option linter.unusedVariables false
namespace Go.Proofs.Ytbkbppllcjcmhaa
open Go.RowKit
namespace Av
theorem mkRows_sh (rs : List Bt.C4) (h : Int) (l : List Bt.Ch) (p : Nat → Bool) {k : Nat} (hk : k ≤ 301) : ShMarkS (mkRows rs h l p k) ∧ cntR (mkRows rs h l p k) ≤ 1152921504606846976 := by
  have hl := mkRows_len rs h l p k
  have hr : ∀ r ∈ mkRows rs h l p k, ∃ (j : Nat) (m : Bt.Mc), r = pI j :: pMc m ∧ Bt.mcSz m ≤ 1048576 := fun r hr => by
    unfold mkRows at hr
    obtain ⟨j, _, rfl⟩ := List.mem_map.1 hr
    exact ⟨j, _, rfl, Bt.after_sz rs h _⟩
  refine ⟨⟨by omega, fun r h' => ?_⟩, ?_⟩
  · obtain ⟨j, m, rfl, hm⟩ := hr r h'
    obtain ⟨b0, b1, b2, b3, e, s0, s1, s2, s3⟩ := sh_mc (Small.of hm)
    exact ⟨j, b0, b1, b2, b3, by rw [e], s0, s1, s2, s3⟩
  · have := cntR_le (B := 3145729) (mkRows rs h l p k) (fun r h' => by
      obtain ⟨j, m, rfl, hm⟩ := hr r h'
      have := cnt_mc m
      have e : cntL (pI (j : Int) :: pMc m) = 1 + cntL (pMc m) := rfl
      omega)
    have h2 : (mkRows rs h l p k).length * 3145729 ≤ 301 * 3145729 := Nat.mul_le_mul_right _ (by omega)
    omega
theorem every_sh (rs : List Bt.C4) (h n : Int) (l : List Bt.Ch) : ShMarkS (everyOf rs h l n) ∧ cntR (everyOf rs h l n) ≤ 1152921504606846976 := by
  unfold everyOf
  split
  · rename_i e
    have := (Bt.runOk_facts e.1).2.1
    exact mkRows_sh rs h l _ (by omega)
  · exact ⟨⟨by simp, fun r hr => by cases hr⟩, by simp [cntR]⟩
theorem thin_sh (rs : List Bt.C4) (h : Int) (l : List Bt.Ch) : ShMarkS (thinOf rs h l) ∧ cntR (thinOf rs h l) ≤ 1152921504606846976 := by
  unfold thinOf
  split
  · rename_i e
    have := (Bt.runOk_facts e).2.1
    exact mkRows_sh rs h l _ (by omega)
  · exact ⟨⟨by simp, fun r hr => by cases hr⟩, by simp [cntR]⟩
theorem both_MarksEvery (P0 : List (List PV)) (h : Int) (R1 : List (List PV)) (n : Int) (tp : ∀ r ∈ P0, ShCode r) (t1 : ∀ r ∈ R1, ShChoice r) (hh : P0.length + R1.length ≤ 1048576) : exactMarksEvery_both P0 h R1 n := by
  obtain ⟨rs, rfl⟩ := codes_of P0 tp
  obtain ⟨l, rfl⟩ := chs_of R1 t1
  simp only [List.length_map] at hh
  exact ⟨everyOf rs h l n, (sMarksEvery_ok (by omega) (by omega)).read, iMarksEvery_ok (by omega) (by omega), (every_sh rs h n l).1, (every_sh rs h n l).2⟩
theorem both_MarksThin (P0 : List (List PV)) (h : Int) (R1 : List (List PV)) (tp : ∀ r ∈ P0, ShCode r) (t1 : ∀ r ∈ R1, ShChoice r) (hh : P0.length + R1.length ≤ 1048576) : exactMarksThin_both P0 h R1 := by
  obtain ⟨rs, rfl⟩ := codes_of P0 tp
  obtain ⟨l, rfl⟩ := chs_of R1 t1
  simp only [List.length_map] at hh
  exact ⟨thinOf rs h l, sMarksThin_ok (by omega) (by omega), iMarksThin_ok (by omega) (by omega), (thin_sh rs h l).1, (thin_sh rs h l).2⟩
end Av
end Go.Proofs.Ytbkbppllcjcmhaa
