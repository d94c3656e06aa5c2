/-
  What both packages' MarksOk answer.
-/
import Derived.Test.YtdjenlnomibniaaExactMarksOk
import Derived.Test.YtdjenlnomibniaaShM
import Derived.Test.YtdjenlnomibniaaMk
set_option linter.unusedSimpArgs false
set_option linter.unusedVariables false
namespace Go.Proofs.Ytdjenlnomibniaa
open Go.RowKit
namespace Av
theorem thsK_of : ∀ (R : List (List PV)) (_ : ∀ r ∈ R, LoThread r), ∃ ts : List Bt.Th, R = ts.map pTh ∧ totR R = ts.length + Bt.sumTh ts
  | [], _ => ⟨[], rfl, rfl⟩
  | r :: R, h => by
    obtain ⟨ts, rfl, e⟩ := thsK_of R (fun x hx => h x (List.mem_cons_of_mem _ hx))
    obtain ⟨a, R1, R2, d, rfl, s1, s2⟩ := h r (List.mem_cons_self ..)
    obtain ⟨regs, rfl⟩ := nums_of R1 s1.2
    obtain ⟨stack, rfl⟩ := nums_of R2 s2.2
    refine ⟨⟨a, regs, stack, d⟩ :: ts, rfl, ?_⟩
    simp only [totR, totL, totP, pI, tot_ints _ s1.2, tot_ints _ s2.2, List.length_map, List.length_cons] at e ⊢
    have : Bt.sumTh (⟨a, regs, stack, d⟩ :: ts) = (regs.length + stack.length) + Bt.sumTh ts := by simp [Bt.sumTh]
    simp only [pI] at s1 s2
    have e1 := tot_ints _ s1.2
    have e2 := tot_ints _ s2.2
    simp only [List.length_map] at e1 e2
    omega
theorem mks_of : ∀ (R : List (List PV)) (_ : ∀ r ∈ R, LoMark r) (_ : totR R ≤ 1048576), ∃ mk : List (Int × Bt.Mc), R.map swM = mk.map pMk ∧ mk.length = R.length ∧ ∀ x ∈ mk, Small x.2
  | [], _, _ => ⟨[], rfl, rfl, fun x hx => by cases hx⟩
  | r :: R, h, ht => by
    obtain ⟨a0, a1, a2, a3, a4, rfl, s1, s2, s3, s4⟩ := h r (List.mem_cons_self ..)
    simp only [totR] at ht
    rw [tot_Mark a0 a1 a2 a3 a4 s1 s2 s3 s4] at ht
    obtain ⟨mk, e, el, hm⟩ := mks_of R (fun x hx => h x (List.mem_cons_of_mem _ hx)) (by omega)
    obtain ⟨ths, rfl, e1⟩ := thsK_of a1 s1.2
    obtain ⟨cells, rfl⟩ := nums_of a2 s2.2
    obtain ⟨locks, rfl⟩ := nums_of a3 s3.2
    obtain ⟨told, rfl⟩ := nums_of a4 s4.2
    simp only [List.length_map] at ht
    refine ⟨(a0, ⟨ths, cells, locks, told⟩) :: mk, ?_, by simp [el], fun x hx => ?_⟩
    · simp only [List.map_cons, e]
      rfl
    · rcases List.mem_cons.1 hx with rfl | hx
      · exact ⟨by simp only; omega, by simp only; omega, by simp only; omega, by simp only; omega, fun i hi => by
          have := Bt.sumTh_at (ts := ths) hi
          simp only; omega, fun i hi => by
          have := Bt.sumTh_at (ts := ths) hi
          simp only; omega⟩
      · exact hm x hx
theorem both_MarksOk (P0 : List (List PV)) (h : Int) (R1 R2 : List (List PV)) (tp : ∀ r ∈ P0, ShCode r) (t1 : ∀ r ∈ R1, ShChoice r) (t2 : ∀ r ∈ R2, LoMark r) (hh : P0.length + R1.length + totR R2 ≤ 1048576) : exactMarksOk_both P0 h R1 R2 := by
  obtain ⟨rs, rfl⟩ := codes_of P0 tp
  obtain ⟨l, rfl⟩ := chs_of R1 t1
  simp only [List.length_map] at hh
  obtain ⟨mk, e, el, hs⟩ := mks_of R2 t2 (by omega)
  have hk : mk.length ≤ 1048576 := by have := tot_len R2; omega
  unfold exactMarksOk_both
  rw [e]
  exact ⟨_, sMarksOk_ok (rs := rs) (h := h) (l := l) (by omega) (by omega) hk hs, iMarksOk_ok (rs := rs) (h := h) (l := l) (by omega) (by omega) hk hs⟩
end Av
end Go.Proofs.Ytdjenlnomibniaa
