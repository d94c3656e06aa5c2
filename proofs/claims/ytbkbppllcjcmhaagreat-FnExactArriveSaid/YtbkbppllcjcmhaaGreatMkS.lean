/-
  Rows of marks as plain marks.
-/
import Derived.Test.YtbkbppllcjcmhaaGreatTyK
import Derived.Test.YtbkbppllcjcmhaaGreatShM
import Derived.Test.YtbkbppllcjcmhaaGreatMk
set_option linter.unusedSimpArgs false
set_option linter.unusedVariables false
namespace Go.Proofs.YtbkbppllcjcmhaaGreat
open Go.RowKit
namespace Av
theorem thsK_of : ∀ (R : List (List PV)) (_ : ∀ r ∈ R, LoThread r), ∃ ts : List Bt.Th, R = ts.map pTh ∧ totR R = ts.length + Bt.sumTh ts
  | [], _ => ⟨[], rfl, rfl⟩
  | r :: R, h => by
    obtain ⟨ts, rfl, e⟩ := thsK_of R (fun x hx => h x (List.mem_cons_of_mem _ hx))
    obtain ⟨a, R1, R2, d, rfl, s1, s2⟩ := h r (List.mem_cons_self ..)
    obtain ⟨regs, rfl⟩ := nums_of R1 s1.2
    obtain ⟨stack, rfl⟩ := nums_of R2 s2.2
    refine ⟨⟨a, regs, stack, d⟩ :: ts, rfl, ?_⟩
    simp only [totR, totL, totP, pI, tot_ints _ s1.2, tot_ints _ s2.2, List.length_map, List.length_cons] at e ⊢
    have : Bt.sumTh (⟨a, regs, stack, d⟩ :: ts) = (regs.length + stack.length) + Bt.sumTh ts := by simp [Bt.sumTh]
    simp only [pI] at s1 s2
    have e1 := tot_ints _ s1.2
    have e2 := tot_ints _ s2.2
    simp only [List.length_map] at e1 e2
    omega
theorem mks_of : ∀ (R : List (List PV)) (_ : ∀ r ∈ R, LoMark r) (_ : totR R ≤ 1048576), ∃ mk : List (Int × Bt.Mc), R.map swM = mk.map pMk ∧ mk.length = R.length ∧ ∀ x ∈ mk, Small x.2
  | [], _, _ => ⟨[], rfl, rfl, fun x hx => by cases hx⟩
  | r :: R, h, ht => by
    obtain ⟨a0, a1, a2, a3, a4, rfl, s1, s2, s3, s4⟩ := h r (List.mem_cons_self ..)
    simp only [totR] at ht
    rw [tot_Mark a0 a1 a2 a3 a4 s1 s2 s3 s4] at ht
    obtain ⟨mk, e, el, hm⟩ := mks_of R (fun x hx => h x (List.mem_cons_of_mem _ hx)) (by omega)
    obtain ⟨ths, rfl, e1⟩ := thsK_of a1 s1.2
    obtain ⟨cells, rfl⟩ := nums_of a2 s2.2
    obtain ⟨locks, rfl⟩ := nums_of a3 s3.2
    obtain ⟨told, rfl⟩ := nums_of a4 s4.2
    simp only [List.length_map] at ht
    refine ⟨(a0, ⟨ths, cells, locks, told⟩) :: mk, ?_, by simp [el], fun x hx => ?_⟩
    · simp only [List.map_cons, e]
      rfl
    · rcases List.mem_cons.1 hx with rfl | hx
      · exact ⟨by simp only; omega, by simp only; omega, by simp only; omega, by simp only; omega, fun i hi => by
          have := Bt.sumTh_at (ts := ths) hi
          simp only; omega, fun i hi => by
          have := Bt.sumTh_at (ts := ths) hi
          simp only; omega⟩
      · exact hm x hx
theorem cnt_MarkS : ∀ {R : List (List PV)} (_ : ∀ r ∈ R, LoMark r), cntR (R.map swM) ≤ 2 * totR R
  | [], _ => by simp [cntR]
  | r :: R, h => by
    have ih := cnt_MarkS (R := R) (fun x hx => h x (List.mem_cons_of_mem _ hx))
    obtain ⟨a0, a1, a2, a3, a4, rfl, s1, s2, s3, s4⟩ := h r (List.mem_cons_self ..)
    have h1 := cnt_ThreadS s1.2
    have h2 := cntR_le (B := 1) a2 (fun r hr => by obtain ⟨a, rfl⟩ := s2.2 r hr; simp [cntL, cntP, pI])
    have h3 := cntR_le (B := 1) a3 (fun r hr => by obtain ⟨a, rfl⟩ := s3.2 r hr; simp [cntL, cntP, pI])
    have h4 := cntR_le (B := 1) a4 (fun r hr => by obtain ⟨a, rfl⟩ := s4.2 r hr; simp [cntL, cntP, pI])
    have t := tot_Mark a0 a1 a2 a3 a4 s1 s2 s3 s4
    have e1 : cntL (swM [pI a0, .lst 153 a1, .lst 3 a2, .lst 3 a3, .lst 3 a4]) = 1 + cntR a1 + cntR a2 + cntR a3 + cntR a4 := by
      simp only [swM, cntL, cntP, pI]
      omega
    rw [List.map_cons]
    simp only [cntR, totR, t, e1]
    omega
end Av
end Go.Proofs.YtbkbppllcjcmhaaGreat
