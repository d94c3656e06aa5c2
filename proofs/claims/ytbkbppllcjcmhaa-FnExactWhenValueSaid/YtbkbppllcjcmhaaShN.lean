/-
  Machines and undos that came in, told plainly.
-/
import Derived.Test.YtbkbppllcjcmhaaShM
import Derived.Test.YtbkbppllcjcmhaaTyN
import Derived.Test.YtbkbppllcjcmhaaUnP
set_option linter.unusedSimpArgs false
set_option linter.unusedVariables false
namespace Go.Proofs.Ytbkbppllcjcmhaa
open Go.RowKit
namespace Av
theorem ths_of : ∀ (R : List (List PV)) (_ : ∀ r ∈ R, LoThread r), ∃ ts : List Bt.Th, R = ts.map pTh ∧ totR R = ts.length + Bt.sumTh ts
  | [], _ => ⟨[], rfl, rfl⟩
  | r :: R, h => by
    obtain ⟨ts, rfl, e⟩ := ths_of R (fun x hx => h x (List.mem_cons_of_mem _ hx))
    obtain ⟨a, R1, R2, d, rfl, s1, s2⟩ := h r (List.mem_cons_self ..)
    obtain ⟨regs, rfl⟩ := nums_of R1 s1.2
    obtain ⟨stack, rfl⟩ := nums_of R2 s2.2
    refine ⟨⟨a, regs, stack, d⟩ :: ts, rfl, ?_⟩
    simp only [totR, totL, totP, pI, tot_ints _ s1.2, tot_ints _ s2.2, List.length_map, List.length_cons] at e ⊢
    have : Bt.sumTh (⟨a, regs, stack, d⟩ :: ts) = (regs.length + stack.length) + Bt.sumTh ts := by simp [Bt.sumTh]
    simp only [pI] at s1 s2
    have e1 := tot_ints _ s1.2
    have e2 := tot_ints _ s2.2
    simp only [List.length_map] at e1 e2
    omega
/-- a machine that came in is small -/
theorem mc_of {R0 R1 R2 R3 : List (List PV)} (h0 : ∀ r ∈ R0, LoThread r) (h1 : ∀ r ∈ R1, ShInt r) (h2 : ∀ r ∈ R2, ShInt r) (h3 : ∀ r ∈ R3, ShInt r) (hh : totR R0 + R1.length + R2.length + R3.length ≤ 1048576) :
    ∃ m : Bt.Mc, [PV.lst 134 R0, .lst 3 R1, .lst 3 R2, .lst 3 R3] = pMc m ∧ Small m ∧ Bt.mcSz m ≤ 1048576 := by
  obtain ⟨ts, rfl, e⟩ := ths_of R0 h0
  obtain ⟨cells, rfl⟩ := nums_of R1 h1
  obtain ⟨locks, rfl⟩ := nums_of R2 h2
  obtain ⟨told, rfl⟩ := nums_of R3 h3
  simp only [List.length_map] at hh
  refine ⟨⟨ts, cells, locks, told⟩, rfl, ⟨by simp only; omega, by simp only; omega, by simp only; omega, by simp only; omega, fun i hi => ?_, fun i hi => ?_⟩, ?_⟩
  · have := Bt.sumTh_at (ts := ts) hi
    simp only; omega
  · have := Bt.sumTh_at (ts := ts) hi
    simp only; omega
  · simp only [Bt.mcSz]; omega
end Av
end Go.Proofs.Ytbkbppllcjcmhaa
