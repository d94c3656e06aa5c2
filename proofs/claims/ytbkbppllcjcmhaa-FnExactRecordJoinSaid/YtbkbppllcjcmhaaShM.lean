/-
  Programs, machines and choices told plainly have their shapes, and how many marks are in them.
-/
import Derived.Test.YtbkbppllcjcmhaaTyMs
import Derived.Test.YtbkbppllcjcmhaaC1
import Derived.Test.YtbkbppllcjcmhaaPur
set_option linter.unusedSimpArgs false
set_option linter.unusedVariables false
namespace Go.Proofs.Ytbkbppllcjcmhaa
open Go.RowKit
namespace Av
theorem codes_of : ∀ (R : List (List PV)) (_ : ∀ r ∈ R, ShCode r), ∃ rs : List Bt.C4, R = rs.map pCode
  | [], _ => ⟨[], rfl⟩
  | r :: R, h => by
    obtain ⟨a, b, c, d, rfl⟩ := h r (List.mem_cons_self ..)
    obtain ⟨rs, rfl⟩ := codes_of R (fun x hx => h x (List.mem_cons_of_mem _ hx))
    exact ⟨⟨a, b, c, d⟩ :: rs, rfl⟩
theorem chs_of : ∀ (R : List (List PV)) (_ : ∀ r ∈ R, ShChoice r), ∃ l : List Bt.Ch, R = l.map pCh
  | [], _ => ⟨[], rfl⟩
  | r :: R, h => by
    obtain ⟨a, b, c, rfl⟩ := h r (List.mem_cons_self ..)
    obtain ⟨l, rfl⟩ := chs_of R (fun x hx => h x (List.mem_cons_of_mem _ hx))
    exact ⟨⟨a, b, c⟩ :: l, rfl⟩
theorem sh_ints {xs : List Int} (h : xs.length ≤ 1048576) : ShIntS (xs.map fun x => [pI x]) := ⟨by simpa using h, fun r hr => by
  obtain ⟨x, _, rfl⟩ := List.mem_map.1 hr
  exact ⟨x, rfl⟩⟩
theorem sh_chs {l : List Bt.Ch} (h : l.length ≤ 1048576) : ShChoiceS (l.map pCh) := ⟨by simpa using h, fun r hr => by
  obtain ⟨x, _, rfl⟩ := List.mem_map.1 hr
  exact ⟨_, _, _, rfl⟩⟩
theorem sh_ths {m : Bt.Mc} (h : Small m) : ShThreadS (m.ths.map pTh) := ⟨by simpa using h.ths, fun r hr => by
  obtain ⟨i, hi, rfl⟩ := List.getElem_of_mem hr
  have hi' : i < m.ths.length := by simpa using hi
  simp only [List.getElem_map]
  exact ⟨_, _, _, _, rfl, sh_ints (h.regs i hi'), sh_ints (h.stack i hi')⟩⟩
theorem sh_mc {m : Bt.Mc} (h : Small m) : ShMachine (pMc m) := ⟨_, _, _, _, rfl, sh_ths h, sh_ints h.cells, sh_ints h.locks, sh_ints h.told⟩
theorem cnt_ints : ∀ (xs : List Int), cntR (xs.map fun x => [pI x]) = xs.length
  | [] => rfl
  | x :: xs => by
    have := cnt_ints xs
    simp only [pI] at this
    simp [cntR, cntL, cntP, pI, this]; omega
theorem cnt_ths : ∀ (ts : List Bt.Th), cntR (ts.map pTh) = 2 * ts.length + Bt.sumTh ts
  | [] => rfl
  | t :: ts => by
    have := cnt_ths ts
    have e := cnt_ints t.regs
    have e' := cnt_ints t.stack
    simp only [pI] at e e'
    simp [cntR, cntL, cntP, pTh, pI, pInts, this, Bt.sumTh, e, e']
    omega
theorem cnt_mc (m : Bt.Mc) : cntL (pMc m) ≤ 3 * Bt.mcSz m := by
  have e1 := cnt_ths m.ths
  have e2 := cnt_ints m.cells
  have e3 := cnt_ints m.locks
  have e4 := cnt_ints m.told
  simp [cntL, cntP, pMc, pInts, e1, e2, e3, e4, Bt.mcSz]
  omega
theorem cnt_chs : ∀ (l : List Bt.Ch), cntR (l.map pCh) = 3 * l.length
  | [] => rfl
  | c :: l => by simp [cntR, cntL, cntP, pCh, pI, cnt_chs l]; omega
theorem nums_of : ∀ (R : List (List PV)) (_ : ∀ r ∈ R, ShInt r), ∃ l : List Int, R = l.map fun x => [pI x]
  | [], _ => ⟨[], rfl⟩
  | r :: R, h => by
    obtain ⟨l, rfl⟩ := nums_of R (fun x hx => h x (List.mem_cons_of_mem _ hx))
    obtain ⟨a, rfl⟩ := h r (List.mem_cons_self ..)
    exact ⟨a :: l, rfl⟩
end Av
end Go.Proofs.Ytbkbppllcjcmhaa
