/-
  What both packages answer: WhenOk, WhenNot, WhenBoth.
-/
import Derived.Test.YtbkbppllcjcmhaaExactWhenOk
import Derived.Test.YtbkbppllcjcmhaaExactWhenNot
import Derived.Test.YtbkbppllcjcmhaaExactWhenBoth
import Derived.Test.YtbkbppllcjcmhaaWhT
set_option linter.unusedSimpArgs false
set_option linter.unusedVariables false
namespace Go.Proofs.Ytbkbppllcjcmhaa
open Go.RowKit
namespace Av
theorem pts_of : ∀ (R : List (List PV)) (_ : ∀ r ∈ R, ShPart r), ∃ l : List Bt.Pt, R = l.map pPt
  | [], _ => ⟨[], rfl⟩
  | r :: R, h => by
    obtain ⟨a, b, c, rfl⟩ := h r (List.mem_cons_self ..)
    obtain ⟨l, rfl⟩ := pts_of R (fun x hx => h x (List.mem_cons_of_mem _ hx))
    exact ⟨⟨a, b, c⟩ :: l, rfl⟩
theorem sh_pts {l : List Bt.Pt} (h : l.length ≤ 1048576) : ShPartS (l.map pPt) := ⟨by simpa using h, fun r hr => by
  obtain ⟨x, _, rfl⟩ := List.mem_map.1 hr
  exact ⟨_, _, _, rfl⟩⟩
theorem cnt_pts : ∀ (l : List Bt.Pt), cntR (l.map pPt) = 3 * l.length
  | [] => rfl
  | c :: l => by simp [cntR, cntL, cntP, pPt, pI, cnt_pts l]; omega
theorem not_len (l : List Bt.Pt) : (Bt.whenNot l).length ≤ 20 := by
  unfold Bt.whenNot
  split
  · rename_i h
    have := h.2
    simp
    omega
  · simp
theorem two_len (a b : List Bt.Pt) : (Bt.whenBoth a b).length ≤ 20 := by
  unfold Bt.whenBoth
  split
  · rename_i h
    have := h.2.2
    simp
    omega
  · simp
theorem both_WhenOk (R0 : List (List PV)) (t0 : ∀ r ∈ R0, ShPart r) (hh : R0.length ≤ 1048576) : exactWhenOk_both R0 := by
  obtain ⟨l, rfl⟩ := pts_of R0 t0
  simp only [List.length_map] at hh
  exact ⟨_, (sWhenOk_ok hh).read, iWhenOk_ok hh⟩
theorem both_WhenNot (R0 : List (List PV)) (t0 : ∀ r ∈ R0, ShPart r) (hh : R0.length ≤ 1048576) : exactWhenNot_both R0 := by
  obtain ⟨l, rfl⟩ := pts_of R0 t0
  simp only [List.length_map] at hh
  have h1 := not_len l
  have h2 := cnt_pts (Bt.whenNot l)
  exact ⟨_, (sWhenNot_ok hh).read, iWhenNot_ok hh, sh_pts (by omega), by omega⟩
theorem both_WhenBoth (R0 R1 : List (List PV)) (t0 : ∀ r ∈ R0, ShPart r) (t1 : ∀ r ∈ R1, ShPart r) (hh : R0.length + R1.length ≤ 1048576) : exactWhenBoth_both R0 R1 := by
  obtain ⟨a, rfl⟩ := pts_of R0 t0
  obtain ⟨b, rfl⟩ := pts_of R1 t1
  simp only [List.length_map] at hh
  have h1 := two_len a b
  have h2 := cnt_pts (Bt.whenBoth a b)
  exact ⟨_, (sWhenBoth_ok hh).read, iWhenBoth_ok hh, sh_pts (by omega), by omega⟩
end Av
end Go.Proofs.Ytbkbppllcjcmhaa
