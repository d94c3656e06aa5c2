/-
  What both packages answer: Truths.
-/
import Derived.Test.YtbkbppllcjcmhaaGreatExactTruths
import Derived.Test.YtbkbppllcjcmhaaGreatShM
import Derived.Test.YtbkbppllcjcmhaaGreatTru
set_option linter.unusedSimpArgs false
set_option linter.unusedVariables false
namespace Go.Proofs.YtbkbppllcjcmhaaGreat
open Go.RowKit
namespace Av
theorem ptl_of : ∀ (R : List (List PV)) (_ : ∀ r ∈ R, ShPart r), ∃ l : List Bt.Pt, R = l.map pPt
  | [], _ => ⟨[], rfl⟩
  | r :: R, h => by
    obtain ⟨a, b, c, rfl⟩ := h r (List.mem_cons_self ..)
    obtain ⟨l, rfl⟩ := ptl_of R (fun x hx => h x (List.mem_cons_of_mem _ hx))
    exact ⟨⟨a, b, c⟩ :: l, rfl⟩
theorem truths_row {rs : List Bt.C4} {h : Int} {l : List Bt.Ch} {w : List Bt.Pt} {r : List PV} (hr : r ∈ truthsOf rs h l w) : ∃ b, r = [PV.bool b] := by
  unfold truthsOf at hr
  split at hr
  · unfold truthsTo at hr
    obtain ⟨k, _, rfl⟩ := List.mem_map.1 hr
    exact ⟨_, rfl⟩
  · cases hr
theorem truths_len (rs : List Bt.C4) (h : Int) (l : List Bt.Ch) (w : List Bt.Pt) : (truthsOf rs h l w).length ≤ 301 := by
  unfold truthsOf
  split
  · rw [truthsTo_len]
    unfold manyM
    split
    · rename_i ho
      obtain ⟨_, h3, _⟩ := Bt.runOk_facts ho
      omega
    · omega
  · simp
theorem both_Truths (P0 : List (List PV)) (h : Int) (R1 R2 : List (List PV)) (tp : ∀ r ∈ P0, ShCode r) (t1 : ∀ r ∈ R1, ShChoice r) (t2 : ∀ r ∈ R2, ShPart r) (hh : P0.length + R1.length + R2.length ≤ 1048576) : exactTruths_both P0 h R1 R2 := by
  obtain ⟨rs, rfl⟩ := codes_of P0 tp
  obtain ⟨l, rfl⟩ := chs_of R1 t1
  obtain ⟨w, rfl⟩ := ptl_of R2 t2
  simp only [List.length_map] at hh
  have hu := truths_len rs h l w
  refine ⟨truthsOf rs h l w, (sTruths_ok (by omega) (by omega) (by omega)).read, iTruths_ok (by omega) (by omega) (by omega), ⟨by omega, fun r hr => ?_⟩, ?_⟩
  · obtain ⟨b, rfl⟩ := truths_row hr
    exact ⟨b, rfl⟩
  · have h1 := cntR_le (B := 1) (truthsOf rs h l w) (fun r hr => by
      obtain ⟨b, rfl⟩ := truths_row hr
      simp [cntL, cntP])
    omega
end Av
end Go.Proofs.YtbkbppllcjcmhaaGreat
