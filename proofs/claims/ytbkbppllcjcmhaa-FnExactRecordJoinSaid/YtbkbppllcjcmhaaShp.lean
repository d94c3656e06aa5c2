/-
  Rows of slices as plain rows.
-/
import Derived.Test.YtbkbppllcjcmhaaShM
import Derived.Test.YtbkbppllcjcmhaaTyE
import Derived.Test.YtbkbppllcjcmhaaC2M
import Derived.Test.YtbkbppllcjcmhaaIRec
set_option linter.unusedSimpArgs false
set_option linter.unusedVariables false
namespace Go.Proofs.Ytbkbppllcjcmhaa
open Go.RowKit
namespace Av
theorem sls_of : ∀ (R : List (List PV)) (_ : ∀ r ∈ R, ShSlice r), ∃ l : List Bt.Sl, R = l.map pSl
  | [], _ => ⟨[], rfl⟩
  | r :: R, h => by
    obtain ⟨l, rfl⟩ := sls_of R (fun x hx => h x (List.mem_cons_of_mem _ hx))
    obtain ⟨a, b, c, rfl⟩ := h r (List.mem_cons_self ..)
    exact ⟨⟨a, b, c⟩ :: l, rfl⟩
theorem sh_sls {l : List Bt.Sl} (h : l.length ≤ 1048576) : ShSliceS (l.map pSl) := ⟨by simpa using h, fun r hr => by
  obtain ⟨x, _, rfl⟩ := List.mem_map.1 hr
  exact ⟨_, _, _, rfl⟩⟩
theorem cnt_sls : ∀ (l : List Bt.Sl), cntR (l.map pSl) = 3 * l.length
  | [] => rfl
  | c :: l => by simp [cntR, cntL, cntP, pSl, pI, cnt_sls l]; omega
end Av
end Go.Proofs.Ytbkbppllcjcmhaa
