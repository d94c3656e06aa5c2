/-
  Part of a proof: Shp. No condition.
-/
import Derived.Test.YtminfkedkkkhdaaZSac
import Derived.Test.YtminfkedkkkhdaaZAbf
set_option linter.unusedSimpArgs false
set_option linter.unusedVariables false
namespace Go.Proofs.Ytminfkedkkkhdaa
open Go.RowKit
namespace Av
theorem codes_of : ∀ (R : List (List PV)) (_ : ∀ r ∈ R, ShCode r), ∃ rs : List Bt.C4, R = rs.map pCode
 | [], _ => ⟨[], rfl⟩
 | r :: R, h => by
  obtain ⟨a, b, c, d, rfl⟩ := h r (List.mem_cons_self ..)
  obtain ⟨rs, rfl⟩ := codes_of R (fun x hx => h x (List.mem_cons_of_mem _ hx))
  exact ⟨⟨a, b, c, d⟩ :: rs, rfl⟩
theorem sh_chs {l : List Bt.Ch} (h : l.length ≤ 1048576) : ShChoiceS (l.map pCh) := ⟨by simpa using h, fun r hr => by
 obtain ⟨x, _, rfl⟩ := List.mem_map.1 hr
 exact ⟨_, _, _, rfl⟩⟩
theorem cnt_chs : ∀ (l : List Bt.Ch), cntR (l.map pCh) = 3 * l.length
 | [] => rfl
 | c :: l => by simp [cntR, cntL, cntP, pCh, pI, cnt_chs l]; omega
end Av
end Go.Proofs.Ytminfkedkkkhdaa
