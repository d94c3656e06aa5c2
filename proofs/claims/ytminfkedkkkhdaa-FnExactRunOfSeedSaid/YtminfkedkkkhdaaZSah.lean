/-
  Part of a proof: IChs. No condition.
-/
import Derived.Test.YtminfkedkkkhdaaZSae
import Derived.Test.YtminfkedkkkhdaaZSad
set_option linter.unusedSimpArgs false
set_option linter.unusedVariables false
namespace Go.Proofs.Ytminfkedkkkhdaa
open Go.RowKit
namespace Av
theorem allC_is (rs : List Bt.C4) (h : Int) (m : Bt.Mc) (n : Nat) : allC (fun a b => Bt.canDo rs h m ⟨a, b, 0⟩) n = ((List.range n).flatMap (Bt.chooseOf rs h m)).map pCh := by
 have e : ∀ i : Nat, part1 (fun a b => Bt.canDo rs h m ⟨a, b, 0⟩) i 2 = (Bt.chooseOf rs h m i).map pCh := fun i => by
  unfold part1 Bt.chooseOf
  cases h1 : Bt.canDo rs h m ⟨i, 0, 0⟩ <;> cases h2 : Bt.canDo rs h m ⟨i, 1, 0⟩ <;> simp [h1, h2, pCh, chRow, pI]
 rw [allC, List.map_flatMap]
 exact congrArg (fun f => (List.range n).flatMap f) (funext e)
theorem choosingB_ok {rs : List Bt.C4} {h : Int} {m : Bt.Mc} (hne : rs ≠ []) (hn : rs.length ≤ 1048576) (hm : Small m) (hf : m.ths.length ≤ 5) : FnOk Try.prog 68 [pProg rs h, .agg (pMc m)] (pChs (Bt.chooseAll rs h m)) true := by
 have := choosingIn_ok (rs.map pCode) h m.ths.length (m.ths.map pTh) (by simp) (by omega) (m.cells.map fun x => [pI x]) (m.locks.map fun x => [pI x]) (m.told.map fun x => [pI x]) (fun a b => Bt.canDo rs h m ⟨a, b, 0⟩) (fun a b => can_ok (rs := rs) (h := h) (m := m) (c := ⟨a, b, 0⟩) hne hn hm)
 rw [allC_is] at this
 exact this
end Av
end Go.Proofs.Ytminfkedkkkhdaa
