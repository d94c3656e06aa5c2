/-
  Contracts of the program's chapters 1 and 2.
-/
import Derived.Test.YtemogjmghgfdfaaC2M
import Derived.Test.YtemogjmghgfdfaaC1
set_option linter.unusedSimpArgs false
set_option linter.unusedVariables false
namespace Go.Proofs.Ytemogjmghgfdfaa
open Go.RowKit
namespace Av
theorem progN_ok {rs : List Bt.C4} {h : Int} (hne : rs ≠ []) (hn : rs.length ≤ 1048576) : FnOk E.P 69 [pProg rs h] (.bool (Bt.progOk rs h)) true := iprog_ok hn
theorem prog0_ok {h : Int} : FnOk E.P 69 [pProg [] h] (.bool false) true := iprog_ok (rs := []) (h := h) (Nat.zero_le _)
theorem can_ok {rs : List Bt.C4} {h : Int} {m : Bt.Mc} {c : Bt.Ch} (hne : rs ≠ []) (hn : rs.length ≤ 1048576) (hm : Small m) : FnOk E.P 130 [pProg rs h, .agg (pMc m), .agg (pCh c)] (.bool (Bt.canDo rs h m c)) true := ican_ok hn hm
theorem do_ok {rs : List Bt.C4} {h : Int} {m : Bt.Mc} {c : Bt.Ch} (hne : rs ≠ []) (hn : rs.length ≤ 1048576) (hm : Small m) : FnOk E.P 95 [pProg rs h, .agg (pMc m), .agg (pCh c)] (.tup [.agg (pMc ((Bt.doM rs h m c).getD Bt.mcNil)), .bool (Bt.doM rs h m c).isSome]) true := ido_ok hn hm
theorem instr_ok {rs : List Bt.C4} {h who : Int} {m : Bt.Mc} (hne : rs ≠ []) (hn : rs.length ≤ 1048576) (hm : Small m) : FnOk E.P 148 [pProg rs h, .agg (pMc m), pI who] (.tup [.agg (pCode ((Bt.instrOf rs h m who).getD ⟨0, 0, 0, 0⟩)), .bool (Bt.instrOf rs h m who).isSome]) true := iinstr_ok hn hm
end Av
end Go.Proofs.Ytemogjmghgfdfaa
