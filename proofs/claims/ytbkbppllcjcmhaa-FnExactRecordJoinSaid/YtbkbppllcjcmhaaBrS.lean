/-
  What the model's Do hands back.
  Contracts of the model's chapters 1 and 2.
-/
import Derived.Test.YtbkbppllcjcmhaaC2W
import Derived.Test.YtbkbppllcjcmhaaC2X
import Derived.Test.YtbkbppllcjcmhaaC2Y
import Derived.Test.YtbkbppllcjcmhaaC2Z
import Derived.Test.YtbkbppllcjcmhaaC2Wb
import Derived.Test.YtbkbppllcjcmhaaC2Xb
import Derived.Test.YtbkbppllcjcmhaaC2Yb
import Derived.Test.YtbkbppllcjcmhaaC2Zb
import Derived.Test.YtbkbppllcjcmhaaC2M
set_option linter.unusedSimpArgs false
set_option linter.unusedVariables false
namespace Go.Proofs.Ytbkbppllcjcmhaa
open Go.RowKit
namespace Av
set_option maxRecDepth 10000 in
set_option maxHeartbeats 4000000 in
theorem sdoA_ok {rs : List Bt.C4} {h : Int} {m : Bt.Mc} {c : Bt.Ch} (hn : rs.length ≤ 1048576) (hm : Small m) : FnOk E.P 85 [pProg rs h, .agg (pMc m), .agg (pCh c)] (.tup [.agg (pMc ((Bt.doM rs h m c).getD Bt.mcNil)), .bool (Bt.doM rs h m c).isSome]) false := by
  obtain ⟨who, kd, rep⟩ := c
  cases h1 : Bt.canDo rs h m ⟨who, kd, rep⟩
  · have hCan := scanA_ok (rs := rs) (h := h) (m := m) (c := ⟨who, kd, rep⟩) hn hm
    rw [h1] at hCan
    rw [Bt.doM_no h1]
    refine fn_ok mixed Try.func85 rfl (by kernel_rfl) _ Try.results85 _ Try.ntmps85 (by simp) (by kernel_rfl) ?_
    repeat (first | (refine aops_fnX rfl ?_ ?_; focus (simp (maxSteps := 4000000) only [sks, pProg, pMc, pCh, pInts, pI, tvl, simprocAttr]; done)) | (simp (maxSteps := 4000000) only [pProg, pMc, pCh, pInts, pI, tvl, simprocAttr]) | refine ftS (by kernel_rfl) ?_ | refine And.intro (by omega) ?_)
    refine aops_fn (hCan) (hidB rfl) rfl ?_
    repeat (first | (refine aops_fnX rfl ?_ ?_; focus (simp (maxSteps := 4000000) only [sks, Option.getD_none, Option.isSome_none, Bt.mcNil, List.map_nil, pProg, pMc, pCh, pInts, pI, tvl, simprocAttr]; done)) | (simp (maxSteps := 4000000) only [Option.getD_none, Option.isSome_none, Bt.mcNil, List.map_nil, pProg, pMc, pCh, pInts, pI, tvl, simprocAttr]) | refine ftS (by kernel_rfl) ?_ | refine And.intro (by omega) ?_)
    all_goals (first | rfl | trivial | skip)
  obtain ⟨hmk, hru⟩ := Bt.canDo_true h1
  obtain ⟨w0, w1⟩ : 0 ≤ who ∧ who < m.ths.length := Bt.runs_lt hru
  obtain ⟨k, rfl⟩ : ∃ k : Nat, who = k := ⟨who.toNat, by omega⟩
  have hkl : k < m.ths.length := by omega
  have F := Bt.machOk_facts hmk
  have T := Bt.thOk_facts (F.th k hkl)
  have hk : m.ths[k]? = some m.ths[k] := List.getElem?_eq_getElem hkl
  have hhi := T.hi
  have hp : 0 ≤ m.ths[k].pl ∧ m.ths[k].pl ≤ 1048576 := ⟨T.lo, by omega⟩
  by_cases c1 : kd = 1
  · subst c1
    rw [Bt.doM_sig h1 hkl]
    exact sdo_sig hn hm hk h1 rfl T.top
  have d1 : (kd == 1) = false := by simpa using c1
  rw [Bt.doM_in h1 hkl, if_neg c1]
  cases hx : Bt.instrOf rs h m k with
  | none => exact sdo_none hn hm hk h1 d1 hx
  | some x =>
    have hco := Bt.instrOf_code hx
    simp only
    cases hf : Bt.faultsI m k m.ths[k] x
    rotate_left
    · simp only [if_true]
      exact sdo_fault hn hm hk h1 d1 hx hco F.locks F.few T.top hf
    simp only [Bool.false_eq_true, if_false]
    have ho := Bt.codeOk_op hco
    obtain ⟨op, a, b, c⟩ := x
    simp only at ho hco
    have key : op = 0 ∨ op = 1 ∨ op = 2 ∨ op = 3 ∨ op = 4 ∨ op = 5 ∨ op = 6 ∨ op = 7 ∨ op = 8 ∨ op = 9 ∨ op = 10 ∨ op = 11 ∨ op = 12 ∨ op = 13 ∨ op = 14 ∨ op = 15 ∨ op = 16 ∨ op = 17 := by omega
    rcases key with rfl | rfl | rfl | rfl | rfl | rfl | rfl | rfl | rfl | rfl | rfl | rfl | rfl | rfl | rfl | rfl | rfl | rfl
    · exact sdo_s0 hn hm hk h1 d1 hx hco F.cells F.locks F.told F.few T.regs T.top hp hf
    · exact sdo_s1 hn hm hk h1 d1 hx hco F.cells F.locks F.told F.few T.regs T.top hp hf
    · exact sdo_s2 hn hm hk h1 d1 hx hco F.cells F.locks F.told F.few T.regs T.top hp hf
    · exact sdo_s3 hn hm hk h1 d1 hx hco F.cells F.locks F.told F.few T.regs T.top hp hf
    · exact sdo_s4 hn hm hk h1 d1 hx hco F.cells F.locks F.told F.few T.regs T.top hp hf
    · exact sdo_s5 hn hm hk h1 d1 hx hco F.cells F.locks F.told F.few T.regs T.top hp hf
    · exact sdo_s6 hn hm hk h1 d1 hx hco F.cells F.locks F.told F.few T.regs T.top hp hf
    · exact sdo_s7 hn hm hk h1 d1 hx hco F.cells F.locks F.told F.few T.regs T.top hp hf
    · exact sdo_s8 hn hm hk h1 d1 hx hco F.cells F.locks F.told F.few T.regs T.top hp hf
    · exact sdo_s9 hn hm hk h1 d1 hx hco F.cells F.locks F.told F.few T.regs T.top hp hf
    · exact sdo_s10 hn hm hk h1 d1 hx hco F.cells F.locks F.told F.few T.regs T.top hp hf
    · exact sdo_s11 hn hm hk h1 d1 hx hco F.cells F.locks F.told F.few T.regs T.top hp hf
    · exact sdo_s12 hn hm hk h1 d1 hx hco F.cells F.locks F.told F.few T.regs T.top hp hf
    · exact sdo_s13 hn hm hk h1 d1 hx hco F.cells F.locks F.told F.few T.regs T.top hp hf
    · exact sdo_s14 hn hm hk h1 d1 hx hco F.cells F.locks F.told F.few T.regs T.top hp hf
    · exact sdo_s15 hn hm hk h1 d1 hx hco F.cells F.locks F.told F.few T.regs T.top hp hf
    · exact sdo_s16 hn hm hk h1 d1 hx hco F.cells F.locks F.told F.few T.regs T.top hp hf
    · exact sdo_s17 hn hm hk h1 d1 hx hco F.cells F.locks F.told F.few T.regs T.top hp hf
end Av
end Go.Proofs.Ytbkbppllcjcmhaa

set_option linter.unusedSimpArgs false
set_option linter.unusedVariables false
namespace Go.Proofs.Ytbkbppllcjcmhaa
open Go.RowKit
namespace Av
theorem sprogN_ok {rs : List Bt.C4} {h : Int} (hne : rs ≠ []) (hn : rs.length ≤ 1048576) : FnOk E.P 102 [pProg rs h] (.bool (Bt.progOk rs h)) true := sprog_ok hn
theorem sprog0_ok {h : Int} : FnOk E.P 102 [pProg [] h] (.bool false) true := sprog_ok (rs := []) (h := h) (Nat.zero_le _)
theorem scan_ok {rs : List Bt.C4} {h : Int} {m : Bt.Mc} {c : Bt.Ch} (hne : rs ≠ []) (hn : rs.length ≤ 1048576) (hm : Small m) : FnOk E.P 111 [pProg rs h, .agg (pMc m), .agg (pCh c)] (.bool (Bt.canDo rs h m c)) true := scanA_ok hn hm
theorem sdo_ok {rs : List Bt.C4} {h : Int} {m : Bt.Mc} {c : Bt.Ch} (hne : rs ≠ []) (hn : rs.length ≤ 1048576) (hm : Small m) : FnOk E.P 85 [pProg rs h, .agg (pMc m), .agg (pCh c)] (.tup [.agg (pMc ((Bt.doM rs h m c).getD Bt.mcNil)), .bool (Bt.doM rs h m c).isSome]) false := sdoA_ok hn hm
theorem sinstr_ok {rs : List Bt.C4} {h who : Int} {m : Bt.Mc} (hne : rs ≠ []) (hn : rs.length ≤ 1048576) (hm : Small m) : FnOk E.P 112 [pProg rs h, .agg (pMc m), pI who] (.tup [.agg (pCode ((Bt.instrOf rs h m who).getD ⟨0, 0, 0, 0⟩)), .bool (Bt.instrOf rs h m who).isSome]) true := sinstrA_ok hn hm
set_option maxRecDepth 10000 in
set_option maxHeartbeats 4000000 in
theorem snew_ok : FnOk E.P 83 [] (.agg (pMc Bt.mcNew)) true := by
  refine fn_ok mixed Try.func83 rfl (by kernel_rfl) _ Try.results83 _ Try.ntmps83 (by simp) (by kernel_rfl) ?_
  simp (maxSteps := 4000000) only [pMc, pTh, pInts, Bt.mcNew, pI, tvs, simprocAttr]
  repeat (first | refine ftS (by kernel_rfl) ?_ | refine And.intro (by omega) ?_)
  all_goals (first | rfl | trivial | skip)
end Av
end Go.Proofs.Ytbkbppllcjcmhaa
