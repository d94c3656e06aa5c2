/-
  Chapter 2: what a step does: the model's.
-/
import Derived.Test.YtbkbppllcjcmhaaC2V
import Derived.Test.YtbkbppllcjcmhaaC2U
set_option linter.unusedSimpArgs false
set_option linter.unusedVariables false
namespace Go.Proofs.Ytbkbppllcjcmhaa
open Go.RowKit
namespace Av
set_option maxRecDepth 10000 in
set_option maxHeartbeats 40000000 in
theorem sdo_s16 {rs : List Bt.C4} {h : Int} {m : Bt.Mc} {k : Nat} {t : Bt.Th} {a b c : Int} {kd rep : Int} (hn : rs.length ≤ 1048576) (hm : Small m) (hk : m.ths[k]? = some t) (hcd : Bt.canDo rs h m ⟨k, kd, rep⟩ = true) (d1 : (kd == 1) = false) (hx : Bt.instrOf rs h m k = some ⟨16, a, b, c⟩) (hco : Bt.codeOk 16 a b c = true) (hcl : m.cells.length = 8) (hlk : m.locks.length = 2) (htl : m.told.length ≤ 1000) (hfew : m.ths.length ≤ 4) (hrg : Bt.regsOk t.regs = true) (hs6 : t.stack.length ≤ 6) (hp : 0 ≤ t.pl ∧ t.pl ≤ 1048576) (hf : Bt.faultsI m k t ⟨16, a, b, c⟩ = false) :
    FnOk E.P 85 [pProg rs h, .agg (pMc m), .agg (pCh ⟨k, kd, rep⟩)] (.tup [.agg (pMc (Bt.stepM m k t ⟨16, a, b, c⟩ rep)), .bool true]) false := by
  have hCan := scanA_ok (rs := rs) (h := h) (m := m) (c := ⟨k, kd, rep⟩) hn hm
  rw [hcd] at hCan
  have hCopy : FnOk EL.P 84 [.agg (pMc m)] (.agg (pMc m)) true := scopy_ok hm
  obtain ⟨e6, hkl⟩ : (m.ths.map pTh)[k]? = some (pTh t) ∧ k < m.ths.length := ⟨by rw [List.getElem?_map, hk]; rfl, (List.getElem?_eq_some_iff.1 hk).1⟩
  have e6s : ∀ r, ((m.ths.map pTh).set k r)[k]? = some r := fun r => by rw [List.getElem?_set_self (by simpa using hkl)]
  have hml := hm.ths
  have hI := sinstrA_ok (rs := rs) (h := h) (m := m) (who := k) hn hm
  rw [hx] at hI
  have hF := sfaults_ok (x := ⟨16, a, b, c⟩) hk hco hlk hfew hs6
  rw [hf] at hF
  have hr := Bt.regsOk_len hrg
  have hval := fun j (hj : j < t.regs.length) => Bt.regsOk_at hrg hj
  have A := Bt.codeOk_A hco
  have B := Bt.codeOk_B hco
  rw [Bt.stepM_16]
  obtain ⟨pl, regs, stack, st⟩ := t
  simp only at e6 hr hval hs6 hp
  obtain ⟨i, rfl⟩ : ∃ i : Nat, a = i := ⟨a.toNat, by omega⟩
  obtain ⟨j, rfl⟩ : ∃ j : Nat, b = j := ⟨b.toNat, by omega⟩
  obtain ⟨ei, eg⟩ : (regs.map fun x => [PV.int .i64 x])[i]? = some [.int .i64 (regs[i]'(by omega))] ∧ regs.getD i 0 = regs[i]'(by omega) := ⟨by simp, by simp [show i < regs.length by omega]⟩
  obtain ⟨ej, eh⟩ : (regs.map fun x => [PV.int .i64 x])[j]? = some [.int .i64 (regs[j]'(by omega))] ∧ regs.getD j 0 = regs[j]'(by omega) := ⟨by simp, by simp [show j < regs.length by omega]⟩
  have va0 := hval i (by omega)
  have vb0 := hval j (by omega)
  simp only [Int.toNat_natCast, eg, eh]
  generalize regs[i]'(by omega) = va at *
  generalize regs[j]'(by omega) = vb at *
  obtain ⟨c0, c1'⟩ := Bt.lock_bounds hco (by simp)
  obtain ⟨q, rfl⟩ : ∃ q : Nat, c = q := ⟨c.toNat, by omega⟩
  have el : (m.locks.map fun x => [PV.int .i64 x])[q]? = some [.int .i64 (m.locks[q]'(by omega))] := by simp
  refine fn_okS mixed Try.func85 rfl (by kernel_rfl) _ Try.results85 _ Try.ntmps85 (by simp) (by kernel_rfl) (fun w0 => ?_)
  refine awpS_seq mixed ?_
  simp (maxSteps := 4000000) only [pProg, pMc, pCh, pInts, pI, tvl, simprocAttr]
  repeat (first | refine ftS (by kernel_rfl) ?_ | refine And.intro (by omega) ?_)
  refine awpS_seq mixed ?_
  repeat (first | (refine aops_fnX rfl ?_ ?_; focus (simp (maxSteps := 4000000) only [sks, pProg, pMc, pCh, pInts, pI, tvl, simprocAttr]; done)) | (simp (maxSteps := 4000000) only [pProg, pMc, pCh, pInts, pI, tvl, simprocAttr]) | refine ftS (by kernel_rfl) ?_ | refine And.intro (by omega) ?_)
  refine aops_fn (hCan) (hidB rfl) rfl ?_
  repeat (first | (refine aops_fnX rfl ?_ ?_; focus (simp (maxSteps := 4000000) only [sks, pProg, pMc, pCh, pInts, pI, tvl, simprocAttr]; done)) | (simp (maxSteps := 4000000) only [pProg, pMc, pCh, pInts, pI, tvl, simprocAttr]) | refine ftS (by kernel_rfl) ?_ | refine And.intro (by omega) ?_)
  refine awpS_seq (E := EL) mixedL ?_
  repeat (first | (refine aops_fnX rfl ?_ ?_; focus (simp (maxSteps := 4000000) only [sks, el_tb, pProg, pMc, pCh, pInts, pI, tvl, simprocAttr]; done)) | (simp (maxSteps := 4000000) only [el_tb, pProg, pMc, pCh, pInts, pI, tvl, simprocAttr]) | refine ftS (by kernel_rfl) ?_ | refine And.intro (by omega) ?_)
  refine aopsL_fn (E := EL) hCopy rfl (hidB rfl) rfl ?_
  simp (maxSteps := 4000000) only [el_tb, snapTAs, snapTA, snapTs, snapT, treeU, pProg, pMc, pCh, pInts, pI, tvl, simprocAttr]
  repeat (first | refine ftS (by kernel_rfl) ?_ | refine And.intro (by omega) ?_)
  refine awpS_gh (m' := 224) ((gh_row (b := 177) (by first | rfl | (simp only [lsa, tvs, simprocAttr]; done))).trans ((gh_row (b := 178) (by first | rfl | (simp only [lsa, tvs, simprocAttr]; done))).trans ((gh_row (b := 179) (by first | rfl | (simp only [lsa, tvs, simprocAttr]; done))).trans (gh_row (b := 176) (by first | rfl | (simp only [lsa, tvs, simprocAttr]; done)))))) (fun b hb => by simp only [upd]; repeat rw [if_neg (by omega)]) ?_
  refine awpS_of (E := E) mixed ?_
  repeat (first | (refine aops_fnX rfl ?_ ?_; focus (simp (maxSteps := 4000000) only [sks, e6, e6s, ei, ej, d1, el, lsc, Int.reduceBEq, lsm, flat_ints, leaf_ints, lsb, pProg, pTh, pMc, pCh, pCode, pInts, pI, tvl, simprocAttr]; done)) | (simp (maxSteps := 4000000) only [e6, e6s, ei, ej, d1, el, lsc, Int.reduceBEq, lsm, flat_ints, leaf_ints, lsb, pProg, pTh, pMc, pCh, pCode, pInts, pI, tvl, simprocAttr]) | refine ftS (by kernel_rfl) ?_ | refine And.intro (by omega) ?_)
  refine aops_fn (hI) (hidB rfl) rfl ?_
  repeat (first | (refine aops_fnX rfl ?_ ?_; focus (simp (maxSteps := 4000000) only [sks, e6, e6s, ei, ej, d1, el, lsc, Int.reduceBEq, lsm, flat_ints, leaf_ints, lsb, pProg, pTh, pMc, pCh, pCode, pInts, pI, tvl, simprocAttr]; done)) | (simp (maxSteps := 4000000) only [e6, e6s, ei, ej, d1, el, lsc, Int.reduceBEq, lsm, flat_ints, leaf_ints, lsb, pProg, pTh, pMc, pCh, pCode, pInts, pI, tvl, simprocAttr]) | refine ftS (by kernel_rfl) ?_ | refine And.intro (by omega) ?_)
  refine aops_fnG (hF) (hidB rfl) rfl rfl (by simp (maxSteps := 4000000) only [pProg, pTh, pMc, pCh, pCode, pInts, pI, tvs, simprocAttr]) ?_
  repeat (first | (refine aops_fnX rfl ?_ ?_; focus (simp (maxSteps := 4000000) only [sks, e6, e6s, ei, ej, d1, el, lsc, Int.reduceBEq, lsm, flat_ints, leaf_ints, lsb, pProg, pTh, pMc, pCh, pCode, pInts, pI, tvl, simprocAttr]; done)) | (simp (maxSteps := 4000000) only [e6, e6s, ei, ej, d1, el, lsc, Int.reduceBEq, lsm, flat_ints, leaf_ints, lsb, pProg, pTh, pMc, pCh, pCode, pInts, pI, tvl, simprocAttr]) | refine ftS (by kernel_rfl) ?_ | refine And.intro (by omega) ?_)
  refine ⟨.inr rfl, _, Gh.refl, ?_⟩
  repeat (first | (refine aops_fnX rfl ?_ ?_; focus (simp (maxSteps := 4000000) only [sks, e6, e6s, ei, ej, d1, el, lsc, Int.reduceBEq, lsm, flat_ints, leaf_ints, lsb, pProg, pTh, pMc, pCh, pCode, pInts, pI, tvl, simprocAttr]; done)) | (simp (maxSteps := 4000000) only [e6, e6s, ei, ej, d1, el, lsc, Int.reduceBEq, lsm, flat_ints, leaf_ints, lsb, pProg, pTh, pMc, pCh, pCode, pInts, pI, tvl, simprocAttr]) | refine ftS (by kernel_rfl) ?_ | refine And.intro (by omega) ?_)
  all_goals (first | rfl | trivial | skip)
set_option maxRecDepth 10000 in
set_option maxHeartbeats 40000000 in
theorem sdo_s17 {rs : List Bt.C4} {h : Int} {m : Bt.Mc} {k : Nat} {t : Bt.Th} {a b c : Int} {kd rep : Int} (hn : rs.length ≤ 1048576) (hm : Small m) (hk : m.ths[k]? = some t) (hcd : Bt.canDo rs h m ⟨k, kd, rep⟩ = true) (d1 : (kd == 1) = false) (hx : Bt.instrOf rs h m k = some ⟨17, a, b, c⟩) (hco : Bt.codeOk 17 a b c = true) (hcl : m.cells.length = 8) (hlk : m.locks.length = 2) (htl : m.told.length ≤ 1000) (hfew : m.ths.length ≤ 4) (hrg : Bt.regsOk t.regs = true) (hs6 : t.stack.length ≤ 6) (hp : 0 ≤ t.pl ∧ t.pl ≤ 1048576) (hf : Bt.faultsI m k t ⟨17, a, b, c⟩ = false) :
    FnOk E.P 85 [pProg rs h, .agg (pMc m), .agg (pCh ⟨k, kd, rep⟩)] (.tup [.agg (pMc (Bt.stepM m k t ⟨17, a, b, c⟩ rep)), .bool true]) false := by
  have hCan := scanA_ok (rs := rs) (h := h) (m := m) (c := ⟨k, kd, rep⟩) hn hm
  rw [hcd] at hCan
  have hCopy : FnOk EL.P 84 [.agg (pMc m)] (.agg (pMc m)) true := scopy_ok hm
  obtain ⟨e6, hkl⟩ : (m.ths.map pTh)[k]? = some (pTh t) ∧ k < m.ths.length := ⟨by rw [List.getElem?_map, hk]; rfl, (List.getElem?_eq_some_iff.1 hk).1⟩
  have e6s : ∀ r, ((m.ths.map pTh).set k r)[k]? = some r := fun r => by rw [List.getElem?_set_self (by simpa using hkl)]
  have hml := hm.ths
  have hI := sinstrA_ok (rs := rs) (h := h) (m := m) (who := k) hn hm
  rw [hx] at hI
  have hF := sfaults_ok (x := ⟨17, a, b, c⟩) hk hco hlk hfew hs6
  rw [hf] at hF
  have hr := Bt.regsOk_len hrg
  have hval := fun j (hj : j < t.regs.length) => Bt.regsOk_at hrg hj
  have A := Bt.codeOk_A hco
  have B := Bt.codeOk_B hco
  rw [Bt.stepM_17]
  obtain ⟨pl, regs, stack, st⟩ := t
  simp only at e6 hr hval hs6 hp
  obtain ⟨i, rfl⟩ : ∃ i : Nat, a = i := ⟨a.toNat, by omega⟩
  obtain ⟨j, rfl⟩ : ∃ j : Nat, b = j := ⟨b.toNat, by omega⟩
  obtain ⟨ei, eg⟩ : (regs.map fun x => [PV.int .i64 x])[i]? = some [.int .i64 (regs[i]'(by omega))] ∧ regs.getD i 0 = regs[i]'(by omega) := ⟨by simp, by simp [show i < regs.length by omega]⟩
  obtain ⟨ej, eh⟩ : (regs.map fun x => [PV.int .i64 x])[j]? = some [.int .i64 (regs[j]'(by omega))] ∧ regs.getD j 0 = regs[j]'(by omega) := ⟨by simp, by simp [show j < regs.length by omega]⟩
  have va0 := hval i (by omega)
  have vb0 := hval j (by omega)
  simp only [Int.toNat_natCast, eg, eh]
  generalize regs[i]'(by omega) = va at *
  generalize regs[j]'(by omega) = vb at *
  have e6b : ∀ r, ((m.ths.map pTh) ++ [r])[k]? = some (pTh ⟨pl, regs, stack, st⟩) := fun r => by rw [List.getElem?_append_left (by simpa using hkl)]; exact e6
  have e6c : ∀ r r', ((m.ths.map pTh) ++ [r]).set k r' = (m.ths.map pTh).set k r' ++ [r] := fun r r' => by rw [List.set_append_left _ _ (by simpa using hkl)]
  refine fn_okS mixed Try.func85 rfl (by kernel_rfl) _ Try.results85 _ Try.ntmps85 (by simp) (by kernel_rfl) (fun w0 => ?_)
  refine awpS_seq mixed ?_
  simp (maxSteps := 4000000) only [pProg, pMc, pCh, pInts, pI, tvl, simprocAttr]
  repeat (first | refine ftS (by kernel_rfl) ?_ | refine And.intro (by omega) ?_)
  refine awpS_seq mixed ?_
  repeat (first | (refine aops_fnX rfl ?_ ?_; focus (simp (maxSteps := 4000000) only [sks, pProg, pMc, pCh, pInts, pI, tvl, simprocAttr]; done)) | (simp (maxSteps := 4000000) only [pProg, pMc, pCh, pInts, pI, tvl, simprocAttr]) | refine ftS (by kernel_rfl) ?_ | refine And.intro (by omega) ?_)
  refine aops_fn (hCan) (hidB rfl) rfl ?_
  repeat (first | (refine aops_fnX rfl ?_ ?_; focus (simp (maxSteps := 4000000) only [sks, pProg, pMc, pCh, pInts, pI, tvl, simprocAttr]; done)) | (simp (maxSteps := 4000000) only [pProg, pMc, pCh, pInts, pI, tvl, simprocAttr]) | refine ftS (by kernel_rfl) ?_ | refine And.intro (by omega) ?_)
  refine awpS_seq (E := EL) mixedL ?_
  repeat (first | (refine aops_fnX rfl ?_ ?_; focus (simp (maxSteps := 4000000) only [sks, el_tb, pProg, pMc, pCh, pInts, pI, tvl, simprocAttr]; done)) | (simp (maxSteps := 4000000) only [el_tb, pProg, pMc, pCh, pInts, pI, tvl, simprocAttr]) | refine ftS (by kernel_rfl) ?_ | refine And.intro (by omega) ?_)
  refine aopsL_fn (E := EL) hCopy rfl (hidB rfl) rfl ?_
  simp (maxSteps := 4000000) only [el_tb, snapTAs, snapTA, snapTs, snapT, treeU, pProg, pMc, pCh, pInts, pI, tvl, simprocAttr]
  repeat (first | refine ftS (by kernel_rfl) ?_ | refine And.intro (by omega) ?_)
  refine awpS_gh (m' := 224) ((gh_row (b := 177) (by first | rfl | (simp only [lsa, tvs, simprocAttr]; done))).trans ((gh_row (b := 178) (by first | rfl | (simp only [lsa, tvs, simprocAttr]; done))).trans ((gh_row (b := 179) (by first | rfl | (simp only [lsa, tvs, simprocAttr]; done))).trans (gh_row (b := 176) (by first | rfl | (simp only [lsa, tvs, simprocAttr]; done)))))) (fun b hb => by simp only [upd]; repeat rw [if_neg (by omega)]) ?_
  refine awpS_of (E := E) mixed ?_
  repeat (first | (refine aops_fnX rfl ?_ ?_; focus (simp (maxSteps := 4000000) only [sks, e6, e6s, ei, ej, d1, e6b, e6c, List.length_append, List.length_cons, List.length_nil, lsc, Int.reduceBEq, lsm, flat_ints, leaf_ints, lsb, pProg, pTh, pMc, pCh, pCode, pInts, pI, tvl, simprocAttr]; done)) | (simp (maxSteps := 4000000) only [e6, e6s, ei, ej, d1, e6b, e6c, List.length_append, List.length_cons, List.length_nil, lsc, Int.reduceBEq, lsm, flat_ints, leaf_ints, lsb, pProg, pTh, pMc, pCh, pCode, pInts, pI, tvl, simprocAttr]) | refine ftS (by kernel_rfl) ?_ | refine And.intro (by omega) ?_)
  refine aops_fn (hI) (hidB rfl) rfl ?_
  repeat (first | (refine aops_fnX rfl ?_ ?_; focus (simp (maxSteps := 4000000) only [sks, e6, e6s, ei, ej, d1, e6b, e6c, List.length_append, List.length_cons, List.length_nil, lsc, Int.reduceBEq, lsm, flat_ints, leaf_ints, lsb, pProg, pTh, pMc, pCh, pCode, pInts, pI, tvl, simprocAttr]; done)) | (simp (maxSteps := 4000000) only [e6, e6s, ei, ej, d1, e6b, e6c, List.length_append, List.length_cons, List.length_nil, lsc, Int.reduceBEq, lsm, flat_ints, leaf_ints, lsb, pProg, pTh, pMc, pCh, pCode, pInts, pI, tvl, simprocAttr]) | refine ftS (by kernel_rfl) ?_ | refine And.intro (by omega) ?_)
  refine aops_fnG (hF) (hidB rfl) rfl rfl (by simp (maxSteps := 4000000) only [pProg, pTh, pMc, pCh, pCode, pInts, pI, tvs, simprocAttr]) ?_
  repeat (first | (refine aops_fnX rfl ?_ ?_; focus (simp (maxSteps := 4000000) only [sks, e6, e6s, ei, ej, d1, e6b, e6c, List.length_append, List.length_cons, List.length_nil, lsc, Int.reduceBEq, lsm, flat_ints, leaf_ints, lsb, pProg, pTh, pMc, pCh, pCode, pInts, pI, tvl, simprocAttr]; done)) | (simp (maxSteps := 4000000) only [e6, e6s, ei, ej, d1, e6b, e6c, List.length_append, List.length_cons, List.length_nil, lsc, Int.reduceBEq, lsm, flat_ints, leaf_ints, lsb, pProg, pTh, pMc, pCh, pCode, pInts, pI, tvl, simprocAttr]) | refine ftS (by kernel_rfl) ?_ | refine And.intro (by omega) ?_)
  refine ⟨.inr rfl, _, Gh.refl, ?_⟩
  repeat (first | (refine aops_fnX rfl ?_ ?_; focus (simp (maxSteps := 4000000) only [sks, e6, e6s, ei, ej, d1, e6b, e6c, List.length_append, List.length_cons, List.length_nil, lsc, Int.reduceBEq, lsm, flat_ints, leaf_ints, lsb, pProg, pTh, pMc, pCh, pCode, pInts, pI, tvl, simprocAttr]; done)) | (simp (maxSteps := 4000000) only [e6, e6s, ei, ej, d1, e6b, e6c, List.length_append, List.length_cons, List.length_nil, lsc, Int.reduceBEq, lsm, flat_ints, leaf_ints, lsb, pProg, pTh, pMc, pCh, pCode, pInts, pI, tvl, simprocAttr]) | refine ftS (by kernel_rfl) ?_ | refine And.intro (by omega) ?_)
  all_goals (first | rfl | trivial | skip)
end Av
end Go.Proofs.Ytbkbppllcjcmhaa
