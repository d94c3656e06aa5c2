/-
  Chapter 2: what a step does: the model's.
-/
import Derived.Test.YtbkbppllcjcmhaaC2V
import Derived.Test.YtbkbppllcjcmhaaC2U
set_option linter.unusedSimpArgs false
set_option linter.unusedVariables false
namespace Go.Proofs.Ytbkbppllcjcmhaa
open Go.RowKit
namespace Av
set_option maxRecDepth 10000 in
set_option maxHeartbeats 40000000 in
theorem sdo_sig {rs : List Bt.C4} {h : Int} {m : Bt.Mc} {k : Nat} {t : Bt.Th} {kd rep : Int} (hn : rs.length ≤ 1048576) (hm : Small m) (hk : m.ths[k]? = some t) (hcd : Bt.canDo rs h m ⟨k, kd, rep⟩ = true) (hkd : kd = 1) (hs6 : t.stack.length ≤ 6) :
    FnOk E.P 85 [pProg rs h, .agg (pMc m), .agg (pCh ⟨k, kd, rep⟩)] (.tup [.agg (pMc ⟨m.ths.set k ⟨h, t.regs, t.stack ++ [t.pl], t.st⟩, m.cells, m.locks, m.told⟩), .bool true]) false := by
  have hCan := scanA_ok (rs := rs) (h := h) (m := m) (c := ⟨k, kd, rep⟩) hn hm
  rw [hcd] at hCan
  have hCopy : FnOk EL.P 84 [.agg (pMc m)] (.agg (pMc m)) true := scopy_ok hm
  obtain ⟨e6, hkl⟩ : (m.ths.map pTh)[k]? = some (pTh t) ∧ k < m.ths.length := ⟨by rw [List.getElem?_map, hk]; rfl, (List.getElem?_eq_some_iff.1 hk).1⟩
  have e6s : ∀ r, ((m.ths.map pTh).set k r)[k]? = some r := fun r => by rw [List.getElem?_set_self (by simpa using hkl)]
  have hml := hm.ths
  subst hkd
  obtain ⟨pl, regs, stack, st⟩ := t
  simp only at hs6 e6
  refine fn_okS mixed Try.func85 rfl (by kernel_rfl) _ Try.results85 _ Try.ntmps85 (by simp) (by kernel_rfl) (fun w0 => ?_)
  refine awpS_seq mixed ?_
  simp (maxSteps := 4000000) only [pProg, pMc, pCh, pInts, pI, tvl, simprocAttr]
  repeat (first | refine ftS (by kernel_rfl) ?_ | refine And.intro (by omega) ?_)
  refine awpS_seq mixed ?_
  repeat (first | (refine aops_fnX rfl ?_ ?_; focus (simp (maxSteps := 4000000) only [sks, pProg, pMc, pCh, pInts, pI, tvl, simprocAttr]; done)) | (simp (maxSteps := 4000000) only [pProg, pMc, pCh, pInts, pI, tvl, simprocAttr]) | refine ftS (by kernel_rfl) ?_ | refine And.intro (by omega) ?_)
  refine aops_fn (hCan) (hidB rfl) rfl ?_
  repeat (first | (refine aops_fnX rfl ?_ ?_; focus (simp (maxSteps := 4000000) only [sks, pProg, pMc, pCh, pInts, pI, tvl, simprocAttr]; done)) | (simp (maxSteps := 4000000) only [pProg, pMc, pCh, pInts, pI, tvl, simprocAttr]) | refine ftS (by kernel_rfl) ?_ | refine And.intro (by omega) ?_)
  refine awpS_seq (E := EL) mixedL ?_
  repeat (first | (refine aops_fnX rfl ?_ ?_; focus (simp (maxSteps := 4000000) only [sks, el_tb, pProg, pMc, pCh, pInts, pI, tvl, simprocAttr]; done)) | (simp (maxSteps := 4000000) only [el_tb, pProg, pMc, pCh, pInts, pI, tvl, simprocAttr]) | refine ftS (by kernel_rfl) ?_ | refine And.intro (by omega) ?_)
  refine aopsL_fn (E := EL) hCopy rfl (hidB rfl) rfl ?_
  simp (maxSteps := 4000000) only [el_tb, snapTAs, snapTA, snapTs, snapT, treeU, pProg, pMc, pCh, pInts, pI, tvl, simprocAttr]
  repeat (first | refine ftS (by kernel_rfl) ?_ | refine And.intro (by omega) ?_)
  refine awpS_gh (m' := 240) ((gh_row (b := 177) (by first | rfl | (simp only [lsa, tvs, simprocAttr]; done))).trans ((gh_row (b := 178) (by first | rfl | (simp only [lsa, tvs, simprocAttr]; done))).trans ((gh_row (b := 179) (by first | rfl | (simp only [lsa, tvs, simprocAttr]; done))).trans ((gh_open (b := 176) (i := k) (n := 4) (by first | rfl | (simp only [lsa, tvs, simprocAttr]; done)) (by simpa using hkl) (by kernel_rfl)).trans ((gh_plain (b := 176) (j := 0) (by first | rfl | (simp only [lsa, tvs, simprocAttr]; done)) rfl e6 rfl rfl).trans ((gh_cell (b := 176) (j := 1) (m := 224) (by first | rfl | (simp only [lsa, tvs, simprocAttr]; done)) rfl e6 rfl (flat_ints _) (by first | rfl | (simp only [lsa, tvs, simprocAttr]; done))).trans ((gh_cell (b := 176) (j := 2) (m := 225) (by first | rfl | (simp only [lsa, tvs, simprocAttr]; done)) rfl e6 rfl (flat_ints _) (by first | rfl | (simp only [lsa, tvs, simprocAttr]; done))).trans (gh_plain (b := 176) (j := 3) (by first | rfl | (simp only [lsa, tvs, simprocAttr]; done)) rfl e6 rfl rfl)))))))) (fun b hb => by simp only [upd]; repeat rw [if_neg (by omega)]) ?_
  refine awpS_of (E := E) mixed ?_
  repeat (first | (refine aops_fnX rfl ?_ ?_; focus (simp (maxSteps := 4000000) only [sks, lsa, AV.leaf, PV.leaf, e6, e6s, lsc, Int.reduceBEq, lsm, flat_ints, leaf_ints, lsb, pProg, pTh, pMc, pCh, pCode, pInts, pI, tvl, simprocAttr]; done)) | (simp (maxSteps := 4000000) only [lsa, AV.leaf, PV.leaf, e6, e6s, lsc, Int.reduceBEq, lsm, flat_ints, leaf_ints, lsb, pProg, pTh, pMc, pCh, pCode, pInts, pI, tvl, simprocAttr]) | refine ftS (by kernel_rfl) ?_ | refine And.intro (by omega) ?_)
  refine ⟨.inr rfl, _, ((gh_frz (b := 224) (by first | rfl | (simp only [lsa, tvs, simprocAttr]; done))).trans ((gh_frz (b := 592) (by first | rfl | (simp only [lsa, tvs, simprocAttr]; done))).trans (gh_close (b := 176) (ps := [_, _, _, _]) (by first | rfl | (simp only [lsa, tvs, simprocAttr]; done)) (by exact ⟨(by first | exact .inl rfl | exact .inr (.inr ⟨_, _, _, rfl, rfl, by first | rfl | (simp only [tvs, simprocAttr]; done)⟩)), (by first | exact .inl rfl | exact .inr (.inr ⟨_, _, _, rfl, rfl, by first | rfl | (simp only [tvs, simprocAttr]; done)⟩)), (by first | exact .inl rfl | exact .inr (.inr ⟨_, _, _, rfl, rfl, by first | rfl | (simp only [tvs, simprocAttr]; done)⟩)), (by first | exact .inl rfl | exact .inr (.inr ⟨_, _, _, rfl, rfl, by first | rfl | (simp only [tvs, simprocAttr]; done)⟩)), trivial⟩)))), ?_⟩
  repeat (first | (refine aops_fnX rfl ?_ ?_; focus (simp (maxSteps := 4000000) only [sks, e6, e6s, lsc, Int.reduceBEq, lsm, flat_ints, leaf_ints, lsb, lsa, pProg, pTh, pMc, pCh, pCode, pInts, pI, tvl, simprocAttr]; done)) | (simp (maxSteps := 4000000) only [e6, e6s, lsc, Int.reduceBEq, lsm, flat_ints, leaf_ints, lsb, lsa, pProg, pTh, pMc, pCh, pCode, pInts, pI, tvl, simprocAttr]) | refine ftS (by kernel_rfl) ?_ | refine And.intro (by omega) ?_)
  all_goals (first | rfl | trivial | skip)
set_option maxRecDepth 10000 in
set_option maxHeartbeats 40000000 in
theorem sdo_none {rs : List Bt.C4} {h : Int} {m : Bt.Mc} {k : Nat} {t : Bt.Th} {kd rep : Int} (hn : rs.length ≤ 1048576) (hm : Small m) (hk : m.ths[k]? = some t) (hcd : Bt.canDo rs h m ⟨k, kd, rep⟩ = true) (d1 : (kd == 1) = false) (hx : Bt.instrOf rs h m k = none) :
    FnOk E.P 85 [pProg rs h, .agg (pMc m), .agg (pCh ⟨k, kd, rep⟩)] (.tup [.agg (pMc ⟨m.ths.set k ⟨t.pl, t.regs, t.stack, 2⟩, m.cells, m.locks, m.told⟩), .bool true]) false := by
  have hCan := scanA_ok (rs := rs) (h := h) (m := m) (c := ⟨k, kd, rep⟩) hn hm
  rw [hcd] at hCan
  have hCopy : FnOk EL.P 84 [.agg (pMc m)] (.agg (pMc m)) true := scopy_ok hm
  obtain ⟨e6, hkl⟩ : (m.ths.map pTh)[k]? = some (pTh t) ∧ k < m.ths.length := ⟨by rw [List.getElem?_map, hk]; rfl, (List.getElem?_eq_some_iff.1 hk).1⟩
  have e6s : ∀ r, ((m.ths.map pTh).set k r)[k]? = some r := fun r => by rw [List.getElem?_set_self (by simpa using hkl)]
  have hml := hm.ths
  have hI := sinstrA_ok (rs := rs) (h := h) (m := m) (who := k) hn hm
  rw [hx] at hI
  obtain ⟨pl, regs, stack, st⟩ := t
  try simp only at e6
  refine fn_okS mixed Try.func85 rfl (by kernel_rfl) _ Try.results85 _ Try.ntmps85 (by simp) (by kernel_rfl) (fun w0 => ?_)
  refine awpS_seq mixed ?_
  simp (maxSteps := 4000000) only [pProg, pMc, pCh, pInts, pI, tvl, simprocAttr]
  repeat (first | refine ftS (by kernel_rfl) ?_ | refine And.intro (by omega) ?_)
  refine awpS_seq mixed ?_
  repeat (first | (refine aops_fnX rfl ?_ ?_; focus (simp (maxSteps := 4000000) only [sks, pProg, pMc, pCh, pInts, pI, tvl, simprocAttr]; done)) | (simp (maxSteps := 4000000) only [pProg, pMc, pCh, pInts, pI, tvl, simprocAttr]) | refine ftS (by kernel_rfl) ?_ | refine And.intro (by omega) ?_)
  refine aops_fn (hCan) (hidB rfl) rfl ?_
  repeat (first | (refine aops_fnX rfl ?_ ?_; focus (simp (maxSteps := 4000000) only [sks, pProg, pMc, pCh, pInts, pI, tvl, simprocAttr]; done)) | (simp (maxSteps := 4000000) only [pProg, pMc, pCh, pInts, pI, tvl, simprocAttr]) | refine ftS (by kernel_rfl) ?_ | refine And.intro (by omega) ?_)
  refine awpS_seq (E := EL) mixedL ?_
  repeat (first | (refine aops_fnX rfl ?_ ?_; focus (simp (maxSteps := 4000000) only [sks, el_tb, pProg, pMc, pCh, pInts, pI, tvl, simprocAttr]; done)) | (simp (maxSteps := 4000000) only [el_tb, pProg, pMc, pCh, pInts, pI, tvl, simprocAttr]) | refine ftS (by kernel_rfl) ?_ | refine And.intro (by omega) ?_)
  refine aopsL_fn (E := EL) hCopy rfl (hidB rfl) rfl ?_
  simp (maxSteps := 4000000) only [el_tb, snapTAs, snapTA, snapTs, snapT, treeU, pProg, pMc, pCh, pInts, pI, tvl, simprocAttr]
  repeat (first | refine ftS (by kernel_rfl) ?_ | refine And.intro (by omega) ?_)
  refine awpS_gh (m' := 224) ((gh_row (b := 177) (by first | rfl | (simp only [lsa, tvs, simprocAttr]; done))).trans ((gh_row (b := 178) (by first | rfl | (simp only [lsa, tvs, simprocAttr]; done))).trans ((gh_row (b := 179) (by first | rfl | (simp only [lsa, tvs, simprocAttr]; done))).trans (gh_row (b := 176) (by first | rfl | (simp only [lsa, tvs, simprocAttr]; done)))))) (fun b hb => by simp only [upd]; repeat rw [if_neg (by omega)]) ?_
  refine awpS_of (E := E) mixed ?_
  repeat (first | (refine aops_fnX rfl ?_ ?_; focus (simp (maxSteps := 4000000) only [sks, e6, e6s, d1, lsc, Int.reduceBEq, lsm, flat_ints, leaf_ints, lsb, pProg, pTh, pMc, pCh, pCode, pInts, pI, tvl, simprocAttr]; done)) | (simp (maxSteps := 4000000) only [e6, e6s, d1, lsc, Int.reduceBEq, lsm, flat_ints, leaf_ints, lsb, pProg, pTh, pMc, pCh, pCode, pInts, pI, tvl, simprocAttr]) | refine ftS (by kernel_rfl) ?_ | refine And.intro (by omega) ?_)
  refine aops_fn (hI) (hidB rfl) rfl ?_
  repeat (first | (refine aops_fnX rfl ?_ ?_; focus (simp (maxSteps := 4000000) only [sks, e6, e6s, d1, lsc, Int.reduceBEq, lsm, flat_ints, leaf_ints, lsb, pProg, pTh, pMc, pCh, pCode, pInts, pI, tvl, simprocAttr]; done)) | (simp (maxSteps := 4000000) only [e6, e6s, d1, lsc, Int.reduceBEq, lsm, flat_ints, leaf_ints, lsb, pProg, pTh, pMc, pCh, pCode, pInts, pI, tvl, simprocAttr]) | refine ftS (by kernel_rfl) ?_ | refine And.intro (by omega) ?_)
  refine ⟨.inr rfl, _, Gh.refl, ?_⟩
  repeat (first | (refine aops_fnX rfl ?_ ?_; focus (simp (maxSteps := 4000000) only [sks, e6, e6s, lsc, Int.reduceBEq, lsm, flat_ints, leaf_ints, lsb, pProg, pTh, pMc, pCh, pCode, pInts, pI, tvl, simprocAttr]; done)) | (simp (maxSteps := 4000000) only [e6, e6s, lsc, Int.reduceBEq, lsm, flat_ints, leaf_ints, lsb, pProg, pTh, pMc, pCh, pCode, pInts, pI, tvl, simprocAttr]) | refine ftS (by kernel_rfl) ?_ | refine And.intro (by omega) ?_)
  all_goals (first | rfl | trivial | skip)
set_option maxRecDepth 10000 in
set_option maxHeartbeats 40000000 in
theorem sdo_fault {rs : List Bt.C4} {h : Int} {m : Bt.Mc} {k : Nat} {t : Bt.Th} {x : Bt.C4} {kd rep : Int} (hn : rs.length ≤ 1048576) (hm : Small m) (hk : m.ths[k]? = some t) (hcd : Bt.canDo rs h m ⟨k, kd, rep⟩ = true) (d1 : (kd == 1) = false) (hx : Bt.instrOf rs h m k = some x) (hco : Bt.codeOk x.op x.a x.b x.c = true) (hlk : m.locks.length = 2) (hfew : m.ths.length ≤ 4) (hs6 : t.stack.length ≤ 6) (hf : Bt.faultsI m k t x = true) :
    FnOk E.P 85 [pProg rs h, .agg (pMc m), .agg (pCh ⟨k, kd, rep⟩)] (.tup [.agg (pMc ⟨m.ths.set k ⟨t.pl, t.regs, t.stack, 2⟩, m.cells, m.locks, m.told⟩), .bool true]) false := by
  have hCan := scanA_ok (rs := rs) (h := h) (m := m) (c := ⟨k, kd, rep⟩) hn hm
  rw [hcd] at hCan
  have hCopy : FnOk EL.P 84 [.agg (pMc m)] (.agg (pMc m)) true := scopy_ok hm
  obtain ⟨e6, hkl⟩ : (m.ths.map pTh)[k]? = some (pTh t) ∧ k < m.ths.length := ⟨by rw [List.getElem?_map, hk]; rfl, (List.getElem?_eq_some_iff.1 hk).1⟩
  have e6s : ∀ r, ((m.ths.map pTh).set k r)[k]? = some r := fun r => by rw [List.getElem?_set_self (by simpa using hkl)]
  have hml := hm.ths
  have hI := sinstrA_ok (rs := rs) (h := h) (m := m) (who := k) hn hm
  rw [hx] at hI
  have hF := sfaults_ok hk hco hlk hfew hs6
  rw [hf] at hF
  obtain ⟨pl, regs, stack, st⟩ := t
  try simp only at e6
  refine fn_okS mixed Try.func85 rfl (by kernel_rfl) _ Try.results85 _ Try.ntmps85 (by simp) (by kernel_rfl) (fun w0 => ?_)
  refine awpS_seq mixed ?_
  simp (maxSteps := 4000000) only [pProg, pMc, pCh, pInts, pI, tvl, simprocAttr]
  repeat (first | refine ftS (by kernel_rfl) ?_ | refine And.intro (by omega) ?_)
  refine awpS_seq mixed ?_
  repeat (first | (refine aops_fnX rfl ?_ ?_; focus (simp (maxSteps := 4000000) only [sks, pProg, pMc, pCh, pInts, pI, tvl, simprocAttr]; done)) | (simp (maxSteps := 4000000) only [pProg, pMc, pCh, pInts, pI, tvl, simprocAttr]) | refine ftS (by kernel_rfl) ?_ | refine And.intro (by omega) ?_)
  refine aops_fn (hCan) (hidB rfl) rfl ?_
  repeat (first | (refine aops_fnX rfl ?_ ?_; focus (simp (maxSteps := 4000000) only [sks, pProg, pMc, pCh, pInts, pI, tvl, simprocAttr]; done)) | (simp (maxSteps := 4000000) only [pProg, pMc, pCh, pInts, pI, tvl, simprocAttr]) | refine ftS (by kernel_rfl) ?_ | refine And.intro (by omega) ?_)
  refine awpS_seq (E := EL) mixedL ?_
  repeat (first | (refine aops_fnX rfl ?_ ?_; focus (simp (maxSteps := 4000000) only [sks, el_tb, pProg, pMc, pCh, pInts, pI, tvl, simprocAttr]; done)) | (simp (maxSteps := 4000000) only [el_tb, pProg, pMc, pCh, pInts, pI, tvl, simprocAttr]) | refine ftS (by kernel_rfl) ?_ | refine And.intro (by omega) ?_)
  refine aopsL_fn (E := EL) hCopy rfl (hidB rfl) rfl ?_
  simp (maxSteps := 4000000) only [el_tb, snapTAs, snapTA, snapTs, snapT, treeU, pProg, pMc, pCh, pInts, pI, tvl, simprocAttr]
  repeat (first | refine ftS (by kernel_rfl) ?_ | refine And.intro (by omega) ?_)
  refine awpS_gh (m' := 224) ((gh_row (b := 177) (by first | rfl | (simp only [lsa, tvs, simprocAttr]; done))).trans ((gh_row (b := 178) (by first | rfl | (simp only [lsa, tvs, simprocAttr]; done))).trans ((gh_row (b := 179) (by first | rfl | (simp only [lsa, tvs, simprocAttr]; done))).trans (gh_row (b := 176) (by first | rfl | (simp only [lsa, tvs, simprocAttr]; done)))))) (fun b hb => by simp only [upd]; repeat rw [if_neg (by omega)]) ?_
  refine awpS_of (E := E) mixed ?_
  repeat (first | (refine aops_fnX rfl ?_ ?_; focus (simp (maxSteps := 4000000) only [sks, e6, e6s, d1, lsc, Int.reduceBEq, lsm, flat_ints, leaf_ints, lsb, pProg, pTh, pMc, pCh, pCode, pInts, pI, tvl, simprocAttr]; done)) | (simp (maxSteps := 4000000) only [e6, e6s, d1, lsc, Int.reduceBEq, lsm, flat_ints, leaf_ints, lsb, pProg, pTh, pMc, pCh, pCode, pInts, pI, tvl, simprocAttr]) | refine ftS (by kernel_rfl) ?_ | refine And.intro (by omega) ?_)
  refine aops_fn (hI) (hidB rfl) rfl ?_
  repeat (first | (refine aops_fnX rfl ?_ ?_; focus (simp (maxSteps := 4000000) only [sks, e6, e6s, d1, lsc, Int.reduceBEq, lsm, flat_ints, leaf_ints, lsb, pProg, pTh, pMc, pCh, pCode, pInts, pI, tvl, simprocAttr]; done)) | (simp (maxSteps := 4000000) only [e6, e6s, d1, lsc, Int.reduceBEq, lsm, flat_ints, leaf_ints, lsb, pProg, pTh, pMc, pCh, pCode, pInts, pI, tvl, simprocAttr]) | refine ftS (by kernel_rfl) ?_ | refine And.intro (by omega) ?_)
  refine aops_fnG (hF) (hidB rfl) rfl rfl (by simp (maxSteps := 4000000) only [pProg, pTh, pMc, pCh, pCode, pInts, pI, tvs, simprocAttr]) ?_
  repeat (first | (refine aops_fnX rfl ?_ ?_; focus (simp (maxSteps := 4000000) only [sks, e6, e6s, d1, lsc, Int.reduceBEq, lsm, flat_ints, leaf_ints, lsb, pProg, pTh, pMc, pCh, pCode, pInts, pI, tvl, simprocAttr]; done)) | (simp (maxSteps := 4000000) only [e6, e6s, d1, lsc, Int.reduceBEq, lsm, flat_ints, leaf_ints, lsb, pProg, pTh, pMc, pCh, pCode, pInts, pI, tvl, simprocAttr]) | refine ftS (by kernel_rfl) ?_ | refine And.intro (by omega) ?_)
  refine ⟨.inr rfl, _, Gh.refl, ?_⟩
  repeat (first | (refine aops_fnX rfl ?_ ?_; focus (simp (maxSteps := 4000000) only [sks, e6, e6s, lsc, Int.reduceBEq, lsm, flat_ints, leaf_ints, lsb, pProg, pTh, pMc, pCh, pCode, pInts, pI, tvl, simprocAttr]; done)) | (simp (maxSteps := 4000000) only [e6, e6s, lsc, Int.reduceBEq, lsm, flat_ints, leaf_ints, lsb, pProg, pTh, pMc, pCh, pCode, pInts, pI, tvl, simprocAttr]) | refine ftS (by kernel_rfl) ?_ | refine And.intro (by omega) ?_)
  all_goals (first | rfl | trivial | skip)
end Av
end Go.Proofs.Ytbkbppllcjcmhaa
