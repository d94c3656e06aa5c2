/-
  Chapter 2: what a step does: the model's.
-/
import Derived.Test.YtbkbppllcjcmhaaC2V
import Derived.Test.YtbkbppllcjcmhaaC2U
set_option linter.unusedSimpArgs false
set_option linter.unusedVariables false
namespace Go.Proofs.Ytbkbppllcjcmhaa
open Go.RowKit
namespace Av
set_option maxRecDepth 10000 in
set_option maxHeartbeats 40000000 in
theorem sdo_s6 {rs : List Bt.C4} {h : Int} {m : Bt.Mc} {k : Nat} {t : Bt.Th} {a b c : Int} {kd rep : Int} (hn : rs.length ≤ 1048576) (hm : Small m) (hk : m.ths[k]? = some t) (hcd : Bt.canDo rs h m ⟨k, kd, rep⟩ = true) (d1 : (kd == 1) = false) (hx : Bt.instrOf rs h m k = some ⟨6, a, b, c⟩) (hco : Bt.codeOk 6 a b c = true) (hcl : m.cells.length = 8) (hlk : m.locks.length = 2) (htl : m.told.length ≤ 1000) (hfew : m.ths.length ≤ 4) (hrg : Bt.regsOk t.regs = true) (hs6 : t.stack.length ≤ 6) (hp : 0 ≤ t.pl ∧ t.pl ≤ 1048576) (hf : Bt.faultsI m k t ⟨6, a, b, c⟩ = false) :
    FnOk E.P 85 [pProg rs h, .agg (pMc m), .agg (pCh ⟨k, kd, rep⟩)] (.tup [.agg (pMc (Bt.stepM m k t ⟨6, a, b, c⟩ rep)), .bool true]) false := by
  have hCan := scanA_ok (rs := rs) (h := h) (m := m) (c := ⟨k, kd, rep⟩) hn hm
  rw [hcd] at hCan
  have hCopy : FnOk EL.P 84 [.agg (pMc m)] (.agg (pMc m)) true := scopy_ok hm
  obtain ⟨e6, hkl⟩ : (m.ths.map pTh)[k]? = some (pTh t) ∧ k < m.ths.length := ⟨by rw [List.getElem?_map, hk]; rfl, (List.getElem?_eq_some_iff.1 hk).1⟩
  have e6s : ∀ r, ((m.ths.map pTh).set k r)[k]? = some r := fun r => by rw [List.getElem?_set_self (by simpa using hkl)]
  have hml := hm.ths
  have hI := sinstrA_ok (rs := rs) (h := h) (m := m) (who := k) hn hm
  rw [hx] at hI
  have hF := sfaults_ok (x := ⟨6, a, b, c⟩) hk hco hlk hfew hs6
  rw [hf] at hF
  have hr := Bt.regsOk_len hrg
  have hval := fun j (hj : j < t.regs.length) => Bt.regsOk_at hrg hj
  have A := Bt.codeOk_A hco
  have B := Bt.codeOk_B hco
  rw [Bt.stepM_6]
  obtain ⟨pl, regs, stack, st⟩ := t
  simp only at e6 hr hval hs6 hp
  obtain ⟨i, rfl⟩ : ∃ i : Nat, a = i := ⟨a.toNat, by omega⟩
  obtain ⟨j, rfl⟩ : ∃ j : Nat, b = j := ⟨b.toNat, by omega⟩
  obtain ⟨ei, eg⟩ : (regs.map fun x => [PV.int .i64 x])[i]? = some [.int .i64 (regs[i]'(by omega))] ∧ regs.getD i 0 = regs[i]'(by omega) := ⟨by simp, by simp [show i < regs.length by omega]⟩
  obtain ⟨ej, eh⟩ : (regs.map fun x => [PV.int .i64 x])[j]? = some [.int .i64 (regs[j]'(by omega))] ∧ regs.getD j 0 = regs[j]'(by omega) := ⟨by simp, by simp [show j < regs.length by omega]⟩
  have va0 := hval i (by omega)
  have vb0 := hval j (by omega)
  simp only [Int.toNat_natCast, eg, eh]
  generalize regs[i]'(by omega) = va at *
  generalize regs[j]'(by omega) = vb at *
  have eis : ∀ r, ((regs.map fun x => [PV.int .i64 x]).set i r)[i]? = some r := fun r => by rw [List.getElem?_set_self (by simp; omega)]
  refine fn_okS mixed Try.func85 rfl (by kernel_rfl) _ Try.results85 _ Try.ntmps85 (by simp) (by kernel_rfl) (fun w0 => ?_)
  refine awpS_seq mixed ?_
  simp (maxSteps := 4000000) only [pProg, pMc, pCh, pInts, pI, tvl, simprocAttr]
  repeat (first | refine ftS (by kernel_rfl) ?_ | refine And.intro (by omega) ?_)
  refine awpS_seq mixed ?_
  repeat (first | (refine aops_fnX rfl ?_ ?_; focus (simp (maxSteps := 4000000) only [sks, pProg, pMc, pCh, pInts, pI, tvl, simprocAttr]; done)) | (simp (maxSteps := 4000000) only [pProg, pMc, pCh, pInts, pI, tvl, simprocAttr]) | refine ftS (by kernel_rfl) ?_ | refine And.intro (by omega) ?_)
  refine aops_fn (hCan) (hidB rfl) rfl ?_
  repeat (first | (refine aops_fnX rfl ?_ ?_; focus (simp (maxSteps := 4000000) only [sks, pProg, pMc, pCh, pInts, pI, tvl, simprocAttr]; done)) | (simp (maxSteps := 4000000) only [pProg, pMc, pCh, pInts, pI, tvl, simprocAttr]) | refine ftS (by kernel_rfl) ?_ | refine And.intro (by omega) ?_)
  refine awpS_seq (E := EL) mixedL ?_
  repeat (first | (refine aops_fnX rfl ?_ ?_; focus (simp (maxSteps := 4000000) only [sks, el_tb, pProg, pMc, pCh, pInts, pI, tvl, simprocAttr]; done)) | (simp (maxSteps := 4000000) only [el_tb, pProg, pMc, pCh, pInts, pI, tvl, simprocAttr]) | refine ftS (by kernel_rfl) ?_ | refine And.intro (by omega) ?_)
  refine aopsL_fn (E := EL) hCopy rfl (hidB rfl) rfl ?_
  simp (maxSteps := 4000000) only [el_tb, snapTAs, snapTA, snapTs, snapT, treeU, pProg, pMc, pCh, pInts, pI, tvl, simprocAttr]
  repeat (first | refine ftS (by kernel_rfl) ?_ | refine And.intro (by omega) ?_)
  by_cases hlt : va < vb
  · have dl : decide (va < vb) = true := by simpa using hlt
    rw [if_pos hlt]
    refine awpS_gh (m' := 240) ((gh_row (b := 177) (by first | rfl | (simp only [lsa, tvs, simprocAttr]; done))).trans ((gh_row (b := 178) (by first | rfl | (simp only [lsa, tvs, simprocAttr]; done))).trans ((gh_row (b := 179) (by first | rfl | (simp only [lsa, tvs, simprocAttr]; done))).trans ((gh_open (b := 176) (i := k) (n := 4) (by first | rfl | (simp only [lsa, tvs, simprocAttr]; done)) (by simpa using hkl) (by kernel_rfl)).trans ((gh_plain (b := 176) (j := 0) (by first | rfl | (simp only [lsa, tvs, simprocAttr]; done)) rfl e6 rfl rfl).trans ((gh_cell (b := 176) (j := 1) (m := 224) (by first | rfl | (simp only [lsa, tvs, simprocAttr]; done)) rfl e6 rfl (flat_ints _) (by first | rfl | (simp only [lsa, tvs, simprocAttr]; done))).trans ((gh_cell (b := 176) (j := 2) (m := 225) (by first | rfl | (simp only [lsa, tvs, simprocAttr]; done)) rfl e6 rfl (flat_ints _) (by first | rfl | (simp only [lsa, tvs, simprocAttr]; done))).trans (gh_plain (b := 176) (j := 3) (by first | rfl | (simp only [lsa, tvs, simprocAttr]; done)) rfl e6 rfl rfl)))))))) (fun b hb => by simp only [upd]; repeat rw [if_neg (by omega)]) ?_
    refine awpS_of (E := E) mixed ?_
    repeat (first | (refine aops_fnX rfl ?_ ?_; focus (simp (maxSteps := 4000000) only [sks, lsa, AV.leaf, PV.leaf, e6, e6s, ei, ej, d1, eis, dl, lsc, Int.reduceBEq, lsm, flat_ints, leaf_ints, lsb, pProg, pTh, pMc, pCh, pCode, pInts, pI, tvl, simprocAttr]; done)) | (simp (maxSteps := 4000000) only [lsa, AV.leaf, PV.leaf, e6, e6s, ei, ej, d1, eis, dl, lsc, Int.reduceBEq, lsm, flat_ints, leaf_ints, lsb, pProg, pTh, pMc, pCh, pCode, pInts, pI, tvl, simprocAttr]) | refine ftS (by kernel_rfl) ?_ | refine And.intro (by omega) ?_)
    refine aops_fn (hI) (hidB rfl) rfl ?_
    repeat (first | (refine aops_fnX rfl ?_ ?_; focus (simp (maxSteps := 4000000) only [sks, lsa, AV.leaf, PV.leaf, e6, e6s, ei, ej, d1, eis, dl, lsc, Int.reduceBEq, lsm, flat_ints, leaf_ints, lsb, pProg, pTh, pMc, pCh, pCode, pInts, pI, tvl, simprocAttr]; done)) | (simp (maxSteps := 4000000) only [lsa, AV.leaf, PV.leaf, e6, e6s, ei, ej, d1, eis, dl, lsc, Int.reduceBEq, lsm, flat_ints, leaf_ints, lsb, pProg, pTh, pMc, pCh, pCode, pInts, pI, tvl, simprocAttr]) | refine ftS (by kernel_rfl) ?_ | refine And.intro (by omega) ?_)
    refine aops_fnG (hF) (hidB rfl) rfl rfl (by simp (maxSteps := 4000000) only [pProg, pTh, pMc, pCh, pCode, pInts, pI, tvs, simprocAttr]) ?_
    repeat (first | (refine aops_fnX rfl ?_ ?_; focus (simp (maxSteps := 4000000) only [sks, lsa, AV.leaf, PV.leaf, e6, e6s, ei, ej, d1, eis, dl, lsc, Int.reduceBEq, lsm, flat_ints, leaf_ints, lsb, pProg, pTh, pMc, pCh, pCode, pInts, pI, tvl, simprocAttr]; done)) | (simp (maxSteps := 4000000) only [lsa, AV.leaf, PV.leaf, e6, e6s, ei, ej, d1, eis, dl, lsc, Int.reduceBEq, lsm, flat_ints, leaf_ints, lsb, pProg, pTh, pMc, pCh, pCode, pInts, pI, tvl, simprocAttr]) | refine ftS (by kernel_rfl) ?_ | refine And.intro (by omega) ?_)
    refine ⟨.inr rfl, _, ((gh_frz (b := 224) (by first | rfl | (simp only [lsa, tvs, simprocAttr]; done))).trans ((gh_frz (b := 225) (by first | rfl | (simp only [lsa, tvs, simprocAttr]; done))).trans (gh_close (b := 176) (ps := [_, _, _, _]) (by first | rfl | (simp only [lsa, tvs, simprocAttr]; done)) (by exact ⟨(by first | exact .inl rfl | exact .inr (.inr ⟨_, _, _, rfl, rfl, by first | rfl | (simp only [tvs, simprocAttr]; done)⟩)), (by first | exact .inl rfl | exact .inr (.inr ⟨_, _, _, rfl, rfl, by first | rfl | (simp only [tvs, simprocAttr]; done)⟩)), (by first | exact .inl rfl | exact .inr (.inr ⟨_, _, _, rfl, rfl, by first | rfl | (simp only [tvs, simprocAttr]; done)⟩)), (by first | exact .inl rfl | exact .inr (.inr ⟨_, _, _, rfl, rfl, by first | rfl | (simp only [tvs, simprocAttr]; done)⟩)), trivial⟩)))), ?_⟩
    repeat (first | (refine aops_fnX rfl ?_ ?_; focus (simp (maxSteps := 4000000) only [sks, e6, e6s, ei, ej, d1, eis, dl, lsc, Int.reduceBEq, lsm, flat_ints, leaf_ints, lsb, lsa, pProg, pTh, pMc, pCh, pCode, pInts, pI, tvl, simprocAttr]; done)) | (simp (maxSteps := 4000000) only [e6, e6s, ei, ej, d1, eis, dl, lsc, Int.reduceBEq, lsm, flat_ints, leaf_ints, lsb, lsa, pProg, pTh, pMc, pCh, pCode, pInts, pI, tvl, simprocAttr]) | refine ftS (by kernel_rfl) ?_ | refine And.intro (by omega) ?_)
    all_goals (first | rfl | trivial | skip)
  · have dl : decide (va < vb) = false := by simpa using hlt
    rw [if_neg hlt]
    refine awpS_gh (m' := 240) ((gh_row (b := 177) (by first | rfl | (simp only [lsa, tvs, simprocAttr]; done))).trans ((gh_row (b := 178) (by first | rfl | (simp only [lsa, tvs, simprocAttr]; done))).trans ((gh_row (b := 179) (by first | rfl | (simp only [lsa, tvs, simprocAttr]; done))).trans ((gh_open (b := 176) (i := k) (n := 4) (by first | rfl | (simp only [lsa, tvs, simprocAttr]; done)) (by simpa using hkl) (by kernel_rfl)).trans ((gh_plain (b := 176) (j := 0) (by first | rfl | (simp only [lsa, tvs, simprocAttr]; done)) rfl e6 rfl rfl).trans ((gh_cell (b := 176) (j := 1) (m := 224) (by first | rfl | (simp only [lsa, tvs, simprocAttr]; done)) rfl e6 rfl (flat_ints _) (by first | rfl | (simp only [lsa, tvs, simprocAttr]; done))).trans ((gh_cell (b := 176) (j := 2) (m := 225) (by first | rfl | (simp only [lsa, tvs, simprocAttr]; done)) rfl e6 rfl (flat_ints _) (by first | rfl | (simp only [lsa, tvs, simprocAttr]; done))).trans (gh_plain (b := 176) (j := 3) (by first | rfl | (simp only [lsa, tvs, simprocAttr]; done)) rfl e6 rfl rfl)))))))) (fun b hb => by simp only [upd]; repeat rw [if_neg (by omega)]) ?_
    refine awpS_of (E := E) mixed ?_
    repeat (first | (refine aops_fnX rfl ?_ ?_; focus (simp (maxSteps := 4000000) only [sks, lsa, AV.leaf, PV.leaf, e6, e6s, ei, ej, d1, eis, dl, lsc, Int.reduceBEq, lsm, flat_ints, leaf_ints, lsb, pProg, pTh, pMc, pCh, pCode, pInts, pI, tvl, simprocAttr]; done)) | (simp (maxSteps := 4000000) only [lsa, AV.leaf, PV.leaf, e6, e6s, ei, ej, d1, eis, dl, lsc, Int.reduceBEq, lsm, flat_ints, leaf_ints, lsb, pProg, pTh, pMc, pCh, pCode, pInts, pI, tvl, simprocAttr]) | refine ftS (by kernel_rfl) ?_ | refine And.intro (by omega) ?_)
    refine aops_fn (hI) (hidB rfl) rfl ?_
    repeat (first | (refine aops_fnX rfl ?_ ?_; focus (simp (maxSteps := 4000000) only [sks, lsa, AV.leaf, PV.leaf, e6, e6s, ei, ej, d1, eis, dl, lsc, Int.reduceBEq, lsm, flat_ints, leaf_ints, lsb, pProg, pTh, pMc, pCh, pCode, pInts, pI, tvl, simprocAttr]; done)) | (simp (maxSteps := 4000000) only [lsa, AV.leaf, PV.leaf, e6, e6s, ei, ej, d1, eis, dl, lsc, Int.reduceBEq, lsm, flat_ints, leaf_ints, lsb, pProg, pTh, pMc, pCh, pCode, pInts, pI, tvl, simprocAttr]) | refine ftS (by kernel_rfl) ?_ | refine And.intro (by omega) ?_)
    refine aops_fnG (hF) (hidB rfl) rfl rfl (by simp (maxSteps := 4000000) only [pProg, pTh, pMc, pCh, pCode, pInts, pI, tvs, simprocAttr]) ?_
    repeat (first | (refine aops_fnX rfl ?_ ?_; focus (simp (maxSteps := 4000000) only [sks, lsa, AV.leaf, PV.leaf, e6, e6s, ei, ej, d1, eis, dl, lsc, Int.reduceBEq, lsm, flat_ints, leaf_ints, lsb, pProg, pTh, pMc, pCh, pCode, pInts, pI, tvl, simprocAttr]; done)) | (simp (maxSteps := 4000000) only [lsa, AV.leaf, PV.leaf, e6, e6s, ei, ej, d1, eis, dl, lsc, Int.reduceBEq, lsm, flat_ints, leaf_ints, lsb, pProg, pTh, pMc, pCh, pCode, pInts, pI, tvl, simprocAttr]) | refine ftS (by kernel_rfl) ?_ | refine And.intro (by omega) ?_)
    refine ⟨.inr rfl, _, ((gh_frz (b := 224) (by first | rfl | (simp only [lsa, tvs, simprocAttr]; done))).trans ((gh_frz (b := 225) (by first | rfl | (simp only [lsa, tvs, simprocAttr]; done))).trans (gh_close (b := 176) (ps := [_, _, _, _]) (by first | rfl | (simp only [lsa, tvs, simprocAttr]; done)) (by exact ⟨(by first | exact .inl rfl | exact .inr (.inr ⟨_, _, _, rfl, rfl, by first | rfl | (simp only [tvs, simprocAttr]; done)⟩)), (by first | exact .inl rfl | exact .inr (.inr ⟨_, _, _, rfl, rfl, by first | rfl | (simp only [tvs, simprocAttr]; done)⟩)), (by first | exact .inl rfl | exact .inr (.inr ⟨_, _, _, rfl, rfl, by first | rfl | (simp only [tvs, simprocAttr]; done)⟩)), (by first | exact .inl rfl | exact .inr (.inr ⟨_, _, _, rfl, rfl, by first | rfl | (simp only [tvs, simprocAttr]; done)⟩)), trivial⟩)))), ?_⟩
    repeat (first | (refine aops_fnX rfl ?_ ?_; focus (simp (maxSteps := 4000000) only [sks, e6, e6s, ei, ej, d1, eis, dl, lsc, Int.reduceBEq, lsm, flat_ints, leaf_ints, lsb, lsa, pProg, pTh, pMc, pCh, pCode, pInts, pI, tvl, simprocAttr]; done)) | (simp (maxSteps := 4000000) only [e6, e6s, ei, ej, d1, eis, dl, lsc, Int.reduceBEq, lsm, flat_ints, leaf_ints, lsb, lsa, pProg, pTh, pMc, pCh, pCode, pInts, pI, tvl, simprocAttr]) | refine ftS (by kernel_rfl) ?_ | refine And.intro (by omega) ?_)
    all_goals (first | rfl | trivial | skip)
set_option maxRecDepth 10000 in
set_option maxHeartbeats 40000000 in
theorem sdo_s7 {rs : List Bt.C4} {h : Int} {m : Bt.Mc} {k : Nat} {t : Bt.Th} {a b c : Int} {kd rep : Int} (hn : rs.length ≤ 1048576) (hm : Small m) (hk : m.ths[k]? = some t) (hcd : Bt.canDo rs h m ⟨k, kd, rep⟩ = true) (d1 : (kd == 1) = false) (hx : Bt.instrOf rs h m k = some ⟨7, a, b, c⟩) (hco : Bt.codeOk 7 a b c = true) (hcl : m.cells.length = 8) (hlk : m.locks.length = 2) (htl : m.told.length ≤ 1000) (hfew : m.ths.length ≤ 4) (hrg : Bt.regsOk t.regs = true) (hs6 : t.stack.length ≤ 6) (hp : 0 ≤ t.pl ∧ t.pl ≤ 1048576) (hf : Bt.faultsI m k t ⟨7, a, b, c⟩ = false) :
    FnOk E.P 85 [pProg rs h, .agg (pMc m), .agg (pCh ⟨k, kd, rep⟩)] (.tup [.agg (pMc (Bt.stepM m k t ⟨7, a, b, c⟩ rep)), .bool true]) false := by
  have hCan := scanA_ok (rs := rs) (h := h) (m := m) (c := ⟨k, kd, rep⟩) hn hm
  rw [hcd] at hCan
  have hCopy : FnOk EL.P 84 [.agg (pMc m)] (.agg (pMc m)) true := scopy_ok hm
  obtain ⟨e6, hkl⟩ : (m.ths.map pTh)[k]? = some (pTh t) ∧ k < m.ths.length := ⟨by rw [List.getElem?_map, hk]; rfl, (List.getElem?_eq_some_iff.1 hk).1⟩
  have e6s : ∀ r, ((m.ths.map pTh).set k r)[k]? = some r := fun r => by rw [List.getElem?_set_self (by simpa using hkl)]
  have hml := hm.ths
  have hI := sinstrA_ok (rs := rs) (h := h) (m := m) (who := k) hn hm
  rw [hx] at hI
  have hF := sfaults_ok (x := ⟨7, a, b, c⟩) hk hco hlk hfew hs6
  rw [hf] at hF
  have hr := Bt.regsOk_len hrg
  have hC := scell_ok (x := ⟨7, a, b, c⟩) (xs := t.regs) (by omega)
  have hcb := Bt.cellOf_bound (r := ⟨7, a, b, c⟩) (xs := t.regs) hco (by simp) hrg
  have hval := fun j (hj : j < t.regs.length) => Bt.regsOk_at hrg hj
  have A := Bt.codeOk_A hco
  have B := Bt.codeOk_B hco
  rw [Bt.stepM_7]
  obtain ⟨pl, regs, stack, st⟩ := t
  simp only at e6 hr hval hs6 hp hcb hC
  obtain ⟨i, rfl⟩ : ∃ i : Nat, a = i := ⟨a.toNat, by omega⟩
  obtain ⟨j, rfl⟩ : ∃ j : Nat, b = j := ⟨b.toNat, by omega⟩
  obtain ⟨ei, eg⟩ : (regs.map fun x => [PV.int .i64 x])[i]? = some [.int .i64 (regs[i]'(by omega))] ∧ regs.getD i 0 = regs[i]'(by omega) := ⟨by simp, by simp [show i < regs.length by omega]⟩
  obtain ⟨ej, eh⟩ : (regs.map fun x => [PV.int .i64 x])[j]? = some [.int .i64 (regs[j]'(by omega))] ∧ regs.getD j 0 = regs[j]'(by omega) := ⟨by simp, by simp [show j < regs.length by omega]⟩
  have va0 := hval i (by omega)
  have vb0 := hval j (by omega)
  simp only [Int.toNat_natCast, eg, eh]
  obtain ⟨q, hq⟩ : ∃ q : Nat, Bt.cellOf ⟨7, i, j, c⟩ regs = q := ⟨(Bt.cellOf ⟨7, i, j, c⟩ regs).toNat, by omega⟩
  simp only [hq] at hC hcb ⊢
  obtain ⟨eq, ev⟩ : (m.cells.map fun x => [PV.int .i64 x])[q]? = some [.int .i64 (m.cells[q]'(by omega))] ∧ m.cells.getD q 0 = m.cells[q]'(by omega) := ⟨by simp, by simp [show q < m.cells.length by omega]⟩
  simp only [Int.toNat_natCast, ev]
  generalize m.cells[q]'(by omega) = vc at *
  generalize regs[i]'(by omega) = va at *
  generalize regs[j]'(by omega) = vb at *
  refine fn_okS mixed Try.func85 rfl (by kernel_rfl) _ Try.results85 _ Try.ntmps85 (by simp) (by kernel_rfl) (fun w0 => ?_)
  refine awpS_seq mixed ?_
  simp (maxSteps := 4000000) only [pProg, pMc, pCh, pInts, pI, tvl, simprocAttr]
  repeat (first | refine ftS (by kernel_rfl) ?_ | refine And.intro (by omega) ?_)
  refine awpS_seq mixed ?_
  repeat (first | (refine aops_fnX rfl ?_ ?_; focus (simp (maxSteps := 4000000) only [sks, pProg, pMc, pCh, pInts, pI, tvl, simprocAttr]; done)) | (simp (maxSteps := 4000000) only [pProg, pMc, pCh, pInts, pI, tvl, simprocAttr]) | refine ftS (by kernel_rfl) ?_ | refine And.intro (by omega) ?_)
  refine aops_fn (hCan) (hidB rfl) rfl ?_
  repeat (first | (refine aops_fnX rfl ?_ ?_; focus (simp (maxSteps := 4000000) only [sks, pProg, pMc, pCh, pInts, pI, tvl, simprocAttr]; done)) | (simp (maxSteps := 4000000) only [pProg, pMc, pCh, pInts, pI, tvl, simprocAttr]) | refine ftS (by kernel_rfl) ?_ | refine And.intro (by omega) ?_)
  refine awpS_seq (E := EL) mixedL ?_
  repeat (first | (refine aops_fnX rfl ?_ ?_; focus (simp (maxSteps := 4000000) only [sks, el_tb, pProg, pMc, pCh, pInts, pI, tvl, simprocAttr]; done)) | (simp (maxSteps := 4000000) only [el_tb, pProg, pMc, pCh, pInts, pI, tvl, simprocAttr]) | refine ftS (by kernel_rfl) ?_ | refine And.intro (by omega) ?_)
  refine aopsL_fn (E := EL) hCopy rfl (hidB rfl) rfl ?_
  simp (maxSteps := 4000000) only [el_tb, snapTAs, snapTA, snapTs, snapT, treeU, pProg, pMc, pCh, pInts, pI, tvl, simprocAttr]
  repeat (first | refine ftS (by kernel_rfl) ?_ | refine And.intro (by omega) ?_)
  refine awpS_gh (m' := 240) ((gh_row (b := 177) (by first | rfl | (simp only [lsa, tvs, simprocAttr]; done))).trans ((gh_row (b := 178) (by first | rfl | (simp only [lsa, tvs, simprocAttr]; done))).trans ((gh_row (b := 179) (by first | rfl | (simp only [lsa, tvs, simprocAttr]; done))).trans ((gh_open (b := 176) (i := k) (n := 4) (by first | rfl | (simp only [lsa, tvs, simprocAttr]; done)) (by simpa using hkl) (by kernel_rfl)).trans ((gh_plain (b := 176) (j := 0) (by first | rfl | (simp only [lsa, tvs, simprocAttr]; done)) rfl e6 rfl rfl).trans ((gh_cell (b := 176) (j := 1) (m := 224) (by first | rfl | (simp only [lsa, tvs, simprocAttr]; done)) rfl e6 rfl (flat_ints _) (by first | rfl | (simp only [lsa, tvs, simprocAttr]; done))).trans ((gh_cell (b := 176) (j := 2) (m := 225) (by first | rfl | (simp only [lsa, tvs, simprocAttr]; done)) rfl e6 rfl (flat_ints _) (by first | rfl | (simp only [lsa, tvs, simprocAttr]; done))).trans (gh_plain (b := 176) (j := 3) (by first | rfl | (simp only [lsa, tvs, simprocAttr]; done)) rfl e6 rfl rfl)))))))) (fun b hb => by simp only [upd]; repeat rw [if_neg (by omega)]) ?_
  refine awpS_of (E := E) mixed ?_
  repeat (first | (refine aops_fnX rfl ?_ ?_; focus (simp (maxSteps := 4000000) only [sks, lsa, AV.leaf, PV.leaf, e6, e6s, ei, ej, d1, eq, lsc, Int.reduceBEq, lsm, flat_ints, leaf_ints, lsb, pProg, pTh, pMc, pCh, pCode, pInts, pI, tvl, simprocAttr]; done)) | (simp (maxSteps := 4000000) only [lsa, AV.leaf, PV.leaf, e6, e6s, ei, ej, d1, eq, lsc, Int.reduceBEq, lsm, flat_ints, leaf_ints, lsb, pProg, pTh, pMc, pCh, pCode, pInts, pI, tvl, simprocAttr]) | refine ftS (by kernel_rfl) ?_ | refine And.intro (by omega) ?_)
  refine aops_fn (hI) (hidB rfl) rfl ?_
  repeat (first | (refine aops_fnX rfl ?_ ?_; focus (simp (maxSteps := 4000000) only [sks, lsa, AV.leaf, PV.leaf, e6, e6s, ei, ej, d1, eq, lsc, Int.reduceBEq, lsm, flat_ints, leaf_ints, lsb, pProg, pTh, pMc, pCh, pCode, pInts, pI, tvl, simprocAttr]; done)) | (simp (maxSteps := 4000000) only [lsa, AV.leaf, PV.leaf, e6, e6s, ei, ej, d1, eq, lsc, Int.reduceBEq, lsm, flat_ints, leaf_ints, lsb, pProg, pTh, pMc, pCh, pCode, pInts, pI, tvl, simprocAttr]) | refine ftS (by kernel_rfl) ?_ | refine And.intro (by omega) ?_)
  refine aops_fnG (hF) (hidB rfl) rfl rfl (by simp (maxSteps := 4000000) only [pProg, pTh, pMc, pCh, pCode, pInts, pI, tvs, simprocAttr]) ?_
  repeat (first | (refine aops_fnX rfl ?_ ?_; focus (simp (maxSteps := 4000000) only [sks, lsa, AV.leaf, PV.leaf, e6, e6s, ei, ej, d1, eq, lsc, Int.reduceBEq, lsm, flat_ints, leaf_ints, lsb, pProg, pTh, pMc, pCh, pCode, pInts, pI, tvl, simprocAttr]; done)) | (simp (maxSteps := 4000000) only [lsa, AV.leaf, PV.leaf, e6, e6s, ei, ej, d1, eq, lsc, Int.reduceBEq, lsm, flat_ints, leaf_ints, lsb, pProg, pTh, pMc, pCh, pCode, pInts, pI, tvl, simprocAttr]) | refine ftS (by kernel_rfl) ?_ | refine And.intro (by omega) ?_)
  refine aops_fn (hC) (hidB rfl) rfl ?_
  repeat (first | (refine aops_fnX rfl ?_ ?_; focus (simp (maxSteps := 4000000) only [sks, lsa, AV.leaf, PV.leaf, e6, e6s, ei, ej, d1, eq, lsc, Int.reduceBEq, lsm, flat_ints, leaf_ints, lsb, pProg, pTh, pMc, pCh, pCode, pInts, pI, tvl, simprocAttr]; done)) | (simp (maxSteps := 4000000) only [lsa, AV.leaf, PV.leaf, e6, e6s, ei, ej, d1, eq, lsc, Int.reduceBEq, lsm, flat_ints, leaf_ints, lsb, pProg, pTh, pMc, pCh, pCode, pInts, pI, tvl, simprocAttr]) | refine ftS (by kernel_rfl) ?_ | refine And.intro (by omega) ?_)
  refine ⟨.inr rfl, _, ((gh_frz (b := 224) (by first | rfl | (simp only [lsa, tvs, simprocAttr]; done))).trans ((gh_frz (b := 225) (by first | rfl | (simp only [lsa, tvs, simprocAttr]; done))).trans (gh_close (b := 176) (ps := [_, _, _, _]) (by first | rfl | (simp only [lsa, tvs, simprocAttr]; done)) (by exact ⟨(by first | exact .inl rfl | exact .inr (.inr ⟨_, _, _, rfl, rfl, by first | rfl | (simp only [tvs, simprocAttr]; done)⟩)), (by first | exact .inl rfl | exact .inr (.inr ⟨_, _, _, rfl, rfl, by first | rfl | (simp only [tvs, simprocAttr]; done)⟩)), (by first | exact .inl rfl | exact .inr (.inr ⟨_, _, _, rfl, rfl, by first | rfl | (simp only [tvs, simprocAttr]; done)⟩)), (by first | exact .inl rfl | exact .inr (.inr ⟨_, _, _, rfl, rfl, by first | rfl | (simp only [tvs, simprocAttr]; done)⟩)), trivial⟩)))), ?_⟩
  repeat (first | (refine aops_fnX rfl ?_ ?_; focus (simp (maxSteps := 4000000) only [sks, e6, e6s, ei, ej, d1, eq, lsc, Int.reduceBEq, lsm, flat_ints, leaf_ints, lsb, lsa, pProg, pTh, pMc, pCh, pCode, pInts, pI, tvl, simprocAttr]; done)) | (simp (maxSteps := 4000000) only [e6, e6s, ei, ej, d1, eq, lsc, Int.reduceBEq, lsm, flat_ints, leaf_ints, lsb, lsa, pProg, pTh, pMc, pCh, pCode, pInts, pI, tvl, simprocAttr]) | refine ftS (by kernel_rfl) ?_ | refine And.intro (by omega) ?_)
  all_goals (first | rfl | trivial | skip)
end Av
end Go.Proofs.Ytbkbppllcjcmhaa
