/-
  Chapter 7: what is kept of a step: the program's.
-/
import Derived.Test.YtdjenlnomibniaaUnO
import Derived.Test.YtdjenlnomibniaaAvC
import Derived.Test.YtdjenlnomibniaaC2M
set_option linter.unusedSimpArgs false
set_option linter.unusedVariables false
namespace Go.Proofs.Ytdjenlnomibniaa
open Go.RowKit
namespace Av
def uiT : List (Nat × AV) := [(3, .ptr 0 0), (4, .ptr 1 0), (5, .ptr 2 0), (6, .ptr 3 0), (7, .pv (.bool false)), (8, .ptr 6 0)]
def uiH (rs : List Bt.C4) (h : Int) (m : Bt.Mc) (k kd rep : Int) (t : Bt.Th) : List (Nat × Blk) := [(0, .box [.pv (.lst 153 (rs.map pCode)), .pv (.int .i64 h)]), (1, .box [.pv (.lst 29 (m.ths.map pTh)), .pv (.lst 3 (m.cells.map fun x => [.int .i64 x])), .pv (.lst 3 (m.locks.map fun x => [.int .i64 x])), .pv (.lst 3 (m.told.map fun x => [.int .i64 x]))]), (2, .box [.pv (.int .i64 k), .pv (.int .i64 kd), .pv (.int .i64 rep)]), (3, .box [.pv (.int .i64 0), .pv (.int .i64 0), .nil 3, .nil 3, .pv (.int .i64 0), .pv (.int .i64 0), .pv (.int .i64 0), .pv (.int .i64 0), .pv (.int .i64 0), .pv (.bool false), .pv (.bool false)]), (4, .row true 3 (t.regs.map fun x => [.int .i64 x])), (5, .row true 3 (t.stack.map fun x => [.int .i64 x])), (6, .box [.pv (.int .i64 k), .pv (.int .i64 t.pl), .sl 4, .sl 5, .pv (.int .i64 t.st), .pv (.int .i64 (-1)), .pv (.int .i64 (0)), .pv (.int .i64 (-1)), .pv (.int .i64 (0)), .pv (.bool false), .pv (.bool false)])]
def ujT : List (Nat × AV) := [(4, .ptr 0 0), (6, .ptr 1 0), (7, .pv (.bool false)), (8, .ptr 4 0), (9, .ptr 5 0)]
def ujH (m : Bt.Mc) (k : Int) (t : Bt.Th) (x : Bt.C4) : List (Nat × Blk) := [(0, .box [.pv (.lst 29 (m.ths.map pTh)), .pv (.lst 3 (m.cells.map fun x => [.int .i64 x])), .pv (.lst 3 (m.locks.map fun x => [.int .i64 x])), .pv (.lst 3 (m.told.map fun x => [.int .i64 x]))]), (1, .box [.pv (.int .i64 0), .pv (.int .i64 0), .nil 3, .nil 3, .pv (.int .i64 0), .pv (.int .i64 0), .pv (.int .i64 0), .pv (.int .i64 0), .pv (.int .i64 0), .pv (.bool false), .pv (.bool false)]), (2, .row true 3 (t.regs.map fun x => [.int .i64 x])), (3, .row true 3 (t.stack.map fun x => [.int .i64 x])), (4, .box [.pv (.int .i64 k), .pv (.int .i64 t.pl), .sl 2, .sl 3, .pv (.int .i64 t.st), .pv (.int .i64 (-1)), .pv (.int .i64 (0)), .pv (.int .i64 (-1)), .pv (.int .i64 (0)), .pv (.bool false), .pv (.bool false)]), (5, .box [.pv (.int .i64 x.op), .pv (.int .i64 x.a), .pv (.int .i64 x.b), .pv (.int .i64 x.c)])]
set_option maxRecDepth 10000 in
set_option maxHeartbeats 20000000 in
theorem iUndoOf_ok {rs : List Bt.C4} {h : Int} {m : Bt.Mc} {c : Bt.Ch} (hn : rs.length ≤ 1048576) (hm : Small m) :
    FnOk E.P 52 [pProg rs h, .agg (pMc m), .agg (pCh c)] (.tup [.agg (pUn ((Bt.undoOf rs h m c).getD Bt.unNil)), .bool (Bt.undoOf rs h m c).isSome]) true := by
  have hCan := ican_ok (rs := rs) (h := h) (m := m) (c := c) hn hm
  obtain ⟨who, kd, rep⟩ := c
  cases hc : Bt.canDo rs h m ⟨who, kd, rep⟩
  · rw [hc] at hCan
    rw [Bt.undoOf_no hc]
    refine fn_okS mixed Try.func52 rfl (by kernel_rfl) _ Try.results52 _ Try.ntmps52 (by simp) (by kernel_rfl) (fun w0 => ?_)
    refine awpS_seq mixed ?_
    repeat (first | (refine aops_fnX rfl ?_ ?_; focus (simp (maxSteps := 4000000) only [sks, pProg, pMc, pUn, pTh, pCode, pCh, pInts, pI, tvl, simprocAttr]; done)) | (simp (maxSteps := 4000000) only [pProg, pMc, pUn, pTh, pCode, pCh, pInts, pI, tvl, simprocAttr]) | refine ftS (by kernel_rfl) ?_ | refine And.intro (by omega) ?_)
    refine awpS_seq mixed ?_
    repeat (first | (refine aops_fnX rfl ?_ ?_; focus (simp (maxSteps := 4000000) only [sks, pProg, pMc, pUn, pTh, pCode, pCh, pInts, pI, tvl, simprocAttr]; done)) | (simp (maxSteps := 4000000) only [pProg, pMc, pUn, pTh, pCode, pCh, pInts, pI, tvl, simprocAttr]) | refine ftS (by kernel_rfl) ?_ | refine And.intro (by omega) ?_)
    refine aops_fn (hCan) (hidB rfl) rfl ?_
    repeat (first | (refine aops_fnX rfl ?_ ?_; focus (simp (maxSteps := 4000000) only [sks, pProg, pMc, pUn, pTh, pCode, pCh, pInts, pI, tvl, simprocAttr]; done)) | (simp (maxSteps := 4000000) only [pProg, pMc, pUn, pTh, pCode, pCh, pInts, pI, tvl, simprocAttr]) | refine ftS (by kernel_rfl) ?_ | refine And.intro (by omega) ?_)
    refine ⟨.inr rfl, _, Gh.refl, ?_⟩
    repeat (first | (refine aops_fnX rfl ?_ ?_; focus (simp (maxSteps := 4000000) only [sks, Option.getD_none, Option.isSome_none, Bt.unNil, List.map_nil, pProg, pMc, pUn, pTh, pCode, pCh, pInts, pI, tvl, simprocAttr]; done)) | (simp (maxSteps := 4000000) only [Option.getD_none, Option.isSome_none, Bt.unNil, List.map_nil, pProg, pMc, pUn, pTh, pCode, pCh, pInts, pI, tvl, simprocAttr]) | refine ftS (by kernel_rfl) ?_ | refine And.intro (by omega) ?_)
    all_goals (first | rfl | trivial | skip)
  obtain ⟨hmk, hru⟩ := Bt.canDo_true hc
  obtain ⟨w0', w1'⟩ : 0 ≤ who ∧ who < m.ths.length := Bt.runs_lt hru
  obtain ⟨k, rfl⟩ : ∃ k : Nat, who = k := ⟨who.toNat, by omega⟩
  have hkl : k < m.ths.length := by omega
  have F := Bt.machOk_facts hmk
  have T := Bt.thOk_facts (F.th k hkl)
  obtain ⟨m', u, t', hdo, hun, ht', hB, hT, hnone, hsig, hsome⟩ := Bt.undo_made hc hkl
  have hrl := hm.regs k hkl
  have hsl := hm.stack k hkl
  have e6 : (m.ths.map pTh)[k]? = some (pTh m.ths[k]) := by simp [hkl]
  have hml := hm.ths
  have hregs := T.regs
  have hlk := F.locks
  have hcl := F.cells
  rw [hc] at hCan
  rw [hun]
  have hTh := copyTh_ok (t := m.ths[k]) hrl hsl
  have hFails := fails_ok (rs := rs) (h := h) (m := m) (k := k) (t := m.ths[k]) hn (List.getElem?_eq_getElem hkl) F.prog hlk T.lo hm T.top
  have hlo := T.lo
  have hst : m.ths[k].st = 0 := by have := hru; rw [Bt.runs_in hkl, beq_iff_eq] at this; exact this
  have hat : ∀ j, j < rs.length → m.ths[k].pl = (j : Int) → ∀ hj : j < rs.length, Bt.instrOf rs h m (k : Int) = some rs[j] := fun j _ he hj => Bt.instrOf_at hmk hkl hst hj he
  have hend : (rs.length : Int) ≤ m.ths[k].pl → Bt.instrOf rs h m (k : Int) = none := fun he => Bt.instrOf_end hkl he
  refine fn_okS mixed Try.func52 rfl (by kernel_rfl) _ Try.results52 _ Try.ntmps52 (by simp) (by kernel_rfl) (fun w0 => ?_)
  refine awpS_seq mixed ?_
  repeat (first | (refine aops_fnX rfl ?_ ?_; focus (simp (maxSteps := 4000000) only [sks, pProg, pMc, pUn, pTh, pCode, pCh, pInts, pI, tvl, simprocAttr]; done)) | (simp (maxSteps := 4000000) only [pProg, pMc, pUn, pTh, pCode, pCh, pInts, pI, tvl, simprocAttr]) | refine ftS (by kernel_rfl) ?_ | refine And.intro (by omega) ?_)
  refine awpS_seq mixed ?_
  repeat (first | (refine aops_fnX rfl ?_ ?_; focus (simp (maxSteps := 4000000) only [sks, pProg, pMc, pUn, pTh, pCode, pCh, pInts, pI, tvl, simprocAttr]; done)) | (simp (maxSteps := 4000000) only [pProg, pMc, pUn, pTh, pCode, pCh, pInts, pI, tvl, simprocAttr]) | refine ftS (by kernel_rfl) ?_ | refine And.intro (by omega) ?_)
  refine aops_fn (hCan) (hidB rfl) rfl ?_
  repeat (first | (refine aops_fnX rfl ?_ ?_; focus (simp (maxSteps := 4000000) only [sks, pProg, pMc, pUn, pTh, pCode, pCh, pInts, pI, tvl, simprocAttr]; done)) | (simp (maxSteps := 4000000) only [pProg, pMc, pUn, pTh, pCode, pCh, pInts, pI, tvl, simprocAttr]) | refine ftS (by kernel_rfl) ?_ | refine And.intro (by omega) ?_)
  obtain ⟨t, ht⟩ : ∃ t, m.ths[k] = t := ⟨_, rfl⟩
  rw [ht] at hrl hsl e6 hTh hregs hnone hsig hsome hFails hlo hat hend hst
  clear hCan ht T F hB hT ht'
  refine awpS_cut mixed uiT (uiH rs h m k kd rep t) 7 ?_ ?_
  · unfold uiT uiH
    repeat (first | (refine aops_fnX rfl ?_ ?_; focus (simp (maxSteps := 4000000) only [sks, e6, pProg, pMc, pUn, pTh, pCode, pCh, pInts, pI, tvl, simprocAttr]; done)) | (simp (maxSteps := 4000000) only [e6, pProg, pMc, pUn, pTh, pCode, pCh, pInts, pI, tvl, simprocAttr]) | refine ftS (by kernel_rfl) ?_ | refine And.intro (by omega) ?_)
    refine aops_fn (hTh) (hidB rfl) rfl ?_
    repeat (first | (refine aops_fnX rfl ?_ ?_; focus (simp (maxSteps := 4000000) only [sks, e6, cqs, pProg, pMc, pUn, pTh, pCode, pCh, pInts, pI, tvl, simprocAttr]; done)) | (simp (maxSteps := 4000000) only [e6, cqs, pProg, pMc, pUn, pTh, pCode, pCh, pInts, pI, tvl, simprocAttr]) | refine ftS (by kernel_rfl) ?_ | refine And.intro (by omega) ?_)
    unfold LessC
    simp (maxSteps := 4000000) only [pProg, pMc, pUn, pTh, pCode, pCh, pInts, pI, tvl, simprocAttr]
    all_goals (try simp)
  clear hTh
  by_cases c1 : kd = 1
  · have d1 : (kd == 1) = true := by simpa using c1
    obtain rfl := hsig c1
    simp only [Bt.unBase]
    refine awpS_seq mixed ?_
    unfold uiT uiH
    repeat (first | (refine aops_fnX rfl ?_ ?_; focus (simp (maxSteps := 4000000) only [sks, d1, pProg, pMc, pUn, pTh, pCode, pCh, pInts, pI, tvl, simprocAttr]; done)) | (simp (maxSteps := 4000000) only [d1, pProg, pMc, pUn, pTh, pCode, pCh, pInts, pI, tvl, simprocAttr]) | refine ftS (by kernel_rfl) ?_ | refine And.intro (by omega) ?_)
    refine ⟨.inr rfl, _, Gh.refl, ?_⟩
    repeat (first | (refine aops_fnX rfl ?_ ?_; focus (simp (maxSteps := 4000000) only [sks, Option.getD_some, Option.isSome_some, pProg, pMc, pUn, pTh, pCode, pCh, pInts, pI, tvl, simprocAttr]; done)) | (simp (maxSteps := 4000000) only [Option.getD_some, Option.isSome_some, pProg, pMc, pUn, pTh, pCode, pCh, pInts, pI, tvl, simprocAttr]) | refine ftS (by kernel_rfl) ?_ | refine And.intro (by omega) ?_)
    all_goals (first | rfl | trivial | skip)
  have d1 : (kd == 1) = false := by simpa using c1
  cases hf : Bt.failsI rs m k t with
  | true =>
    rw [hf] at hFails
    have hub : u = Bt.unBase k t := by
      by_cases he : (rs.length : Int) ≤ t.pl
      · exact hnone (hend he)
      · obtain ⟨j, hj⟩ : ∃ j : Nat, t.pl = j := ⟨t.pl.toNat, by omega⟩
        have hjl : j < rs.length := by omega
        rw [Bt.failsI_at hjl hj] at hf
        exact (hsome _ (hat j hjl hj hjl) c1).2.1 hf
    rw [hub, Bt.unBase]
    refine awpS_seq mixed ?_
    unfold uiT uiH
    repeat (first | (refine aops_fnX rfl ?_ ?_; focus (simp (maxSteps := 4000000) only [sks, d1, pProg, pMc, pUn, pTh, pCode, pCh, pInts, pI, tvl, simprocAttr]; done)) | (simp (maxSteps := 4000000) only [d1, pProg, pMc, pUn, pTh, pCode, pCh, pInts, pI, tvl, simprocAttr]) | refine ftS (by kernel_rfl) ?_ | refine And.intro (by omega) ?_)
    refine aops_fnG (hFails) (hidB rfl) rfl rfl (by simp (maxSteps := 4000000) only [d1, pProg, pMc, pUn, pTh, pCode, pCh, pInts, pI, tvs, simprocAttr]) ?_
    repeat (first | (refine aops_fnX rfl ?_ ?_; focus (simp (maxSteps := 4000000) only [sks, pProg, pMc, pUn, pTh, pCode, pCh, pInts, pI, tvl, simprocAttr]; done)) | (simp (maxSteps := 4000000) only [pProg, pMc, pUn, pTh, pCode, pCh, pInts, pI, tvl, simprocAttr]) | refine ftS (by kernel_rfl) ?_ | refine And.intro (by omega) ?_)
    refine ⟨.inr rfl, _, Gh.refl, ?_⟩
    repeat (first | (refine aops_fnX rfl ?_ ?_; focus (simp (maxSteps := 4000000) only [sks, Option.getD_some, Option.isSome_some, pProg, pMc, pUn, pTh, pCode, pCh, pInts, pI, tvl, simprocAttr]; done)) | (simp (maxSteps := 4000000) only [Option.getD_some, Option.isSome_some, pProg, pMc, pUn, pTh, pCode, pCh, pInts, pI, tvl, simprocAttr]) | refine ftS (by kernel_rfl) ?_ | refine And.intro (by omega) ?_)
    all_goals (first | rfl | trivial | skip)
  | false =>
    rw [hf] at hFails
    have he : ¬ (rs.length : Int) ≤ t.pl := fun he => by rw [Bt.failsI_end he] at hf; cases hf
    obtain ⟨j, hj⟩ : ∃ j : Nat, t.pl = j := ⟨t.pl.toNat, by omega⟩
    have hjl : j < rs.length := by omega
    rw [Bt.failsI_at hjl hj] at hf
    have hi := hat j hjl hj hjl
    have hu := (hsome _ hi c1).2.2 hf
    have hcd0 := Bt.instrOf_code hi
    have e7 : (rs.map pCode)[j]? = some (pCode rs[j]) := by simp [hjl]
    generalize rs[j] = x at e7 hu hcd0
    clear hi hat hend hsome hsig hnone hf
    refine awpS_seq mixed ?_
    unfold uiT uiH
    repeat (first | (refine aops_fnX rfl ?_ ?_; focus (simp (maxSteps := 4000000) only [sks, d1, pProg, pMc, pUn, pTh, pCode, pCh, pInts, pI, tvl, simprocAttr]; done)) | (simp (maxSteps := 4000000) only [d1, pProg, pMc, pUn, pTh, pCode, pCh, pInts, pI, tvl, simprocAttr]) | refine ftS (by kernel_rfl) ?_ | refine And.intro (by omega) ?_)
    refine aops_fnG (hFails) (hidB rfl) rfl rfl (by simp (maxSteps := 4000000) only [d1, pProg, pMc, pUn, pTh, pCode, pCh, pInts, pI, tvs, simprocAttr]) ?_
    repeat (first | (refine aops_fnX rfl ?_ ?_; focus (simp (maxSteps := 4000000) only [sks, pProg, pMc, pUn, pTh, pCode, pCh, pInts, pI, tvl, simprocAttr]; done)) | (simp (maxSteps := 4000000) only [pProg, pMc, pUn, pTh, pCode, pCh, pInts, pI, tvl, simprocAttr]) | refine ftS (by kernel_rfl) ?_ | refine And.intro (by omega) ?_)
    clear hFails
    refine awpS_cut mixed ujT (ujH m k t x) 6 ?_ ?_
    · unfold ujT ujH
      repeat (first | (refine aops_fnX rfl ?_ ?_; focus (simp (maxSteps := 4000000) only [sks, cqs, hj, e7, pProg, pMc, pUn, pTh, pCode, pCh, pInts, pI, tvl, simprocAttr]; done)) | (simp (maxSteps := 4000000) only [cqs, hj, e7, pProg, pMc, pUn, pTh, pCode, pCh, pInts, pI, tvl, simprocAttr]) | refine ftS (by kernel_rfl) ?_ | refine And.intro (by omega) ?_)
      unfold LessC
      simp (maxSteps := 4000000) only [hj, pProg, pMc, pUn, pTh, pCode, pCh, pInts, pI, tvl, simprocAttr]
      all_goals (try simp [hj])
    refine awpS_of mixed ?_
    unfold ujT ujH
    obtain ⟨op, xa, xb, xc⟩ := x
    have hcd := hcd0
    simp only at hcd
    by_cases g8 : op = 8
    · skip
      subst g8
      have hb8 := Bt.cellOf_bound (r := ⟨8, xa, xb, xc⟩) hcd (.inr rfl) hregs
      obtain ⟨w, hw⟩ : ∃ w : Nat, Bt.cellOf ⟨8, xa, xb, xc⟩ t.regs = w := ⟨(Bt.cellOf ⟨8, xa, xb, xc⟩ t.regs).toNat, by omega⟩
      have hwl : w < m.cells.length := by omega
      have e8 : (m.cells.map fun x => [PV.int .i64 x])[w]? = some [.int .i64 m.cells[w]] := by simp [hwl]
      have e9 : m.cells.getD w 0 = m.cells[w] := by simp [hwl]
      have hu' : u = ⟨k, t, w, m.cells[w], -1, 0, false, false⟩ := by
        rw [hu, Bt.unStep]
        simp [hw, hwl]
      have hCell := icell_ok (x := ⟨8, xa, xb, xc⟩) (xs := t.regs) hrl
      rw [hw] at hCell
      generalize m.cells[w] = q at *
      rw [hu']
      repeat (first | (refine aops_fnX rfl ?_ ?_; focus (simp (maxSteps := 4000000) only [sks, Int.reduceBEq, pProg, pMc, pUn, pTh, pCode, pCh, pInts, pI, tvl, simprocAttr]; done)) | (simp (maxSteps := 4000000) only [Int.reduceBEq, pProg, pMc, pUn, pTh, pCode, pCh, pInts, pI, tvl, simprocAttr]) | refine ftS (by kernel_rfl) ?_ | refine And.intro (by omega) ?_)
      refine aops_fn (hCell) (hidB rfl) rfl ?_
      repeat (first | (refine aops_fnX rfl ?_ ?_; focus (simp (maxSteps := 4000000) only [sks, Int.reduceBEq, e8, pProg, pMc, pUn, pTh, pCode, pCh, pInts, pI, tvl, simprocAttr]; done)) | (simp (maxSteps := 4000000) only [Int.reduceBEq, e8, pProg, pMc, pUn, pTh, pCode, pCh, pInts, pI, tvl, simprocAttr]) | refine ftS (by kernel_rfl) ?_ | refine And.intro (by omega) ?_)
      refine ⟨.inr rfl, _, Gh.refl, ?_⟩
      repeat (first | (refine aops_fnX rfl ?_ ?_; focus (simp (maxSteps := 4000000) only [sks, Option.getD_some, Option.isSome_some, pProg, pMc, pUn, pTh, pCode, pCh, pInts, pI, tvl, simprocAttr]; done)) | (simp (maxSteps := 4000000) only [Option.getD_some, Option.isSome_some, pProg, pMc, pUn, pTh, pCode, pCh, pInts, pI, tvl, simprocAttr]) | refine ftS (by kernel_rfl) ?_ | refine And.intro (by omega) ?_)
      all_goals (first | rfl | trivial | skip)
    have f8 : (op == 8) = false := by simpa using g8
    by_cases g15 : op = 15
    · skip
      subst g15
      obtain ⟨b0, b1⟩ := Bt.lock_bounds hcd (.inl rfl)
      obtain ⟨w, rfl⟩ : ∃ w : Nat, xc = w := ⟨xc.toNat, by omega⟩
      have hwl : w < m.locks.length := by omega
      have e8 : (m.locks.map fun x => [PV.int .i64 x])[w]? = some [.int .i64 m.locks[w]] := by simp [hwl]
      have hu' : u = ⟨k, t, -1, 0, w, m.locks[w], false, false⟩ := by
        rw [hu, Bt.unStep]
        simp [hwl]
      generalize m.locks[w] = q at *
      rw [hu']
      repeat (first | (refine aops_fnX rfl ?_ ?_; focus (simp (maxSteps := 4000000) only [sks, f8, Int.reduceBEq, e8, pProg, pMc, pUn, pTh, pCode, pCh, pInts, pI, tvl, simprocAttr]; done)) | (simp (maxSteps := 4000000) only [f8, Int.reduceBEq, e8, pProg, pMc, pUn, pTh, pCode, pCh, pInts, pI, tvl, simprocAttr]) | refine ftS (by kernel_rfl) ?_ | refine And.intro (by omega) ?_)
      refine ⟨.inr rfl, _, Gh.refl, ?_⟩
      repeat (first | (refine aops_fnX rfl ?_ ?_; focus (simp (maxSteps := 4000000) only [sks, Option.getD_some, Option.isSome_some, pProg, pMc, pUn, pTh, pCode, pCh, pInts, pI, tvl, simprocAttr]; done)) | (simp (maxSteps := 4000000) only [Option.getD_some, Option.isSome_some, pProg, pMc, pUn, pTh, pCode, pCh, pInts, pI, tvl, simprocAttr]) | refine ftS (by kernel_rfl) ?_ | refine And.intro (by omega) ?_)
      all_goals (first | rfl | trivial | skip)
    have f15 : (op == 15) = false := by simpa using g15
    by_cases g16 : op = 16
    · skip
      subst g16
      obtain ⟨b0, b1⟩ := Bt.lock_bounds hcd (.inr rfl)
      obtain ⟨w, rfl⟩ : ∃ w : Nat, xc = w := ⟨xc.toNat, by omega⟩
      have hwl : w < m.locks.length := by omega
      have e8 : (m.locks.map fun x => [PV.int .i64 x])[w]? = some [.int .i64 m.locks[w]] := by simp [hwl]
      have hu' : u = ⟨k, t, -1, 0, w, m.locks[w], false, false⟩ := by
        rw [hu, Bt.unStep]
        simp [hwl]
      generalize m.locks[w] = q at *
      rw [hu']
      repeat (first | (refine aops_fnX rfl ?_ ?_; focus (simp (maxSteps := 4000000) only [sks, f8, f15, Int.reduceBEq, e8, pProg, pMc, pUn, pTh, pCode, pCh, pInts, pI, tvl, simprocAttr]; done)) | (simp (maxSteps := 4000000) only [f8, f15, Int.reduceBEq, e8, pProg, pMc, pUn, pTh, pCode, pCh, pInts, pI, tvl, simprocAttr]) | refine ftS (by kernel_rfl) ?_ | refine And.intro (by omega) ?_)
      refine ⟨.inr rfl, _, Gh.refl, ?_⟩
      repeat (first | (refine aops_fnX rfl ?_ ?_; focus (simp (maxSteps := 4000000) only [sks, Option.getD_some, Option.isSome_some, pProg, pMc, pUn, pTh, pCode, pCh, pInts, pI, tvl, simprocAttr]; done)) | (simp (maxSteps := 4000000) only [Option.getD_some, Option.isSome_some, pProg, pMc, pUn, pTh, pCode, pCh, pInts, pI, tvl, simprocAttr]) | refine ftS (by kernel_rfl) ?_ | refine And.intro (by omega) ?_)
      all_goals (first | rfl | trivial | skip)
    have f16 : (op == 16) = false := by simpa using g16
    by_cases g17 : op = 17
    · skip
      subst g17
      have hu' : u = ⟨k, t, -1, 0, -1, 0, true, false⟩ := by
        rw [hu, Bt.unStep]
        simp
      rw [hu']
      repeat (first | (refine aops_fnX rfl ?_ ?_; focus (simp (maxSteps := 4000000) only [sks, f8, f15, f16, Int.reduceBEq, pProg, pMc, pUn, pTh, pCode, pCh, pInts, pI, tvl, simprocAttr]; done)) | (simp (maxSteps := 4000000) only [f8, f15, f16, Int.reduceBEq, pProg, pMc, pUn, pTh, pCode, pCh, pInts, pI, tvl, simprocAttr]) | refine ftS (by kernel_rfl) ?_ | refine And.intro (by omega) ?_)
      refine ⟨.inr rfl, _, Gh.refl, ?_⟩
      repeat (first | (refine aops_fnX rfl ?_ ?_; focus (simp (maxSteps := 4000000) only [sks, Option.getD_some, Option.isSome_some, pProg, pMc, pUn, pTh, pCode, pCh, pInts, pI, tvl, simprocAttr]; done)) | (simp (maxSteps := 4000000) only [Option.getD_some, Option.isSome_some, pProg, pMc, pUn, pTh, pCode, pCh, pInts, pI, tvl, simprocAttr]) | refine ftS (by kernel_rfl) ?_ | refine And.intro (by omega) ?_)
      all_goals (first | rfl | trivial | skip)
    have f17 : (op == 17) = false := by simpa using g17
    by_cases g14 : op = 14
    · skip
      subst g14
      have hu' : u = ⟨k, t, -1, 0, -1, 0, false, true⟩ := by
        rw [hu, Bt.unStep]
        simp
      rw [hu']
      repeat (first | (refine aops_fnX rfl ?_ ?_; focus (simp (maxSteps := 4000000) only [sks, f8, f15, f16, f17, Int.reduceBEq, pProg, pMc, pUn, pTh, pCode, pCh, pInts, pI, tvl, simprocAttr]; done)) | (simp (maxSteps := 4000000) only [f8, f15, f16, f17, Int.reduceBEq, pProg, pMc, pUn, pTh, pCode, pCh, pInts, pI, tvl, simprocAttr]) | refine ftS (by kernel_rfl) ?_ | refine And.intro (by omega) ?_)
      refine ⟨.inr rfl, _, Gh.refl, ?_⟩
      repeat (first | (refine aops_fnX rfl ?_ ?_; focus (simp (maxSteps := 4000000) only [sks, Option.getD_some, Option.isSome_some, pProg, pMc, pUn, pTh, pCode, pCh, pInts, pI, tvl, simprocAttr]; done)) | (simp (maxSteps := 4000000) only [Option.getD_some, Option.isSome_some, pProg, pMc, pUn, pTh, pCode, pCh, pInts, pI, tvl, simprocAttr]) | refine ftS (by kernel_rfl) ?_ | refine And.intro (by omega) ?_)
      all_goals (first | rfl | trivial | skip)
    have f14 : (op == 14) = false := by simpa using g14
    have hu' : u = ⟨k, t, -1, 0, -1, 0, false, false⟩ := by
      rw [hu, Bt.unStep]
      simp [g8, g14, g15, g16, g17]
    rw [hu']
    repeat (first | (refine aops_fnX rfl ?_ ?_; focus (simp (maxSteps := 4000000) only [sks, f8, f15, f16, f17, f14, Int.reduceBEq, pProg, pMc, pUn, pTh, pCode, pCh, pInts, pI, tvl, simprocAttr]; done)) | (simp (maxSteps := 4000000) only [f8, f15, f16, f17, f14, Int.reduceBEq, pProg, pMc, pUn, pTh, pCode, pCh, pInts, pI, tvl, simprocAttr]) | refine ftS (by kernel_rfl) ?_ | refine And.intro (by omega) ?_)
    refine ⟨.inr rfl, _, Gh.refl, ?_⟩
    repeat (first | (refine aops_fnX rfl ?_ ?_; focus (simp (maxSteps := 4000000) only [sks, Option.getD_some, Option.isSome_some, pProg, pMc, pUn, pTh, pCode, pCh, pInts, pI, tvl, simprocAttr]; done)) | (simp (maxSteps := 4000000) only [Option.getD_some, Option.isSome_some, pProg, pMc, pUn, pTh, pCode, pCh, pInts, pI, tvl, simprocAttr]) | refine ftS (by kernel_rfl) ?_ | refine And.intro (by omega) ?_)
    all_goals (first | rfl | trivial | skip)
end Av
end Go.Proofs.Ytdjenlnomibniaa
