/-
  Chapter 7: what is kept of a step: the model's.
-/
import Derived.Test.YtdjenlnomibniaaUnO
import Derived.Test.YtdjenlnomibniaaAvC
import Derived.Test.YtdjenlnomibniaaBrS
set_option linter.unusedSimpArgs false
set_option linter.unusedVariables false
namespace Go.Proofs.Ytdjenlnomibniaa
open Go.RowKit
namespace Av
def uoT (is : Bool) : List (Nat × AV) := [(4, .ptr 0 0), (5, .ptr 1 0), (6, .ptr 2 0), (7, .pv (.bool false)), (8, .ptr 3 0), (10, .ptr 6 0), (11, .ptr 7 0), (12, .pv (.bool is))]
def uoH (m m' : Bt.Mc) (k kd rep : Int) (t : Bt.Th) (bg td : Bool) (x : Bt.C4) : List (Nat × Blk) := [(0, .box [.pv (.lst 29 (m.ths.map pTh)), .pv (.lst 3 (m.cells.map fun x => [.int .i64 x])), .pv (.lst 3 (m.locks.map fun x => [.int .i64 x])), .pv (.lst 3 (m.told.map fun x => [.int .i64 x]))]), (1, .box [.pv (.int .i64 k), .pv (.int .i64 kd), .pv (.int .i64 rep)]), (2, .box [.pv (.int .i64 0), .pv (.int .i64 0), .nil 3, .nil 3, .pv (.int .i64 0), .pv (.int .i64 0), .pv (.int .i64 0), .pv (.int .i64 0), .pv (.int .i64 0), .pv (.bool false), .pv (.bool false)]), (3, .box [.pv (.lst 29 (m'.ths.map pTh)), .pv (.lst 3 (m'.cells.map fun x => [.int .i64 x])), .pv (.lst 3 (m'.locks.map fun x => [.int .i64 x])), .pv (.lst 3 (m'.told.map fun x => [.int .i64 x]))]), (4, .row true 3 (t.regs.map fun x => [.int .i64 x])), (5, .row true 3 (t.stack.map fun x => [.int .i64 x])), (6, .box [.pv (.int .i64 k), .pv (.int .i64 t.pl), .sl 4, .sl 5, .pv (.int .i64 t.st), .pv (.int .i64 (-1)), .pv (.int .i64 (0)), .pv (.int .i64 (-1)), .pv (.int .i64 (0)), .pv (.bool bg), .pv (.bool td)]), (7, .box [.pv (.int .i64 x.op), .pv (.int .i64 x.a), .pv (.int .i64 x.b), .pv (.int .i64 x.c)])]
def uoT1 : List (Nat × AV) := [(3, .ptr 0 0), (4, .ptr 1 0), (5, .ptr 2 0), (6, .ptr 3 0), (7, .pv (.bool false)), (8, .ptr 4 0), (10, .ptr 7 0)]
def uoH1 (rs : List Bt.C4) (h : Int) (m m' : Bt.Mc) (k kd rep : Int) (t : Bt.Th) (bg td : Bool) : List (Nat × Blk) := [(0, .box [.pv (.lst 153 (rs.map pCode)), .pv (.int .i64 h)]), (1, .box [.pv (.lst 29 (m.ths.map pTh)), .pv (.lst 3 (m.cells.map fun x => [.int .i64 x])), .pv (.lst 3 (m.locks.map fun x => [.int .i64 x])), .pv (.lst 3 (m.told.map fun x => [.int .i64 x]))]), (2, .box [.pv (.int .i64 k), .pv (.int .i64 kd), .pv (.int .i64 rep)]), (3, .box [.pv (.int .i64 0), .pv (.int .i64 0), .nil 3, .nil 3, .pv (.int .i64 0), .pv (.int .i64 0), .pv (.int .i64 0), .pv (.int .i64 0), .pv (.int .i64 0), .pv (.bool false), .pv (.bool false)]), (4, .box [.pv (.lst 29 (m'.ths.map pTh)), .pv (.lst 3 (m'.cells.map fun x => [.int .i64 x])), .pv (.lst 3 (m'.locks.map fun x => [.int .i64 x])), .pv (.lst 3 (m'.told.map fun x => [.int .i64 x]))]), (5, .row true 3 (t.regs.map fun x => [.int .i64 x])), (6, .row true 3 (t.stack.map fun x => [.int .i64 x])), (7, .box [.pv (.int .i64 k), .pv (.int .i64 t.pl), .sl 5, .sl 6, .pv (.int .i64 t.st), .pv (.int .i64 (-1)), .pv (.int .i64 (0)), .pv (.int .i64 (-1)), .pv (.int .i64 (0)), .pv (.bool bg), .pv (.bool td)])]
set_option maxRecDepth 10000 in
set_option maxHeartbeats 20000000 in
theorem sUndoOf_ok {rs : List Bt.C4} {h : Int} {m : Bt.Mc} {c : Bt.Ch} (hn : rs.length ≤ 1048576) (hm : Small m) :
    FnOk E.P 50 [pProg rs h, .agg (pMc m), .agg (pCh c)] (.tup [.agg (pUn ((Bt.undoOf rs h m c).getD Bt.unNil)), .bool (Bt.undoOf rs h m c).isSome]) false := by
  have hDo := sdoA_ok (rs := rs) (h := h) (m := m) (c := c) hn hm
  obtain ⟨who, kd, rep⟩ := c
  cases hc : Bt.canDo rs h m ⟨who, kd, rep⟩
  · rw [Bt.doM_no hc] at hDo
    rw [Bt.undoOf_no hc]
    refine fn_okS mixed Try.func50 rfl (by kernel_rfl) _ Try.results50 _ Try.ntmps50 (by simp) (by kernel_rfl) (fun w0 => ?_)
    refine awpS_seq mixed ?_
    repeat (first | (refine aops_fnX rfl ?_ ?_; focus (simp (maxSteps := 4000000) only [sks, pProg, pMc, pUn, pTh, pCode, pCh, pInts, pI, tvl, simprocAttr]; done)) | (simp (maxSteps := 4000000) only [pProg, pMc, pUn, pTh, pCode, pCh, pInts, pI, tvl, simprocAttr]) | refine ftS (by kernel_rfl) ?_ | refine And.intro (by omega) ?_)
    refine awpS_seq mixed ?_
    repeat (first | (refine aops_fnX rfl ?_ ?_; focus (simp (maxSteps := 4000000) only [sks, pProg, pMc, pUn, pTh, pCode, pCh, pInts, pI, tvl, simprocAttr]; done)) | (simp (maxSteps := 4000000) only [pProg, pMc, pUn, pTh, pCode, pCh, pInts, pI, tvl, simprocAttr]) | refine ftS (by kernel_rfl) ?_ | refine And.intro (by omega) ?_)
    refine aops_callF (hDo) (hidB rfl) rfl ?_
    repeat (first | (refine aops_fnX rfl ?_ ?_; focus (simp (maxSteps := 4000000) only [sks, Option.getD_none, Option.isSome_none, Bt.mcNil, List.map_nil, pProg, pMc, pUn, pTh, pCode, pCh, pInts, pI, tvl, simprocAttr]; done)) | (simp (maxSteps := 4000000) only [Option.getD_none, Option.isSome_none, Bt.mcNil, List.map_nil, pProg, pMc, pUn, pTh, pCode, pCh, pInts, pI, tvl, simprocAttr]) | refine ftS (by kernel_rfl) ?_ | refine And.intro (by omega) ?_)
    refine awpS_seq mixed ?_
    repeat (first | (refine aops_fnX rfl ?_ ?_; focus (simp (maxSteps := 4000000) only [sks, pProg, pMc, pUn, pTh, pCode, pCh, pInts, pI, tvl, simprocAttr]; done)) | (simp (maxSteps := 4000000) only [pProg, pMc, pUn, pTh, pCode, pCh, pInts, pI, tvl, simprocAttr]) | refine ftS (by kernel_rfl) ?_ | refine And.intro (by omega) ?_)
    refine ⟨.inr rfl, _, Gh.refl, ?_⟩
    repeat (first | (refine aops_fnX rfl ?_ ?_; focus (simp (maxSteps := 4000000) only [sks, Option.getD_none, Option.isSome_none, Bt.unNil, List.map_nil, pProg, pMc, pUn, pTh, pCode, pCh, pInts, pI, tvl, simprocAttr]; done)) | (simp (maxSteps := 4000000) only [Option.getD_none, Option.isSome_none, Bt.unNil, List.map_nil, pProg, pMc, pUn, pTh, pCode, pCh, pInts, pI, tvl, simprocAttr]) | refine ftS (by kernel_rfl) ?_ | refine And.intro (by omega) ?_)
    all_goals (first | rfl | trivial | skip)
  obtain ⟨hmk, hru⟩ := Bt.canDo_true hc
  obtain ⟨w0', w1'⟩ : 0 ≤ who ∧ who < m.ths.length := Bt.runs_lt hru
  obtain ⟨k, rfl⟩ : ∃ k : Nat, who = k := ⟨who.toNat, by omega⟩
  have hkl : k < m.ths.length := by omega
  have F := Bt.machOk_facts hmk
  have T := Bt.thOk_facts (F.th k hkl)
  obtain ⟨m', u, t', hdo, hun, ht', hB, hT, hnone, hsig, hsome⟩ := Bt.undo_made hc hkl
  have hrl := hm.regs k hkl
  have hsl := hm.stack k hkl
  have e6 : (m.ths.map pTh)[k]? = some (pTh m.ths[k]) := by simp [hkl]
  have hml := hm.ths
  have hregs := T.regs
  have hlk := F.locks
  have hcl := F.cells
  rw [hdo, Option.getD_some, Option.isSome_some] at hDo
  rw [hun]
  have hIn := sinstrA_ok (rs := rs) (h := h) (who := k) (m := m) hn hm
  have hTh := sthread_ok (t := m.ths[k]) hrl hsl
  have e7 : (m'.ths.map pTh)[k]? = some (pTh t') := by rw [List.getElem?_map, ht']; rfl
  have hkl' : k < m'.ths.length := (List.getElem?_eq_some_iff.1 ht').1
  refine fn_okS mixed Try.func50 rfl (by kernel_rfl) _ Try.results50 _ Try.ntmps50 (by simp) (by kernel_rfl) (fun w0 => ?_)
  refine awpS_seq mixed ?_
  repeat (first | (refine aops_fnX rfl ?_ ?_; focus (simp (maxSteps := 4000000) only [sks, pProg, pMc, pUn, pTh, pCode, pCh, pInts, pI, tvl, simprocAttr]; done)) | (simp (maxSteps := 4000000) only [pProg, pMc, pUn, pTh, pCode, pCh, pInts, pI, tvl, simprocAttr]) | refine ftS (by kernel_rfl) ?_ | refine And.intro (by omega) ?_)
  refine awpS_seq mixed ?_
  repeat (first | (refine aops_fnX rfl ?_ ?_; focus (simp (maxSteps := 4000000) only [sks, pProg, pMc, pUn, pTh, pCode, pCh, pInts, pI, tvl, simprocAttr]; done)) | (simp (maxSteps := 4000000) only [pProg, pMc, pUn, pTh, pCode, pCh, pInts, pI, tvl, simprocAttr]) | refine ftS (by kernel_rfl) ?_ | refine And.intro (by omega) ?_)
  refine aops_callF (hDo) (hidB rfl) rfl ?_
  repeat (first | (refine aops_fnX rfl ?_ ?_; focus (simp (maxSteps := 4000000) only [sks, pProg, pMc, pUn, pTh, pCode, pCh, pInts, pI, tvl, simprocAttr]; done)) | (simp (maxSteps := 4000000) only [pProg, pMc, pUn, pTh, pCode, pCh, pInts, pI, tvl, simprocAttr]) | refine ftS (by kernel_rfl) ?_ | refine And.intro (by omega) ?_)
  refine awpS_seq mixed ?_
  repeat (first | (refine aops_fnX rfl ?_ ?_; focus (simp (maxSteps := 4000000) only [sks, pProg, pMc, pUn, pTh, pCode, pCh, pInts, pI, tvl, simprocAttr]; done)) | (simp (maxSteps := 4000000) only [pProg, pMc, pUn, pTh, pCode, pCh, pInts, pI, tvl, simprocAttr]) | refine ftS (by kernel_rfl) ?_ | refine And.intro (by omega) ?_)
  obtain ⟨t, ht⟩ : ∃ t, m.ths[k] = t := ⟨_, rfl⟩
  rw [ht] at hrl hsl e6 hTh hregs hnone hsig hsome
  clear hDo ht T F
  obtain ⟨bg, hbg⟩ : ∃ b, u.begun = b := ⟨_, rfl⟩
  obtain ⟨td, htd⟩ : ∃ b, u.told = b := ⟨_, rfl⟩
  rw [hbg] at hB
  rw [htd] at hT
  refine awpS_cut mixed uoT1 (uoH1 rs h m m' k kd rep t bg td) 8 ?_ ?_
  · unfold uoT1 uoH1
    repeat (first | (refine aops_fnX rfl ?_ ?_; focus (simp (maxSteps := 4000000) only [sks, e6, hB, hT, pProg, pMc, pUn, pTh, pCode, pCh, pInts, pI, tvl, simprocAttr]; done)) | (simp (maxSteps := 4000000) only [e6, hB, hT, pProg, pMc, pUn, pTh, pCode, pCh, pInts, pI, tvl, simprocAttr]) | refine ftS (by kernel_rfl) ?_ | refine And.intro (by omega) ?_)
    refine aops_fn (hTh) (hidB rfl) rfl ?_
    repeat (first | (refine aops_fnX rfl ?_ ?_; focus (simp (maxSteps := 4000000) only [sks, e6, hB, hT, cqs, pProg, pMc, pUn, pTh, pCode, pCh, pInts, pI, tvl, simprocAttr]; done)) | (simp (maxSteps := 4000000) only [e6, hB, hT, cqs, pProg, pMc, pUn, pTh, pCode, pCh, pInts, pI, tvl, simprocAttr]) | refine ftS (by kernel_rfl) ?_ | refine And.intro (by omega) ?_)
    unfold LessC
    simp (maxSteps := 4000000) only [pProg, pMc, pUn, pTh, pCode, pCh, pInts, pI, tvl, simprocAttr]
    all_goals (try simp)
  clear hTh hB hT
  obtain ⟨is, x, hx, hxc⟩ : ∃ (is : Bool) (x : Bt.C4), (Bt.instrOf rs h m k).isSome = is ∧ (Bt.instrOf rs h m k).getD ⟨0, 0, 0, 0⟩ = x := ⟨_, _, rfl, rfl⟩
  rw [hx, hxc] at hIn
  refine awpS_cut mixed (uoT is) (uoH m m' k kd rep t bg td x) 8 ?_ ?_
  · unfold uoT1 uoH1 uoT uoH
    repeat (first | (refine aops_fnX rfl ?_ ?_; focus (simp (maxSteps := 4000000) only [sks, pProg, pMc, pUn, pTh, pCode, pCh, pInts, pI, tvl, simprocAttr]; done)) | (simp (maxSteps := 4000000) only [pProg, pMc, pUn, pTh, pCode, pCh, pInts, pI, tvl, simprocAttr]) | refine ftS (by kernel_rfl) ?_ | refine And.intro (by omega) ?_)
    refine aops_fn (hIn) (hidB rfl) rfl ?_
    repeat (first | (refine aops_fnX rfl ?_ ?_; focus (simp (maxSteps := 4000000) only [sks, cqs, pProg, pMc, pUn, pTh, pCode, pCh, pInts, pI, tvl, simprocAttr]; done)) | (simp (maxSteps := 4000000) only [cqs, pProg, pMc, pUn, pTh, pCode, pCh, pInts, pI, tvl, simprocAttr]) | refine ftS (by kernel_rfl) ?_ | refine And.intro (by omega) ?_)
    unfold LessC
    simp (maxSteps := 4000000) only [pProg, pMc, pUn, pTh, pCode, pCh, pInts, pI, tvl, simprocAttr]
    all_goals (try simp)
  clear hIn
  refine awpS_of mixed ?_
  unfold uoT uoH
  cases is with
  | false =>
    have hi : Bt.instrOf rs h m k = none := by cases hi : Bt.instrOf rs h m k <;> simp [hi] at hx ⊢
    obtain rfl := hnone hi
    simp only [Bt.unBase] at hbg htd ⊢
    subst hbg htd
    repeat (first | (refine aops_fnX rfl ?_ ?_; focus (simp (maxSteps := 4000000) only [sks, pProg, pMc, pUn, pTh, pCode, pCh, pInts, pI, tvl, simprocAttr]; done)) | (simp (maxSteps := 4000000) only [pProg, pMc, pUn, pTh, pCode, pCh, pInts, pI, tvl, simprocAttr]) | refine ftS (by kernel_rfl) ?_ | refine And.intro (by omega) ?_)
    refine ⟨.inr rfl, _, Gh.refl, ?_⟩
    repeat (first | (refine aops_fnX rfl ?_ ?_; focus (simp (maxSteps := 4000000) only [sks, Option.getD_some, Option.isSome_some, pProg, pMc, pUn, pTh, pCode, pCh, pInts, pI, tvl, simprocAttr]; done)) | (simp (maxSteps := 4000000) only [Option.getD_some, Option.isSome_some, pProg, pMc, pUn, pTh, pCode, pCh, pInts, pI, tvl, simprocAttr]) | refine ftS (by kernel_rfl) ?_ | refine And.intro (by omega) ?_)
    all_goals (first | rfl | trivial | skip)
  | true =>
    obtain ⟨y, hi⟩ : ∃ y, Bt.instrOf rs h m k = some y := by cases hi : Bt.instrOf rs h m k <;> simp [hi] at hx ⊢
    have hco := Bt.instrOf_code hi
    rw [hi] at hxc
    obtain rfl : y = x := hxc
    clear hnone hx
    by_cases c1 : kd = 1
    · have d1 : (kd == 1) = true := by simpa using c1
      obtain rfl := hsig c1
      simp only [Bt.unBase] at hbg htd ⊢
      subst hbg htd
      repeat (first | (refine aops_fnX rfl ?_ ?_; focus (simp (maxSteps := 4000000) only [sks, d1, pProg, pMc, pUn, pTh, pCode, pCh, pInts, pI, tvl, simprocAttr]; done)) | (simp (maxSteps := 4000000) only [d1, pProg, pMc, pUn, pTh, pCode, pCh, pInts, pI, tvl, simprocAttr]) | refine ftS (by kernel_rfl) ?_ | refine And.intro (by omega) ?_)
      refine ⟨.inr rfl, _, Gh.refl, ?_⟩
      repeat (first | (refine aops_fnX rfl ?_ ?_; focus (simp (maxSteps := 4000000) only [sks, Option.getD_some, Option.isSome_some, pProg, pMc, pUn, pTh, pCode, pCh, pInts, pI, tvl, simprocAttr]; done)) | (simp (maxSteps := 4000000) only [Option.getD_some, Option.isSome_some, pProg, pMc, pUn, pTh, pCode, pCh, pInts, pI, tvl, simprocAttr]) | refine ftS (by kernel_rfl) ?_ | refine And.intro (by omega) ?_)
      all_goals (first | rfl | trivial | skip)
    have d1 : (kd == 1) = false := by simpa using c1
    obtain ⟨s1, s2, s3⟩ := hsome _ hi c1
    clear hsome hsig
    cases hf : Bt.faultsI m k t y with
    | true =>
      rw [hf] at s1
      obtain rfl := s2 hf
      simp only [Bt.unBase] at hbg htd ⊢
      subst hbg htd
      repeat (first | (refine aops_fnX rfl ?_ ?_; focus (simp (maxSteps := 4000000) only [sks, d1, e7, s1, pProg, pMc, pUn, pTh, pCode, pCh, pInts, pI, tvl, simprocAttr]; done)) | (simp (maxSteps := 4000000) only [d1, e7, s1, pProg, pMc, pUn, pTh, pCode, pCh, pInts, pI, tvl, simprocAttr]) | refine ftS (by kernel_rfl) ?_ | refine And.intro (by omega) ?_)
      refine ⟨.inr rfl, _, Gh.refl, ?_⟩
      repeat (first | (refine aops_fnX rfl ?_ ?_; focus (simp (maxSteps := 4000000) only [sks, Option.getD_some, Option.isSome_some, pProg, pMc, pUn, pTh, pCode, pCh, pInts, pI, tvl, simprocAttr]; done)) | (simp (maxSteps := 4000000) only [Option.getD_some, Option.isSome_some, pProg, pMc, pUn, pTh, pCode, pCh, pInts, pI, tvl, simprocAttr]) | refine ftS (by kernel_rfl) ?_ | refine And.intro (by omega) ?_)
      all_goals (first | rfl | trivial | skip)
    | false =>
      rw [hf] at s1
      have hu := s3 hf
      clear s2 s3 hf hi
      obtain ⟨op, xa, xb, xc⟩ := y
      have hcd := hco
      simp only at hcd
      by_cases g8 : op = 8
      · skip
        subst g8
        have hb8 := Bt.cellOf_bound (r := ⟨8, xa, xb, xc⟩) hcd (.inr rfl) hregs
        obtain ⟨w, hw⟩ : ∃ w : Nat, Bt.cellOf ⟨8, xa, xb, xc⟩ t.regs = w := ⟨(Bt.cellOf ⟨8, xa, xb, xc⟩ t.regs).toNat, by omega⟩
        have hwl : w < m.cells.length := by omega
        have e8 : (m.cells.map fun x => [PV.int .i64 x])[w]? = some [.int .i64 m.cells[w]] := by simp [hwl]
        have e9 : m.cells.getD w 0 = m.cells[w] := by simp [hwl]
        have hu' : u = ⟨k, t, w, m.cells[w], -1, 0, false, false⟩ := by
          rw [hu, Bt.unStep]
          simp [hw, hwl]
        have hCell := scell_ok (x := ⟨8, xa, xb, xc⟩) (xs := t.regs) hrl
        rw [hw] at hCell
        generalize m.cells[w] = q at *
        rw [hu'] at hbg htd ⊢
        subst hbg htd
        repeat (first | (refine aops_fnX rfl ?_ ?_; focus (simp (maxSteps := 4000000) only [sks, d1, e7, s1, Int.reduceBEq, e6, pProg, pMc, pUn, pTh, pCode, pCh, pInts, pI, tvl, simprocAttr]; done)) | (simp (maxSteps := 4000000) only [d1, e7, s1, Int.reduceBEq, e6, pProg, pMc, pUn, pTh, pCode, pCh, pInts, pI, tvl, simprocAttr]) | refine ftS (by kernel_rfl) ?_ | refine And.intro (by omega) ?_)
        refine aops_fn (hCell) (hidB rfl) rfl ?_
        repeat (first | (refine aops_fnX rfl ?_ ?_; focus (simp (maxSteps := 4000000) only [sks, d1, e7, s1, Int.reduceBEq, e6, e8, pProg, pMc, pUn, pTh, pCode, pCh, pInts, pI, tvl, simprocAttr]; done)) | (simp (maxSteps := 4000000) only [d1, e7, s1, Int.reduceBEq, e6, e8, pProg, pMc, pUn, pTh, pCode, pCh, pInts, pI, tvl, simprocAttr]) | refine ftS (by kernel_rfl) ?_ | refine And.intro (by omega) ?_)
        refine ⟨.inr rfl, _, Gh.refl, ?_⟩
        repeat (first | (refine aops_fnX rfl ?_ ?_; focus (simp (maxSteps := 4000000) only [sks, Option.getD_some, Option.isSome_some, pProg, pMc, pUn, pTh, pCode, pCh, pInts, pI, tvl, simprocAttr]; done)) | (simp (maxSteps := 4000000) only [Option.getD_some, Option.isSome_some, pProg, pMc, pUn, pTh, pCode, pCh, pInts, pI, tvl, simprocAttr]) | refine ftS (by kernel_rfl) ?_ | refine And.intro (by omega) ?_)
        all_goals (first | rfl | trivial | skip)
      have f8 : (op == 8) = false := by simpa using g8
      by_cases g15 : op = 15
      · skip
        subst g15
        obtain ⟨b0, b1⟩ := Bt.lock_bounds hcd (.inl rfl)
        obtain ⟨w, rfl⟩ : ∃ w : Nat, xc = w := ⟨xc.toNat, by omega⟩
        have hwl : w < m.locks.length := by omega
        have e8 : (m.locks.map fun x => [PV.int .i64 x])[w]? = some [.int .i64 m.locks[w]] := by simp [hwl]
        have hu' : u = ⟨k, t, -1, 0, w, m.locks[w], false, false⟩ := by
          rw [hu, Bt.unStep]
          simp [hwl]
        generalize m.locks[w] = q at *
        rw [hu'] at hbg htd ⊢
        subst hbg htd
        repeat (first | (refine aops_fnX rfl ?_ ?_; focus (simp (maxSteps := 4000000) only [sks, f8, d1, e7, s1, Int.reduceBEq, e8, pProg, pMc, pUn, pTh, pCode, pCh, pInts, pI, tvl, simprocAttr]; done)) | (simp (maxSteps := 4000000) only [f8, d1, e7, s1, Int.reduceBEq, e8, pProg, pMc, pUn, pTh, pCode, pCh, pInts, pI, tvl, simprocAttr]) | refine ftS (by kernel_rfl) ?_ | refine And.intro (by omega) ?_)
        refine ⟨.inr rfl, _, Gh.refl, ?_⟩
        repeat (first | (refine aops_fnX rfl ?_ ?_; focus (simp (maxSteps := 4000000) only [sks, Option.getD_some, Option.isSome_some, pProg, pMc, pUn, pTh, pCode, pCh, pInts, pI, tvl, simprocAttr]; done)) | (simp (maxSteps := 4000000) only [Option.getD_some, Option.isSome_some, pProg, pMc, pUn, pTh, pCode, pCh, pInts, pI, tvl, simprocAttr]) | refine ftS (by kernel_rfl) ?_ | refine And.intro (by omega) ?_)
        all_goals (first | rfl | trivial | skip)
      have f15 : (op == 15) = false := by simpa using g15
      by_cases g16 : op = 16
      · skip
        subst g16
        obtain ⟨b0, b1⟩ := Bt.lock_bounds hcd (.inr rfl)
        obtain ⟨w, rfl⟩ : ∃ w : Nat, xc = w := ⟨xc.toNat, by omega⟩
        have hwl : w < m.locks.length := by omega
        have e8 : (m.locks.map fun x => [PV.int .i64 x])[w]? = some [.int .i64 m.locks[w]] := by simp [hwl]
        have hu' : u = ⟨k, t, -1, 0, w, m.locks[w], false, false⟩ := by
          rw [hu, Bt.unStep]
          simp [hwl]
        generalize m.locks[w] = q at *
        rw [hu'] at hbg htd ⊢
        subst hbg htd
        repeat (first | (refine aops_fnX rfl ?_ ?_; focus (simp (maxSteps := 4000000) only [sks, f8, f15, d1, e7, s1, Int.reduceBEq, e8, pProg, pMc, pUn, pTh, pCode, pCh, pInts, pI, tvl, simprocAttr]; done)) | (simp (maxSteps := 4000000) only [f8, f15, d1, e7, s1, Int.reduceBEq, e8, pProg, pMc, pUn, pTh, pCode, pCh, pInts, pI, tvl, simprocAttr]) | refine ftS (by kernel_rfl) ?_ | refine And.intro (by omega) ?_)
        refine ⟨.inr rfl, _, Gh.refl, ?_⟩
        repeat (first | (refine aops_fnX rfl ?_ ?_; focus (simp (maxSteps := 4000000) only [sks, Option.getD_some, Option.isSome_some, pProg, pMc, pUn, pTh, pCode, pCh, pInts, pI, tvl, simprocAttr]; done)) | (simp (maxSteps := 4000000) only [Option.getD_some, Option.isSome_some, pProg, pMc, pUn, pTh, pCode, pCh, pInts, pI, tvl, simprocAttr]) | refine ftS (by kernel_rfl) ?_ | refine And.intro (by omega) ?_)
        all_goals (first | rfl | trivial | skip)
      have f16 : (op == 16) = false := by simpa using g16
      by_cases g17 : op = 17
      · skip
        subst g17
        have hu' : u = ⟨k, t, -1, 0, -1, 0, true, false⟩ := by
          rw [hu, Bt.unStep]
          simp
        rw [hu'] at hbg htd ⊢
        subst hbg htd
        repeat (first | (refine aops_fnX rfl ?_ ?_; focus (simp (maxSteps := 4000000) only [sks, f8, f15, f16, d1, e7, s1, Int.reduceBEq, pProg, pMc, pUn, pTh, pCode, pCh, pInts, pI, tvl, simprocAttr]; done)) | (simp (maxSteps := 4000000) only [f8, f15, f16, d1, e7, s1, Int.reduceBEq, pProg, pMc, pUn, pTh, pCode, pCh, pInts, pI, tvl, simprocAttr]) | refine ftS (by kernel_rfl) ?_ | refine And.intro (by omega) ?_)
        refine ⟨.inr rfl, _, Gh.refl, ?_⟩
        repeat (first | (refine aops_fnX rfl ?_ ?_; focus (simp (maxSteps := 4000000) only [sks, Option.getD_some, Option.isSome_some, pProg, pMc, pUn, pTh, pCode, pCh, pInts, pI, tvl, simprocAttr]; done)) | (simp (maxSteps := 4000000) only [Option.getD_some, Option.isSome_some, pProg, pMc, pUn, pTh, pCode, pCh, pInts, pI, tvl, simprocAttr]) | refine ftS (by kernel_rfl) ?_ | refine And.intro (by omega) ?_)
        all_goals (first | rfl | trivial | skip)
      have f17 : (op == 17) = false := by simpa using g17
      by_cases g14 : op = 14
      · skip
        subst g14
        have hu' : u = ⟨k, t, -1, 0, -1, 0, false, true⟩ := by
          rw [hu, Bt.unStep]
          simp
        rw [hu'] at hbg htd ⊢
        subst hbg htd
        repeat (first | (refine aops_fnX rfl ?_ ?_; focus (simp (maxSteps := 4000000) only [sks, f8, f15, f16, f17, d1, e7, s1, Int.reduceBEq, pProg, pMc, pUn, pTh, pCode, pCh, pInts, pI, tvl, simprocAttr]; done)) | (simp (maxSteps := 4000000) only [f8, f15, f16, f17, d1, e7, s1, Int.reduceBEq, pProg, pMc, pUn, pTh, pCode, pCh, pInts, pI, tvl, simprocAttr]) | refine ftS (by kernel_rfl) ?_ | refine And.intro (by omega) ?_)
        refine ⟨.inr rfl, _, Gh.refl, ?_⟩
        repeat (first | (refine aops_fnX rfl ?_ ?_; focus (simp (maxSteps := 4000000) only [sks, Option.getD_some, Option.isSome_some, pProg, pMc, pUn, pTh, pCode, pCh, pInts, pI, tvl, simprocAttr]; done)) | (simp (maxSteps := 4000000) only [Option.getD_some, Option.isSome_some, pProg, pMc, pUn, pTh, pCode, pCh, pInts, pI, tvl, simprocAttr]) | refine ftS (by kernel_rfl) ?_ | refine And.intro (by omega) ?_)
        all_goals (first | rfl | trivial | skip)
      have f14 : (op == 14) = false := by simpa using g14
      have hu' : u = ⟨k, t, -1, 0, -1, 0, false, false⟩ := by
        rw [hu, Bt.unStep]
        simp [g8, g14, g15, g16, g17]
      rw [hu'] at hbg htd ⊢
      subst hbg htd
      repeat (first | (refine aops_fnX rfl ?_ ?_; focus (simp (maxSteps := 4000000) only [sks, f8, f15, f16, f17, f14, d1, e7, s1, Int.reduceBEq, pProg, pMc, pUn, pTh, pCode, pCh, pInts, pI, tvl, simprocAttr]; done)) | (simp (maxSteps := 4000000) only [f8, f15, f16, f17, f14, d1, e7, s1, Int.reduceBEq, pProg, pMc, pUn, pTh, pCode, pCh, pInts, pI, tvl, simprocAttr]) | refine ftS (by kernel_rfl) ?_ | refine And.intro (by omega) ?_)
      refine ⟨.inr rfl, _, Gh.refl, ?_⟩
      repeat (first | (refine aops_fnX rfl ?_ ?_; focus (simp (maxSteps := 4000000) only [sks, Option.getD_some, Option.isSome_some, pProg, pMc, pUn, pTh, pCode, pCh, pInts, pI, tvl, simprocAttr]; done)) | (simp (maxSteps := 4000000) only [Option.getD_some, Option.isSome_some, pProg, pMc, pUn, pTh, pCode, pCh, pInts, pI, tvl, simprocAttr]) | refine ftS (by kernel_rfl) ?_ | refine And.intro (by omega) ?_)
      all_goals (first | rfl | trivial | skip)
end Av
end Go.Proofs.Ytdjenlnomibniaa
