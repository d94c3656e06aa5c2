/-
  What spec.RecordOf hands back.
-/
import Derived.Test.YtdjenlnomibniaaGreatIRec
set_option linter.unusedSimpArgs false
set_option linter.unusedVariables false
namespace Go.Proofs.YtdjenlnomibniaaGreat
open Go.RowKit
namespace Av
set_option maxHeartbeats 4000000 in
theorem l4Asks_ok {rs : List Bt.C4} {h who kind rep : Int} {m : Bt.Mc} (hne : rs ≠ []) (hn : rs.length ≤ 1048576) (hm : Small m) : FnOk E.P 75 [pProg rs h, .agg (pMc m), .agg (pCh ⟨who, kind, rep⟩)] (.bool (Bt.asks rs h m ⟨who, kind, rep⟩)) true := by
  have hI := (sinstr_ok (rs := rs) (h := h) (m := m) (who := who) hne hn hm).read
  unfold Bt.asks
  simp only
  generalize Bt.instrOf rs h m who = X at *
  cases X with
  | none =>
    refine fn_ok mixed Tryz.func75 rfl (by kernel_rfl) _ Tryz.results75 _ Tryz.ntmps75 (by simp) (by kernel_rfl) ?_
    simp (maxSteps := 4000000) only [pProg, pMc, pCh, pInts, pI, tvs, simprocAttr]
    repeat (first | refine ftS (by kernel_rfl) ?_ | refine And.intro (by omega) ?_)
    refine aops_callF (hI) (hidB rfl) rfl ?_
    simp (maxSteps := 4000000) only [Option.getD_none, Option.isSome_none, pProg, pMc, pCh, pCode, pInts, pI, tvs, simprocAttr]
    repeat (first | refine ftS (by kernel_rfl) ?_ | refine And.intro (by omega) ?_)
    all_goals (first | rfl | trivial | skip)
  | some x =>
    obtain ⟨op, xa, xb, xc⟩ := x
    simp only
    refine fn_ok mixed Tryz.func75 rfl (by kernel_rfl) _ Tryz.results75 _ Tryz.ntmps75 (by simp) (by kernel_rfl) ?_
    simp (maxSteps := 4000000) only [pProg, pMc, pCh, pInts, pI, tvs, simprocAttr]
    repeat (first | refine ftS (by kernel_rfl) ?_ | refine And.intro (by omega) ?_)
    refine aops_callF (hI) (hidB rfl) rfl ?_
    cases d1 : op == 13 <;> cases d2 : kind == 0
    all_goals
      simp (maxSteps := 4000000) only [d1, d2, Bool.and_true, Bool.and_false, Bool.false_and, Bool.true_and, Option.getD_some, Option.isSome_some, pProg, pMc, pCh, pCode, pInts, pI, tvs, simprocAttr]
      repeat (first | refine ftS (by kernel_rfl) ?_ | refine And.intro (by omega) ?_)
      all_goals (first | rfl | trivial | skip)
set_option maxRecDepth 10000 in
set_option maxHeartbeats 16000000 in
theorem sRecordOf_ok {rs : List Bt.C4} {h : Int} {l : List Bt.Ch} (hn : rs.length ≤ 1048576) (hl : l.length ≤ 1048576) : FnOk E.P 36 [pProg rs h, pChs l] (.tup [pRec (Bt.recOf rs h l), .bool (Bt.runOk rs h l)]) true := by
  have hO := sok_ok (rs := rs) (h := h) (l := l) hn hl
  unfold Bt.recOf
  refine fn_ok mixed Tryz.func36 rfl (by kernel_rfl) _ Tryz.results36 _ Tryz.ntmps36 (by simp) (by kernel_rfl) ?_
  simp (maxSteps := 4000000) only [pProg, pChs, pI, tvs, simprocAttr]
  repeat (first | refine ftS (by kernel_rfl) ?_ | refine And.intro (by omega) ?_)
  refine aops_fn (hO) (hidB rfl) rfl ?_
  cases ho : Bt.runOk rs h l
  · simp (maxSteps := 4000000) only [Bool.false_eq_true, if_false, List.map_nil, List.length_nil, pRec, pProg, pChs, pInts, pI, tvs, simprocAttr]
    repeat (first | refine ftS (by kernel_rfl) ?_ | refine And.intro (by omega) ?_)
    all_goals (first | rfl | trivial | skip)
  have hne := progOk_ne (Bt.runOk_facts ho).1
  simp (maxSteps := 4000000) only [if_true, pRec, pProg, pChs, pInts, pI, tvs, simprocAttr]
  repeat (first | refine ftS (by kernel_rfl) ?_ | refine And.intro (by omega) ?_)
  refine aops_callF (snew_ok.read) (hidB rfl) rfl ?_
  simp (maxSteps := 4000000) only [pMc, pInts, tvs, simprocAttr]
  repeat (first | refine ftS (by kernel_rfl) ?_ | refine And.intro (by omega) ?_)
  refine awp_loop (X := Nat) (fun k => [(1, .pv (.lst 99 (l.map pCh))), (2, .ptr 0 0), (4, .ptr 1 0), (6, .ptr 4 0), (7, .ptr 5 0), (8, .pv (.int .i64 k))])
    (fun k => [(0, .box [.pv (.lst 116 (rs.map pCode)), .pv (.int .i64 h)]), (1, .box [.nil 114, .nil 3]), (2, .row true 114 ((Bt.slicesOf (l.take k)).map pSl)), (3, .row true 3 ((Bt.answersTo rs h l k).map fun x => [pI x])), (4, .box [.sl 2, .sl 3]), (5, .box (bMc (Bt.after rs h Bt.mcNew (l.take k))))])
    (fun k => k ≤ l.length) (fun k => l.length - k) 100 0 (Nat.zero_le _) (by simp (maxSteps := 4000000) only [bMc, pMc, pInts, tvs, simprocAttr]; simp [Bt.after, Bt.slicesOf, Bt.answersTo]) (fun k hk => ?_)
  by_cases c1 : k < l.length
  · have d1 : decide ((k : Int) < (l.length : Int)) = true := by simpa using c1
    have e5 : (l.map pCh)[k]? = some (pCh l[k]) := by simp [c1]
    obtain ⟨o1, o2⟩ := Bt.slices_ok l k hk
    have hs := Bt.slicesOf_snoc c1
    have q1 := Bt.answers_len rs h l k
    have hq := Bt.answersTo_snoc (rs := rs) (h := h) c1
    have hm' := Bt.after_take (rs := rs) (h := h) (m := Bt.mcNew) c1
    have hsm := Small.of (Bt.after_sz rs h (l.take k))
    generalize l[k] = c at *
    generalize Bt.slicesOf (l.take k) = o at *
    generalize Bt.answersTo rs h l k = q at *
    generalize Bt.after rs h Bt.mcNew (l.take k) = m at *
    obtain ⟨who, kind, rep⟩ := c
    have hA := l4Asks_ok (rs := rs) (h := h) (who := who) (kind := kind) (rep := rep) (m := m) hne hn hsm
    have hD := sdo_ok (rs := rs) (h := h) (m := m) (c := ⟨who, kind, rep⟩) hne hn hsm
    obtain ⟨q', hq'⟩ : ∃ q', Bt.answersTo rs h l (k + 1) = q' := ⟨_, rfl⟩
    simp (maxSteps := 4000000) only [d1, e5, bMc, pCh, pMc, pInts, pI, tvl, simprocAttr]
    repeat (first | refine ftS (by kernel_rfl) ?_ | refine And.intro (by omega) ?_)
    refine aops_fn (hA) (hidB rfl) rfl ?_
    cases ht : Bt.asks rs h m ⟨who, kind, rep⟩
    all_goals
      simp only [ht, Bool.false_eq_true, if_true, if_false, List.append_nil] at hq
      rcases List.eq_nil_or_concat o with rfl | ⟨o', s, rfl⟩
      · have d0 : decide ((-1 : Int) ≥ 0) = false := by decide
        simp (maxSteps := 4000000) only [d0, d1, List.map_nil, List.length_nil, pProg, pCh, pMc, pInts, pI, tvl, simprocAttr]
        repeat (first | refine ftS (by kernel_rfl) ?_ | refine And.intro (by omega) ?_)
        refine aops_callF (hD) (hidB rfl) rfl ?_
        simp (maxSteps := 4000000) only [pProg, pChs, pMc, pCh, pInts, pI, tvl, simprocAttr]
        repeat (first | refine ftS (by kernel_rfl) ?_ | refine And.intro (by omega) ?_)
        refine ⟨k + 1, by omega, by omega, ?_⟩
        simp [hs, hq, hm', Bt.addSl_nil, bMc, pMc, pInts, pSl, pI]
      · rw [List.concat_eq_append] at *
        obtain ⟨a, b, n⟩ := s
        have hn1 := o2 ⟨a, b, n⟩ (by simp)
        simp only at hn1
        have hol : o'.length + 1 ≤ k := by simpa using o1
        have e6 : (o' ++ [(⟨a, b, n⟩ : Bt.Sl)]).length = o'.length + 1 := by simp
        have e7 : ((o'.length + 1 : Nat) : Int) - 1 = (o'.length : Int) := by omega
        have e8 : ((o' ++ [(⟨a, b, n⟩ : Bt.Sl)]).map pSl)[o'.length]? = some [pI a, pI b, pI n] := by simp [pSl]
        have d2 : decide ((o'.length : Int) ≥ 0) = true := by simp
        cases t1 : a == who
        · have hs' := Bt.addSl_other o' ⟨a, b, n⟩ ⟨who, kind, rep⟩ (by simp at t1; simp [t1])
          simp (maxSteps := 4000000) only [t1, d1, d2, e6, e7, e8, pProg, pCh, pMc, pInts, pI, tvl, simprocAttr]
          repeat (first | refine ftS (by kernel_rfl) ?_ | refine And.intro (by omega) ?_)
          refine aops_callF (hD) (hidB rfl) rfl ?_
          simp (maxSteps := 4000000) only [pProg, pChs, pMc, pCh, pInts, pI, tvl, simprocAttr]
          repeat (first | refine ftS (by kernel_rfl) ?_ | refine And.intro (by omega) ?_)
          refine ⟨k + 1, by omega, by omega, ?_⟩
          simp [hs, hs', hq, hm', bMc, pMc, pInts, pSl, pI]
        · cases t2 : b == kind
          · have hs' := Bt.addSl_other o' ⟨a, b, n⟩ ⟨who, kind, rep⟩ (by simp at t2; simp [t2])
            simp (maxSteps := 4000000) only [t1, t2, d1, d2, e6, e7, e8, pProg, pCh, pMc, pInts, pI, tvl, simprocAttr]
            repeat (first | refine ftS (by kernel_rfl) ?_ | refine And.intro (by omega) ?_)
            refine aops_callF (hD) (hidB rfl) rfl ?_
            simp (maxSteps := 4000000) only [pProg, pChs, pMc, pCh, pInts, pI, tvl, simprocAttr]
            repeat (first | refine ftS (by kernel_rfl) ?_ | refine And.intro (by omega) ?_)
            refine ⟨k + 1, by omega, by omega, ?_⟩
            simp [hs, hs', hq, hm', bMc, pMc, pInts, pSl, pI]
          · have hs' := Bt.addSl_same o' ⟨a, b, n⟩ ⟨who, kind, rep⟩ (by simp at t1 t2; simp [t1, t2])
            simp (maxSteps := 4000000) only [t1, t2, d1, d2, e6, e7, e8, pProg, pCh, pMc, pInts, pI, tvl, simprocAttr]
            repeat (first | refine ftS (by kernel_rfl) ?_ | refine And.intro (by omega) ?_)
            refine aops_callF (hD) (hidB rfl) rfl ?_
            simp (maxSteps := 4000000) only [pProg, pChs, pMc, pCh, pInts, pI, tvl, simprocAttr]
            repeat (first | refine ftS (by kernel_rfl) ?_ | refine And.intro (by omega) ?_)
            refine ⟨k + 1, by omega, by omega, ?_⟩
            simp [hs, hs', hq, hm', bMc, pMc, pInts, pSl, pI]
  · have d1 : decide ((k : Int) < (l.length : Int)) = false := by simpa using c1
    obtain rfl : k = l.length := by omega
    simp (maxSteps := 4000000) only [d1, List.take_length, if_true, pRec, bMc, pMc, pInts, pI, tvl, simprocAttr]
    repeat (first | refine ftS (by kernel_rfl) ?_ | refine And.intro (by omega) ?_)
    all_goals (first | rfl | trivial | skip)
end Av
end Go.Proofs.YtdjenlnomibniaaGreat
