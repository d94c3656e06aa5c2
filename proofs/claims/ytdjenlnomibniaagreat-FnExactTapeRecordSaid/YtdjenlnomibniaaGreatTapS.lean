/-
  Chapter 5: what the model writes of a recording.
-/
import Derived.Test.YtdjenlnomibniaaGreatTapI
import Derived.Test.YtdjenlnomibniaaGreatRepT
set_option linter.unusedSimpArgs false
set_option linter.unusedVariables false
namespace Go.Proofs.YtdjenlnomibniaaGreat
open Go.RowKit
namespace Av
set_option maxRecDepth 10000 in
set_option maxHeartbeats 16000000 in
theorem stapeOf_ok {rs : List Bt.C4} {h : Int} {S : List Bt.Sl} {Q : List Int} (hn : rs.length ≤ 1048576) (h1 : S.length ≤ 1048576) (h2 : Q.length ≤ 1048576) : FnOk E.P 89 [pProg rs h, pRec (S, Q)] (.str (Bt.bytes (Bt.tapeOf rs h S Q))) true := by
  have hR := (sReplay_ok (rs := rs) (h := h) (S := S) (Q := Q) hn h1 h2).read
  cases e : Bt.replay rs h S Q with
  | none =>
    rw [Bt.tapeOf_none e]
    rw [e] at hR
    refine fn_ok mixed Tryz.func89 rfl (by kernel_rfl) _ Tryz.results89 _ Tryz.ntmps89 (by simp) (by kernel_rfl) ?_
    simp (maxSteps := 4000000) only [pRec, pProg, pChs, pInts, pI, tvl, simprocAttr]
    repeat (first | refine ftS (by kernel_rfl) ?_ | refine And.intro (by omega) ?_)
    refine aops_callF (hR) (hidB rfl) rfl ?_
    simp (maxSteps := 4000000) only [bytes_nil, Option.getD_none, Option.isSome_none, List.map_nil, pRec, pProg, pChs, pInts, pI, tvl, simprocAttr]
    repeat (first | refine ftS (by kernel_rfl) ?_ | refine And.intro (by omega) ?_)
    refine aops_callF (snew_ok.read) (hidB rfl) rfl ?_
    simp (maxSteps := 4000000) only [pRec, pMc, pInts, pI, tvl, simprocAttr]
    repeat (first | refine ftS (by kernel_rfl) ?_ | refine And.intro (by omega) ?_)
    refine awp_loop (X := Unit) (fun _ => [(3, .ptr 0 0), (6, .pv (.bool false)), (7, .pv (.str (Bt.bytes []))), (11, .pv (.int .i64 0))])
      (fun _ => [(0, .box [.pv (.lst 114 (S.map pSl)), .pv (.lst 3 (Q.map fun x => [pI x]))])])
      (fun _ => True) (fun _ => 0) 100 () trivial (by simp (maxSteps := 4000000) only [pI, tvl, simprocAttr]; try simp [pI]) (fun x _ => ?_)
    cases d1 : decide ((0 : Int) < (S.length : Int))
    all_goals
      simp (maxSteps := 4000000) only [d1, pI, tvl, simprocAttr]
      repeat (first | refine ftS (by kernel_rfl) ?_ | refine And.intro (by omega) ?_)
      all_goals (first | rfl | trivial | skip)
  | some l =>
    rw [Bt.tapeOf_some e]
    rw [e] at hR
    have R := Bt.replayed e
    have hne := progOk_ne (Bt.runOk_facts R.ok).1
    have hT := Bt.tape_in R
    have hfew := R.few
    have hfewS := R.fewS
    have hfewQ := R.fewQ
    have hsl := R.sl
    have hQ := R.ans
    have hwk : l.length = (Bt.unans S).length := by simpa using congrArg List.length R.wks
    have hrl := (Bt.run_like R.go).2
    obtain ⟨total, ht⟩ : ∃ x, Bt.tapeIn rs h S Bt.mcNew l = x := ⟨_, rfl⟩
    rw [ht] at hT ⊢
    refine fn_ok mixed Tryz.func89 rfl (by kernel_rfl) _ Tryz.results89 _ Tryz.ntmps89 (by simp) (by kernel_rfl) ?_
    simp (maxSteps := 4000000) only [pRec, pProg, pChs, pInts, pI, tvl, simprocAttr]
    repeat (first | refine ftS (by kernel_rfl) ?_ | refine And.intro (by omega) ?_)
    refine aops_callF (hR) (hidB rfl) rfl ?_
    simp (maxSteps := 4000000) only [bytes_nil, Option.getD_some, Option.isSome_some, pRec, pProg, pChs, pInts, pI, tvl, simprocAttr]
    repeat (first | refine ftS (by kernel_rfl) ?_ | refine And.intro (by omega) ?_)
    refine aops_callF (snew_ok.read) (hidB rfl) rfl ?_
    simp (maxSteps := 4000000) only [bytes_nil, pRec, pMc, pInts, pI, tvl, simprocAttr]
    repeat (first | refine ftS (by kernel_rfl) ?_ | refine And.intro (by omega) ?_)
    refine awp_loop (X := Nat × Nat × Nat × List Int) (fun x => [(2, .ptr 0 0), (3, .ptr 1 0), (5, .pv (.lst 99 (l.map pCh))), (6, .pv (.bool true)), (7, .pv (.str (Bt.bytes x.2.2.2))), (8, .pv (.int .i64 x.2.1)), (9, .pv (.int .i64 x.2.2.1)), (10, .ptr 2 0), (11, .pv (.int .i64 x.1))])
      (fun x => [(0, .box [.pv (.lst 116 (rs.map pCode)), .pv (.int .i64 h)]), (1, .box [.pv (.lst 114 (S.map pSl)), .pv (.lst 3 (Q.map fun x => [pI x]))]), (2, .box (bMc (Bt.after rs h Bt.mcNew (l.take x.2.1))))])
      (fun x => x.1 ≤ S.length ∧ x.2.1 ≤ l.length ∧ l.length - x.2.1 = (Bt.unans (S.drop x.1)).length ∧ x.2.2.1 ≤ x.2.1 ∧ Q.drop x.2.2.1 = Bt.ansFrom rs h (Bt.after rs h Bt.mcNew (l.take x.2.1)) (l.drop x.2.1) ∧ x.2.2.2 ++ Bt.tapeIn rs h (S.drop x.1) (Bt.after rs h Bt.mcNew (l.take x.2.1)) (l.drop x.2.1) = total) (fun x => S.length - x.1) 100 (0, 0, 0, [])
      ⟨Nat.zero_le _, Nat.zero_le _, hwk, Nat.le_refl _, hQ, ht⟩ (by simp (maxSteps := 4000000) only [bMc, pMc, pInts, pI, tvl, simprocAttr]; try simp [pI, Bt.after]) (fun x H => ?_)
    obtain ⟨k, a, u, T⟩ := x
    obtain ⟨i1, i2, i3, i4, i5, i6⟩ := H
    simp only at i1 i2 i3 i4 i5 i6
    by_cases c1 : k < S.length
    · have d1 : decide ((k : Int) < (S.length : Int)) = true := by simpa using c1
      have e5 : (S.map pSl)[k]? = some (pSl S[k]) := by simp [c1]
      have hTl : T.length ≤ 8100 := by
        have := congrArg List.length i6
        rw [List.length_append] at this
        omega
      rw [Bt.unans_drop c1, List.length_append, List.length_replicate] at i3
      rw [List.drop_eq_getElem_cons c1, Bt.tapeIn] at i6
      have hs := hsl _ (List.getElem_mem c1)
      generalize S[k] = s at *
      obtain ⟨who, kind, many⟩ := s
      simp only at hs i3 i6
      obtain ⟨n, rfl⟩ : ∃ n : Nat, many = n := ⟨many.toNat, by omega⟩
      rw [Int.toNat_natCast] at i3 i6
      have mw : mulW .i64 2 who = 2 * who := mulW_in ⟨by omega, by omega⟩
      have hP1 := sput_ok (n := 2 * who + kind) (by omega)
      have hP2 := sput_ok (n := (n : Int)) (by omega)
      have q1 := Bt.putNum_len (n := 2 * who + kind) (by omega)
      have q2 := Bt.putNum_len (n := (n : Int)) (by omega)
      simp (maxSteps := 4000000) only [d1, e5, pSl, pI, tvl, simprocAttr]
      repeat (first | refine ftS (by kernel_rfl) ?_ | refine And.intro (by omega) ?_)
      refine aops_fn (hP1) (hidB rfl) rfl ?_
      simp (maxSteps := 4000000) only [mw, d1, e5, pSl, pI, tvl, simprocAttr]
      repeat (first | refine ftS (by kernel_rfl) ?_ | refine And.intro (by omega) ?_)
      refine aops_fn (hP2) (hidB rfl) rfl ?_
      simp (maxSteps := 4000000) only [mw, ← Bt.bytes_append, Bt.bytes_size, List.length_append, pProg, pChs, pInts, pI, tvl, simprocAttr]
      repeat (first | refine ftS (by kernel_rfl) ?_ | refine And.intro (by omega) ?_)
      refine awp_loop (X := Nat × Nat × Bt.Mc × List Int) (fun x => [(2, .ptr 0 0), (3, .ptr 1 0), (5, .pv (.lst 99 (l.map pCh))), (6, .pv (.bool true)), (7, .pv (.str (Bt.bytes x.2.2.2))), (8, .pv (.int .i64 ((a + x.1 : Nat) : Int))), (9, .pv (.int .i64 x.2.1)), (10, .ptr 2 0), (11, .pv (.int .i64 k)), (12, .ptr 3 0), (13, .pv (.int .i64 x.1))])
        (fun x => [(0, .box [.pv (.lst 116 (rs.map pCode)), .pv (.int .i64 h)]), (1, .box [.pv (.lst 114 (S.map pSl)), .pv (.lst 3 (Q.map fun x => [pI x]))]), (2, .box (bMc x.2.2.1)), (3, .box [.pv (.int .i64 who), .pv (.int .i64 kind), .pv (.int .i64 n)])])
        (fun x => x.1 ≤ n ∧ x.2.1 ≤ a + x.1 ∧ x.2.2.1 = Bt.after rs h Bt.mcNew (l.take (a + x.1)) ∧ Q.drop x.2.1 = Bt.ansFrom rs h x.2.2.1 (l.drop (a + x.1)) ∧ x.2.2.2 ++ (Bt.ansFrom rs h x.2.2.1 ((l.drop (a + x.1)).take (n - x.1))).flatMap Bt.putNum ++ Bt.tapeIn rs h (S.drop (k + 1)) (Bt.after rs h Bt.mcNew (l.take (a + n))) (l.drop (a + n)) = total) (fun x => n - x.1) 100 (0, u, Bt.after rs h Bt.mcNew (l.take a), T ++ (Bt.putNum (2 * who + kind) ++ Bt.putNum n))
        ⟨Nat.zero_le _, i4, rfl, i5, by
          simp only [Nat.add_zero, Nat.sub_zero]
          rw [← Bt.after_append, ← List.take_add, List.drop_drop] at i6
          rw [← i6]
          simp [List.append_assoc]⟩ (by simp (maxSteps := 4000000) only [Nat.add_zero, bMc, pMc, pInts, pI, tvl, simprocAttr]; try simp [pI]) (fun x H => ?_)
      obtain ⟨j, v, m, W⟩ := x
      obtain ⟨j1, j2, j0, j3, j4⟩ := H
      simp only at j1 j2 j0 j3 j4
      by_cases c2 : j < n
      · have d2 : decide ((j : Int) < (n : Int)) = true := by simpa using c2
        have hal : a + j < l.length := by omega
        have e6 : (l.map pCh)[a + j]? = some (pCh l[a + j]) := by simp [hal]
        have haf : Bt.after rs h Bt.mcNew (l.take (a + j + 1)) = (Bt.doM rs h (Bt.after rs h Bt.mcNew (l.take (a + j))) l[a + j]).getD Bt.mcNil := Bt.after_take hal
        have hdr : l.drop (a + j) = l[a + j] :: l.drop (a + j + 1) := List.drop_eq_getElem_cons hal
        have hWl : W.length ≤ 8100 := by
          have := congrArg List.length j4
          simp only [List.length_append] at this
          omega
        have hsz := Bt.after_sz rs h (l.take (a + j))
        rw [← j0] at haf hsz
        have hmm : l[a + j] ∈ l := List.getElem_mem hal
        rw [hdr] at j3 j4
        rw [show n - j = n - (j + 1) + 1 by omega, List.take_succ_cons, Bt.ansFrom, ← haf] at j4
        rw [Bt.ansFrom, ← haf] at j3
        have hgo := Bt.goFrom_all R.go hal
        rw [← j0] at hgo
        obtain ⟨m', hm'⟩ : ∃ m', Bt.after rs h Bt.mcNew (l.take (a + j + 1)) = m' := ⟨_, rfl⟩
        rw [hm'] at haf j3 j4
        have hm2 : m' = Bt.after rs h Bt.mcNew (l.take (a + (j + 1))) := hm'.symm
        rw [show a + j + 1 = a + (j + 1) by omega] at j3 j4
        clear hm'
        generalize l[a + j] = c at *
        obtain ⟨cw, ck, cr⟩ := c
        have hA := l4AsksA_ok (rs := rs) (h := h) (who := cw) (kind := ck) (rep := cr) (m := m) hn (Small.of hsz)
        have hD := sdoA_ok (rs := rs) (h := h) (m := m) (c := ⟨cw, ck, cr⟩) hn (Small.of hsz)
        rw [← haf] at hD
        have ej : (a : Int) + (j : Int) = ((a + j : Nat) : Int) := by omega
        simp (maxSteps := 4000000) only [d2, e6, pProg, bMc, pMc, pCh, pInts, pI, tvl, simprocAttr]
        repeat (first | refine ftS (by kernel_rfl) ?_ | refine And.intro (by omega) ?_)
        refine aops_fn (hA) (hidB rfl) rfl ?_
        cases ha : Bt.asks rs h m ⟨cw, ck, cr⟩
        · rw [ha] at j3 j4
          simp only [Bool.false_eq_true, if_false, List.nil_append] at j3 j4
          simp (maxSteps := 4000000) only [d2, e6, pProg, bMc, pMc, pCh, pInts, pI, tvl, simprocAttr]
          repeat (first | refine ftS (by kernel_rfl) ?_ | refine And.intro (by omega) ?_)
          refine aops_callF (hD) (hidB rfl) rfl ?_
          simp (maxSteps := 4000000) only [d2, e6, pProg, bMc, pMc, pCh, pInts, pI, tvl, simprocAttr]
          repeat (first | refine ftS (by kernel_rfl) ?_ | refine And.intro (by omega) ?_)
          refine ⟨(j + 1, v, m', W), ⟨by simp only; omega, by simp only; omega, hm2, j3, j4⟩, by simp only; omega, ?_⟩
          simp [bMc, pMc, pInts, pI]
          try omega
        · rw [ha] at j3 j4
          simp only [if_true, List.singleton_append, List.flatMap_cons] at j3 j4
          have hvl : v < Q.length := by
            have := congrArg List.length j3
            simp only [List.length_drop, List.length_cons] at this
            omega
          rw [List.drop_eq_getElem_cons hvl] at j3
          injection j3 with j3a j3b
          have hcr := (Bt.made_like (Option.some_get hgo).symm).2.2 ha
          have e7 : (Q.map fun x => [PV.int .i64 x])[v]? = some [.int .i64 cr] := by simp [hvl, j3a]
          have hP3 := sput_ok (n := cr) (by simp only at hcr; omega)
          have q3 := Bt.putNum_len (n := cr) (by simp only at hcr; omega)
          simp (maxSteps := 4000000) only [d2, e6, e7, pProg, bMc, pMc, pCh, pInts, pI, tvl, simprocAttr]
          repeat (first | refine ftS (by kernel_rfl) ?_ | refine And.intro (by omega) ?_)
          refine aops_fn (hP3) (hidB rfl) rfl ?_
          simp (maxSteps := 4000000) only [← Bt.bytes_append, Bt.bytes_size, List.length_append, d2, e6, e7, pProg, bMc, pMc, pCh, pInts, pI, tvl, simprocAttr]
          repeat (first | refine ftS (by kernel_rfl) ?_ | refine And.intro (by omega) ?_)
          refine aops_callF (hD) (hidB rfl) rfl ?_
          simp (maxSteps := 4000000) only [d2, e6, pProg, bMc, pMc, pCh, pInts, pI, tvl, simprocAttr]
          repeat (first | refine ftS (by kernel_rfl) ?_ | refine And.intro (by omega) ?_)
          refine ⟨(j + 1, v + 1, m', W ++ Bt.putNum cr), ⟨by simp only; omega, by simp only; omega, hm2, j3b, ?_⟩, by simp only; omega, ?_⟩
          · simp only
            rw [← j4]
            simp [List.append_assoc]
          · simp [bMc, pMc, pInts, pI]
            try omega
      · have d2 : decide ((j : Int) < (n : Int)) = false := by simpa using c2
        obtain rfl : j = n := by omega
        rw [Nat.sub_self, List.take_zero, Bt.ansFrom, List.flatMap_nil, List.append_nil] at j4
        rw [j0] at j3
        subst j0
        simp (maxSteps := 4000000) only [d2, bMc, pMc, pInts, pI, tvl, simprocAttr]
        repeat (first | refine ftS (by kernel_rfl) ?_ | refine And.intro (by omega) ?_)
        refine ⟨(k + 1, a + j, v, W), ⟨by simp only; omega, by simp only; omega, by simp only; omega, j2, j3, j4⟩, by simp only; omega, ?_⟩
        simp [bMc, pMc, pInts, pI]
    · have d1 : decide ((k : Int) < (S.length : Int)) = false := by simpa using c1
      rw [List.drop_of_length_le (by omega), Bt.tapeIn, List.append_nil] at i6
      rw [← i6]
      simp (maxSteps := 4000000) only [d1, pI, tvl, simprocAttr]
      repeat (first | refine ftS (by kernel_rfl) ?_ | refine And.intro (by omega) ?_)
      all_goals (first | rfl | trivial | skip)
end Av
end Go.Proofs.YtdjenlnomibniaaGreat
