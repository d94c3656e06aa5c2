/-
  Chapter 5: what the program writes of a recording.
-/
import Derived.Test.YtemogjmghgfdfaaTapP
set_option linter.unusedSimpArgs false
set_option linter.unusedVariables false
namespace Go.Proofs.Ytemogjmghgfdfaa
open Go.RowKit
namespace Av
set_option maxHeartbeats 8000000 in
theorem putNums_ok {ns : List Int} (hl : ns.length ≤ 1048576) (hb : ∀ x ∈ ns, x ≤ 9223372036854775807) : FnOk E.P 90 [pInts ns] (.str (Bt.bytes (ns.flatMap Bt.putNum))) true := by
  have hlen : ∀ k, ((ns.take k).flatMap Bt.putNum).length ≤ 9 * 1048576 := fun k => by
    have h1 := Bt.putNums_len (ns := ns.take k) (fun x hx => hb x (List.mem_of_mem_take hx))
    have h2 : (ns.take k).length ≤ ns.length := by rw [List.length_take]; omega
    omega
  refine fn_ok mixed Try.func90 rfl (by kernel_rfl) _ Try.results90 _ Try.ntmps90 (by simp) (by kernel_rfl) ?_
  simp (maxSteps := 4000000) only [List.length_map, bytes_nil, pInts, pI, vcs, simprocAttr, tbs]
  repeat (first | refine ftS (by kernel_rfl) ?_ | refine And.intro (by omega) ?_)
  refine awp_loop (X := Nat) (fun k => [(3, .pv (.str (Bt.bytes ((ns.take k).flatMap Bt.putNum)))), (6, .pv (.lst 3 (ns.map fun x => [pI x]))), (7, .pv (.int .i64 ns.length)), (8, .pv (.int .i64 k))])
    (fun _ => []) (fun k => k ≤ ns.length) (fun k => ns.length - k) 100 0 (Nat.zero_le _) (by simp (maxSteps := 4000000) only [List.length_map, List.take_zero, List.flatMap_nil, pI, vcs, simprocAttr, tbs]; try simp [pI]) (fun k hk => ?_)
  by_cases c1 : k < ns.length
  · have d1 : decide ((k : Int) < (ns.length : Int)) = true := by simpa using c1
    have e5 : (ns.map fun x => [PV.int .i64 x])[k]? = some [.int .i64 ns[k]] := by simp [c1]
    have hP := iput_ok (n := ns[k]) (hb _ (List.getElem_mem c1))
    have hpl := Bt.putNum_len (n := ns[k]) (hb _ (List.getElem_mem c1))
    have hs : (ns.take (k + 1)).flatMap Bt.putNum = (ns.take k).flatMap Bt.putNum ++ Bt.putNum ns[k] := by
      rw [List.take_succ_eq_append_getElem c1, List.flatMap_append]
      simp
    have hk1 := hlen k
    generalize ns[k] = x at *
    simp (maxSteps := 4000000) only [List.length_map, d1, e5, pI, vcs, simprocAttr, tbs]
    repeat (first | refine ftS (by kernel_rfl) ?_ | refine And.intro (by omega) ?_)
    refine aops_fn (hP) (by first | exact Nat.le_add_right _ _ | (simp only [introT, intro1, introL, intros, pI, pProg, pMc, pTh, pCh, pChs, pInts]; omega)) rfl ?_
    simp (maxSteps := 4000000) only [List.length_map, Bt.bytes_size, d1, e5, pI, vcs, simprocAttr, tbs]
    repeat (first | refine ftS (by kernel_rfl) ?_ | refine And.intro (by omega) ?_)
    refine ⟨k + 1, by omega, by omega, ?_⟩
    simp [hs, Bt.bytes_append, pI]
  · have d1 : decide ((k : Int) < (ns.length : Int)) = false := by simpa using c1
    have ht : ns.take k = ns := List.take_of_length_le (by omega)
    rw [ht]
    simp (maxSteps := 4000000) only [List.length_map, d1, pI, vcs, simprocAttr, tbs]
    repeat (first | refine ftS (by kernel_rfl) ?_ | refine And.intro (by omega) ?_)
    all_goals (first | rfl | trivial | skip)
set_option maxRecDepth 10000 in
set_option maxHeartbeats 8000000 in
theorem answersIn_ok {rs : List Bt.C4} {h : Int} {m0 : Bt.Mc} {l : List Bt.Ch} {ms : List (List PV)} (hne : rs ≠ []) (hn : rs.length ≤ 1048576) (hl : l.length ≤ 1048576) (hml : ms.length = l.length) (hma : ∀ k, k < l.length → ms[k]? = some (pMc (Bt.after rs h m0 (l.take k)))) (hsz : ∀ k, Bt.mcSz (Bt.after rs h m0 (l.take k)) ≤ 1048576) :
    FnOk E.P 91 [pProg rs h, .lst 105 ms, pChs l] (pInts (Bt.ansFrom rs h m0 l)) true := by
  refine fn_ok mixed Try.func91 rfl (by kernel_rfl) _ Try.results91 _ Try.ntmps91 (by simp) (by kernel_rfl) ?_
  simp (maxSteps := 4000000) only [pProg, pChs, pI, vcs, simprocAttr, tbs]
  repeat (first | refine ftS (by kernel_rfl) ?_ | refine And.intro (by omega) ?_)
  refine awp_loop (X := Nat) (fun k => [(1, .pv (.lst 105 ms)), (3, .ptr 0 0), (7, .sl 1), (11, .pv (.lst 98 (l.map pCh))), (12, .pv (.int .i64 l.length)), (13, .pv (.int .i64 k))])
    (fun k => [(0, .box [.pv (.lst 143 (rs.map pCode)), .pv (.int .i64 h)]), (1, .row true 3 ((Bt.ansFrom rs h m0 (l.take k)).map fun x => [pI x]))])
    (fun k => k ≤ l.length) (fun k => l.length - k) 100 0 (Nat.zero_le _) (by simp (maxSteps := 4000000) only [List.length_map, vcs, simprocAttr, tbs]; try simp [Bt.ansFrom]) (fun k hk => ?_)
  by_cases c1 : k < l.length
  · have d1 : decide ((k : Int) < (l.length : Int)) = true := by simpa using c1
    have e5 : (l.map pCh)[k]? = some (pCh l[k]) := by simp [c1]
    have e6 := hma k c1
    have o1 : (Bt.ansFrom rs h m0 (l.take k)).length ≤ k := by
      have := Bt.ansFrom_len rs h (l.take k) m0
      rw [List.length_take] at this
      omega
    have hs := Bt.ansFrom_snoc (rs := rs) (h := h) (m := m0) c1
    have hA := asksFor_ok (rs := rs) (h := h) (who := l[k].who) (kind := l[k].kind) (rep := l[k].reply) (m := Bt.after rs h m0 (l.take k)) hne hn (Small.of (hsz k))
    simp (maxSteps := 4000000) only [List.length_map, hml, d1, e5, e6, pCh, pMc, pInts, pI, vcs, simprocAttr, tbs]
    repeat (first | refine ftS (by kernel_rfl) ?_ | refine And.intro (by omega) ?_)
    refine aops_fn (hA) (by first | exact Nat.le_add_right _ _ | (simp only [introT, intro1, introL, intros, pI, pProg, pMc, pTh, pCh, pChs, pInts]; omega)) rfl ?_
    cases ht : Bt.asks rs h (Bt.after rs h m0 (l.take k)) l[k]
    · simp (maxSteps := 4000000) only [List.length_map, ht, hml, d1, pProg, pCh, pMc, pInts, pI, vcs, simprocAttr, tbs]
      repeat (first | refine ftS (by kernel_rfl) ?_ | refine And.intro (by omega) ?_)
      refine ⟨k + 1, by omega, by omega, ?_⟩
      simp [hs, ht, pI]
    · simp (maxSteps := 4000000) only [List.length_map, ht, hml, d1, pProg, pCh, pMc, pInts, pI, vcs, simprocAttr, tbs]
      repeat (first | refine ftS (by kernel_rfl) ?_ | refine And.intro (by omega) ?_)
      refine ⟨k + 1, by omega, by omega, ?_⟩
      simp [hs, ht, pI]
  · have d1 : decide ((k : Int) < (l.length : Int)) = false := by simpa using c1
    obtain rfl : k = l.length := by omega
    simp (maxSteps := 4000000) only [List.length_map, d1, List.take_length, pInts, pI, vcs, simprocAttr, tbs]
    repeat (first | refine ftS (by kernel_rfl) ?_ | refine And.intro (by omega) ?_)
    all_goals (first | rfl | trivial | skip)
set_option maxRecDepth 10000 in
set_option maxHeartbeats 16000000 in
theorem itapeOf_ok {rs : List Bt.C4} {h : Int} {S : List Bt.Sl} {Q : List Int} (hn : rs.length ≤ 1048576) (h1 : S.length ≤ 1048576) (h2 : Q.length ≤ 1048576) : FnOk E.P 36 [pProg rs h, pRec (S, Q)] (.str (Bt.bytes (Bt.tapeOf rs h S Q))) true := by
  have hR := (iReplay_ok (rs := rs) (h := h) (S := S) (Q := Q) hn h1 h2).read
  cases e : Bt.replay rs h S Q with
  | none =>
    rw [Bt.tapeOf_none e]
    rw [e] at hR
    refine fn_ok mixed Try.func36 rfl (by kernel_rfl) _ Try.results36 _ Try.ntmps36 (by simp) (by kernel_rfl) ?_
    simp (maxSteps := 4000000) only [List.length_map, pRec, pProg, pChs, pInts, pI, vcs, simprocAttr, tbs]
    repeat (first | refine ftS (by kernel_rfl) ?_ | refine And.intro (by omega) ?_)
    refine aops_callF (hR) (by first | exact Nat.le_add_right _ _ | (simp only [introT, intro1, introL, intros, pI, pProg, pMc, pTh, pCh, pChs, pInts]; omega)) rfl ?_
    simp (maxSteps := 4000000) only [List.length_map, bytes_nil, Option.getD_none, Option.isSome_none, List.map_nil, pRec, pProg, pChs, pInts, pI, vcs, simprocAttr, tbs]
    repeat (first | refine ftS (by kernel_rfl) ?_ | refine And.intro (by omega) ?_)
    all_goals (first | rfl | trivial | skip)
  | some l =>
    rw [Bt.tapeOf_some e]
    rw [e] at hR
    have R := Bt.replayed e
    have hne := progOk_ne (Bt.runOk_facts R.ok).1
    have hM := (iMachines_ok (rs := rs) (h := h) (l := l) hn (by have := R.few; omega)).read
    unfold machs at hM
    rw [if_pos R.ok] at hM
    have hT := Bt.tape_in R
    have hfew := R.few
    have hfewS := R.fewS
    have hsl := R.sl
    have hwk : l.length = (Bt.unans S).length := by simpa using congrArg List.length R.wks
    have hrl := (Bt.run_like R.go).2
    have hml : (alongTo rs h l l.length).length = l.length + 1 := by simp [alongTo]
    have hma : ∀ k, k ≤ l.length → (alongTo rs h l l.length)[k]? = some (pMc (Bt.after rs h Bt.mcNew (l.take k))) := fun k hk => by
      simp [alongTo, List.getElem?_range (show k < l.length + 1 by omega)]
    generalize alongTo rs h l l.length = ms at *
    obtain ⟨total, ht⟩ : ∃ x, Bt.tapeIn rs h S Bt.mcNew l = x := ⟨_, rfl⟩
    rw [ht] at hT ⊢
    refine fn_ok mixed Try.func36 rfl (by kernel_rfl) _ Try.results36 _ Try.ntmps36 (by simp) (by kernel_rfl) ?_
    simp (maxSteps := 4000000) only [List.length_map, pRec, pProg, pChs, pInts, pI, vcs, simprocAttr, tbs]
    repeat (first | refine ftS (by kernel_rfl) ?_ | refine And.intro (by omega) ?_)
    refine aops_callF (hR) (by first | exact Nat.le_add_right _ _ | (simp only [introT, intro1, introL, intros, pI, pProg, pMc, pTh, pCh, pChs, pInts]; omega)) rfl ?_
    simp (maxSteps := 4000000) only [List.length_map, bytes_nil, Option.getD_some, Option.isSome_some, pRec, pProg, pChs, pInts, pI, vcs, simprocAttr, tbs]
    repeat (first | refine ftS (by kernel_rfl) ?_ | refine And.intro (by omega) ?_)
    refine aops_callF (hM) (by first | exact Nat.le_add_right _ _ | (simp only [introT, intro1, introL, intros, pI, pProg, pMc, pTh, pCh, pChs, pInts]; omega)) rfl ?_
    simp (maxSteps := 4000000) only [List.length_map, bytes_nil, pRec, pProg, pChs, pInts, pI, vcs, simprocAttr, tbs]
    repeat (first | refine ftS (by kernel_rfl) ?_ | refine And.intro (by omega) ?_)
    refine awp_loop (X := Nat × Nat × List Int) (fun x => [(2, .ptr 0 0), (5, .pv (.lst 98 (l.map pCh))), (7, .pv (.lst 105 ms)), (8, .pv (.str (Bt.bytes x.2.2))), (9, .pv (.int .i64 x.2.1)), (25, .pv (.lst 81 (S.map pSl))), (26, .pv (.int .i64 S.length)), (27, .pv (.int .i64 x.1))])
      (fun _ => [(0, .box [.pv (.lst 143 (rs.map pCode)), .pv (.int .i64 h)])])
      (fun x => x.1 ≤ S.length ∧ x.2.1 ≤ l.length ∧ l.length - x.2.1 = (Bt.unans (S.drop x.1)).length ∧ x.2.2 ++ Bt.tapeIn rs h (S.drop x.1) (Bt.after rs h Bt.mcNew (l.take x.2.1)) (l.drop x.2.1) = total) (fun x => S.length - x.1) 100 (0, 0, [])
      ⟨Nat.zero_le _, Nat.zero_le _, hwk, ht⟩ (by simp (maxSteps := 4000000) only [List.length_map, pI, vcs, simprocAttr, tbs]; try simp [pI]) (fun x H => ?_)
    obtain ⟨k, a, T⟩ := x
    obtain ⟨i1, i2, i3, i4⟩ := H
    simp only at i1 i2 i3 i4
    have hTl : T.length ≤ 8100 := by
      have := congrArg List.length i4
      rw [List.length_append] at this
      omega
    by_cases c1 : k < S.length
    · have d1 : decide ((k : Int) < (S.length : Int)) = true := by simpa using c1
      have e5 : (S.map pSl)[k]? = some (pSl S[k]) := by simp [c1]
      rw [Bt.unans_drop c1, List.length_append, List.length_replicate] at i3
      rw [List.drop_eq_getElem_cons c1, Bt.tapeIn] at i4
      have hs := hsl _ (List.getElem_mem c1)
      generalize S[k] = s at *
      obtain ⟨who, kind, many⟩ := s
      simp only at hs i3 i4
      obtain ⟨n, rfl⟩ : ∃ n : Nat, many = n := ⟨many.toNat, by omega⟩
      rw [Int.toNat_natCast] at i3 i4
      have mw : mulW .i64 2 who = 2 * who := mulW_in ⟨by omega, by omega⟩
      have hP1 := iput_ok (n := 2 * who + kind) (by omega)
      have hP2 := iput_ok (n := (n : Int)) (by omega)
      have q1 := Bt.putNum_len (n := 2 * who + kind) (by omega)
      have q2 := Bt.putNum_len (n := (n : Int)) (by omega)
      have hall : (l.drop a).take n = (l.take (a + n)).drop a := by rw [List.drop_take]; congr 1; omega
      have e8 : (l.map pCh).take (a + n) = (l.take (a + n)).map pCh := by rw [List.map_take]
      have e9 : ((l.take (a + n)).map pCh).drop a = ((l.drop a).take n).map pCh := by rw [hall, List.map_drop]
      have hA := (answersIn_ok (rs := rs) (h := h) (m0 := Bt.after rs h Bt.mcNew (l.take a)) (l := (l.drop a).take n) (ms := (ms.take (a + n)).drop a) hne hn (by rw [List.length_take, List.length_drop]; omega)
        (by rw [List.length_take, List.length_drop, List.length_drop, List.length_take]; omega)
        (fun j hj => by
          rw [List.length_take, List.length_drop] at hj
          rw [List.getElem?_drop, List.getElem?_take, if_pos (by omega), hma _ (by omega), ← Bt.after_append, List.take_take, Nat.min_eq_left (by omega)]
          congr 3
          rw [List.take_add])
        (fun j => by rw [← Bt.after_append]; exact Bt.after_sz rs h _)).read
      have hans : ∀ x ∈ Bt.ansFrom rs h (Bt.after rs h Bt.mcNew (l.take a)) ((l.drop a).take n), x ≤ 9223372036854775807 := fun x hx => by
        have hq := hrl x (by
          rw [Bt.ansFrom_take a]
          refine List.mem_append_right _ ?_
          rw [Bt.ansFrom_take n]
          exact List.mem_append_left _ hx)
        omega
      have hanl := Bt.ansFrom_len rs h ((l.drop a).take n) (Bt.after rs h Bt.mcNew (l.take a))
      rw [List.length_take, List.length_drop] at hanl
      have haf : Bt.after rs h (Bt.after rs h Bt.mcNew (l.take a)) ((l.drop a).take n) = Bt.after rs h Bt.mcNew (l.take (a + n)) := by
        rw [← Bt.after_append, List.take_add]
      rw [haf, List.drop_drop] at i4
      generalize (l.drop a).take n = l' at *
      generalize Bt.ansFrom rs h (Bt.after rs h Bt.mcNew (l.take a)) l' = ans at *
      have hN := putNums_ok (ns := ans) (by omega) hans
      have q3 := Bt.putNums_len hans
      have es : (a : Int) + (n : Int) = ((a + n : Nat) : Int) := by omega
      have hml2 : (ms.take (a + n)).length = a + n := by rw [List.length_take]; omega
      generalize hms : (ms.take (a + n)).drop a = ms' at *
      simp (maxSteps := 4000000) only [List.length_map, d1, e5, es, pSl, pI, vcs, simprocAttr, tbs]
      repeat (first | refine ftS (by kernel_rfl) ?_ | refine And.intro (by omega) ?_)
      refine aops_fn (hP1) (by first | exact Nat.le_add_right _ _ | (simp only [introT, intro1, introL, intros, pI, pProg, pMc, pTh, pCh, pChs, pInts]; omega)) rfl ?_
      simp (maxSteps := 4000000) only [mw, List.length_map, d1, e5, es, pSl, pI, vcs, simprocAttr, tbs]
      repeat (first | refine ftS (by kernel_rfl) ?_ | refine And.intro (by omega) ?_)
      refine aops_fn (hP2) (by first | exact Nat.le_add_right _ _ | (simp only [introT, intro1, introL, intros, pI, pProg, pMc, pTh, pCh, pChs, pInts]; omega)) rfl ?_
      simp (maxSteps := 4000000) only [mw, List.length_map, ← Bt.bytes_append, Bt.bytes_size, List.length_append, hml, hms, e8, e9, es, Int.toNat_natCast, pProg, pChs, pInts, pI, vcs, simprocAttr, tbs]
      repeat (first | refine ftS (by kernel_rfl) ?_ | refine And.intro (by omega) ?_)
      refine aops_callF (hA) (by first | exact Nat.le_add_right _ _ | (simp only [introT, intro1, introL, intros, pI, pProg, pMc, pTh, pCh, pChs, pInts]; omega)) rfl ?_
      simp (maxSteps := 4000000) only [List.length_map, ← Bt.bytes_append, Bt.bytes_size, List.length_append, hml, hms, e8, e9, es, Int.toNat_natCast, pProg, pChs, pInts, pI, vcs, simprocAttr, tbs]
      repeat (first | refine ftS (by kernel_rfl) ?_ | refine And.intro (by omega) ?_)
      refine aops_fn (hN) (by first | exact Nat.le_add_right _ _ | (simp only [introT, intro1, introL, intros, pI, pProg, pMc, pTh, pCh, pChs, pInts]; omega)) rfl ?_
      simp (maxSteps := 4000000) only [List.length_map, ← Bt.bytes_append, Bt.bytes_size, List.length_append, es, pInts, pI, vcs, simprocAttr, tbs]
      repeat (first | refine ftS (by kernel_rfl) ?_ | refine And.intro (by omega) ?_)
      refine ⟨(k + 1, a + n, T ++ (Bt.putNum (2 * who + kind) ++ Bt.putNum n) ++ ans.flatMap Bt.putNum), ⟨by simp only; omega, by simp only; omega, by simp only; omega, ?_⟩, by simp only; omega, ?_⟩
      · simp only
        rw [← i4]
        simp [List.append_assoc]
      · simp [pI]
    · have d1 : decide ((k : Int) < (S.length : Int)) = false := by simpa using c1
      rw [List.drop_of_length_le (by omega), Bt.tapeIn, List.append_nil] at i4
      rw [← i4]
      simp (maxSteps := 4000000) only [List.length_map, d1, pI, vcs, simprocAttr, tbs]
      repeat (first | refine ftS (by kernel_rfl) ?_ | refine And.intro (by omega) ?_)
      all_goals (first | rfl | trivial | skip)
end Av
end Go.Proofs.Ytemogjmghgfdfaa
