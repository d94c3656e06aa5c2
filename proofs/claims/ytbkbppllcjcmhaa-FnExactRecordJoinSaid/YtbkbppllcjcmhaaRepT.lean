/-
  What spec.RecordOk and spec.Replay hand back.
  What spec.Replay hands back.
-/
import Derived.Test.YtbkbppllcjcmhaaRepP
set_option linter.unusedSimpArgs false
set_option linter.unusedVariables false
namespace Go.Proofs.Ytbkbppllcjcmhaa
open Go.RowKit
namespace Av
theorem many_all {S : List Bt.Sl} {k : Nat} (hk : k < S.length) (h : ∀ s ∈ S.take k, 1 ≤ s.many) (h' : 1 ≤ S[k].many) : ∀ s ∈ S.take (k + 1), 1 ≤ s.many := by
  rw [List.take_succ_eq_append_getElem hk]
  intro s hs
  rcases List.mem_append.1 hs with hs | hs
  · exact h s hs
  · obtain rfl := List.mem_singleton.1 hs
    exact h'
theorem apart_all {S : List Bt.Sl} (h : Bt.apartTo S (S.length - 1) = true) : Bt.apart S = true := h
theorem apart_next {S : List Bt.Sl} {j : Nat} (hj : j + 1 < S.length) (h : Bt.apartTo S j = true) : Bt.apartTo S (j + 1) = !(S[j].who == S[j + 1].who && S[j].kind == S[j + 1].kind) := by
  rw [Bt.apartTo, h, List.getElem?_eq_getElem (show j < S.length by omega), List.getElem?_eq_getElem hj, Bool.true_and]
  rfl
theorem apart_no {S : List Bt.Sl} {rs : List Bt.C4} {h : Int} {Q : List Int} {j : Nat} (hj : j + 1 < S.length) (ha : Bt.apartTo S (j + 1) = false) : Bt.replay rs h S Q = none := by
  unfold Bt.replay
  rw [if_neg]
  intro hx
  have := hx.2.2.1
  unfold Bt.apart at this
  rw [Bt.apartTo_no ha _ (by omega)] at this
  cases this
/-- the first loop of a text -/
def firstLoop : Code → Option Code
  | .loop c => some c
  | .seq a b => match firstLoop a with
    | some c => some c
    | none => firstLoop b
  | .block _ b => firstLoop b
  | .scope b => firstLoop b
  | .cond _ a b => match firstLoop a with
    | some c => some c
    | none => firstLoop b
  | _ => none
set_option maxRecDepth 10000 in
set_option maxHeartbeats 16000000 in
theorem rok_first {rs : List Bt.C4} {h : Int} {S : List Bt.Sl} {Q : List Int} (hn : rs.length ≤ 1048576) (h1 : S.length ≤ 1048576) (h2 : Q.length ≤ 1048576) {k : Nat} (c3 : k < S.length) (hk0 : k = 0) (c4 : ¬ S[k].many < 1) (hm : ∀ s ∈ S.take k, 1 ≤ s.many) {fn : Func} {c0 c : Code} (hf : E.P.funcs[68]? = some fn) (hb : fn.body = some c0) (hc : firstLoop c0 = some c) {K : Post} (_ : True) :
    awp E c (roundQ (X := Nat) (fun k => [(2, .ptr 0 0), (3, .ptr 1 0), (5, .pv (.int .i64 k))]) (fun k => [(0, .box [.pv (.lst 141 (rs.map pCode)), .pv (.int .i64 h)]), (1, .box [.pv (.lst 104 (S.map pSl)), .pv (.lst 3 (Q.map fun x => [pI x]))])]) (fun k => k ≤ S.length ∧ (∀ s ∈ S.take k, 1 ≤ s.many) ∧ Bt.apartTo S (k - 1) = true) (fun k => S.length - k) 100 k K) (mkS ((fun k => [(2, .ptr 0 0), (3, .ptr 1 0), (5, .pv (.int .i64 k))]) k) ((fun k => [(0, .box [.pv (.lst 141 (rs.map pCode)), .pv (.int .i64 h)]), (1, .box [.pv (.lst 104 (S.map pSl)), .pv (.lst 3 (Q.map fun x => [pI x]))])]) k)) 100 := by
  obtain rfl := Option.some.inj (hf.symm.trans Try.func68)
  obtain rfl := Option.some.inj hb
  simp only [firstLoop] at hc
  obtain rfl := Option.some.inj hc
  have d3 : decide ((k : Int) < (S.length : Int)) = true := by simpa using c3
  have e5 : (S.map pSl)[k]? = some (pSl S[k]) := by simp [c3]
  have d4 : decide (S[k].many < 1) = false := by simpa using c4
  have hm' := many_all c3 hm (by omega)
  have d5 : decide ((k : Int) > 0) = false := by simp; omega
  generalize S[k] = sk at *
  simp only [mkS]
  simp (maxSteps := 4000000) only [e5, d3, d4, d5, pSl, pI, tvl, simprocAttr]
  repeat (first | refine ftS (by kernel_rfl) ?_ | refine And.intro (by omega) ?_)
  refine ⟨k + 1, ⟨by omega, hm', by subst hk0; rfl⟩, by omega, ?_⟩
  simp
set_option maxRecDepth 10000 in
set_option maxHeartbeats 16000000 in
theorem rok_who {rs : List Bt.C4} {h : Int} {S : List Bt.Sl} {Q : List Int} (hn : rs.length ≤ 1048576) (h1 : S.length ≤ 1048576) (h2 : Q.length ≤ 1048576) {k : Nat} (c3 : k < S.length) (hk0 : 0 < k) (c4 : ¬ S[k].many < 1) (hm : ∀ s ∈ S.take k, 1 ≤ s.many) (ha : Bt.apartTo S (k - 1) = true) (t1 : (S[k - 1].who == S[k].who) = false) {fn : Func} {c0 c : Code} (hf : E.P.funcs[68]? = some fn) (hb : fn.body = some c0) (hc : firstLoop c0 = some c) {K : Post} (_ : True) :
    awp E c (roundQ (X := Nat) (fun k => [(2, .ptr 0 0), (3, .ptr 1 0), (5, .pv (.int .i64 k))]) (fun k => [(0, .box [.pv (.lst 141 (rs.map pCode)), .pv (.int .i64 h)]), (1, .box [.pv (.lst 104 (S.map pSl)), .pv (.lst 3 (Q.map fun x => [pI x]))])]) (fun k => k ≤ S.length ∧ (∀ s ∈ S.take k, 1 ≤ s.many) ∧ Bt.apartTo S (k - 1) = true) (fun k => S.length - k) 100 k K) (mkS ((fun k => [(2, .ptr 0 0), (3, .ptr 1 0), (5, .pv (.int .i64 k))]) k) ((fun k => [(0, .box [.pv (.lst 141 (rs.map pCode)), .pv (.int .i64 h)]), (1, .box [.pv (.lst 104 (S.map pSl)), .pv (.lst 3 (Q.map fun x => [pI x]))])]) k)) 100 := by
  obtain rfl := Option.some.inj (hf.symm.trans Try.func68)
  obtain rfl := Option.some.inj hb
  simp only [firstLoop] at hc
  obtain rfl := Option.some.inj hc
  have d3 : decide ((k : Int) < (S.length : Int)) = true := by simpa using c3
  have e5 : (S.map pSl)[k]? = some (pSl S[k]) := by simp [c3]
  obtain ⟨j, rfl⟩ : ∃ j, k = j + 1 := ⟨k - 1, by omega⟩
  have d4 : decide (S[j + 1].many < 1) = false := by simpa using c4
  have hm' := many_all c3 hm (by omega)
  have d5 : decide (((j + 1 : Nat) : Int) > 0) = true := by simp <;> omega
  have e4 : ((j + 1 : Nat) : Int) - 1 = (j : Int) := by omega
  have e6 : (S.map pSl)[j]? = some (pSl S[j]) := by simp [show j < S.length by omega]
  rw [Nat.add_sub_cancel] at ha
  have hst := apart_next c3 ha
  have hno := fun e => apart_no (rs := rs) (h := h) (Q := Q) c3 e
  simp only [show j + 1 - 1 = j from rfl] at t1
  generalize S[j] = sj at *
  generalize S[j + 1] = sk at *
  simp only [mkS]
  rw [t1] at hst
  simp (maxSteps := 4000000) only [e4, e5, e6, t1, d3, d4, d5, pSl, pI, tvl, simprocAttr]
  repeat (first | refine ftS (by kernel_rfl) ?_ | refine And.intro (by omega) ?_)
  refine ⟨j + 1 + 1, ⟨by omega, hm', by simpa using hst⟩, by omega, ?_⟩
  simp
set_option maxRecDepth 10000 in
set_option maxHeartbeats 16000000 in
theorem rok_kind {rs : List Bt.C4} {h : Int} {S : List Bt.Sl} {Q : List Int} (hn : rs.length ≤ 1048576) (h1 : S.length ≤ 1048576) (h2 : Q.length ≤ 1048576) {k : Nat} (c3 : k < S.length) (hk0 : 0 < k) (c4 : ¬ S[k].many < 1) (hm : ∀ s ∈ S.take k, 1 ≤ s.many) (ha : Bt.apartTo S (k - 1) = true) (t1 : (S[k - 1].who == S[k].who) = true) (t2 : (S[k - 1].kind == S[k].kind) = false) {fn : Func} {c0 c : Code} (hf : E.P.funcs[68]? = some fn) (hb : fn.body = some c0) (hc : firstLoop c0 = some c) {K : Post} (_ : True) :
    awp E c (roundQ (X := Nat) (fun k => [(2, .ptr 0 0), (3, .ptr 1 0), (5, .pv (.int .i64 k))]) (fun k => [(0, .box [.pv (.lst 141 (rs.map pCode)), .pv (.int .i64 h)]), (1, .box [.pv (.lst 104 (S.map pSl)), .pv (.lst 3 (Q.map fun x => [pI x]))])]) (fun k => k ≤ S.length ∧ (∀ s ∈ S.take k, 1 ≤ s.many) ∧ Bt.apartTo S (k - 1) = true) (fun k => S.length - k) 100 k K) (mkS ((fun k => [(2, .ptr 0 0), (3, .ptr 1 0), (5, .pv (.int .i64 k))]) k) ((fun k => [(0, .box [.pv (.lst 141 (rs.map pCode)), .pv (.int .i64 h)]), (1, .box [.pv (.lst 104 (S.map pSl)), .pv (.lst 3 (Q.map fun x => [pI x]))])]) k)) 100 := by
  obtain rfl := Option.some.inj (hf.symm.trans Try.func68)
  obtain rfl := Option.some.inj hb
  simp only [firstLoop] at hc
  obtain rfl := Option.some.inj hc
  have d3 : decide ((k : Int) < (S.length : Int)) = true := by simpa using c3
  have e5 : (S.map pSl)[k]? = some (pSl S[k]) := by simp [c3]
  obtain ⟨j, rfl⟩ : ∃ j, k = j + 1 := ⟨k - 1, by omega⟩
  have d4 : decide (S[j + 1].many < 1) = false := by simpa using c4
  have hm' := many_all c3 hm (by omega)
  have d5 : decide (((j + 1 : Nat) : Int) > 0) = true := by simp <;> omega
  have e4 : ((j + 1 : Nat) : Int) - 1 = (j : Int) := by omega
  have e6 : (S.map pSl)[j]? = some (pSl S[j]) := by simp [show j < S.length by omega]
  rw [Nat.add_sub_cancel] at ha
  have hst := apart_next c3 ha
  have hno := fun e => apart_no (rs := rs) (h := h) (Q := Q) c3 e
  simp only [show j + 1 - 1 = j from rfl] at t1 t2
  generalize S[j] = sj at *
  generalize S[j + 1] = sk at *
  simp only [mkS]
  rw [t1, t2] at hst
  simp (maxSteps := 4000000) only [e4, e5, e6, t1, t2, d3, d4, d5, pSl, pI, tvl, simprocAttr]
  repeat (first | refine ftS (by kernel_rfl) ?_ | refine And.intro (by omega) ?_)
  refine ⟨j + 1 + 1, ⟨by omega, hm', by simpa using hst⟩, by omega, ?_⟩
  simp
set_option maxRecDepth 10000 in
set_option maxHeartbeats 16000000 in
theorem sRecordOk_ok {rs : List Bt.C4} {h : Int} {S : List Bt.Sl} {Q : List Int} (hn : rs.length ≤ 1048576) (h1 : S.length ≤ 1048576) (h2 : Q.length ≤ 1048576) : FnOk E.P 68 [pProg rs h, pRec (S, Q)] (.bool (Bt.replay rs h S Q).isSome) true := by
  refine fn_ok mixed Try.func68 rfl (by kernel_rfl) _ Try.results68 _ Try.ntmps68 (by simp) (by kernel_rfl) ?_
  simp (maxSteps := 4000000) only [pRec, pProg, pInts, pI, tvl, simprocAttr]
  repeat (first | refine ftS (by kernel_rfl) ?_ | refine And.intro (by omega) ?_)
  refine awp_loop (X := Nat) (fun k => [(2, .ptr 0 0), (3, .ptr 1 0), (5, .pv (.int .i64 k))])
    (fun k => [(0, .box [.pv (.lst 141 (rs.map pCode)), .pv (.int .i64 h)]), (1, .box [.pv (.lst 104 (S.map pSl)), .pv (.lst 3 (Q.map fun x => [pI x]))])])
    (fun k => k ≤ S.length ∧ (∀ s ∈ S.take k, 1 ≤ s.many) ∧ Bt.apartTo S (k - 1) = true) (fun k => S.length - k) 100 0 ⟨Nat.zero_le _, by simp, rfl⟩ (by simp (maxSteps := 4000000) only [pI, tvl, simprocAttr]; try simp [pI]) (fun k hk => ?_)
  obtain ⟨hk, hm, ha⟩ := hk
  by_cases c3 : k < S.length
  · have d3 : decide ((k : Int) < (S.length : Int)) = true := by simpa using c3
    have e5 : (S.map pSl)[k]? = some (pSl S[k]) := by simp [c3]
    by_cases c4 : S[k].many < 1
    · have d4 : decide (S[k].many < 1) = true := by simpa using c4
      have hr : Bt.replay rs h S Q = none := Bt.replay_no (List.getElem_mem c3) c4
      generalize S[k] = sk at *
      simp (maxSteps := 4000000) only [hr, Option.isSome_none, e5, d3, d4, pSl, pI, tvl, simprocAttr]
      repeat (first | refine ftS (by kernel_rfl) ?_ | refine And.intro (by omega) ?_)
      all_goals (first | rfl | trivial | skip)
    by_cases c5 : k = 0
    · exact rok_first hn h1 h2 c3 c5 c4 hm Try.func68 rfl rfl trivial
    · cases t1 : (S[k - 1]'(by omega)).who == S[k].who
      · exact rok_who hn h1 h2 c3 (by omega) c4 hm ha t1 Try.func68 rfl rfl trivial
      · cases t2 : (S[k - 1]'(by omega)).kind == S[k].kind
        · exact rok_kind hn h1 h2 c3 (by omega) c4 hm ha t1 t2 Try.func68 rfl rfl trivial
        · have d4 : decide (S[k].many < 1) = false := by simpa using c4
          obtain ⟨j, rfl⟩ : ∃ j, k = j + 1 := ⟨k - 1, by omega⟩
          have d5 : decide (((j + 1 : Nat) : Int) > 0) = true := by simp <;> omega
          have e4 : ((j + 1 : Nat) : Int) - 1 = (j : Int) := by omega
          have e6 : (S.map pSl)[j]? = some (pSl S[j]) := by simp [show j < S.length by omega]
          rw [Nat.add_sub_cancel] at ha
          simp only [show j + 1 - 1 = j from rfl] at t1 t2
          have hst := apart_next c3 ha
          have hno := fun e => apart_no (rs := rs) (h := h) (Q := Q) c3 e
          generalize S[j] = sj at *
          generalize S[j + 1] = sk at *
          rw [t1, t2] at hst
          have hr := hno (by simpa using hst)
          simp (maxSteps := 4000000) only [hr, Option.isSome_none, e4, e5, e6, t1, t2, d3, d4, d5, pSl, pI, tvl, simprocAttr]
          repeat (first | refine ftS (by kernel_rfl) ?_ | refine And.intro (by omega) ?_)
          all_goals (first | rfl | trivial | skip)
  · have d3 : decide ((k : Int) < (S.length : Int)) = false := by simpa using c3
    obtain rfl : k = S.length := by omega
    rw [List.take_length] at hm
    have hap := apart_all ha
    have hP := l4Play_ok (rs := rs) (h := h) (S := S) (Q := Q) hn h1 h2
    have hr := Bt.replay_is (rs := rs) (h := h) (Q := Q) hm
    generalize Bt.runS rs h Q (Bt.unans S) [] 0 Bt.mcNew = R at *
    obtain ⟨o, u, ok⟩ := R
    simp only [hap, true_and] at hr hP
    simp (maxSteps := 4000000) only [d3, pProg, pInts, pI, tvl, simprocAttr]
    repeat (first | refine ftS (by kernel_rfl) ?_ | refine And.intro (by omega) ?_)
    refine aops_fn (hP) (hidB rfl) rfl ?_
    simp (maxSteps := 4000000) only [pProg, pRec, pChs, pInts, pI, tvl, simprocAttr]
    repeat (first | refine ftS (by kernel_rfl) ?_ | refine And.intro (by omega) ?_)
    refine aops_fn (sprog_ok (rs := rs) (h := h) hn) (hidB rfl) rfl ?_
    cases hp : Bt.progOk rs h
    · rw [hp] at hr
      simp only [Bool.false_eq_true, false_and, if_false] at hr
      simp (maxSteps := 4000000) only [hr, Option.isSome_none, pProg, pRec, pChs, pInts, pI, tvl, simprocAttr]
      repeat (first | refine ftS (by kernel_rfl) ?_ | refine And.intro (by omega) ?_)
      all_goals (first | rfl | trivial | skip)
    · cases ok
      · simp only [hp, Bool.false_eq_true, false_and, and_false, if_false] at hr
        simp (maxSteps := 4000000) only [hr, Option.isSome_none, pProg, pRec, pChs, pInts, pI, tvl, simprocAttr]
        repeat (first | refine ftS (by kernel_rfl) ?_ | refine And.intro (by omega) ?_)
        all_goals (first | rfl | trivial | skip)
      · by_cases c6 : u = Q.length
        · have d6 : ((u : Int) == (Q.length : Int)) = true := by simp; omega
          rw [if_pos ⟨hp, rfl, c6⟩] at hr
          simp (maxSteps := 4000000) only [hr, d6, Option.isSome_some, pProg, pRec, pChs, pInts, pI, tvl, simprocAttr]
          repeat (first | refine ftS (by kernel_rfl) ?_ | refine And.intro (by omega) ?_)
          all_goals (first | rfl | trivial | skip)
        · have d6 : ((u : Int) == (Q.length : Int)) = false := by simp; omega
          rw [if_neg (fun hx => c6 hx.2.2)] at hr
          simp (maxSteps := 4000000) only [hr, d6, Option.isSome_none, pProg, pRec, pChs, pInts, pI, tvl, simprocAttr]
          repeat (first | refine ftS (by kernel_rfl) ?_ | refine And.intro (by omega) ?_)
          all_goals (first | rfl | trivial | skip)
end Av
end Go.Proofs.Ytbkbppllcjcmhaa

set_option linter.unusedSimpArgs false
set_option linter.unusedVariables false
namespace Go.Proofs.Ytbkbppllcjcmhaa
open Go.RowKit
namespace Av
theorem runS_le {rs : List Bt.C4} {h : Int} {Q : List Int} : ∀ {l o : List Bt.Ch} {u : Nat} {m : Bt.Mc}, o.length ≤ 300 → (Bt.runS rs h Q l o u m).1.length ≤ 300
  | [], o, u, m, ho => by simpa [Bt.runS] using ho
  | c :: l, o, u, m, ho => by
    unfold Bt.runS
    split
    · split
      · exact ho
      · split
        · exact ho
        · split
          · exact ho
          · exact runS_le (by simp; omega)
    · split
      · exact ho
      · split
        · exact ho
        · exact runS_le (by simp; omega)
theorem many_of {rs : List Bt.C4} {h : Int} {S : List Bt.Sl} {Q : List Int} (hr : (Bt.replay rs h S Q).isSome = true) : ∀ s ∈ S, 1 ≤ s.many := fun s hs => by
  rcases Int.lt_or_le s.many 1 with hlt | hle
  · rw [Bt.replay_no hs hlt] at hr; cases hr
  · exact hle
end Av
end Go.Proofs.Ytbkbppllcjcmhaa
