/-
  Recordings told plainly: a run's slices and its answers.
  What impl's helpers of RecordOf hand back.
  What impl.answersOf and impl.RecordOf hand back.
-/
import Derived.Test.YtdjenlnomibniaaGreatIThr
set_option linter.unusedSimpArgs false
set_option linter.unusedVariables false
namespace Go.Proofs.YtdjenlnomibniaaGreat
open Go.RowKit
namespace Bt
structure Sl where
  who : Int
  kind : Int
  many : Int
/-- one more choice behind slices -/
def addSl (o : List Sl) (c : Ch) : List Sl := match o.getLast? with
  | some s => if s.who = c.who ∧ s.kind = c.kind then o.dropLast ++ [⟨s.who, s.kind, s.many + 1⟩] else o ++ [⟨c.who, c.kind, 1⟩]
  | none => o ++ [⟨c.who, c.kind, 1⟩]
def slicesOf (l : List Ch) : List Sl := l.foldl addSl []
def asks (rs : List C4) (h : Int) (m : Mc) (c : Ch) : Bool := match instrOf rs h m c.who with
  | some x => x.op == 13 && c.kind == 0
  | none => false
def answersTo (rs : List C4) (h : Int) (l : List Ch) : Nat → List Int
  | 0 => []
  | k + 1 => answersTo rs h l k ++ (match l[k]? with
    | some c => if asks rs h (after rs h mcNew (l.take k)) c then [c.reply] else []
    | none => [])
theorem slicesOf_snoc {l : List Ch} {k : Nat} (hk : k < l.length) : slicesOf (l.take (k + 1)) = addSl (slicesOf (l.take k)) l[k] := by
  rw [slicesOf, slicesOf, List.take_add_one, List.getElem?_eq_getElem hk, Option.toList_some, List.foldl_append]
  rfl
theorem addSl_nil (c : Ch) : addSl [] c = [⟨c.who, c.kind, 1⟩] := rfl
theorem addSl_same (o : List Sl) (s : Sl) (c : Ch) (h : s.who = c.who ∧ s.kind = c.kind) : addSl (o ++ [s]) c = o ++ [⟨s.who, s.kind, s.many + 1⟩] := by
  simp [addSl, h]
theorem addSl_other (o : List Sl) (s : Sl) (c : Ch) (h : ¬ (s.who = c.who ∧ s.kind = c.kind)) : addSl (o ++ [s]) c = o ++ [s] ++ [⟨c.who, c.kind, 1⟩] := by
  simp [addSl, h]
theorem addSl_len (o : List Sl) (c : Ch) : (addSl o c).length ≤ o.length + 1 := by
  rcases List.eq_nil_or_concat o with rfl | ⟨o', s, rfl⟩
  · simp [addSl_nil]
  · rw [List.concat_eq_append]
    by_cases e : s.who = c.who ∧ s.kind = c.kind
    · rw [addSl_same _ _ _ e]; simp
    · rw [addSl_other _ _ _ e]; simp
theorem addSl_many {o : List Sl} {c : Ch} {k : Nat} (h : ∀ s ∈ o, 1 ≤ s.many ∧ s.many ≤ k) : ∀ s ∈ addSl o c, 1 ≤ s.many ∧ s.many ≤ (k + 1 : Nat) := by
  rcases List.eq_nil_or_concat o with rfl | ⟨o', s, rfl⟩
  · intro s hs
    rw [addSl_nil] at hs
    obtain rfl := List.mem_singleton.1 hs
    simp only
    omega
  · rw [List.concat_eq_append] at h ⊢
    intro x hx
    by_cases e : s.who = c.who ∧ s.kind = c.kind
    · rw [addSl_same _ _ _ e] at hx
      rcases List.mem_append.1 hx with hx | hx
      · have := h x (List.mem_append_left _ hx)
        omega
      · obtain rfl := List.mem_singleton.1 hx
        have := h s (by simp)
        simp only
        omega
    · rw [addSl_other _ _ _ e] at hx
      rcases List.mem_append.1 hx with hx | hx
      · have := h x hx
        omega
      · obtain rfl := List.mem_singleton.1 hx
        simp only
        omega
theorem slices_ok (l : List Ch) : ∀ k, k ≤ l.length → (slicesOf (l.take k)).length ≤ k ∧ ∀ s ∈ slicesOf (l.take k), 1 ≤ s.many ∧ s.many ≤ k
  | 0, _ => by simp [slicesOf]
  | k + 1, hk => by
    obtain ⟨h1, h2⟩ := slices_ok l k (by omega)
    rw [slicesOf_snoc (by omega)]
    have := addSl_len (slicesOf (l.take k)) l[k]
    exact ⟨by omega, addSl_many h2⟩
theorem answersTo_snoc {rs : List C4} {h : Int} {l : List Ch} {k : Nat} (hk : k < l.length) : answersTo rs h l (k + 1) = answersTo rs h l k ++ (if asks rs h (after rs h mcNew (l.take k)) l[k] then [l[k].reply] else []) := by
  rw [answersTo, List.getElem?_eq_getElem hk]
theorem answers_len (rs : List C4) (h : Int) (l : List Ch) : ∀ k, (answersTo rs h l k).length ≤ k
  | 0 => by simp [answersTo]
  | k + 1 => by
    have := answers_len rs h l k
    rw [answersTo, List.length_append]
    have : (match l[k]? with
      | some c => if asks rs h (after rs h mcNew (l.take k)) c then [c.reply] else []
      | none => []).length ≤ 1 := by
      split
      · split <;> simp
      · simp
    omega
/-- what RecordOf hands back -/
def recOf (rs : List C4) (h : Int) (l : List Ch) : List Sl × List Int := if runOk rs h l then (slicesOf l, answersTo rs h l l.length) else ([], [])
end Bt
namespace Av
def pSl (s : Bt.Sl) : List PV := [pI s.who, pI s.kind, pI s.many]
def pRec (r : List Bt.Sl × List Int) : PV := .agg [.lst 114 (r.1.map pSl), pInts r.2]
end Av
end Go.Proofs.YtdjenlnomibniaaGreat

set_option linter.unusedSimpArgs false
set_option linter.unusedVariables false
namespace Go.Proofs.YtdjenlnomibniaaGreat
open Go.RowKit
namespace Av
theorem sameTurn_ok (a b c a' b' c' : Int) : FnOk E.P 120 [.agg [pI a, pI b, pI c], .agg [pI a', pI b', pI c']] (.bool (a == a' && b == b')) true := by
  cases h1 : a == a' <;> cases h2 : b == b'
  all_goals
    refine fn_ok mixed Tryz.func120 rfl (by kernel_rfl) _ Tryz.results120 _ Tryz.ntmps120 (by simp) (by kernel_rfl) ?_
    simp (maxSteps := 4000000) only [h1, h2, Bool.and_true, Bool.and_false, Bool.false_and, Bool.true_and, pI, tvs, simprocAttr]
    repeat (first | refine ftS (by kernel_rfl) ?_ | refine And.intro (by omega) ?_)
    all_goals (first | rfl | trivial | skip)
set_option maxHeartbeats 4000000 in
theorem asksFor_ok {rs : List Bt.C4} {h who kind rep : Int} {m : Bt.Mc} (hne : rs ≠ []) (hn : rs.length ≤ 1048576) (hm : Small m) : FnOk E.P 121 [pProg rs h, .agg (pMc m), .agg (pCh ⟨who, kind, rep⟩)] (.bool (Bt.asks rs h m ⟨who, kind, rep⟩)) true := by
  have hI := (instr_ok (rs := rs) (h := h) (m := m) (who := who) hne hn hm).read
  unfold Bt.asks
  simp only
  generalize Bt.instrOf rs h m who = X at *
  cases X with
  | none =>
    refine fn_ok mixed Tryz.func121 rfl (by kernel_rfl) _ Tryz.results121 _ Tryz.ntmps121 (by simp) (by kernel_rfl) ?_
    simp (maxSteps := 4000000) only [pProg, pMc, pCh, pInts, pI, tvs, simprocAttr]
    repeat (first | refine ftS (by kernel_rfl) ?_ | refine And.intro (by omega) ?_)
    refine aops_callF (hI) (hidB rfl) rfl ?_
    simp (maxSteps := 4000000) only [Option.getD_none, Option.isSome_none, pProg, pMc, pCh, pCode, pInts, pI, tvs, simprocAttr]
    repeat (first | refine ftS (by kernel_rfl) ?_ | refine And.intro (by omega) ?_)
    all_goals (first | rfl | trivial | skip)
  | some x =>
    obtain ⟨op, xa, xb, xc⟩ := x
    simp only
    refine fn_ok mixed Tryz.func121 rfl (by kernel_rfl) _ Tryz.results121 _ Tryz.ntmps121 (by simp) (by kernel_rfl) ?_
    simp (maxSteps := 4000000) only [pProg, pMc, pCh, pInts, pI, tvs, simprocAttr]
    repeat (first | refine ftS (by kernel_rfl) ?_ | refine And.intro (by omega) ?_)
    refine aops_callF (hI) (hidB rfl) rfl ?_
    cases d1 : op == 13 <;> cases d2 : kind == 0
    all_goals
      simp (maxSteps := 4000000) only [d1, d2, Bool.and_true, Bool.and_false, Bool.false_and, Bool.true_and, Option.getD_some, Option.isSome_some, pProg, pMc, pCh, pCode, pInts, pI, tvs, simprocAttr]
      repeat (first | refine ftS (by kernel_rfl) ?_ | refine And.intro (by omega) ?_)
      all_goals (first | rfl | trivial | skip)
set_option maxRecDepth 10000 in
set_option maxHeartbeats 8000000 in
theorem slicesOf_ok {l : List Bt.Ch} (hl : l.length ≤ 1048576) : FnOk E.P 85 [pChs l] (.lst 114 ((Bt.slicesOf l).map pSl)) true := by
  refine fn_ok mixed Tryz.func85 rfl (by kernel_rfl) _ Tryz.results85 _ Tryz.ntmps85 (by simp) (by kernel_rfl) ?_
  simp (maxSteps := 4000000) only [pChs, pI, tvs, simprocAttr]
  repeat (first | refine ftS (by kernel_rfl) ?_ | refine And.intro (by omega) ?_)
  refine awp_loop (X := Nat) (fun k => [(3, .sl 0), (9, .pv (.lst 99 (l.map pCh))), (10, .pv (.int .i64 l.length)), (11, .pv (.int .i64 k))])
    (fun k => [(0, .row true 114 ((Bt.slicesOf (l.take k)).map pSl))])
    (fun k => k ≤ l.length) (fun k => l.length - k) 100 0 (Nat.zero_le _) (by simp (maxSteps := 4000000) only [tvs, simprocAttr]; simp [Bt.slicesOf]) (fun k hk => ?_)
  by_cases c1 : k < l.length
  · have d1 : decide ((k : Int) < (l.length : Int)) = true := by simpa using c1
    have e5 : (l.map pCh)[k]? = some (pCh l[k]) := by simp [c1]
    obtain ⟨o1, o2⟩ := Bt.slices_ok l k hk
    have hs := Bt.slicesOf_snoc c1
    generalize l[k] = c at *
    generalize Bt.slicesOf (l.take k) = o at *
    obtain ⟨who, kind, rep⟩ := c
    rcases List.eq_nil_or_concat o with rfl | ⟨o', s, rfl⟩
    · have d0 : decide ((-1 : Int) ≥ 0) = false := by decide
      simp (maxSteps := 4000000) only [d0, d1, e5, List.map_nil, List.length_nil, pCh, pI, tvl, simprocAttr]
      repeat (first | refine ftS (by kernel_rfl) ?_ | refine And.intro (by omega) ?_)
      refine aops_fnN rfl (by simp (maxSteps := 4000000) only [d0, d1, e5, List.map_nil, List.length_nil, pCh, pI, tvl, simprocAttr]) ?_
      simp (maxSteps := 4000000) only [d0, d1, e5, List.map_nil, List.length_nil, pCh, pI, tvl, simprocAttr]
      repeat (first | refine ftS (by kernel_rfl) ?_ | refine And.intro (by omega) ?_)
      refine ⟨k + 1, by omega, by omega, ?_⟩
      simp [hs, Bt.addSl_nil, pSl, pI]
    · rw [List.concat_eq_append] at *
      obtain ⟨a, b, n⟩ := s
      have hn1 := o2 ⟨a, b, n⟩ (by simp)
      simp only at hn1
      have hol : o'.length + 1 ≤ k := by simpa using o1
      have e6 : (o' ++ [(⟨a, b, n⟩ : Bt.Sl)]).length = o'.length + 1 := by simp
      have e7 : ((o'.length + 1 : Nat) : Int) - 1 = (o'.length : Int) := by omega
      have e8 : ((o' ++ [(⟨a, b, n⟩ : Bt.Sl)]).map pSl)[o'.length]? = some [pI a, pI b, pI n] := by simp [pSl]
      have d2 : decide ((o'.length : Int) ≥ 0) = true := by simp
      have hT := sameTurn_ok a b n who kind 1
      generalize ht : (a == who && b == kind) = t at *
      cases t
      · have hs' := Bt.addSl_other o' ⟨a, b, n⟩ ⟨who, kind, rep⟩ (by simpa using ht)
        simp (maxSteps := 4000000) only [d1, d2, e5, e6, e7, e8, pCh, pI, tvl, simprocAttr]
        repeat (first | refine ftS (by kernel_rfl) ?_ | refine And.intro (by omega) ?_)
        refine aops_fnG (hT) (hidB rfl) rfl rfl (by simp (maxSteps := 4000000) only [d1, d2, e5, e6, e7, e8, pI, tvl, simprocAttr]) ?_
        simp (maxSteps := 4000000) only [d1, d2, e5, e6, e7, e8, pCh, pI, tvl, simprocAttr]
        repeat (first | refine ftS (by kernel_rfl) ?_ | refine And.intro (by omega) ?_)
        refine ⟨k + 1, by omega, by omega, ?_⟩
        simp [hs, hs', pSl, pI]
      · have hs' := Bt.addSl_same o' ⟨a, b, n⟩ ⟨who, kind, rep⟩ (by simpa using ht)
        simp (maxSteps := 4000000) only [d1, d2, e5, e6, e7, e8, pCh, pI, tvl, simprocAttr]
        repeat (first | refine ftS (by kernel_rfl) ?_ | refine And.intro (by omega) ?_)
        refine aops_fnG (hT) (hidB rfl) rfl rfl (by simp (maxSteps := 4000000) only [d1, d2, e5, e6, e7, e8, pI, tvl, simprocAttr]) ?_
        simp (maxSteps := 4000000) only [d1, d2, e5, e6, e7, e8, pCh, pI, tvl, simprocAttr]
        repeat (first | refine ftS (by kernel_rfl) ?_ | refine And.intro (by omega) ?_)
        refine ⟨k + 1, by omega, by omega, ?_⟩
        simp [hs, hs', pSl, pI]
  · have d1 : decide ((k : Int) < (l.length : Int)) = false := by simpa using c1
    obtain rfl : k = l.length := by omega
    simp (maxSteps := 4000000) only [d1, List.take_length, pI, tvl, simprocAttr]
    repeat (first | refine ftS (by kernel_rfl) ?_ | refine And.intro (by omega) ?_)
    all_goals (first | rfl | trivial | skip)
end Av
end Go.Proofs.YtdjenlnomibniaaGreat

set_option linter.unusedSimpArgs false
set_option linter.unusedVariables false
namespace Go.Proofs.YtdjenlnomibniaaGreat
open Go.RowKit
namespace Av
set_option maxRecDepth 10000 in
set_option maxHeartbeats 8000000 in
theorem answersOf_ok {rs : List Bt.C4} {h : Int} {l : List Bt.Ch} (hne : rs ≠ []) (hn : rs.length ≤ 1048576) (hl : l.length ≤ 1048576) : FnOk E.P 86 [pProg rs h, .lst 54 (alongTo rs h l l.length), pChs l] (pInts (Bt.answersTo rs h l l.length)) true := by
  have hml : (alongTo rs h l l.length).length = l.length + 1 := by simp [alongTo]
  have hma : ∀ k, k ≤ l.length → (alongTo rs h l l.length)[k]? = some (pMc (Bt.after rs h Bt.mcNew (l.take k))) := fun k hk => by
    simp [alongTo, List.getElem?_range (show k < l.length + 1 by omega)]
  generalize alongTo rs h l l.length = ms at *
  refine fn_ok mixed Tryz.func86 rfl (by kernel_rfl) _ Tryz.results86 _ Tryz.ntmps86 (by simp) (by kernel_rfl) ?_
  simp (maxSteps := 4000000) only [pProg, pChs, pI, tvs, simprocAttr]
  repeat (first | refine ftS (by kernel_rfl) ?_ | refine And.intro (by omega) ?_)
  refine awp_loop (X := Nat) (fun k => [(1, .pv (.lst 54 ms)), (3, .ptr 0 0), (7, .sl 1), (11, .pv (.lst 99 (l.map pCh))), (12, .pv (.int .i64 l.length)), (13, .pv (.int .i64 k))])
    (fun k => [(0, .box [.pv (.lst 116 (rs.map pCode)), .pv (.int .i64 h)]), (1, .row true 3 ((Bt.answersTo rs h l k).map fun x => [pI x]))])
    (fun k => k ≤ l.length) (fun k => l.length - k) 100 0 (Nat.zero_le _) (by simp (maxSteps := 4000000) only [tvl, simprocAttr]; try simp [Bt.answersTo]) (fun k hk => ?_)
  by_cases c1 : k < l.length
  · have d1 : decide ((k : Int) < (l.length : Int)) = true := by simpa using c1
    have e5 : (l.map pCh)[k]? = some (pCh l[k]) := by simp [c1]
    have e6 := hma k hk
    have o1 := Bt.answers_len rs h l k
    have hs := Bt.answersTo_snoc (rs := rs) (h := h) c1
    have hA := asksFor_ok (rs := rs) (h := h) (who := l[k].who) (kind := l[k].kind) (rep := l[k].reply) (m := Bt.after rs h Bt.mcNew (l.take k)) hne hn (Small.of (Bt.after_sz rs h _))
    simp (maxSteps := 4000000) only [hml, d1, e5, e6, pCh, pMc, pInts, pI, tvl, simprocAttr]
    repeat (first | refine ftS (by kernel_rfl) ?_ | refine And.intro (by omega) ?_)
    refine aops_fn (hA) (hidB rfl) rfl ?_
    cases ht : Bt.asks rs h (Bt.after rs h Bt.mcNew (l.take k)) l[k]
    · simp (maxSteps := 4000000) only [ht, hml, d1, pProg, pCh, pMc, pInts, pI, tvl, simprocAttr]
      repeat (first | refine ftS (by kernel_rfl) ?_ | refine And.intro (by omega) ?_)
      refine ⟨k + 1, by omega, by omega, ?_⟩
      simp [hs, ht, pI]
    · simp (maxSteps := 4000000) only [ht, hml, d1, pProg, pCh, pMc, pInts, pI, tvl, simprocAttr]
      repeat (first | refine ftS (by kernel_rfl) ?_ | refine And.intro (by omega) ?_)
      refine ⟨k + 1, by omega, by omega, ?_⟩
      simp [hs, ht, pI]
  · have d1 : decide ((k : Int) < (l.length : Int)) = false := by simpa using c1
    obtain rfl : k = l.length := by omega
    simp (maxSteps := 4000000) only [d1, pInts, pI, tvl, simprocAttr]
    repeat (first | refine ftS (by kernel_rfl) ?_ | refine And.intro (by omega) ?_)
    all_goals (first | rfl | trivial | skip)
set_option maxRecDepth 10000 in
set_option maxHeartbeats 8000000 in
theorem iRecordOf_ok {rs : List Bt.C4} {h : Int} {l : List Bt.Ch} (hn : rs.length ≤ 1048576) (hl : l.length ≤ 1048576) : FnOk E.P 41 [pProg rs h, pChs l] (.tup [pRec (Bt.recOf rs h l), .bool (Bt.runOk rs h l)]) true := by
  have hM := (iMachines_ok (rs := rs) (h := h) (l := l) hn hl).read
  unfold machs at hM
  unfold Bt.recOf
  cases ho : Bt.runOk rs h l
  · simp only [ho, Bool.false_eq_true, if_false] at hM
    refine fn_ok mixed Tryz.func41 rfl (by kernel_rfl) _ Tryz.results41 _ Tryz.ntmps41 (by simp) (by kernel_rfl) ?_
    simp (maxSteps := 4000000) only [pProg, pChs, pI, tvs, simprocAttr]
    repeat (first | refine ftS (by kernel_rfl) ?_ | refine And.intro (by omega) ?_)
    refine aops_callF (hM) (hidB rfl) rfl ?_
    simp (maxSteps := 4000000) only [Bool.false_eq_true, if_false, List.map_nil, List.length_nil, pRec, pProg, pChs, pInts, pI, tvs, simprocAttr]
    repeat (first | refine ftS (by kernel_rfl) ?_ | refine And.intro (by omega) ?_)
    all_goals (first | rfl | trivial | skip)
  · simp only [ho, if_true] at hM
    have hne := progOk_ne (Bt.runOk_facts ho).1
    have hml : (alongTo rs h l l.length).length = l.length + 1 := by simp [alongTo]
    have d1 : (((l.length + 1 : Nat) : Int) == 0) = false := by simp; omega
    have hS := slicesOf_ok (l := l) hl
    have hA := answersOf_ok (rs := rs) (h := h) (l := l) hne hn hl
    refine fn_ok mixed Tryz.func41 rfl (by kernel_rfl) _ Tryz.results41 _ Tryz.ntmps41 (by simp) (by kernel_rfl) ?_
    simp (maxSteps := 4000000) only [pProg, pChs, pI, tvs, simprocAttr]
    repeat (first | refine ftS (by kernel_rfl) ?_ | refine And.intro (by omega) ?_)
    refine aops_callF (hM) (hidB rfl) rfl ?_
    simp (maxSteps := 4000000) only [hml, d1, if_true, pRec, pProg, pChs, pInts, pI, tvs, simprocAttr]
    repeat (first | refine ftS (by kernel_rfl) ?_ | refine And.intro (by omega) ?_)
    refine aops_fn (hS) (hidB rfl) rfl ?_
    simp (maxSteps := 4000000) only [hml, d1, if_true, pRec, pProg, pChs, pInts, pI, tvs, simprocAttr]
    repeat (first | refine ftS (by kernel_rfl) ?_ | refine And.intro (by omega) ?_)
    refine aops_fn (hA) (hidB rfl) rfl ?_
    simp (maxSteps := 4000000) only [hml, d1, if_true, pRec, pProg, pChs, pInts, pI, tvs, simprocAttr]
    repeat (first | refine ftS (by kernel_rfl) ?_ | refine And.intro (by omega) ?_)
    all_goals (first | rfl | trivial | skip)
end Av
end Go.Proofs.YtdjenlnomibniaaGreat
