/-
  Recordings told plainly: a run's slices and its answers.
  What impl's helpers of RecordOf hand back.
  What impl.answersOf and impl.RecordOf hand back.
-/
import Derived.Test.YtbkbppllcjcmhaaIThr
set_option linter.unusedSimpArgs false
set_option linter.unusedVariables false
namespace Go.Proofs.Ytbkbppllcjcmhaa
open Go.RowKit
namespace Bt
structure Sl where
  who : Int
  kind : Int
  many : Int
/-- one more choice behind slices -/
def addSl (o : List Sl) (c : Ch) : List Sl := match o.getLast? with
  | some s => if s.who = c.who ∧ s.kind = c.kind then o.dropLast ++ [⟨s.who, s.kind, s.many + 1⟩] else o ++ [⟨c.who, c.kind, 1⟩]
  | none => o ++ [⟨c.who, c.kind, 1⟩]
def slicesOf (l : List Ch) : List Sl := l.foldl addSl []
def asks (rs : List C4) (h : Int) (m : Mc) (c : Ch) : Bool := match instrOf rs h m c.who with
  | some x => x.op == 13 && c.kind == 0
  | none => false
def answersTo (rs : List C4) (h : Int) (l : List Ch) : Nat → List Int
  | 0 => []
  | k + 1 => answersTo rs h l k ++ (match l[k]? with
    | some c => if asks rs h (after rs h mcNew (l.take k)) c then [c.reply] else []
    | none => [])
theorem slicesOf_snoc {l : List Ch} {k : Nat} (hk : k < l.length) : slicesOf (l.take (k + 1)) = addSl (slicesOf (l.take k)) l[k] := by
  rw [slicesOf, slicesOf, List.take_add_one, List.getElem?_eq_getElem hk, Option.toList_some, List.foldl_append]
  rfl
theorem addSl_nil (c : Ch) : addSl [] c = [⟨c.who, c.kind, 1⟩] := rfl
theorem addSl_same (o : List Sl) (s : Sl) (c : Ch) (h : s.who = c.who ∧ s.kind = c.kind) : addSl (o ++ [s]) c = o ++ [⟨s.who, s.kind, s.many + 1⟩] := by
  simp [addSl, h]
theorem addSl_other (o : List Sl) (s : Sl) (c : Ch) (h : ¬ (s.who = c.who ∧ s.kind = c.kind)) : addSl (o ++ [s]) c = o ++ [s] ++ [⟨c.who, c.kind, 1⟩] := by
  simp [addSl, h]
theorem addSl_len (o : List Sl) (c : Ch) : (addSl o c).length ≤ o.length + 1 := by
  rcases List.eq_nil_or_concat o with rfl | ⟨o', s, rfl⟩
  · simp [addSl_nil]
  · rw [List.concat_eq_append]
    by_cases e : s.who = c.who ∧ s.kind = c.kind
    · rw [addSl_same _ _ _ e]; simp
    · rw [addSl_other _ _ _ e]; simp
theorem addSl_many {o : List Sl} {c : Ch} {k : Nat} (h : ∀ s ∈ o, 1 ≤ s.many ∧ s.many ≤ k) : ∀ s ∈ addSl o c, 1 ≤ s.many ∧ s.many ≤ (k + 1 : Nat) := by
  rcases List.eq_nil_or_concat o with rfl | ⟨o', s, rfl⟩
  · intro s hs
    rw [addSl_nil] at hs
    obtain rfl := List.mem_singleton.1 hs
    simp only
    omega
  · rw [List.concat_eq_append] at h ⊢
    intro x hx
    by_cases e : s.who = c.who ∧ s.kind = c.kind
    · rw [addSl_same _ _ _ e] at hx
      rcases List.mem_append.1 hx with hx | hx
      · have := h x (List.mem_append_left _ hx)
        omega
      · obtain rfl := List.mem_singleton.1 hx
        have := h s (by simp)
        simp only
        omega
    · rw [addSl_other _ _ _ e] at hx
      rcases List.mem_append.1 hx with hx | hx
      · have := h x hx
        omega
      · obtain rfl := List.mem_singleton.1 hx
        simp only
        omega
theorem slices_ok (l : List Ch) : ∀ k, k ≤ l.length → (slicesOf (l.take k)).length ≤ k ∧ ∀ s ∈ slicesOf (l.take k), 1 ≤ s.many ∧ s.many ≤ k
  | 0, _ => by simp [slicesOf]
  | k + 1, hk => by
    obtain ⟨h1, h2⟩ := slices_ok l k (by omega)
    rw [slicesOf_snoc (by omega)]
    have := addSl_len (slicesOf (l.take k)) l[k]
    exact ⟨by omega, addSl_many h2⟩
theorem answersTo_snoc {rs : List C4} {h : Int} {l : List Ch} {k : Nat} (hk : k < l.length) : answersTo rs h l (k + 1) = answersTo rs h l k ++ (if asks rs h (after rs h mcNew (l.take k)) l[k] then [l[k].reply] else []) := by
  rw [answersTo, List.getElem?_eq_getElem hk]
theorem answers_len (rs : List C4) (h : Int) (l : List Ch) : ∀ k, (answersTo rs h l k).length ≤ k
  | 0 => by simp [answersTo]
  | k + 1 => by
    have := answers_len rs h l k
    rw [answersTo, List.length_append]
    have : (match l[k]? with
      | some c => if asks rs h (after rs h mcNew (l.take k)) c then [c.reply] else []
      | none => []).length ≤ 1 := by
      split
      · split <;> simp
      · simp
    omega
/-- what RecordOf hands back -/
def recOf (rs : List C4) (h : Int) (l : List Ch) : List Sl × List Int := if runOk rs h l then (slicesOf l, answersTo rs h l l.length) else ([], [])
end Bt
namespace Av
def pSl (s : Bt.Sl) : List PV := [pI s.who, pI s.kind, pI s.many]
def pRec (r : List Bt.Sl × List Int) : PV := .agg [.lst 104 (r.1.map pSl), pInts r.2]
end Av
end Go.Proofs.Ytbkbppllcjcmhaa

set_option linter.unusedSimpArgs false
set_option linter.unusedVariables false
namespace Go.Proofs.Ytbkbppllcjcmhaa
open Go.RowKit
namespace Av
theorem sameTurn_ok (a b c a' b' c' : Int) : FnOk E.P 106 [.agg [pI a, pI b, pI c], .agg [pI a', pI b', pI c']] (.bool (a == a' && b == b')) true := by
  cases h1 : a == a' <;> cases h2 : b == b'
  all_goals
    refine fn_ok mixed Try.func106 rfl (by kernel_rfl) _ Try.results106 _ Try.ntmps106 (by simp) (by kernel_rfl) ?_
    simp (maxSteps := 4000000) only [h1, h2, Bool.and_true, Bool.and_false, Bool.false_and, Bool.true_and, pI, tvs, simprocAttr]
    repeat (first | refine ftS (by kernel_rfl) ?_ | refine And.intro (by omega) ?_)
    all_goals (first | rfl | trivial | skip)
set_option maxHeartbeats 4000000 in
theorem asksFor_ok {rs : List Bt.C4} {h who kind rep : Int} {m : Bt.Mc} (hne : rs ≠ []) (hn : rs.length ≤ 1048576) (hm : Small m) : FnOk E.P 135 [pProg rs h, .agg (pMc m), .agg (pCh ⟨who, kind, rep⟩)] (.bool (Bt.asks rs h m ⟨who, kind, rep⟩)) true := by
  have hI := (instr_ok (rs := rs) (h := h) (m := m) (who := who) hne hn hm).read
  unfold Bt.asks
  simp only
  generalize Bt.instrOf rs h m who = X at *
  cases X with
  | none =>
    refine fn_ok mixed Try.func135 rfl (by kernel_rfl) _ Try.results135 _ Try.ntmps135 (by simp) (by kernel_rfl) ?_
    simp (maxSteps := 4000000) only [pProg, pMc, pCh, pInts, pI, tvs, simprocAttr]
    repeat (first | refine ftS (by kernel_rfl) ?_ | refine And.intro (by omega) ?_)
    refine aops_callF (hI) (hidB rfl) rfl ?_
    simp (maxSteps := 4000000) only [Option.getD_none, Option.isSome_none, pProg, pMc, pCh, pCode, pInts, pI, tvs, simprocAttr]
    repeat (first | refine ftS (by kernel_rfl) ?_ | refine And.intro (by omega) ?_)
    all_goals (first | rfl | trivial | skip)
  | some x =>
    obtain ⟨op, xa, xb, xc⟩ := x
    simp only
    refine fn_ok mixed Try.func135 rfl (by kernel_rfl) _ Try.results135 _ Try.ntmps135 (by simp) (by kernel_rfl) ?_
    simp (maxSteps := 4000000) only [pProg, pMc, pCh, pInts, pI, tvs, simprocAttr]
    repeat (first | refine ftS (by kernel_rfl) ?_ | refine And.intro (by omega) ?_)
    refine aops_callF (hI) (hidB rfl) rfl ?_
    cases d1 : op == 13 <;> cases d2 : kind == 0
    all_goals
      simp (maxSteps := 4000000) only [d1, d2, Bool.and_true, Bool.and_false, Bool.false_and, Bool.true_and, Option.getD_some, Option.isSome_some, pProg, pMc, pCh, pCode, pInts, pI, tvs, simprocAttr]
      repeat (first | refine ftS (by kernel_rfl) ?_ | refine And.intro (by omega) ?_)
      all_goals (first | rfl | trivial | skip)
end Av
end Go.Proofs.Ytbkbppllcjcmhaa

set_option linter.unusedSimpArgs false
set_option linter.unusedVariables false
namespace Go.Proofs.Ytbkbppllcjcmhaa
open Go.RowKit
namespace Av
end Av
end Go.Proofs.Ytbkbppllcjcmhaa
