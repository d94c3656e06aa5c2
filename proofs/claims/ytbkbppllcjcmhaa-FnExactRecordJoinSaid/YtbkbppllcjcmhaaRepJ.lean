/-
  What impl's helpers of Replay hand back.
  What impl.unanswered, impl.answered, impl.Replay and impl.RecordOk hand back.
-/
import Derived.Test.YtbkbppllcjcmhaaIRec
import Derived.Test.YtbkbppllcjcmhaaISeed
set_option linter.unusedSimpArgs false
set_option linter.unusedVariables false
namespace Go.Proofs.Ytbkbppllcjcmhaa
open Go.RowKit
namespace Bt
def fitSl (s : Sl) : Bool := decide (1 ≤ s.many) && decide (s.many ≤ 300)
def fits (S : List Sl) (Q : List Int) : Bool := decide (S.length ≤ 300) && decide (Q.length ≤ 300) && S.all fitSl
def manyIn : List Sl → Int
  | [] => 0
  | s :: S => s.many + manyIn S
def unans (S : List Sl) : List Ch := S.flatMap fun s => List.replicate s.many.toNat ⟨s.who, s.kind, 0⟩
def turnSame (a b : Sl) : Bool := a.who == b.who && a.kind == b.kind
/-- no two of the first k pairs side by side could be one -/
def apartTo (S : List Sl) : Nat → Bool
  | 0 => true
  | k + 1 => apartTo S k && (match S[k]?, S[k + 1]? with
    | some a, some b => !(turnSame a b)
    | _, _ => true)
def apart (S : List Sl) : Bool := apartTo S (S.length - 1)
theorem apartTo_no {S : List Sl} {k : Nat} (h : apartTo S k = false) : ∀ n, k ≤ n → apartTo S n = false
  | 0, hn => by obtain rfl : k = 0 := by omega
                exact h
  | n + 1, hn => by
    by_cases e : k = n + 1
    · subst e; exact h
    · rw [apartTo, apartTo_no h n (by omega), Bool.false_and]
theorem manyIn_append (a b : List Sl) : manyIn (a ++ b) = manyIn a + manyIn b := by
  induction a with
  | nil => simp [manyIn]
  | cons x a ih => simp [manyIn, ih]; omega
theorem manyIn_bounds : ∀ {S : List Sl} (_ : S.all fitSl = true), 0 ≤ manyIn S ∧ manyIn S ≤ 300 * S.length
  | [], _ => by simp [manyIn]
  | s :: S, h => by
    simp only [List.all_cons, Bool.and_eq_true] at h
    obtain ⟨h0, h1⟩ := h
    have := manyIn_bounds h1
    simp only [fitSl, Bool.and_eq_true, decide_eq_true_eq] at h0
    simp only [manyIn, List.length_cons]
    omega
theorem all_take {S : List Sl} (h : S.all fitSl = true) (k : Nat) : (S.take k).all fitSl = true := by
  rw [List.all_eq_true] at h ⊢
  exact fun x hx => h x (List.mem_of_mem_take hx)
end Bt
namespace Av
set_option maxHeartbeats 4000000 in
theorem fitsRun_ok {S : List Bt.Sl} {Q : List Int} (h1 : S.length ≤ 1048576) (h2 : Q.length ≤ 1048576) : FnOk E.P 72 [pRec (S, Q)] (.bool (Bt.fits S Q)) true := by
  refine fn_ok mixed Try.func72 rfl (by kernel_rfl) _ Try.results72 _ Try.ntmps72 (by simp) (by kernel_rfl) ?_
  by_cases c1 : S.length > 300
  · have d1 : decide ((S.length : Int) > 300) = true := by simp; omega
    have hr : Bt.fits S Q = false := by simp [Bt.fits]; omega
    simp (maxSteps := 4000000) only [hr, d1, pRec, pInts, pI, tvl, simprocAttr]
    repeat (first | refine ftS (by kernel_rfl) ?_ | refine And.intro (by omega) ?_)
    all_goals (first | rfl | trivial | skip)
  have d1 : decide ((S.length : Int) > 300) = false := by simp; omega
  by_cases c2 : Q.length > 300
  · have d2 : decide ((Q.length : Int) > 300) = true := by simp; omega
    have hr : Bt.fits S Q = false := by simp [Bt.fits]; omega
    simp (maxSteps := 4000000) only [hr, d1, d2, pRec, pInts, pI, tvl, simprocAttr]
    repeat (first | refine ftS (by kernel_rfl) ?_ | refine And.intro (by omega) ?_)
    all_goals (first | rfl | trivial | skip)
  have d2 : decide ((Q.length : Int) > 300) = false := by simp; omega
  have hf : Bt.fits S Q = S.all Bt.fitSl := by
    simp only [Bt.fits]
    rw [decide_eq_true (by omega), decide_eq_true (by omega)]
    rfl
  simp (maxSteps := 4000000) only [d1, d2, pRec, pInts, pI, tvl, simprocAttr]
  repeat (first | refine ftS (by kernel_rfl) ?_ | refine And.intro (by omega) ?_)
  refine awp_loop (X := Nat) (fun k => [(16, .pv (.lst 104 (S.map pSl))), (17, .pv (.int .i64 S.length)), (18, .pv (.int .i64 k))])
    (fun k => []) (fun k => k ≤ S.length ∧ (S.take k).all Bt.fitSl = true) (fun k => S.length - k) 100 0 ⟨Nat.zero_le _, rfl⟩ (by simp (maxSteps := 4000000) only [tvl, simprocAttr]; try simp) (fun k hk => ?_)
  obtain ⟨hk, ha⟩ := hk
  by_cases c3 : k < S.length
  · have d3 : decide ((k : Int) < (S.length : Int)) = true := by simpa using c3
    have e5 : (S.map pSl)[k]? = some (pSl S[k]) := by simp [c3]
    have hmem : S[k] ∈ S := List.getElem_mem c3
    have hst : (S.take (k + 1)).all Bt.fitSl = ((S.take k).all Bt.fitSl && Bt.fitSl S[k]) := by
      rw [List.take_succ_eq_append_getElem c3, List.all_append]; simp
    by_cases c4 : S[k].many < 1
    · have d4 : decide (S[k].many < 1) = true := by simpa using c4
      have hr : S.all Bt.fitSl = false := by
        rw [List.all_eq_false]
        exact ⟨S[k], hmem, by simp [Bt.fitSl]; omega⟩
      simp (maxSteps := 4000000) only [hf, hr, e5, d3, d4, pSl, pI, tvl, simprocAttr]
      repeat (first | refine ftS (by kernel_rfl) ?_ | refine And.intro (by omega) ?_)
      all_goals (first | rfl | trivial | skip)
    have d4 : decide (S[k].many < 1) = false := by simpa using c4
    by_cases c5 : S[k].many > 300
    · have d5 : decide (S[k].many > 300) = true := by simpa using c5
      have hr : S.all Bt.fitSl = false := by
        rw [List.all_eq_false]
        exact ⟨S[k], hmem, by simp [Bt.fitSl]; omega⟩
      simp (maxSteps := 4000000) only [hf, hr, e5, d3, d4, d5, pSl, pI, tvl, simprocAttr]
      repeat (first | refine ftS (by kernel_rfl) ?_ | refine And.intro (by omega) ?_)
      all_goals (first | rfl | trivial | skip)
    have d5 : decide (S[k].many > 300) = false := by simpa using c5
    simp (maxSteps := 4000000) only [hf, e5, d3, d4, d5, pSl, pI, tvl, simprocAttr]
    repeat (first | refine ftS (by kernel_rfl) ?_ | refine And.intro (by omega) ?_)
    refine ⟨k + 1, ⟨by omega, by rw [hst, ha]; simp [Bt.fitSl]; omega⟩, by omega, ?_⟩
    simp
  · have d3 : decide ((k : Int) < (S.length : Int)) = false := by simpa using c3
    rw [List.take_of_length_le (by omega)] at ha
    simp (maxSteps := 4000000) only [hf, ha, d3, pI, tvl, simprocAttr]
    repeat (first | refine ftS (by kernel_rfl) ?_ | refine And.intro (by omega) ?_)
    all_goals (first | rfl | trivial | skip)
set_option maxHeartbeats 4000000 in
theorem slicesApart_ok {S : List Bt.Sl} (h1 : S.length ≤ 1048576) : FnOk E.P 124 [.lst 104 (S.map pSl)] (.bool (Bt.apart S)) true := by
  refine fn_ok mixed Try.func124 rfl (by kernel_rfl) _ Try.results124 _ Try.ntmps124 (by simp) (by kernel_rfl) ?_
  simp (maxSteps := 4000000) only [pI, tvl, simprocAttr]
  repeat (first | refine ftS (by kernel_rfl) ?_ | refine And.intro (by omega) ?_)
  refine awp_loop (X := Nat) (fun k => [(0, .pv (.lst 104 (S.map pSl))), (3, .pv (.int .i64 (k + 1 : Nat)))])
    (fun k => []) (fun k => k ≤ S.length ∧ Bt.apartTo S k = true) (fun k => S.length - k) 100 0 ⟨Nat.zero_le _, rfl⟩ (by simp (maxSteps := 4000000) only [tvl, simprocAttr]; try simp) (fun k hk => ?_)
  obtain ⟨hk, ha⟩ := hk
  by_cases c3 : k + 1 < S.length
  · have d3 : decide (((k + 1 : Nat) : Int) < (S.length : Int)) = true := by simp; omega
    have e4 : ((k + 1 : Nat) : Int) - 1 = (k : Int) := by omega
    have e5 : (S.map pSl)[k + 1]? = some (pSl S[k + 1]) := by simp [c3]
    have e6 : (S.map pSl)[k]? = some (pSl S[k]) := by simp [show k < S.length by omega]
    have hT := sameTurn_ok S[k].who S[k].kind S[k].many S[k + 1].who S[k + 1].kind S[k + 1].many
    have hs : Bt.apartTo S (k + 1) = !(S[k].who == S[k + 1].who && S[k].kind == S[k + 1].kind) := by
      rw [Bt.apartTo, ha, List.getElem?_eq_getElem (show k < S.length by omega), List.getElem?_eq_getElem c3, Bool.true_and]
      rfl
    simp (maxSteps := 4000000) only [e4, e5, e6, d3, pSl, pI, tvl, simprocAttr]
    repeat (first | refine ftS (by kernel_rfl) ?_ | refine And.intro (by omega) ?_)
    refine aops_fn (hT) (hidB rfl) rfl ?_
    generalize (S[k].who == S[k + 1].who && S[k].kind == S[k + 1].kind) = t at *
    cases t
    · simp (maxSteps := 4000000) only [d3, pSl, pI, tvl, simprocAttr]
      repeat (first | refine ftS (by kernel_rfl) ?_ | refine And.intro (by omega) ?_)
      refine ⟨k + 1, ⟨by omega, by rw [hs]; rfl⟩, by omega, ?_⟩
      simp
    · have hr : Bt.apart S = false := Bt.apartTo_no (by rw [hs]; rfl) _ (by omega)
      simp (maxSteps := 4000000) only [hr, d3, pSl, pI, tvl, simprocAttr]
      repeat (first | refine ftS (by kernel_rfl) ?_ | refine And.intro (by omega) ?_)
      all_goals (first | rfl | trivial | skip)
  · have d3 : decide (((k + 1 : Nat) : Int) < (S.length : Int)) = false := by simp; omega
    have hr : Bt.apart S = true := by
      unfold Bt.apart
      cases h0 : Bt.apartTo S (S.length - 1) with
      | true => rfl
      | false => rw [Bt.apartTo_no h0 k (by omega)] at ha; cases ha
    simp (maxSteps := 4000000) only [hr, d3, pI, tvl, simprocAttr]
    repeat (first | refine ftS (by kernel_rfl) ?_ | refine And.intro (by omega) ?_)
    all_goals (first | rfl | trivial | skip)
set_option maxHeartbeats 4000000 in
theorem choicesIn_ok {S : List Bt.Sl} (h1 : S.length ≤ 300) (hf : S.all Bt.fitSl = true) : FnOk E.P 125 [.lst 104 (S.map pSl)] (pI (Bt.manyIn S)) true := by
  refine fn_ok mixed Try.func125 rfl (by kernel_rfl) _ Try.results125 _ Try.ntmps125 (by simp) (by kernel_rfl) ?_
  simp (maxSteps := 4000000) only [pI, tvl, simprocAttr]
  repeat (first | refine ftS (by kernel_rfl) ?_ | refine And.intro (by omega) ?_)
  refine awp_loop (X := Nat) (fun k => [(3, .pv (.int .i64 (Bt.manyIn (S.take k)))), (6, .pv (.lst 104 (S.map pSl))), (7, .pv (.int .i64 S.length)), (8, .pv (.int .i64 k))])
    (fun k => []) (fun k => k ≤ S.length) (fun k => S.length - k) 100 0 (Nat.zero_le _) (by simp (maxSteps := 4000000) only [tvl, simprocAttr]; try simp [Bt.manyIn]) (fun k hk => ?_)
  by_cases c3 : k < S.length
  · have d3 : decide ((k : Int) < (S.length : Int)) = true := by simpa using c3
    have e5 : (S.map pSl)[k]? = some (pSl S[k]) := by simp [c3]
    have hm : Bt.manyIn (S.take (k + 1)) = Bt.manyIn (S.take k) + S[k].many := by
      rw [List.take_succ_eq_append_getElem c3, Bt.manyIn_append]
      simp [Bt.manyIn]
    have b1 := Bt.manyIn_bounds (Bt.all_take hf k)
    have b2 := Bt.manyIn_bounds (Bt.all_take hf (k + 1))
    rw [List.length_take] at b1 b2
    simp (maxSteps := 4000000) only [e5, d3, pSl, pI, tvl, simprocAttr]
    repeat (first | refine ftS (by kernel_rfl) ?_ | refine And.intro (by omega) ?_)
    refine ⟨k + 1, by omega, by omega, ?_⟩
    simp [hm]
  · have d3 : decide ((k : Int) < (S.length : Int)) = false := by simpa using c3
    have ht : S.take k = S := List.take_of_length_le (by omega)
    simp (maxSteps := 4000000) only [ht, d3, pI, tvl, simprocAttr]
    repeat (first | refine ftS (by kernel_rfl) ?_ | refine And.intro (by omega) ?_)
    all_goals (first | rfl | trivial | skip)
end Av
end Go.Proofs.Ytbkbppllcjcmhaa

set_option linter.unusedSimpArgs false
set_option linter.unusedVariables false
namespace Go.Proofs.Ytbkbppllcjcmhaa
open Go.RowKit
namespace Bt
def playDo (rs : List C4) (h : Int) (out : List Ch) (u : Nat) (m : Mc) (c : Ch) : Option (List Ch × Nat × Mc) := match doM rs h m c with
  | none => none
  | some m' => some (out ++ [c], u, m')
def playStep (rs : List C4) (h : Int) (Q : List Int) (out : List Ch) (u : Nat) (m : Mc) (c : Ch) : Option (List Ch × Nat × Mc) :=
  if asks rs h m c then (match Q[u]? with
    | none => none
    | some a => playDo rs h out (u + 1) m ⟨c.who, c.kind, a⟩)
  else playDo rs h out u m c
def playTo (rs : List C4) (h : Int) (Q : List Int) (l : List Ch) : Nat → Option (List Ch × Nat × Mc)
  | 0 => some ([], 0, mcNew)
  | k + 1 => match playTo rs h Q l k, l[k]? with
    | some (out, u, m), some c => playStep rs h Q out u m c
    | _, _ => none
def answered (rs : List C4) (h : Int) (l : List Ch) (Q : List Int) : Option (List Ch) := match playTo rs h Q l l.length with
  | some (out, u, _) => if u = Q.length then some out else none
  | none => none
theorem playTo_no {rs : List C4} {h : Int} {Q : List Int} {l : List Ch} {k : Nat} (e : playTo rs h Q l k = none) : ∀ n, k ≤ n → playTo rs h Q l n = none
  | 0, hn => by obtain rfl : k = 0 := by omega
                exact e
  | n + 1, hn => by
    by_cases c : k = n + 1
    · subst c; exact e
    · rw [playTo, playTo_no e n (by omega)]
theorem playTo_succ {rs : List C4} {h : Int} {Q : List Int} {l : List Ch} {k u : Nat} {out : List Ch} {m : Mc} (e : playTo rs h Q l k = some (out, u, m)) (hk : k < l.length) : playTo rs h Q l (k + 1) = playStep rs h Q out u m l[k] := by
  rw [playTo, e, List.getElem?_eq_getElem hk]
def PlayInv (rs : List C4) (h : Int) (Q : List Int) (l : List Ch) (x : Nat × List Ch × Nat × Mc) : Prop :=
  x.1 ≤ l.length ∧ playTo rs h Q l x.1 = some x.2 ∧ x.2.1.length = x.1 ∧ x.2.2.1 ≤ Q.length ∧ mcSz x.2.2.2 ≤ 1048576
theorem play_start {rs : List C4} {h : Int} {Q : List Int} {l : List Ch} : PlayInv rs h Q l (0, [], 0, mcNew) := ⟨Nat.zero_le _, rfl, rfl, Nat.zero_le _, by show mcSz mcNew ≤ 1048576; decide⟩
theorem play_no {rs : List C4} {h : Int} {Q : List Int} {l : List Ch} {k : Nat} (e : playTo rs h Q l k = none) (hk : k ≤ l.length) : answered rs h l Q = none := by
  unfold answered
  rw [playTo_no e _ hk]
theorem play_end {rs : List C4} {h : Int} {Q : List Int} {l : List Ch} {u : Nat} {out : List Ch} {m : Mc} (e : playTo rs h Q l l.length = some (out, u, m)) : answered rs h l Q = if u = Q.length then some out else none := by
  unfold answered
  rw [e]
theorem unans_len (T : List Sl) : T.all fitSl = true → (unans T).length ≤ 300 * T.length := by
  induction T with
  | nil => simp [unans]
  | cons s T ih =>
    intro hT
    simp only [List.all_cons, Bool.and_eq_true, fitSl, decide_eq_true_eq] at hT
    have := ih hT.2
    simp only [unans, List.flatMap_cons, List.length_append, List.length_replicate, List.length_cons] at *
    omega
theorem fits_facts {S : List Sl} {Q : List Int} (h : fits S Q = true) : S.length ≤ 300 ∧ Q.length ≤ 300 ∧ S.all fitSl = true := by
  simpa [fits, and_assoc] using h
/-- what Replay hands back -/
def replay (rs : List C4) (h : Int) (S : List Sl) (Q : List Int) : Option (List Ch) := if progOk rs h = true ∧ fits S Q = true ∧ apart S = true ∧ manyIn S ≤ 300 then answered rs h (unans S) Q else none
end Bt
namespace Av
set_option maxHeartbeats 4000000 in
theorem unanswered_ok {S : List Bt.Sl} (h1 : S.length ≤ 300) (hf : S.all Bt.fitSl = true) : FnOk E.P 127 [.lst 104 (S.map pSl)] (pChs (Bt.unans S)) true := by
  have hlen := Bt.unans_len
  refine fn_ok mixed Try.func127 rfl (by kernel_rfl) _ Try.results127 _ Try.ntmps127 (by simp) (by kernel_rfl) ?_
  simp (maxSteps := 4000000) only [pI, tvl, simprocAttr]
  repeat (first | refine ftS (by kernel_rfl) ?_ | refine And.intro (by omega) ?_)
  refine awp_loop (X := Nat) (fun k => [(3, .sl 0), (8, .pv (.lst 104 (S.map pSl))), (9, .pv (.int .i64 S.length)), (10, .pv (.int .i64 k))])
    (fun k => [(0, .row true 122 ((Bt.unans (S.take k)).map pCh))]) (fun k => k ≤ S.length) (fun k => S.length - k) 100 0 (Nat.zero_le _) (by simp (maxSteps := 4000000) only [tvl, simprocAttr]; try simp [Bt.unans]) (fun k hk => ?_)
  by_cases c3 : k < S.length
  · have d3 : decide ((k : Int) < (S.length : Int)) = true := by simpa using c3
    have e5 : (S.map pSl)[k]? = some (pSl S[k]) := by simp [c3]
    have hs : Bt.unans (S.take (k + 1)) = Bt.unans (S.take k) ++ List.replicate S[k].many.toNat ⟨S[k].who, S[k].kind, 0⟩ := by
      rw [List.take_succ_eq_append_getElem c3, Bt.unans, List.flatMap_append]
      simp [Bt.unans]
    have hb := hlen _ (Bt.all_take hf k)
    rw [List.length_take] at hb
    have hfs : Bt.fitSl S[k] = true := List.all_eq_true.1 hf _ (List.getElem_mem c3)
    simp only [Bt.fitSl, Bool.and_eq_true, decide_eq_true_eq] at hfs
    generalize S[k] = s at *
    obtain ⟨who, kind, many⟩ := s
    simp only at hfs hs
    simp (maxSteps := 4000000) only [e5, d3, pSl, pI, tvl, simprocAttr]
    repeat (first | refine ftS (by kernel_rfl) ?_ | refine And.intro (by omega) ?_)
    refine awp_loop (X := Nat) (fun i => [(3, .sl 0), (5, .ptr 1 0), (6, .pv (.int .i64 i)), (8, .pv (.lst 104 (S.map pSl))), (9, .pv (.int .i64 S.length)), (10, .pv (.int .i64 k))])
      (fun i => [(0, .row true 122 ((Bt.unans (S.take k) ++ List.replicate i (⟨who, kind, 0⟩ : Bt.Ch)).map pCh)), (1, .box [.pv (.int .i64 who), .pv (.int .i64 kind), .pv (.int .i64 many)])]) (fun i => i ≤ many.toNat) (fun i => many.toNat - i) 100 0 (Nat.zero_le _) (by simp (maxSteps := 4000000) only [tvl, simprocAttr]; try simp [pI]) (fun i hi => ?_)
    by_cases c4 : i < many.toNat
    · have d4 : decide ((i : Int) < many) = true := by simp; omega
      simp (maxSteps := 4000000) only [List.length_append, List.length_replicate, d4, pI, tvl, simprocAttr]
      repeat (first | refine ftS (by kernel_rfl) ?_ | refine And.intro (by omega) ?_)
      refine ⟨i + 1, by omega, by omega, ?_⟩
      simp [List.replicate_succ', pCh, pI]
    · have d4 : decide ((i : Int) < many) = false := by simp; omega
      obtain rfl : i = many.toNat := by omega
      simp (maxSteps := 4000000) only [d4, pI, tvl, simprocAttr]
      repeat (first | refine ftS (by kernel_rfl) ?_ | refine And.intro (by omega) ?_)
      refine ⟨k + 1, by omega, by omega, ?_⟩
      simp [hs]
  · have d3 : decide ((k : Int) < (S.length : Int)) = false := by simpa using c3
    have ht : S.take k = S := List.take_of_length_le (by omega)
    simp (maxSteps := 4000000) only [ht, d3, pChs, pI, tvl, simprocAttr]
    repeat (first | refine ftS (by kernel_rfl) ?_ | refine And.intro (by omega) ?_)
    all_goals (first | rfl | trivial | skip)
set_option maxRecDepth 10000 in
set_option maxHeartbeats 8000000 in
theorem answered_ok {rs : List Bt.C4} {h : Int} {l : List Bt.Ch} {Q : List Int} (hne : rs ≠ []) (hn : rs.length ≤ 1048576) (hl : l.length ≤ 1048576) (hq : Q.length ≤ 1048576) : FnOk E.P 126 [pProg rs h, pChs l, pInts Q] (.tup [pChs ((Bt.answered rs h l Q).getD []), .bool (Bt.answered rs h l Q).isSome]) true := by
  refine fn_ok mixed Try.func126 rfl (by kernel_rfl) _ Try.results126 _ Try.ntmps126 (by simp) (by kernel_rfl) ?_
  simp (maxSteps := 4000000) only [pProg, pChs, pInts, pI, tvs, simprocAttr]
  repeat (first | refine ftS (by kernel_rfl) ?_ | refine And.intro (by omega) ?_)
  refine aops_callF (new_ok.read) (hidB rfl) rfl ?_
  simp (maxSteps := 4000000) only [pMc, pInts, pI, tvl, simprocAttr]
  repeat (first | refine ftS (by kernel_rfl) ?_ | refine And.intro (by omega) ?_)
  refine awp_loop (X := Nat × List Bt.Ch × Nat × Bt.Mc) (fun x => [(2, .pv (.lst 3 (Q.map fun x => [pI x]))), (3, .ptr 0 0), (8, .sl 1), (9, .pv (.int .i64 x.2.2.1)), (10, .ptr 2 0), (17, .pv (.lst 122 (l.map pCh))), (18, .pv (.int .i64 l.length)), (19, .pv (.int .i64 x.1))])
    (fun x => [(0, .box [.pv (.lst 141 (rs.map pCode)), .pv (.int .i64 h)]), (1, .row true 122 (x.2.1.map pCh)), (2, .box (bMc x.2.2.2))])
    (Bt.PlayInv rs h Q l) (fun x => l.length - x.1) 100 (0, [], 0, Bt.mcNew) Bt.play_start (by simp (maxSteps := 4000000) only [bMc, pMc, pInts, pI, tvl, simprocAttr]; try simp [pI]) (fun x H => ?_)
  obtain ⟨k, out, u, m⟩ := x
  obtain ⟨i1, i2, i3, i4, i5⟩ := H
  simp only at i1 i2 i3 i4 i5
  by_cases c1 : k < l.length
  · have d1 : decide ((k : Int) < (l.length : Int)) = true := by simpa using c1
    have e5 : (l.map pCh)[k]? = some (pCh l[k]) := by simp [c1]
    have hst := Bt.playTo_succ i2 c1
    have hno := fun e => Bt.play_no (rs := rs) (h := h) (Q := Q) (l := l) (k := k + 1) e (by omega)
    generalize l[k] = c at *
    obtain ⟨who, kind, rep⟩ := c
    have hA := asksFor_ok (rs := rs) (h := h) (who := who) (kind := kind) (rep := rep) (m := m) hne hn (Small.of i5)
    unfold Bt.playStep at hst
    simp (maxSteps := 4000000) only [e5, d1, bMc, pCh, pMc, pInts, pI, tvl, simprocAttr]
    repeat (first | refine ftS (by kernel_rfl) ?_ | refine And.intro (by omega) ?_)
    refine aops_fn (hA) (hidB rfl) rfl ?_
    cases ht : Bt.asks rs h m ⟨who, kind, rep⟩
    · rw [ht] at hst
      simp only [Bool.false_eq_true, if_false] at hst
      have hD := (do_ok (rs := rs) (h := h) (m := m) (c := ⟨who, kind, rep⟩) hne hn (Small.of i5)).read
      have hsz := Bt.made_sz rs h m ⟨who, kind, rep⟩
      unfold Bt.playDo at hst
      simp (maxSteps := 4000000) only [pProg, pCh, pMc, pInts, pI, tvl, simprocAttr]
      repeat (first | refine ftS (by kernel_rfl) ?_ | refine And.intro (by omega) ?_)
      refine aops_callF (hD) (hidB rfl) rfl ?_
      cases hd : Bt.doM rs h m ⟨who, kind, rep⟩ with
      | none =>
        rw [hd] at hst
        have hr := hno hst
        simp (maxSteps := 4000000) only [hr, Option.getD_none, Option.isSome_none, List.map_nil, pProg, pChs, pCh, pMc, pInts, pI, tvl, simprocAttr]
        repeat (first | refine ftS (by kernel_rfl) ?_ | refine And.intro (by omega) ?_)
        all_goals (first | rfl | trivial | skip)
      | some m' =>
        rw [hd] at hst hsz
        simp (maxSteps := 4000000) only [Option.getD_some, Option.isSome_some, pProg, pChs, pCh, pMc, pInts, pI, tvl, simprocAttr]
        repeat (first | refine ftS (by kernel_rfl) ?_ | refine And.intro (by omega) ?_)
        refine ⟨(k + 1, out ++ [⟨who, kind, rep⟩], u, m'), ⟨by simp only; omega, hst, by simp [i3], i4, hsz⟩, by simp only; omega, ?_⟩
        simp [bMc, pMc, pInts, pCh, pI]
    · rw [ht] at hst
      simp only [if_true] at hst
      by_cases c2 : u < Q.length
      · have d2 : decide ((u : Int) ≥ (Q.length : Int)) = false := by simp; omega
        have e6 : (Q.map fun x => [pI x])[u]? = some [pI Q[u]] := by simp [c2]
        rw [List.getElem?_eq_getElem c2] at hst
        simp only at hst
        generalize Q[u] = a at *
        have hD := (do_ok (rs := rs) (h := h) (m := m) (c := ⟨who, kind, a⟩) hne hn (Small.of i5)).read
        have hsz := Bt.made_sz rs h m ⟨who, kind, a⟩
        unfold Bt.playDo at hst
        simp only [pI] at e6
        simp (maxSteps := 4000000) only [d2, e6, pProg, pCh, pMc, pInts, pI, tvl, simprocAttr]
        repeat (first | refine ftS (by kernel_rfl) ?_ | refine And.intro (by omega) ?_)
        refine aops_callF (hD) (hidB rfl) rfl ?_
        cases hd : Bt.doM rs h m ⟨who, kind, a⟩ with
        | none =>
          rw [hd] at hst
          have hr := hno hst
          simp (maxSteps := 4000000) only [hr, Option.getD_none, Option.isSome_none, List.map_nil, pProg, pChs, pCh, pMc, pInts, pI, tvl, simprocAttr]
          repeat (first | refine ftS (by kernel_rfl) ?_ | refine And.intro (by omega) ?_)
          all_goals (first | rfl | trivial | skip)
        | some m' =>
          rw [hd] at hst hsz
          simp (maxSteps := 4000000) only [Option.getD_some, Option.isSome_some, pProg, pChs, pCh, pMc, pInts, pI, tvl, simprocAttr]
          repeat (first | refine ftS (by kernel_rfl) ?_ | refine And.intro (by omega) ?_)
          refine ⟨(k + 1, out ++ [⟨who, kind, a⟩], u + 1, m'), ⟨by simp only; omega, hst, by simp [i3], by simp only; omega, hsz⟩, by simp only; omega, ?_⟩
          simp [bMc, pMc, pInts, pCh, pI]
      · have d2 : decide ((u : Int) ≥ (Q.length : Int)) = true := by simp; omega
        rw [List.getElem?_eq_none (by omega)] at hst
        have hr := hno hst
        simp (maxSteps := 4000000) only [hr, d2, Option.getD_none, Option.isSome_none, List.map_nil, pProg, pChs, pCh, pMc, pInts, pI, tvl, simprocAttr]
        repeat (first | refine ftS (by kernel_rfl) ?_ | refine And.intro (by omega) ?_)
        all_goals (first | rfl | trivial | skip)
  · have d1 : decide ((k : Int) < (l.length : Int)) = false := by simpa using c1
    obtain rfl : k = l.length := by omega
    have he := Bt.play_end i2
    by_cases c2 : u = Q.length
    · have d2 : ((u : Int) != (Q.length : Int)) = false := by simp [c2]
      rw [if_pos c2] at he
      simp (maxSteps := 4000000) only [d1, d2, he, Option.getD_some, Option.isSome_some, pChs, bMc, pMc, pInts, pI, tvl, simprocAttr]
      repeat (first | refine ftS (by kernel_rfl) ?_ | refine And.intro (by omega) ?_)
      all_goals (first | rfl | trivial | skip)
    · have d2 : ((u : Int) != (Q.length : Int)) = true := by simp; omega
      rw [if_neg c2] at he
      simp (maxSteps := 4000000) only [d1, d2, he, Option.getD_none, Option.isSome_none, List.map_nil, pChs, bMc, pMc, pInts, pI, tvl, simprocAttr]
      repeat (first | refine ftS (by kernel_rfl) ?_ | refine And.intro (by omega) ?_)
      all_goals (first | rfl | trivial | skip)
set_option maxRecDepth 10000 in
set_option maxHeartbeats 8000000 in
theorem iReplay_ok {rs : List Bt.C4} {h : Int} {S : List Bt.Sl} {Q : List Int} (hn : rs.length ≤ 1048576) (h1 : S.length ≤ 1048576) (h2 : Q.length ≤ 1048576) : FnOk E.P 105 [pProg rs h, pRec (S, Q)] (.tup [pChs ((Bt.replay rs h S Q).getD []), .bool (Bt.replay rs h S Q).isSome]) true := by
  have hF := fitsRun_ok (S := S) (Q := Q) h1 h2
  have hA := slicesApart_ok (S := S) h1
  refine fn_ok mixed Try.func105 rfl (by kernel_rfl) _ Try.results105 _ Try.ntmps105 (by simp) (by kernel_rfl) ?_
  simp (maxSteps := 4000000) only [pRec, pProg, pInts, pI, tvs, simprocAttr]
  repeat (first | refine ftS (by kernel_rfl) ?_ | refine And.intro (by omega) ?_)
  refine aops_fn (iprog_ok (rs := rs) (h := h) hn) (hidB rfl) rfl ?_
  cases hp : Bt.progOk rs h
  · have hr : Bt.replay rs h S Q = none := by simp [Bt.replay, hp]
    simp (maxSteps := 4000000) only [hr, pRec, pProg, pChs, pInts, pI, tvs, simprocAttr]
    repeat (first | refine ftS (by kernel_rfl) ?_ | refine And.intro (by omega) ?_)
    refine aops_fnN rfl (by simp (maxSteps := 4000000) only [pRec, pProg, pInts, pI, tvs, simprocAttr]) ?_
    simp (maxSteps := 4000000) only [hr, pRec, pProg, pChs, pInts, pI, tvs, simprocAttr]
    repeat (first | refine ftS (by kernel_rfl) ?_ | refine And.intro (by omega) ?_)
    refine aops_fnN rfl (by simp (maxSteps := 4000000) only [pRec, pProg, pInts, pI, tvs, simprocAttr]) ?_
    simp (maxSteps := 4000000) only [hr, pRec, pProg, pChs, pInts, pI, tvs, simprocAttr]
    repeat (first | refine ftS (by kernel_rfl) ?_ | refine And.intro (by omega) ?_)
    refine aops_fnN rfl (by simp (maxSteps := 4000000) only [pRec, pProg, pInts, pI, tvs, simprocAttr]) ?_
    simp (maxSteps := 4000000) only [hr, Option.getD_none, Option.isSome_none, List.map_nil, pRec, pProg, pChs, pInts, pI, tvs, simprocAttr]
    repeat (first | refine ftS (by kernel_rfl) ?_ | refine And.intro (by omega) ?_)
    all_goals (first | rfl | trivial | skip)
  have hne := progOk_ne hp
  simp (maxSteps := 4000000) only [pRec, pProg, pChs, pInts, pI, tvs, simprocAttr]
  repeat (first | refine ftS (by kernel_rfl) ?_ | refine And.intro (by omega) ?_)
  refine aops_fnG (hF) (hidB rfl) rfl rfl (by simp (maxSteps := 4000000) only [pRec, pProg, pInts, pI, tvs, simprocAttr]) ?_
  cases hf : Bt.fits S Q
  · have hr : Bt.replay rs h S Q = none := by simp [Bt.replay, hf]
    simp (maxSteps := 4000000) only [hr, pRec, pProg, pChs, pInts, pI, tvs, simprocAttr]
    repeat (first | refine ftS (by kernel_rfl) ?_ | refine And.intro (by omega) ?_)
    refine aops_fnN rfl (by simp (maxSteps := 4000000) only [pRec, pProg, pInts, pI, tvs, simprocAttr]) ?_
    simp (maxSteps := 4000000) only [hr, pRec, pProg, pChs, pInts, pI, tvs, simprocAttr]
    repeat (first | refine ftS (by kernel_rfl) ?_ | refine And.intro (by omega) ?_)
    refine aops_fnN rfl (by simp (maxSteps := 4000000) only [pRec, pProg, pInts, pI, tvs, simprocAttr]) ?_
    simp (maxSteps := 4000000) only [hr, Option.getD_none, Option.isSome_none, List.map_nil, pRec, pProg, pChs, pInts, pI, tvs, simprocAttr]
    repeat (first | refine ftS (by kernel_rfl) ?_ | refine And.intro (by omega) ?_)
    all_goals (first | rfl | trivial | skip)
  obtain ⟨f1, f2, f3⟩ := Bt.fits_facts hf
  simp (maxSteps := 4000000) only [pRec, pProg, pChs, pInts, pI, tvs, simprocAttr]
  repeat (first | refine ftS (by kernel_rfl) ?_ | refine And.intro (by omega) ?_)
  refine aops_fnG (hA) (hidB rfl) rfl rfl (by simp (maxSteps := 4000000) only [pRec, pProg, pInts, pI, tvs, simprocAttr]) ?_
  cases ha : Bt.apart S
  · have hr : Bt.replay rs h S Q = none := by simp [Bt.replay, ha]
    simp (maxSteps := 4000000) only [hr, pRec, pProg, pChs, pInts, pI, tvs, simprocAttr]
    repeat (first | refine ftS (by kernel_rfl) ?_ | refine And.intro (by omega) ?_)
    refine aops_fnN rfl (by simp (maxSteps := 4000000) only [pRec, pProg, pInts, pI, tvs, simprocAttr]) ?_
    simp (maxSteps := 4000000) only [hr, Option.getD_none, Option.isSome_none, List.map_nil, pRec, pProg, pChs, pInts, pI, tvs, simprocAttr]
    repeat (first | refine ftS (by kernel_rfl) ?_ | refine And.intro (by omega) ?_)
    all_goals (first | rfl | trivial | skip)
  have hC := choicesIn_ok (S := S) f1 f3
  simp (maxSteps := 4000000) only [pRec, pProg, pChs, pInts, pI, tvs, simprocAttr]
  repeat (first | refine ftS (by kernel_rfl) ?_ | refine And.intro (by omega) ?_)
  refine aops_fnG (hC) (hidB rfl) rfl rfl (by simp (maxSteps := 4000000) only [pRec, pProg, pInts, pI, tvs, simprocAttr]) ?_
  by_cases c1 : Bt.manyIn S > 300
  · have d1 : decide (Bt.manyIn S > 300) = true := by simpa using c1
    have hr : Bt.replay rs h S Q = none := by
      unfold Bt.replay
      rw [if_neg (by omega)]
    simp (maxSteps := 4000000) only [hr, d1, Option.getD_none, Option.isSome_none, List.map_nil, pRec, pProg, pChs, pInts, pI, tvs, simprocAttr]
    repeat (first | refine ftS (by kernel_rfl) ?_ | refine And.intro (by omega) ?_)
    all_goals (first | rfl | trivial | skip)
  have d1 : decide (Bt.manyIn S > 300) = false := by simpa using c1
  have hr : Bt.replay rs h S Q = Bt.answered rs h (Bt.unans S) Q := by
    unfold Bt.replay
    rw [if_pos ⟨hp, hf, ha, by omega⟩]
  have hl := Bt.unans_len S f3
  have hU := unanswered_ok (S := S) f1 f3
  have hW := answered_ok (rs := rs) (h := h) (l := Bt.unans S) (Q := Q) hne hn (by omega) h2
  simp (maxSteps := 4000000) only [d1, pRec, pProg, pChs, pInts, pI, tvs, simprocAttr]
  repeat (first | refine ftS (by kernel_rfl) ?_ | refine And.intro (by omega) ?_)
  refine aops_fn (hU) (hidB rfl) rfl ?_
  simp (maxSteps := 4000000) only [pRec, pProg, pChs, pInts, pI, tvs, simprocAttr]
  repeat (first | refine ftS (by kernel_rfl) ?_ | refine And.intro (by omega) ?_)
  refine aops_fn (hW) (hidB rfl) rfl ?_
  simp (maxSteps := 4000000) only [hr, pRec, pProg, pChs, pInts, pI, tvs, simprocAttr]
  repeat (first | refine ftS (by kernel_rfl) ?_ | refine And.intro (by omega) ?_)
  all_goals (first | rfl | trivial | skip)
set_option maxHeartbeats 4000000 in
theorem iRecordOk_ok {rs : List Bt.C4} {h : Int} {S : List Bt.Sl} {Q : List Int} (hn : rs.length ≤ 1048576) (h1 : S.length ≤ 1048576) (h2 : Q.length ≤ 1048576) : FnOk E.P 71 [pProg rs h, pRec (S, Q)] (.bool (Bt.replay rs h S Q).isSome) true := by
  have hR := iReplay_ok (rs := rs) (h := h) (S := S) (Q := Q) hn h1 h2
  refine fn_ok mixed Try.func71 rfl (by kernel_rfl) _ Try.results71 _ Try.ntmps71 (by simp) (by kernel_rfl) ?_
  simp (maxSteps := 4000000) only [pRec, pProg, pChs, pInts, pI, tvs, simprocAttr]
  repeat (first | refine ftS (by kernel_rfl) ?_ | refine And.intro (by omega) ?_)
  refine aops_fn (hR) (hidB rfl) rfl ?_
  simp (maxSteps := 4000000) only [pRec, pProg, pChs, pInts, pI, tvs, simprocAttr]
  repeat (first | refine ftS (by kernel_rfl) ?_ | refine And.intro (by omega) ?_)
  all_goals (first | rfl | trivial | skip)
end Av
end Go.Proofs.Ytbkbppllcjcmhaa
