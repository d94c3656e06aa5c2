/-
  What spec.l4Play hands back.
  Two ways to tell what a recording plays agree.
-/
import Derived.Test.YtbkbppllcjcmhaaRepJ
import Derived.Test.YtbkbppllcjcmhaaAskS
import Derived.Test.YtbkbppllcjcmhaaBrS
set_option linter.unusedSimpArgs false
set_option linter.unusedVariables false
namespace Go.Proofs.Ytbkbppllcjcmhaa
open Go.RowKit
namespace Bt
/-- the model's play: what is left, the choices so far, how many answers are used, the machine -/
def runS (rs : List C4) (h : Int) (Q : List Int) : List Ch → List Ch → Nat → Mc → List Ch × Nat × Bool
  | [], out, u, _ => (out, u, true)
  | c :: l, out, u, m =>
    if asks rs h m c then (match Q[u]? with
      | none => (out, u, false)
      | some a => (match doM rs h m ⟨c.who, c.kind, a⟩ with
        | none => (out, u + 1, false)
        | some m' => if out.length = 300 then (out, u + 1, false) else runS rs h Q l (out ++ [⟨c.who, c.kind, a⟩]) (u + 1) m'))
    else (match doM rs h m c with
      | none => (out, u, false)
      | some m' => if out.length = 300 then (out, u, false) else runS rs h Q l (out ++ [c]) u m')
theorem unans_drop {S : List Sl} {k : Nat} (hk : k < S.length) : unans (S.drop k) = List.replicate S[k].many.toNat ⟨S[k].who, S[k].kind, 0⟩ ++ unans (S.drop (k + 1)) := by
  rw [List.drop_eq_getElem_cons hk]
  rfl
end Bt
namespace Av
set_option maxRecDepth 10000 in
set_option maxHeartbeats 16000000 in
theorem l4Play_ok {rs : List Bt.C4} {h : Int} {S : List Bt.Sl} {Q : List Int} (hn : rs.length ≤ 1048576) (h1 : S.length ≤ 1048576) (h2 : Q.length ≤ 1048576) :
    FnOk E.P 101 [pProg rs h, pRec (S, Q)] (.tup [pChs (Bt.runS rs h Q (Bt.unans S) [] 0 Bt.mcNew).1, pI ((Bt.runS rs h Q (Bt.unans S) [] 0 Bt.mcNew).2.1 : Nat), .bool (Bt.runS rs h Q (Bt.unans S) [] 0 Bt.mcNew).2.2]) true := by
  obtain ⟨R, hR⟩ : ∃ R, Bt.runS rs h Q (Bt.unans S) [] 0 Bt.mcNew = R := ⟨_, rfl⟩
  rw [hR]
  refine fn_ok mixed Try.func101 rfl (by kernel_rfl) _ Try.results101 _ Try.ntmps101 (by simp) (by kernel_rfl) ?_
  simp (maxSteps := 4000000) only [pRec, pProg, pChs, pInts, pI, tvs, simprocAttr]
  repeat (first | refine ftS (by kernel_rfl) ?_ | refine And.intro (by omega) ?_)
  refine aops_callF (snew_ok.read) (hidB rfl) rfl ?_
  simp (maxSteps := 4000000) only [pMc, pInts, pI, tvl, simprocAttr]
  repeat (first | refine ftS (by kernel_rfl) ?_ | refine And.intro (by omega) ?_)
  refine awp_loop (X := Nat × List Bt.Ch × Nat × Bt.Mc) (fun x => [(2, .ptr 0 0), (3, .ptr 1 0), (7, .sl 2), (8, .pv (.int .i64 x.2.2.1)), (9, .ptr 3 0), (10, .pv (.int .i64 x.1))])
    (fun x => [(0, .box [.pv (.lst 141 (rs.map pCode)), .pv (.int .i64 h)]), (1, .box [.pv (.lst 104 (S.map pSl)), .pv (.lst 3 (Q.map fun x => [pI x]))]), (2, .row true 122 (x.2.1.map pCh)), (3, .box (bMc x.2.2.2))])
    (fun x => x.1 ≤ S.length ∧ x.2.1.length ≤ 300 ∧ x.2.2.1 ≤ Q.length ∧ Bt.mcSz x.2.2.2 ≤ 1048576 ∧ Bt.runS rs h Q (Bt.unans (S.drop x.1)) x.2.1 x.2.2.1 x.2.2.2 = R) (fun x => S.length - x.1) 100 (0, [], 0, Bt.mcNew)
    ⟨Nat.zero_le _, Nat.zero_le _, Nat.zero_le _, by show Bt.mcSz Bt.mcNew ≤ 1048576; decide, by simpa using hR⟩ (by simp (maxSteps := 4000000) only [bMc, pMc, pInts, pI, tvl, simprocAttr]; try simp [pI]) (fun x H => ?_)
  obtain ⟨k, out, u, m⟩ := x
  obtain ⟨i1, i2, i3, i4, i5⟩ := H
  simp only at i1 i2 i3 i4 i5
  by_cases c1 : k < S.length
  · have d1 : decide ((k : Int) < (S.length : Int)) = true := by simpa using c1
    have e5 : (S.map pSl)[k]? = some (pSl S[k]) := by simp [c1]
    rw [Bt.unans_drop c1] at i5
    generalize S[k] = s at *
    obtain ⟨who, kind, many⟩ := s
    simp only at i5
    obtain ⟨rest, hrest⟩ : ∃ rest, Bt.unans (S.drop (k + 1)) = rest := ⟨_, rfl⟩
    rw [hrest] at i5
    simp (maxSteps := 4000000) only [e5, d1, bMc, pSl, pMc, pInts, pI, tvl, simprocAttr]
    repeat (first | refine ftS (by kernel_rfl) ?_ | refine And.intro (by omega) ?_)
    refine awp_loop (X := Nat × List Bt.Ch × Nat × Bt.Mc) (fun x => [(2, .ptr 0 0), (3, .ptr 1 0), (7, .sl 2), (8, .pv (.int .i64 x.2.2.1)), (9, .ptr 3 0), (10, .pv (.int .i64 k)), (11, .ptr 4 0), (12, .pv (.int .i64 x.1))])
      (fun x => [(0, .box [.pv (.lst 141 (rs.map pCode)), .pv (.int .i64 h)]), (1, .box [.pv (.lst 104 (S.map pSl)), .pv (.lst 3 (Q.map fun x => [pI x]))]), (2, .row true 122 (x.2.1.map pCh)), (3, .box (bMc x.2.2.2)), (4, .box [.pv (.int .i64 who), .pv (.int .i64 kind), .pv (.int .i64 many)])])
      (fun x => x.1 ≤ many.toNat ∧ x.1 ≤ x.2.1.length ∧ x.2.1.length ≤ 300 ∧ x.2.2.1 ≤ Q.length ∧ Bt.mcSz x.2.2.2 ≤ 1048576 ∧ Bt.runS rs h Q (List.replicate (many.toNat - x.1) (⟨who, kind, 0⟩ : Bt.Ch) ++ rest) x.2.1 x.2.2.1 x.2.2.2 = R) (fun x => many.toNat - x.1) 100 (0, out, u, m)
      ⟨Nat.zero_le _, Nat.zero_le _, i2, i3, i4, i5⟩ (by simp (maxSteps := 4000000) only [bMc, pMc, pInts, pI, tvl, simprocAttr]; try simp [pI]) (fun x H => ?_)
    clear i2 i3 i4 i5
    obtain ⟨n, out, u, m⟩ := x
    obtain ⟨j0, j1, i2, i3, i4, i5⟩ := H
    simp only at j0 j1 i2 i3 i4 i5
    by_cases c4 : n < many.toNat
    · have d4 : decide ((n : Int) < many) = true := by simp; omega
      have er : many.toNat - n = (many.toNat - (n + 1)) + 1 := by omega
      rw [er, List.replicate_succ, List.cons_append] at i5
      have hA := l4AsksA_ok (rs := rs) (h := h) (who := who) (kind := kind) (rep := 0) (m := m) hn (Small.of i4)
      unfold Bt.runS at i5
      obtain ⟨rest', hrest'⟩ : ∃ r, List.replicate (many.toNat - (n + 1)) (⟨who, kind, 0⟩ : Bt.Ch) ++ rest = r := ⟨_, rfl⟩
      rw [hrest'] at i5
      simp (maxSteps := 4000000) only [d4, bMc, pCh, pMc, pInts, pI, tvl, simprocAttr]
      repeat (first | refine ftS (by kernel_rfl) ?_ | refine And.intro (by omega) ?_)
      refine aops_fn (hA) (hidB rfl) rfl ?_
      cases ht : Bt.asks rs h m ⟨who, kind, 0⟩
      · rw [ht] at i5
        simp only [Bool.false_eq_true, if_false] at i5
        have hD := sdoA_ok (rs := rs) (h := h) (m := m) (c := ⟨who, kind, 0⟩) hn (Small.of i4)
        have hsz := Bt.made_sz rs h m ⟨who, kind, 0⟩
        simp (maxSteps := 4000000) only [pProg, pCh, pMc, pInts, pI, tvl, simprocAttr]
        repeat (first | refine ftS (by kernel_rfl) ?_ | refine And.intro (by omega) ?_)
        refine aops_callF (hD) (hidB rfl) rfl ?_
        cases hd : Bt.doM rs h m ⟨who, kind, 0⟩ with
        | none =>
          rw [hd] at i5
          simp only at i5
          subst i5
          simp (maxSteps := 4000000) only [Option.getD_none, Option.isSome_none, pProg, pChs, pCh, pMc, pInts, pI, tvl, simprocAttr]
          repeat (first | refine ftS (by kernel_rfl) ?_ | refine And.intro (by omega) ?_)
          all_goals (first | rfl | trivial | skip)
        | some m' =>
          rw [hd] at i5 hsz
          simp only [Option.getD_some] at i5 hsz
          by_cases c5 : out.length = 300
          · rw [if_pos c5] at i5
            have d5 : ((out.length : Int) == 300) = true := by simp; omega
            subst i5
            simp (maxSteps := 4000000) only [d5, Option.getD_some, Option.isSome_some, pProg, pChs, pCh, pMc, pInts, pI, tvl, simprocAttr]
            repeat (first | refine ftS (by kernel_rfl) ?_ | refine And.intro (by omega) ?_)
            all_goals (first | rfl | trivial | skip)
          · rw [if_neg c5] at i5
            have d5 : ((out.length : Int) == 300) = false := by simp; omega
            simp (maxSteps := 4000000) only [d5, Option.getD_some, Option.isSome_some, pProg, pChs, pCh, pMc, pInts, pI, tvl, simprocAttr]
            repeat (first | refine ftS (by kernel_rfl) ?_ | refine And.intro (by omega) ?_)
            refine ⟨(n + 1, out ++ [⟨who, kind, 0⟩], u, m'), ⟨by simp only; omega, by simp; omega, by simp; omega, i3, hsz, by simpa only [hrest'] using i5⟩, by simp only; omega, ?_⟩
            simp [bMc, pMc, pInts, pCh, pI]
      · rw [ht] at i5
        simp only [if_true] at i5
        by_cases c2 : u = Q.length
        · have d2 : ((u : Int) == (Q.length : Int)) = true := by simp; omega
          rw [List.getElem?_eq_none (by omega)] at i5
          simp only at i5
          subst i5
          simp (maxSteps := 4000000) only [d2, pProg, pChs, pCh, pMc, pInts, pI, tvl, simprocAttr]
          repeat (first | refine ftS (by kernel_rfl) ?_ | refine And.intro (by omega) ?_)
          all_goals (first | rfl | trivial | skip)
        · have d2 : ((u : Int) == (Q.length : Int)) = false := by simp; omega
          have e6 : (Q.map fun x => [pI x])[u]? = some [pI (Q[u]'(by omega))] := by simp [show u < Q.length by omega]
          rw [List.getElem?_eq_getElem (by omega)] at i5
          simp only at i5
          generalize Q[u]'(by omega) = a at *
          have hD := sdoA_ok (rs := rs) (h := h) (m := m) (c := ⟨who, kind, a⟩) hn (Small.of i4)
          have hsz := Bt.made_sz rs h m ⟨who, kind, a⟩
          simp only [pI] at e6
          simp (maxSteps := 4000000) only [d2, e6, pProg, pCh, pMc, pInts, pI, tvl, simprocAttr]
          repeat (first | refine ftS (by kernel_rfl) ?_ | refine And.intro (by omega) ?_)
          refine aops_callF (hD) (hidB rfl) rfl ?_
          cases hd : Bt.doM rs h m ⟨who, kind, a⟩ with
          | none =>
            rw [hd] at i5
            simp only at i5
            subst i5
            simp (maxSteps := 4000000) only [Option.getD_none, Option.isSome_none, pProg, pChs, pCh, pMc, pInts, pI, tvl, simprocAttr]
            repeat (first | refine ftS (by kernel_rfl) ?_ | refine And.intro (by omega) ?_)
            all_goals (first | rfl | trivial | skip)
          | some m' =>
            rw [hd] at i5 hsz
            simp only [Option.getD_some] at i5 hsz
            by_cases c5 : out.length = 300
            · rw [if_pos c5] at i5
              have d5 : ((out.length : Int) == 300) = true := by simp; omega
              subst i5
              simp (maxSteps := 4000000) only [d5, Option.getD_some, Option.isSome_some, pProg, pChs, pCh, pMc, pInts, pI, tvl, simprocAttr]
              repeat (first | refine ftS (by kernel_rfl) ?_ | refine And.intro (by omega) ?_)
              all_goals (first | rfl | trivial | skip)
            · rw [if_neg c5] at i5
              have d5 : ((out.length : Int) == 300) = false := by simp; omega
              simp (maxSteps := 4000000) only [d5, Option.getD_some, Option.isSome_some, pProg, pChs, pCh, pMc, pInts, pI, tvl, simprocAttr]
              repeat (first | refine ftS (by kernel_rfl) ?_ | refine And.intro (by omega) ?_)
              refine ⟨(n + 1, out ++ [⟨who, kind, a⟩], u + 1, m'), ⟨by simp only; omega, by simp; omega, by simp; omega, by simp only; omega, hsz, by simpa only [hrest'] using i5⟩, by simp only; omega, ?_⟩
              simp [bMc, pMc, pInts, pCh, pI]
    · have d4 : decide ((n : Int) < many) = false := by simp; omega
      obtain rfl : n = many.toNat := by omega
      rw [Nat.sub_self, List.replicate_zero, List.nil_append] at i5
      simp (maxSteps := 4000000) only [d4, bMc, pMc, pInts, pI, tvl, simprocAttr]
      repeat (first | refine ftS (by kernel_rfl) ?_ | refine And.intro (by omega) ?_)
      refine ⟨(k + 1, out, u, m), ⟨by simp only; omega, i2, i3, i4, by simpa only [hrest] using i5⟩, by simp only; omega, ?_⟩
      simp [bMc, pMc, pInts, pCh, pI]
  · have d1 : decide ((k : Int) < (S.length : Int)) = false := by simpa using c1
    rw [List.drop_eq_nil_of_le (by omega)] at i5
    simp only [Bt.unans, List.flatMap_nil, Bt.runS] at i5
    subst i5
    simp (maxSteps := 4000000) only [d1, pChs, bMc, pMc, pInts, pI, tvl, simprocAttr]
    repeat (first | refine ftS (by kernel_rfl) ?_ | refine And.intro (by omega) ?_)
    all_goals (first | rfl | trivial | skip)
end Av
end Go.Proofs.Ytbkbppllcjcmhaa

set_option linter.unusedSimpArgs false
set_option linter.unusedVariables false
namespace Go.Proofs.Ytbkbppllcjcmhaa
open Go.RowKit
namespace Bt
def playFrom (rs : List C4) (h : Int) (Q : List Int) : List Ch → List Ch × Nat × Mc → Option (List Ch × Nat × Mc)
  | [], x => some x
  | c :: l, x => match playStep rs h Q x.1 x.2.1 x.2.2 c with
    | none => none
    | some y => playFrom rs h Q l y
theorem playTo_from {rs : List C4} {h : Int} {Q : List Int} {l : List Ch} : ∀ (d k : Nat), k + d = l.length → playTo rs h Q l l.length = (match playTo rs h Q l k with
    | none => none
    | some x => playFrom rs h Q (l.drop k) x)
  | 0, k, e => by
    obtain rfl : k = l.length := by omega
    rw [List.drop_length]
    cases playTo rs h Q l l.length <;> rfl
  | d + 1, k, e => by
    rw [playTo_from d (k + 1) (by omega)]
    have hk : k < l.length := by omega
    rw [List.drop_eq_getElem_cons hk]
    cases e1 : playTo rs h Q l k with
    | none => rw [playTo, e1]
    | some x =>
      obtain ⟨out, u, m⟩ := x
      rw [playTo_succ e1 hk]
      rfl
theorem playTo_all {rs : List C4} {h : Int} {Q : List Int} {l : List Ch} : playTo rs h Q l l.length = playFrom rs h Q l ([], 0, mcNew) := playTo_from l.length 0 (by omega)
theorem playFrom_len {rs : List C4} {h : Int} {Q : List Int} : ∀ {l : List Ch} {x y : List Ch × Nat × Mc}, playFrom rs h Q l x = some y → y.1.length = x.1.length + l.length ∧ y.2.1 ≤ x.2.1 + l.length
  | [], x, y, e => by
    simp only [playFrom, Option.some.injEq] at e
    subst e
    simp
  | c :: l, ⟨out, u, m⟩, y, e => by
    simp only [playFrom, playStep, playDo] at e
    split at e
    · cases e
    · rename_i z hz
      have ih := playFrom_len e
      have key : z.1.length = out.length + 1 ∧ z.2.1 ≤ u + 1 := by
        split at hz
        · split at hz
          · cases hz
          · split at hz
            · cases hz
            · cases hz; simp
        · split at hz
          · cases hz
          · cases hz; simp
      simp only [List.length_cons]
      omega
theorem runS_play {rs : List C4} {h : Int} {Q : List Int} : ∀ (l out : List Ch) (u : Nat) (m : Mc), out.length ≤ 300 →
    (l.length + out.length ≤ 300 → (∀ o' u' m', playFrom rs h Q l (out, u, m) = some (o', u', m') → runS rs h Q l out u m = (o', u', true)) ∧ (playFrom rs h Q l (out, u, m) = none → (runS rs h Q l out u m).2.2 = false))
      ∧ (300 < l.length + out.length → (runS rs h Q l out u m).2.2 = false)
  | [], out, u, m, ho => by
    refine ⟨fun hl => ⟨fun o' u' m' e => ?_, fun e => ?_⟩, fun hl => ?_⟩
    · simp only [playFrom, Option.some.injEq, Prod.mk.injEq] at e
      obtain ⟨rfl, rfl, rfl⟩ := e
      rfl
    · cases e
    · simp at hl; omega
  | c :: l, out, u, m, ho => by
    simp only [playFrom, playStep, playDo, runS, List.length_cons]
    cases asks rs h m c
    · simp only [Bool.false_eq_true, if_false]
      cases doM rs h m c with
      | none => simp
      | some m' =>
        simp only
        by_cases e : out.length = 300
        · rw [if_pos e]
          exact ⟨fun hl => absurd hl (by omega), fun _ => rfl⟩
        · rw [if_neg e]
          have ih := runS_play (rs := rs) (h := h) (Q := Q) l (out ++ [c]) u m' (by simp; omega)
          simp only [List.length_append, List.length_cons, List.length_nil] at ih
          exact ⟨fun hl => ih.1 (by omega), fun hl => ih.2 (by omega)⟩
    · simp only [if_true]
      cases Q[u]? with
      | none => simp
      | some a =>
        simp only
        cases doM rs h m ⟨c.who, c.kind, a⟩ with
        | none => simp
        | some m' =>
          simp only
          by_cases e : out.length = 300
          · rw [if_pos e]
            exact ⟨fun hl => absurd hl (by omega), fun _ => rfl⟩
          · rw [if_neg e]
            have ih := runS_play (rs := rs) (h := h) (Q := Q) l (out ++ [⟨c.who, c.kind, a⟩]) (u + 1) m' (by simp; omega)
            simp only [List.length_append, List.length_cons, List.length_nil] at ih
            exact ⟨fun hl => ih.1 (by omega), fun hl => ih.2 (by omega)⟩
theorem many_facts : ∀ {S : List Sl}, (∀ s ∈ S, 1 ≤ s.many) → ((unans S).length : Int) = manyIn S ∧ (S.length : Int) ≤ manyIn S ∧ ∀ s ∈ S, s.many ≤ manyIn S
  | [], _ => by simp [unans, manyIn]
  | s :: S, h => by
    have h0 := h s (List.mem_cons_self ..)
    obtain ⟨a, b, c⟩ := many_facts (S := S) (fun x hx => h x (List.mem_cons_of_mem _ hx))
    simp only [unans, List.flatMap_cons, List.length_append, List.length_replicate, manyIn, List.length_cons] at *
    refine ⟨by omega, by omega, fun x hx => ?_⟩
    rcases List.mem_cons.1 hx with rfl | hx
    · omega
    · have := c x hx
      omega
/-- what the model's RecordOk and Replay say, by impl's words -/
theorem replay_is {rs : List C4} {h : Int} {S : List Sl} {Q : List Int} (hm : ∀ s ∈ S, 1 ≤ s.many) :
    replay rs h S Q = if progOk rs h = true ∧ apart S = true ∧ (runS rs h Q (unans S) [] 0 mcNew).2.2 = true ∧ (runS rs h Q (unans S) [] 0 mcNew).2.1 = Q.length then some (runS rs h Q (unans S) [] 0 mcNew).1 else none := by
  obtain ⟨a, b, c⟩ := many_facts hm
  obtain ⟨r1, r2⟩ := runS_play (rs := rs) (h := h) (Q := Q) (unans S) [] 0 mcNew (by simp)
  by_cases hL : (unans S).length ≤ 300
  · obtain ⟨p1, p2⟩ := r1 (by simpa using hL)
    have hfit : S.all fitSl = true := List.all_eq_true.2 fun s hs => by
      have := hm s hs
      have := c s hs
      simp [fitSl]; omega
    have hfits : fits S Q = decide (Q.length ≤ 300) := by
      simp only [fits, hfit, Bool.and_true]
      rw [decide_eq_true (show S.length ≤ 300 by omega), Bool.true_and]
    unfold replay answered
    rw [playTo_all]
    cases e : playFrom rs h Q (unans S) ([], 0, mcNew) with
    | none =>
      rw [p2 e]
      simp
    | some y =>
      obtain ⟨o', u', m'⟩ := y
      have hl := playFrom_len e
      simp only [List.length_nil, Nat.zero_add] at hl
      rw [p1 _ _ _ e]
      simp only
      by_cases hu : u' = Q.length
      · have hq : decide (Q.length ≤ 300) = true := by simp; omega
        rw [hfits, hq]
        simp only [hu, if_true]
        by_cases hp : progOk rs h = true ∧ apart S = true
        · rw [if_pos ⟨hp.1, trivial, hp.2, by omega⟩, if_pos ⟨hp.1, hp.2, trivial, trivial⟩]
        · rw [if_neg (fun hx => hp ⟨hx.1, hx.2.2.1⟩), if_neg (fun hx => hp ⟨hx.1, hx.2.1⟩)]
      · simp only [hu, if_false, and_false]
        split <;> rfl
  · have h1 := r2 (by simp; omega)
    unfold replay
    rw [if_neg (fun hx => by have := hx.2.2.2; omega), if_neg (fun hx => by rw [h1] at hx; exact absurd hx.2.2.1 (by simp))]
theorem replay_no {rs : List C4} {h : Int} {S : List Sl} {Q : List Int} {s : Sl} (hs : s ∈ S) (h1 : s.many < 1) : replay rs h S Q = none := by
  unfold replay
  rw [if_neg]
  intro hx
  have := (fits_facts hx.2.1).2.2
  have := List.all_eq_true.1 this s hs
  simp [fitSl] at this
  omega
end Bt
end Go.Proofs.Ytbkbppllcjcmhaa
