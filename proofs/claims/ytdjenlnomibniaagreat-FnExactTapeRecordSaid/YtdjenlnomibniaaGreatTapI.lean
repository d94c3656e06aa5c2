/-
  Chapter 5: tapes told plainly.
  Chapter 5: what the program writes of a recording.
-/
import Derived.Test.YtdjenlnomibniaaGreatRepP
import Derived.Test.YtdjenlnomibniaaGreatPut
set_option linter.unusedSimpArgs false
set_option linter.unusedVariables false
namespace Go.Proofs.YtdjenlnomibniaaGreat
namespace Bt
theorem after_append (rs : List C4) (h : Int) : ∀ (a b : List Ch) (m : Mc), after rs h m (a ++ b) = after rs h (after rs h m a) b
  | [], _, _ => rfl
  | _ :: a, b, _ => after_append rs h a b _
/-- the answers that choices need from a machine on -/
def ansFrom (rs : List C4) (h : Int) : Mc → List Ch → List Int
  | _, [] => []
  | m, c :: l => (if asks rs h m c then [c.reply] else []) ++ ansFrom rs h ((doM rs h m c).getD mcNil) l
theorem ansFrom_append (rs : List C4) (h : Int) : ∀ (a b : List Ch) (m : Mc), ansFrom rs h m (a ++ b) = ansFrom rs h m a ++ ansFrom rs h (after rs h m a) b
  | [], _, _ => rfl
  | c :: a, b, m => by simp only [List.cons_append, ansFrom, after, ansFrom_append rs h a b, List.append_assoc]
theorem ansFrom_snoc {rs : List C4} {h : Int} {l : List Ch} {m : Mc} {k : Nat} (hk : k < l.length) : ansFrom rs h m (l.take (k + 1)) = ansFrom rs h m (l.take k) ++ (if asks rs h (after rs h m (l.take k)) l[k] then [l[k].reply] else []) := by
  rw [List.take_succ_eq_append_getElem hk, ansFrom_append]
  simp [ansFrom]
theorem ansFrom_len (rs : List C4) (h : Int) : ∀ (l : List Ch) (m : Mc), (ansFrom rs h m l).length ≤ l.length
  | [], _ => by simp [ansFrom]
  | c :: l, m => by
    have := ansFrom_len rs h l ((doM rs h m c).getD mcNil)
    simp only [ansFrom, List.length_append, List.length_cons]
    split <;> simp <;> omega
/-- what a choice that is made is like -/
theorem made_like {rs : List C4} {h : Int} {m m' : Mc} {c : Ch} (e : doM rs h m c = some m') : (0 ≤ c.who ∧ c.who < 4) ∧ (c.kind = 0 ∨ c.kind = 1) ∧ (asks rs h m c = true → 0 ≤ c.reply ∧ c.reply < 10000) := by
  obtain ⟨who, kd, rep⟩ := c
  cases hc : canDo rs h m ⟨who, kd, rep⟩ with
  | false => rw [doM_no hc] at e; cases e
  | true =>
    obtain ⟨hm, hr⟩ := canDo_true hc
    have f1 := (machOk_facts hm).few
    simp only at hr
    have hlr := runs_lt hr
    refine ⟨⟨hlr.1, by simp only; omega⟩, ?_, fun ha => ?_⟩
    · unfold canDo at hc
      rw [hm, Bool.true_and] at hc
      simp only at hc
      split at hc
      · cases hc
      · rw [Bool.and_eq_true] at hc
        have h2 := hc.2
        split at h2
        · rename_i e1; exact .inr e1
        · split at h2
          · rename_i e1; exact .inl e1
          · cases h2
    · unfold asks at ha
      simp only at ha
      split at ha
      · rename_i x hx
        rw [Bool.and_eq_true, beq_iff_eq, beq_iff_eq] at ha
        unfold canDo at hc
        rw [hm, Bool.true_and] at hc
        simp only at hc
        split at hc
        · cases hc
        · rw [Bool.and_eq_true] at hc
          have h2 := hc.2
          rw [if_neg (by omega), if_pos ha.2, hx] at h2
          simp only at h2
          rw [canDoI_ask ha.1, Bool.and_eq_true, decide_eq_true_eq, decide_eq_true_eq] at h2
          exact h2
      · cases ha
/-- a run's choices are like that -/
theorem run_like {rs : List C4} {h : Int} : ∀ {l : List Ch} {m : Mc}, goFrom rs h m l = l.length → (∀ c ∈ l, (0 ≤ c.who ∧ c.who < 4) ∧ (c.kind = 0 ∨ c.kind = 1)) ∧ (∀ x ∈ ansFrom rs h m l, 0 ≤ x ∧ x < 10000)
  | [], m, _ => by simp [ansFrom]
  | c :: l, m, e => by
    cases hd : doM rs h m c with
    | none => rw [goFrom_no hd] at e; simp at e
    | some m' =>
      rw [goFrom_yes hd, List.length_cons] at e
      have ih := run_like (rs := rs) (h := h) (l := l) (m := m') (by omega)
      have hl := made_like hd
      refine ⟨fun x hx => ?_, fun x hx => ?_⟩
      · rcases List.mem_cons.1 hx with rfl | hx
        · exact ⟨hl.1, hl.2.1⟩
        · exact ih.1 x hx
      · simp only [ansFrom, hd, Option.getD_some] at hx
        rcases List.mem_append.1 hx with hx | hx
        · split at hx
          · rename_i ha
            obtain rfl := List.mem_singleton.1 hx
            exact hl.2.2 ha
          · cases hx
        · exact ih.2 x hx
def wk (c : Ch) : Int × Int := (c.who, c.kind)
theorem asks_wk {rs : List C4} {h : Int} {m : Mc} {who kind a b : Int} : asks rs h m ⟨who, kind, a⟩ = asks rs h m ⟨who, kind, b⟩ := rfl
/-- what a row plays: its choices with answers -/
theorem playFrom_like {rs : List C4} {h : Int} {Q : List Int} : ∀ {l out out' : List Ch} {u u' : Nat} {m m' : Mc}, playFrom rs h Q l (out, u, m) = some (out', u', m') → (∀ c ∈ l, c.reply = 0) → u ≤ Q.length →
    ∃ t : List Ch, out' = out ++ t ∧ t.map wk = l.map wk ∧ goFrom rs h m t = t.length ∧ u ≤ u' ∧ u' ≤ Q.length ∧ Q.drop u = ansFrom rs h m t ++ Q.drop u'
  | [], out, out', u, u', m, m', e, hz, hu => by
    simp only [playFrom, Option.some.injEq, Prod.mk.injEq] at e
    obtain ⟨rfl, rfl, rfl⟩ := e
    exact ⟨[], by simp, rfl, rfl, Nat.le_refl _, hu, rfl⟩
  | c :: l, out, out', u, u', m, m', e, hz, hu => by
    obtain ⟨who, kd, rep⟩ := c
    simp only [playFrom, playStep, playDo] at e
    split at e
    · cases e
    · rename_i z hz1
      have hz' : ∀ c ∈ l, c.reply = 0 := fun x hx => hz x (List.mem_cons_of_mem _ hx)
      split at hz1
      · rename_i ha
        split at hz1
        · cases hz1
        · rename_i a hq
          split at hz1
          · cases hz1
          · rename_i m1 hd
            cases hz1
            have hul : u < Q.length := (List.getElem?_eq_some_iff.1 hq).1
            obtain ⟨t, h1, h2, h3, h4, h5, h6⟩ := playFrom_like e hz' (by omega)
            refine ⟨⟨who, kd, a⟩ :: t, by simp [h1], by simp [h2, wk], by rw [goFrom_yes hd, h3, List.length_cons], by omega, h5, ?_⟩
            rw [List.drop_eq_getElem_cons hul, h6]
            have hqa : Q[u] = a := (List.getElem?_eq_some_iff.1 hq).2
            have ha' : asks rs h m ⟨who, kd, a⟩ = true := ha
            simp [ansFrom, hd, ha', hqa]
      · rename_i ha
        split at hz1
        · cases hz1
        · rename_i m1 hd
          cases hz1
          obtain ⟨t, h1, h2, h3, h4, h5, h6⟩ := playFrom_like e hz' hu
          refine ⟨⟨who, kd, rep⟩ :: t, by simp [h1], by simp [h2, wk], by rw [goFrom_yes hd, h3, List.length_cons], h4, h5, ?_⟩
          rw [h6]
          have ha' : asks rs h m ⟨who, kd, rep⟩ = false := by simpa using ha
          simp [ansFrom, hd, ha']
theorem unans_zero (S : List Sl) : ∀ c ∈ unans S, c.reply = 0 := fun c hc => by
  simp only [unans, List.mem_flatMap] at hc
  obtain ⟨s, _, hc⟩ := hc
  rw [List.eq_of_mem_replicate hc]
theorem unans_many : ∀ {S : List Sl} (_ : S.all fitSl = true), ((unans S).length : Int) = manyIn S
  | [], _ => rfl
  | s :: S, hf => by
    simp only [List.all_cons, Bool.and_eq_true] at hf
    have ih := unans_many hf.2
    have h1 := hf.1
    simp only [fitSl, Bool.and_eq_true, decide_eq_true_eq] at h1
    simp only [unans, List.flatMap_cons, List.length_append, List.length_replicate, manyIn] at *
    omega
structure Replayed (rs : List C4) (h : Int) (S : List Sl) (Q : List Int) (l : List Ch) : Prop where
  ok : runOk rs h l = true
  few : l.length ≤ 300
  ans : Q = ansFrom rs h mcNew l
  go : goFrom rs h mcNew l = l.length
  wks : l.map wk = (unans S).map wk
  fewS : S.length ≤ 300
  fewQ : Q.length ≤ 300
  sl : ∀ s ∈ S, (1 ≤ s.many ∧ s.many ≤ 300) ∧ (0 ≤ s.who ∧ s.who < 4) ∧ (s.kind = 0 ∨ s.kind = 1)
/-- what is replayed -/
theorem replayed {rs : List C4} {h : Int} {S : List Sl} {Q : List Int} {l : List Ch} (e : replay rs h S Q = some l) : Replayed rs h S Q l := by
  unfold replay at e
  split at e
  · rename_i hc
    obtain ⟨hp, hf, ha, hm⟩ := hc
    obtain ⟨f1, f2, f3⟩ := fits_facts hf
    unfold answered at e
    split at e
    · rename_i out u m hpl
      split at e
      · rename_i hu
        obtain rfl := Option.some.inj e
        rw [playTo_all] at hpl
        obtain ⟨t, h1, h2, h3, h4, h5, h6⟩ := playFrom_like hpl (unans_zero S) (Nat.zero_le _)
        rw [List.nil_append] at h1
        subst h1
        rw [hu, List.drop_zero, List.drop_length, List.append_nil] at h6
        have hlen : out.length = (unans S).length := by
          have := congrArg List.length h2
          simpa using this
        have hmany := unans_many f3
        have hfew : out.length ≤ 300 := by omega
        have hrun : runOk rs h out = true := by
          unfold runOk runLong
          rw [if_pos hp, List.take_of_length_le hfew, h3]
          simp [hfew]
        refine ⟨hrun, hfew, h6, h3, h2, f1, f2, fun s hs => ?_⟩
        have hfs := List.all_eq_true.1 f3 s hs
        simp only [fitSl, Bool.and_eq_true, decide_eq_true_eq] at hfs
        refine ⟨hfs, ?_⟩
        have hmem : wk ⟨s.who, s.kind, 0⟩ ∈ (unans S).map wk := by
          refine List.mem_map.2 ⟨_, ?_, rfl⟩
          simp only [unans, List.mem_flatMap]
          exact ⟨s, hs, by rw [List.mem_replicate]; exact ⟨by omega, rfl⟩⟩
        rw [← h2] at hmem
        obtain ⟨c, hc, ec⟩ := List.mem_map.1 hmem
        have hl := (run_like h3).1 c hc
        simp only [wk, Prod.mk.injEq] at ec
        rw [← ec.1, ← ec.2]
        exact hl
      · cases e
    · cases e
  · cases e
theorem putN_len : ∀ (k n : Nat), n < 128 ^ (k + 1) → (putN n).length ≤ k + 1
  | 0, n, h => by
    rw [putN_small (by simpa using h)]
    simp
  | k + 1, n, h => by
    by_cases c : n < 128
    · rw [putN_small c]; simp
    · rw [putN_more c, List.length_cons]
      have := putN_len k (n / 128) (by rw [Nat.div_lt_iff_lt_mul (by omega)]; rw [Nat.pow_succ] at h; exact h)
      omega
theorem putNum_len {n : Int} (h : n ≤ 9223372036854775807) : (putNum n).length ≤ 9 := by
  unfold putNum
  split
  · simp
  · refine putN_len 8 _ ?_
    have : (128 : Nat) ^ (8 + 1) = 9223372036854775808 := by decide
    omega
theorem putNums_len : ∀ {ns : List Int} (_ : ∀ x ∈ ns, x ≤ 9223372036854775807), (ns.flatMap putNum).length ≤ 9 * ns.length
  | [], _ => by simp
  | x :: ns, h => by
    have h1 := putNum_len (h x (List.mem_cons_self ..))
    have h2 := putNums_len (ns := ns) (fun y hy => h y (List.mem_cons_of_mem _ hy))
    simp only [List.flatMap_cons, List.length_append, List.length_cons]
    omega
/-- what is written of slices and the choices that they tell -/
def tapeIn (rs : List C4) (h : Int) : List Sl → Mc → List Ch → List Int
  | [], _, _ => []
  | s :: S, m, l => putNum (2 * s.who + s.kind) ++ putNum s.many ++ (ansFrom rs h m (l.take s.many.toNat)).flatMap putNum ++ tapeIn rs h S (after rs h m (l.take s.many.toNat)) (l.drop s.many.toNat)
def tapeOf (rs : List C4) (h : Int) (S : List Sl) (Q : List Int) : List Int := match replay rs h S Q with
  | some l => tapeIn rs h S mcNew l
  | none => []
theorem bytes_append (a b : List Int) : bytes (a ++ b) = bytes a ++ bytes b := by
  apply ByteArray.ext
  simp [bytes]
theorem bytes_size (l : List Int) : (bytes l).size = l.length := by simp [bytes, ByteArray.size]
theorem ansFrom_take {rs : List C4} {h : Int} {m : Mc} {l : List Ch} (n : Nat) : ansFrom rs h m l = ansFrom rs h m (l.take n) ++ ansFrom rs h (after rs h m (l.take n)) (l.drop n) := by
  rw [← ansFrom_append, List.take_append_drop]
theorem tapeIn_len {rs : List C4} {h : Int} : ∀ {S : List Sl} {m : Mc} {l : List Ch}, (∀ s ∈ S, (1 ≤ s.many ∧ s.many ≤ 300) ∧ (0 ≤ s.who ∧ s.who < 4) ∧ (s.kind = 0 ∨ s.kind = 1)) → (∀ x ∈ ansFrom rs h m l, 0 ≤ x ∧ x < 10000) → (tapeIn rs h S m l).length ≤ 18 * S.length + 9 * l.length
  | [], m, l, _, _ => by simp [tapeIn]
  | s :: S, m, l, hs, ha => by
    have f := hs s (List.mem_cons_self ..)
    rw [ansFrom_take s.many.toNat] at ha
    have ih := tapeIn_len (S := S) (m := after rs h m (l.take s.many.toNat)) (l := l.drop s.many.toNat) (fun x hx => hs x (List.mem_cons_of_mem _ hx)) (fun x hx => ha x (List.mem_append_right _ hx))
    have h1 := putNum_len (n := 2 * s.who + s.kind) (by omega)
    have h2 := putNum_len (n := s.many) (by omega)
    have h3 := putNums_len (ns := ansFrom rs h m (l.take s.many.toNat)) (fun x hx => by have := ha x (List.mem_append_left _ hx); omega)
    have h4 := ansFrom_len rs h (l.take s.many.toNat) m
    rw [List.length_take] at h4
    rw [List.length_drop] at ih
    simp only [tapeIn, List.length_append, List.length_cons]
    omega
theorem tape_in {rs : List C4} {h : Int} {S : List Sl} {Q : List Int} {l : List Ch} (R : Replayed rs h S Q l) : (tapeIn rs h S mcNew l).length ≤ 8100 := by
  have h1 := tapeIn_len (rs := rs) (h := h) (m := mcNew) (l := l) R.sl (run_like R.go).2
  have := R.fewS
  have := R.few
  omega
theorem tapeOf_some {rs : List C4} {h : Int} {S : List Sl} {Q : List Int} {l : List Ch} (e : replay rs h S Q = some l) : tapeOf rs h S Q = tapeIn rs h S mcNew l := by
  unfold tapeOf
  rw [e]
theorem tapeOf_none {rs : List C4} {h : Int} {S : List Sl} {Q : List Int} (e : replay rs h S Q = none) : tapeOf rs h S Q = [] := by
  unfold tapeOf
  rw [e]
theorem tapeOf_len (rs : List C4) (h : Int) (S : List Sl) (Q : List Int) : (tapeOf rs h S Q).length ≤ 8100 := by
  cases e : replay rs h S Q with
  | none => rw [tapeOf_none e]; simp
  | some l => rw [tapeOf_some e]; exact tape_in (replayed e)
end Bt
end Go.Proofs.YtdjenlnomibniaaGreat

set_option linter.unusedSimpArgs false
set_option linter.unusedVariables false
namespace Go.Proofs.YtdjenlnomibniaaGreat
open Go.RowKit
namespace Av
set_option maxHeartbeats 8000000 in
theorem putNums_ok {ns : List Int} (hl : ns.length ≤ 1048576) (hb : ∀ x ∈ ns, x ≤ 9223372036854775807) : FnOk E.P 95 [pInts ns] (.str (Bt.bytes (ns.flatMap Bt.putNum))) true := by
  have hlen : ∀ k, ((ns.take k).flatMap Bt.putNum).length ≤ 9 * 1048576 := fun k => by
    have h1 := Bt.putNums_len (ns := ns.take k) (fun x hx => hb x (List.mem_of_mem_take hx))
    have h2 : (ns.take k).length ≤ ns.length := by rw [List.length_take]; omega
    omega
  refine fn_ok mixed Tryz.func95 rfl (by kernel_rfl) _ Tryz.results95 _ Tryz.ntmps95 (by simp) (by kernel_rfl) ?_
  simp (maxSteps := 4000000) only [bytes_nil, pInts, pI, tvl, simprocAttr]
  repeat (first | refine ftS (by kernel_rfl) ?_ | refine And.intro (by omega) ?_)
  refine awp_loop (X := Nat) (fun k => [(3, .pv (.str (Bt.bytes ((ns.take k).flatMap Bt.putNum)))), (6, .pv (.lst 3 (ns.map fun x => [pI x]))), (7, .pv (.int .i64 ns.length)), (8, .pv (.int .i64 k))])
    (fun _ => []) (fun k => k ≤ ns.length) (fun k => ns.length - k) 100 0 (Nat.zero_le _) (by simp (maxSteps := 4000000) only [List.take_zero, List.flatMap_nil, pI, tvl, simprocAttr]; try simp [pI]) (fun k hk => ?_)
  by_cases c1 : k < ns.length
  · have d1 : decide ((k : Int) < (ns.length : Int)) = true := by simpa using c1
    have e5 : (ns.map fun x => [PV.int .i64 x])[k]? = some [.int .i64 ns[k]] := by simp [c1]
    have hP := iput_ok (n := ns[k]) (hb _ (List.getElem_mem c1))
    have hpl := Bt.putNum_len (n := ns[k]) (hb _ (List.getElem_mem c1))
    have hs : (ns.take (k + 1)).flatMap Bt.putNum = (ns.take k).flatMap Bt.putNum ++ Bt.putNum ns[k] := by
      rw [List.take_succ_eq_append_getElem c1, List.flatMap_append]
      simp
    have hk1 := hlen k
    generalize ns[k] = x at *
    simp (maxSteps := 4000000) only [d1, e5, pI, tvl, simprocAttr]
    repeat (first | refine ftS (by kernel_rfl) ?_ | refine And.intro (by omega) ?_)
    refine aops_fn (hP) (hidB rfl) rfl ?_
    simp (maxSteps := 4000000) only [Bt.bytes_size, d1, e5, pI, tvl, simprocAttr]
    repeat (first | refine ftS (by kernel_rfl) ?_ | refine And.intro (by omega) ?_)
    refine ⟨k + 1, by omega, by omega, ?_⟩
    simp [hs, Bt.bytes_append, pI]
  · have d1 : decide ((k : Int) < (ns.length : Int)) = false := by simpa using c1
    have ht : ns.take k = ns := List.take_of_length_le (by omega)
    rw [ht]
    simp (maxSteps := 4000000) only [d1, pI, tvl, simprocAttr]
    repeat (first | refine ftS (by kernel_rfl) ?_ | refine And.intro (by omega) ?_)
    all_goals (first | rfl | trivial | skip)
set_option maxRecDepth 10000 in
set_option maxHeartbeats 8000000 in
theorem answersIn_ok {rs : List Bt.C4} {h : Int} {m0 : Bt.Mc} {l : List Bt.Ch} {ms : List (List PV)} (hne : rs ≠ []) (hn : rs.length ≤ 1048576) (hl : l.length ≤ 1048576) (hml : ms.length = l.length) (hma : ∀ k, k < l.length → ms[k]? = some (pMc (Bt.after rs h m0 (l.take k)))) (hsz : ∀ k, Bt.mcSz (Bt.after rs h m0 (l.take k)) ≤ 1048576) :
    FnOk E.P 86 [pProg rs h, .lst 54 ms, pChs l] (pInts (Bt.ansFrom rs h m0 l)) true := by
  refine fn_ok mixed Tryz.func86 rfl (by kernel_rfl) _ Tryz.results86 _ Tryz.ntmps86 (by simp) (by kernel_rfl) ?_
  simp (maxSteps := 4000000) only [pProg, pChs, pI, tvs, simprocAttr]
  repeat (first | refine ftS (by kernel_rfl) ?_ | refine And.intro (by omega) ?_)
  refine awp_loop (X := Nat) (fun k => [(1, .pv (.lst 54 ms)), (3, .ptr 0 0), (7, .sl 1), (11, .pv (.lst 99 (l.map pCh))), (12, .pv (.int .i64 l.length)), (13, .pv (.int .i64 k))])
    (fun k => [(0, .box [.pv (.lst 116 (rs.map pCode)), .pv (.int .i64 h)]), (1, .row true 3 ((Bt.ansFrom rs h m0 (l.take k)).map fun x => [pI x]))])
    (fun k => k ≤ l.length) (fun k => l.length - k) 100 0 (Nat.zero_le _) (by simp (maxSteps := 4000000) only [tvl, simprocAttr]; try simp [Bt.ansFrom]) (fun k hk => ?_)
  by_cases c1 : k < l.length
  · have d1 : decide ((k : Int) < (l.length : Int)) = true := by simpa using c1
    have e5 : (l.map pCh)[k]? = some (pCh l[k]) := by simp [c1]
    have e6 := hma k c1
    have o1 : (Bt.ansFrom rs h m0 (l.take k)).length ≤ k := by
      have := Bt.ansFrom_len rs h (l.take k) m0
      rw [List.length_take] at this
      omega
    have hs := Bt.ansFrom_snoc (rs := rs) (h := h) (m := m0) c1
    have hA := asksFor_ok (rs := rs) (h := h) (who := l[k].who) (kind := l[k].kind) (rep := l[k].reply) (m := Bt.after rs h m0 (l.take k)) hne hn (Small.of (hsz k))
    simp (maxSteps := 4000000) only [hml, d1, e5, e6, pCh, pMc, pInts, pI, tvl, simprocAttr]
    repeat (first | refine ftS (by kernel_rfl) ?_ | refine And.intro (by omega) ?_)
    refine aops_fn (hA) (hidB rfl) rfl ?_
    cases ht : Bt.asks rs h (Bt.after rs h m0 (l.take k)) l[k]
    · simp (maxSteps := 4000000) only [ht, hml, d1, pProg, pCh, pMc, pInts, pI, tvl, simprocAttr]
      repeat (first | refine ftS (by kernel_rfl) ?_ | refine And.intro (by omega) ?_)
      refine ⟨k + 1, by omega, by omega, ?_⟩
      simp [hs, ht, pI]
    · simp (maxSteps := 4000000) only [ht, hml, d1, pProg, pCh, pMc, pInts, pI, tvl, simprocAttr]
      repeat (first | refine ftS (by kernel_rfl) ?_ | refine And.intro (by omega) ?_)
      refine ⟨k + 1, by omega, by omega, ?_⟩
      simp [hs, ht, pI]
  · have d1 : decide ((k : Int) < (l.length : Int)) = false := by simpa using c1
    obtain rfl : k = l.length := by omega
    simp (maxSteps := 4000000) only [d1, List.take_length, pInts, pI, tvl, simprocAttr]
    repeat (first | refine ftS (by kernel_rfl) ?_ | refine And.intro (by omega) ?_)
    all_goals (first | rfl | trivial | skip)
set_option maxRecDepth 10000 in
set_option maxHeartbeats 16000000 in
theorem itapeOf_ok {rs : List Bt.C4} {h : Int} {S : List Bt.Sl} {Q : List Int} (hn : rs.length ≤ 1048576) (h1 : S.length ≤ 1048576) (h2 : Q.length ≤ 1048576) : FnOk E.P 53 [pProg rs h, pRec (S, Q)] (.str (Bt.bytes (Bt.tapeOf rs h S Q))) true := by
  have hR := (iReplay_ok (rs := rs) (h := h) (S := S) (Q := Q) hn h1 h2).read
  cases e : Bt.replay rs h S Q with
  | none =>
    rw [Bt.tapeOf_none e]
    rw [e] at hR
    refine fn_ok mixed Tryz.func53 rfl (by kernel_rfl) _ Tryz.results53 _ Tryz.ntmps53 (by simp) (by kernel_rfl) ?_
    simp (maxSteps := 4000000) only [pRec, pProg, pChs, pInts, pI, tvl, simprocAttr]
    repeat (first | refine ftS (by kernel_rfl) ?_ | refine And.intro (by omega) ?_)
    refine aops_callF (hR) (hidB rfl) rfl ?_
    simp (maxSteps := 4000000) only [bytes_nil, Option.getD_none, Option.isSome_none, List.map_nil, pRec, pProg, pChs, pInts, pI, tvl, simprocAttr]
    repeat (first | refine ftS (by kernel_rfl) ?_ | refine And.intro (by omega) ?_)
    all_goals (first | rfl | trivial | skip)
  | some l =>
    rw [Bt.tapeOf_some e]
    rw [e] at hR
    have R := Bt.replayed e
    have hne := progOk_ne (Bt.runOk_facts R.ok).1
    have hM := (iMachines_ok (rs := rs) (h := h) (l := l) hn (by have := R.few; omega)).read
    unfold machs at hM
    rw [if_pos R.ok] at hM
    have hT := Bt.tape_in R
    have hfew := R.few
    have hfewS := R.fewS
    have hsl := R.sl
    have hwk : l.length = (Bt.unans S).length := by simpa using congrArg List.length R.wks
    have hrl := (Bt.run_like R.go).2
    have hml : (alongTo rs h l l.length).length = l.length + 1 := by simp [alongTo]
    have hma : ∀ k, k ≤ l.length → (alongTo rs h l l.length)[k]? = some (pMc (Bt.after rs h Bt.mcNew (l.take k))) := fun k hk => by
      simp [alongTo, List.getElem?_range (show k < l.length + 1 by omega)]
    generalize alongTo rs h l l.length = ms at *
    obtain ⟨total, ht⟩ : ∃ x, Bt.tapeIn rs h S Bt.mcNew l = x := ⟨_, rfl⟩
    rw [ht] at hT ⊢
    refine fn_ok mixed Tryz.func53 rfl (by kernel_rfl) _ Tryz.results53 _ Tryz.ntmps53 (by simp) (by kernel_rfl) ?_
    simp (maxSteps := 4000000) only [pRec, pProg, pChs, pInts, pI, tvl, simprocAttr]
    repeat (first | refine ftS (by kernel_rfl) ?_ | refine And.intro (by omega) ?_)
    refine aops_callF (hR) (hidB rfl) rfl ?_
    simp (maxSteps := 4000000) only [bytes_nil, Option.getD_some, Option.isSome_some, pRec, pProg, pChs, pInts, pI, tvl, simprocAttr]
    repeat (first | refine ftS (by kernel_rfl) ?_ | refine And.intro (by omega) ?_)
    refine aops_callF (hM) (hidB rfl) rfl ?_
    simp (maxSteps := 4000000) only [bytes_nil, pRec, pProg, pChs, pInts, pI, tvl, simprocAttr]
    repeat (first | refine ftS (by kernel_rfl) ?_ | refine And.intro (by omega) ?_)
    refine awp_loop (X := Nat × Nat × List Int) (fun x => [(2, .ptr 0 0), (5, .pv (.lst 99 (l.map pCh))), (7, .pv (.lst 54 ms)), (8, .pv (.str (Bt.bytes x.2.2))), (9, .pv (.int .i64 x.2.1)), (25, .pv (.lst 114 (S.map pSl))), (26, .pv (.int .i64 S.length)), (27, .pv (.int .i64 x.1))])
      (fun _ => [(0, .box [.pv (.lst 116 (rs.map pCode)), .pv (.int .i64 h)])])
      (fun x => x.1 ≤ S.length ∧ x.2.1 ≤ l.length ∧ l.length - x.2.1 = (Bt.unans (S.drop x.1)).length ∧ x.2.2 ++ Bt.tapeIn rs h (S.drop x.1) (Bt.after rs h Bt.mcNew (l.take x.2.1)) (l.drop x.2.1) = total) (fun x => S.length - x.1) 100 (0, 0, [])
      ⟨Nat.zero_le _, Nat.zero_le _, hwk, ht⟩ (by simp (maxSteps := 4000000) only [pI, tvl, simprocAttr]; try simp [pI]) (fun x H => ?_)
    obtain ⟨k, a, T⟩ := x
    obtain ⟨i1, i2, i3, i4⟩ := H
    simp only at i1 i2 i3 i4
    have hTl : T.length ≤ 8100 := by
      have := congrArg List.length i4
      rw [List.length_append] at this
      omega
    by_cases c1 : k < S.length
    · have d1 : decide ((k : Int) < (S.length : Int)) = true := by simpa using c1
      have e5 : (S.map pSl)[k]? = some (pSl S[k]) := by simp [c1]
      rw [Bt.unans_drop c1, List.length_append, List.length_replicate] at i3
      rw [List.drop_eq_getElem_cons c1, Bt.tapeIn] at i4
      have hs := hsl _ (List.getElem_mem c1)
      generalize S[k] = s at *
      obtain ⟨who, kind, many⟩ := s
      simp only at hs i3 i4
      obtain ⟨n, rfl⟩ : ∃ n : Nat, many = n := ⟨many.toNat, by omega⟩
      rw [Int.toNat_natCast] at i3 i4
      have mw : mulW .i64 2 who = 2 * who := mulW_in ⟨by omega, by omega⟩
      have hP1 := iput_ok (n := 2 * who + kind) (by omega)
      have hP2 := iput_ok (n := (n : Int)) (by omega)
      have q1 := Bt.putNum_len (n := 2 * who + kind) (by omega)
      have q2 := Bt.putNum_len (n := (n : Int)) (by omega)
      have hall : (l.drop a).take n = (l.take (a + n)).drop a := by rw [List.drop_take]; congr 1; omega
      have e8 : (l.map pCh).take (a + n) = (l.take (a + n)).map pCh := by rw [List.map_take]
      have e9 : ((l.take (a + n)).map pCh).drop a = ((l.drop a).take n).map pCh := by rw [hall, List.map_drop]
      have hA := (answersIn_ok (rs := rs) (h := h) (m0 := Bt.after rs h Bt.mcNew (l.take a)) (l := (l.drop a).take n) (ms := (ms.take (a + n)).drop a) hne hn (by rw [List.length_take, List.length_drop]; omega)
        (by rw [List.length_take, List.length_drop, List.length_drop, List.length_take]; omega)
        (fun j hj => by
          rw [List.length_take, List.length_drop] at hj
          rw [List.getElem?_drop, List.getElem?_take, if_pos (by omega), hma _ (by omega), ← Bt.after_append, List.take_take, Nat.min_eq_left (by omega)]
          congr 3
          rw [List.take_add])
        (fun j => by rw [← Bt.after_append]; exact Bt.after_sz rs h _)).read
      have hans : ∀ x ∈ Bt.ansFrom rs h (Bt.after rs h Bt.mcNew (l.take a)) ((l.drop a).take n), x ≤ 9223372036854775807 := fun x hx => by
        have hq := hrl x (by
          rw [Bt.ansFrom_take a]
          refine List.mem_append_right _ ?_
          rw [Bt.ansFrom_take n]
          exact List.mem_append_left _ hx)
        omega
      have hanl := Bt.ansFrom_len rs h ((l.drop a).take n) (Bt.after rs h Bt.mcNew (l.take a))
      rw [List.length_take, List.length_drop] at hanl
      have haf : Bt.after rs h (Bt.after rs h Bt.mcNew (l.take a)) ((l.drop a).take n) = Bt.after rs h Bt.mcNew (l.take (a + n)) := by
        rw [← Bt.after_append, List.take_add]
      rw [haf, List.drop_drop] at i4
      generalize (l.drop a).take n = l' at *
      generalize Bt.ansFrom rs h (Bt.after rs h Bt.mcNew (l.take a)) l' = ans at *
      have hN := putNums_ok (ns := ans) (by omega) hans
      have q3 := Bt.putNums_len hans
      have es : (a : Int) + (n : Int) = ((a + n : Nat) : Int) := by omega
      have hml2 : (ms.take (a + n)).length = a + n := by rw [List.length_take]; omega
      generalize hms : (ms.take (a + n)).drop a = ms' at *
      simp (maxSteps := 4000000) only [d1, e5, es, pSl, pI, tvl, simprocAttr]
      repeat (first | refine ftS (by kernel_rfl) ?_ | refine And.intro (by omega) ?_)
      refine aops_fn (hP1) (hidB rfl) rfl ?_
      simp (maxSteps := 4000000) only [mw, d1, e5, es, pSl, pI, tvl, simprocAttr]
      repeat (first | refine ftS (by kernel_rfl) ?_ | refine And.intro (by omega) ?_)
      refine aops_fn (hP2) (hidB rfl) rfl ?_
      simp (maxSteps := 4000000) only [mw, ← Bt.bytes_append, Bt.bytes_size, List.length_append, hml, hms, e8, e9, es, pProg, pChs, pInts, pI, tvl, simprocAttr]
      repeat (first | refine ftS (by kernel_rfl) ?_ | refine And.intro (by omega) ?_)
      refine aops_callF (hA) (hidB rfl) rfl ?_
      simp (maxSteps := 4000000) only [← Bt.bytes_append, Bt.bytes_size, List.length_append, hml, hms, e8, e9, es, pProg, pChs, pInts, pI, tvl, simprocAttr]
      repeat (first | refine ftS (by kernel_rfl) ?_ | refine And.intro (by omega) ?_)
      refine aops_fn (hN) (hidB rfl) rfl ?_
      simp (maxSteps := 4000000) only [← Bt.bytes_append, Bt.bytes_size, List.length_append, es, pInts, pI, tvl, simprocAttr]
      repeat (first | refine ftS (by kernel_rfl) ?_ | refine And.intro (by omega) ?_)
      refine ⟨(k + 1, a + n, T ++ (Bt.putNum (2 * who + kind) ++ Bt.putNum n) ++ ans.flatMap Bt.putNum), ⟨by simp only; omega, by simp only; omega, by simp only; omega, ?_⟩, by simp only; omega, ?_⟩
      · simp only
        rw [← i4]
        simp [List.append_assoc]
      · simp [pI]
    · have d1 : decide ((k : Int) < (S.length : Int)) = false := by simpa using c1
      rw [List.drop_of_length_le (by omega), Bt.tapeIn, List.append_nil] at i4
      rw [← i4]
      simp (maxSteps := 4000000) only [d1, pI, tvl, simprocAttr]
      repeat (first | refine ftS (by kernel_rfl) ?_ | refine And.intro (by omega) ?_)
      all_goals (first | rfl | trivial | skip)
end Av
end Go.Proofs.YtdjenlnomibniaaGreat
