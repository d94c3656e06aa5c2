/-
  Chapter 5: tapes told plainly.
-/
import Derived.Test.YtemogjmghgfdfaaRepP
import Derived.Test.YtemogjmghgfdfaaPut
set_option linter.unusedSimpArgs false
set_option linter.unusedVariables false
namespace Go.Proofs.Ytemogjmghgfdfaa
namespace Bt
theorem after_append (rs : List C4) (h : Int) : ∀ (a b : List Ch) (m : Mc), after rs h m (a ++ b) = after rs h (after rs h m a) b
  | [], _, _ => rfl
  | _ :: a, b, _ => after_append rs h a b _
/-- the answers that choices need from a machine on -/
def ansFrom (rs : List C4) (h : Int) : Mc → List Ch → List Int
  | _, [] => []
  | m, c :: l => (if asks rs h m c then [c.reply] else []) ++ ansFrom rs h ((doM rs h m c).getD mcNil) l
theorem ansFrom_append (rs : List C4) (h : Int) : ∀ (a b : List Ch) (m : Mc), ansFrom rs h m (a ++ b) = ansFrom rs h m a ++ ansFrom rs h (after rs h m a) b
  | [], _, _ => rfl
  | c :: a, b, m => by simp only [List.cons_append, ansFrom, after, ansFrom_append rs h a b, List.append_assoc]
theorem ansFrom_snoc {rs : List C4} {h : Int} {l : List Ch} {m : Mc} {k : Nat} (hk : k < l.length) : ansFrom rs h m (l.take (k + 1)) = ansFrom rs h m (l.take k) ++ (if asks rs h (after rs h m (l.take k)) l[k] then [l[k].reply] else []) := by
  rw [List.take_succ_eq_append_getElem hk, ansFrom_append]
  simp [ansFrom]
theorem ansFrom_len (rs : List C4) (h : Int) : ∀ (l : List Ch) (m : Mc), (ansFrom rs h m l).length ≤ l.length
  | [], _ => by simp [ansFrom]
  | c :: l, m => by
    have := ansFrom_len rs h l ((doM rs h m c).getD mcNil)
    simp only [ansFrom, List.length_append, List.length_cons]
    split <;> simp <;> omega
/-- what a choice that is made is like -/
theorem made_like {rs : List C4} {h : Int} {m m' : Mc} {c : Ch} (e : doM rs h m c = some m') : (0 ≤ c.who ∧ c.who < 4) ∧ (c.kind = 0 ∨ c.kind = 1) ∧ (asks rs h m c = true → 0 ≤ c.reply ∧ c.reply < 10000) := by
  obtain ⟨who, kd, rep⟩ := c
  cases hc : canDo rs h m ⟨who, kd, rep⟩ with
  | false => rw [doM_no hc] at e; cases e
  | true =>
    obtain ⟨hm, hr⟩ := canDo_true hc
    have f1 := (machOk_facts hm).few
    simp only at hr
    have hlr := runs_lt hr
    refine ⟨⟨hlr.1, by simp only; omega⟩, ?_, fun ha => ?_⟩
    · unfold canDo at hc
      rw [hm, Bool.true_and] at hc
      simp only at hc
      split at hc
      · cases hc
      · rw [Bool.and_eq_true] at hc
        have h2 := hc.2
        split at h2
        · rename_i e1; exact .inr e1
        · split at h2
          · rename_i e1; exact .inl e1
          · cases h2
    · unfold asks at ha
      simp only at ha
      split at ha
      · rename_i x hx
        rw [Bool.and_eq_true, beq_iff_eq, beq_iff_eq] at ha
        unfold canDo at hc
        rw [hm, Bool.true_and] at hc
        simp only at hc
        split at hc
        · cases hc
        · rw [Bool.and_eq_true] at hc
          have h2 := hc.2
          rw [if_neg (by omega), if_pos ha.2, hx] at h2
          simp only at h2
          rw [canDoI_ask ha.1, Bool.and_eq_true, decide_eq_true_eq, decide_eq_true_eq] at h2
          exact h2
      · cases ha
/-- a run's choices are like that -/
theorem run_like {rs : List C4} {h : Int} : ∀ {l : List Ch} {m : Mc}, goFrom rs h m l = l.length → (∀ c ∈ l, (0 ≤ c.who ∧ c.who < 4) ∧ (c.kind = 0 ∨ c.kind = 1)) ∧ (∀ x ∈ ansFrom rs h m l, 0 ≤ x ∧ x < 10000)
  | [], m, _ => by simp [ansFrom]
  | c :: l, m, e => by
    cases hd : doM rs h m c with
    | none => rw [goFrom_no hd] at e; simp at e
    | some m' =>
      rw [goFrom_yes hd, List.length_cons] at e
      have ih := run_like (rs := rs) (h := h) (l := l) (m := m') (by omega)
      have hl := made_like hd
      refine ⟨fun x hx => ?_, fun x hx => ?_⟩
      · rcases List.mem_cons.1 hx with rfl | hx
        · exact ⟨hl.1, hl.2.1⟩
        · exact ih.1 x hx
      · simp only [ansFrom, hd, Option.getD_some] at hx
        rcases List.mem_append.1 hx with hx | hx
        · split at hx
          · rename_i ha
            obtain rfl := List.mem_singleton.1 hx
            exact hl.2.2 ha
          · cases hx
        · exact ih.2 x hx
def wk (c : Ch) : Int × Int := (c.who, c.kind)
theorem asks_wk {rs : List C4} {h : Int} {m : Mc} {who kind a b : Int} : asks rs h m ⟨who, kind, a⟩ = asks rs h m ⟨who, kind, b⟩ := rfl
/-- what a row plays: its choices with answers -/
theorem playFrom_like {rs : List C4} {h : Int} {Q : List Int} : ∀ {l out out' : List Ch} {u u' : Nat} {m m' : Mc}, playFrom rs h Q l (out, u, m) = some (out', u', m') → (∀ c ∈ l, c.reply = 0) → u ≤ Q.length →
    ∃ t : List Ch, out' = out ++ t ∧ t.map wk = l.map wk ∧ goFrom rs h m t = t.length ∧ u ≤ u' ∧ u' ≤ Q.length ∧ Q.drop u = ansFrom rs h m t ++ Q.drop u'
  | [], out, out', u, u', m, m', e, hz, hu => by
    simp only [playFrom, Option.some.injEq, Prod.mk.injEq] at e
    obtain ⟨rfl, rfl, rfl⟩ := e
    exact ⟨[], by simp, rfl, rfl, Nat.le_refl _, hu, rfl⟩
  | c :: l, out, out', u, u', m, m', e, hz, hu => by
    obtain ⟨who, kd, rep⟩ := c
    simp only [playFrom, playStep, playDo] at e
    split at e
    · cases e
    · rename_i z hz1
      have hz' : ∀ c ∈ l, c.reply = 0 := fun x hx => hz x (List.mem_cons_of_mem _ hx)
      split at hz1
      · rename_i ha
        split at hz1
        · cases hz1
        · rename_i a hq
          split at hz1
          · cases hz1
          · rename_i m1 hd
            cases hz1
            have hul : u < Q.length := (List.getElem?_eq_some_iff.1 hq).1
            obtain ⟨t, h1, h2, h3, h4, h5, h6⟩ := playFrom_like e hz' (by omega)
            refine ⟨⟨who, kd, a⟩ :: t, by simp [h1], by simp [h2, wk], by rw [goFrom_yes hd, h3, List.length_cons], by omega, h5, ?_⟩
            rw [List.drop_eq_getElem_cons hul, h6]
            have hqa : Q[u] = a := (List.getElem?_eq_some_iff.1 hq).2
            have ha' : asks rs h m ⟨who, kd, a⟩ = true := ha
            simp [ansFrom, hd, ha', hqa]
      · rename_i ha
        split at hz1
        · cases hz1
        · rename_i m1 hd
          cases hz1
          obtain ⟨t, h1, h2, h3, h4, h5, h6⟩ := playFrom_like e hz' hu
          refine ⟨⟨who, kd, rep⟩ :: t, by simp [h1], by simp [h2, wk], by rw [goFrom_yes hd, h3, List.length_cons], h4, h5, ?_⟩
          rw [h6]
          have ha' : asks rs h m ⟨who, kd, rep⟩ = false := by simpa using ha
          simp [ansFrom, hd, ha']
theorem unans_zero (S : List Sl) : ∀ c ∈ unans S, c.reply = 0 := fun c hc => by
  simp only [unans, List.mem_flatMap] at hc
  obtain ⟨s, _, hc⟩ := hc
  rw [List.eq_of_mem_replicate hc]
theorem unans_many : ∀ {S : List Sl} (_ : S.all fitSl = true), ((unans S).length : Int) = manyIn S
  | [], _ => rfl
  | s :: S, hf => by
    simp only [List.all_cons, Bool.and_eq_true] at hf
    have ih := unans_many hf.2
    have h1 := hf.1
    simp only [fitSl, Bool.and_eq_true, decide_eq_true_eq] at h1
    simp only [unans, List.flatMap_cons, List.length_append, List.length_replicate, manyIn] at *
    omega
structure Replayed (rs : List C4) (h : Int) (S : List Sl) (Q : List Int) (l : List Ch) : Prop where
  ok : runOk rs h l = true
  few : l.length ≤ 300
  ans : Q = ansFrom rs h mcNew l
  go : goFrom rs h mcNew l = l.length
  wks : l.map wk = (unans S).map wk
  fewS : S.length ≤ 300
  fewQ : Q.length ≤ 300
  sl : ∀ s ∈ S, (1 ≤ s.many ∧ s.many ≤ 300) ∧ (0 ≤ s.who ∧ s.who < 4) ∧ (s.kind = 0 ∨ s.kind = 1)
/-- what is replayed -/
theorem replayed {rs : List C4} {h : Int} {S : List Sl} {Q : List Int} {l : List Ch} (e : replay rs h S Q = some l) : Replayed rs h S Q l := by
  unfold replay at e
  split at e
  · rename_i hc
    obtain ⟨hp, hf, ha, hm⟩ := hc
    obtain ⟨f1, f2, f3⟩ := fits_facts hf
    unfold answered at e
    split at e
    · rename_i out u m hpl
      split at e
      · rename_i hu
        obtain rfl := Option.some.inj e
        rw [playTo_all] at hpl
        obtain ⟨t, h1, h2, h3, h4, h5, h6⟩ := playFrom_like hpl (unans_zero S) (Nat.zero_le _)
        rw [List.nil_append] at h1
        subst h1
        rw [hu, List.drop_zero, List.drop_length, List.append_nil] at h6
        have hlen : out.length = (unans S).length := by
          have := congrArg List.length h2
          simpa using this
        have hmany := unans_many f3
        have hfew : out.length ≤ 300 := by omega
        have hrun : runOk rs h out = true := by
          unfold runOk runLong
          rw [if_pos hp, List.take_of_length_le hfew, h3]
          simp [hfew]
        refine ⟨hrun, hfew, h6, h3, h2, f1, f2, fun s hs => ?_⟩
        have hfs := List.all_eq_true.1 f3 s hs
        simp only [fitSl, Bool.and_eq_true, decide_eq_true_eq] at hfs
        refine ⟨hfs, ?_⟩
        have hmem : wk ⟨s.who, s.kind, 0⟩ ∈ (unans S).map wk := by
          refine List.mem_map.2 ⟨_, ?_, rfl⟩
          simp only [unans, List.mem_flatMap]
          exact ⟨s, hs, by rw [List.mem_replicate]; exact ⟨by omega, rfl⟩⟩
        rw [← h2] at hmem
        obtain ⟨c, hc, ec⟩ := List.mem_map.1 hmem
        have hl := (run_like h3).1 c hc
        simp only [wk, Prod.mk.injEq] at ec
        rw [← ec.1, ← ec.2]
        exact hl
      · cases e
    · cases e
  · cases e
theorem putN_len : ∀ (k n : Nat), n < 128 ^ (k + 1) → (putN n).length ≤ k + 1
  | 0, n, h => by
    rw [putN_small (by simpa using h)]
    simp
  | k + 1, n, h => by
    by_cases c : n < 128
    · rw [putN_small c]; simp
    · rw [putN_more c, List.length_cons]
      have := putN_len k (n / 128) (by rw [Nat.div_lt_iff_lt_mul (by omega)]; rw [Nat.pow_succ] at h; exact h)
      omega
theorem putNum_len {n : Int} (h : n ≤ 9223372036854775807) : (putNum n).length ≤ 9 := by
  unfold putNum
  split
  · simp
  · refine putN_len 8 _ ?_
    have : (128 : Nat) ^ (8 + 1) = 9223372036854775808 := by decide
    omega
theorem putNums_len : ∀ {ns : List Int} (_ : ∀ x ∈ ns, x ≤ 9223372036854775807), (ns.flatMap putNum).length ≤ 9 * ns.length
  | [], _ => by simp
  | x :: ns, h => by
    have h1 := putNum_len (h x (List.mem_cons_self ..))
    have h2 := putNums_len (ns := ns) (fun y hy => h y (List.mem_cons_of_mem _ hy))
    simp only [List.flatMap_cons, List.length_append, List.length_cons]
    omega
/-- what is written of slices and the choices that they tell -/
def tapeIn (rs : List C4) (h : Int) : List Sl → Mc → List Ch → List Int
  | [], _, _ => []
  | s :: S, m, l => putNum (2 * s.who + s.kind) ++ putNum s.many ++ (ansFrom rs h m (l.take s.many.toNat)).flatMap putNum ++ tapeIn rs h S (after rs h m (l.take s.many.toNat)) (l.drop s.many.toNat)
def tapeOf (rs : List C4) (h : Int) (S : List Sl) (Q : List Int) : List Int := match replay rs h S Q with
  | some l => tapeIn rs h S mcNew l
  | none => []
theorem bytes_append (a b : List Int) : bytes (a ++ b) = bytes a ++ bytes b := by
  apply ByteArray.ext
  simp [bytes]
theorem bytes_size (l : List Int) : (bytes l).size = l.length := by simp [bytes, ByteArray.size]
theorem ansFrom_take {rs : List C4} {h : Int} {m : Mc} {l : List Ch} (n : Nat) : ansFrom rs h m l = ansFrom rs h m (l.take n) ++ ansFrom rs h (after rs h m (l.take n)) (l.drop n) := by
  rw [← ansFrom_append, List.take_append_drop]
theorem tapeIn_len {rs : List C4} {h : Int} : ∀ {S : List Sl} {m : Mc} {l : List Ch}, (∀ s ∈ S, (1 ≤ s.many ∧ s.many ≤ 300) ∧ (0 ≤ s.who ∧ s.who < 4) ∧ (s.kind = 0 ∨ s.kind = 1)) → (∀ x ∈ ansFrom rs h m l, 0 ≤ x ∧ x < 10000) → (tapeIn rs h S m l).length ≤ 18 * S.length + 9 * l.length
  | [], m, l, _, _ => by simp [tapeIn]
  | s :: S, m, l, hs, ha => by
    have f := hs s (List.mem_cons_self ..)
    rw [ansFrom_take s.many.toNat] at ha
    have ih := tapeIn_len (S := S) (m := after rs h m (l.take s.many.toNat)) (l := l.drop s.many.toNat) (fun x hx => hs x (List.mem_cons_of_mem _ hx)) (fun x hx => ha x (List.mem_append_right _ hx))
    have h1 := putNum_len (n := 2 * s.who + s.kind) (by omega)
    have h2 := putNum_len (n := s.many) (by omega)
    have h3 := putNums_len (ns := ansFrom rs h m (l.take s.many.toNat)) (fun x hx => by have := ha x (List.mem_append_left _ hx); omega)
    have h4 := ansFrom_len rs h (l.take s.many.toNat) m
    rw [List.length_take] at h4
    rw [List.length_drop] at ih
    simp only [tapeIn, List.length_append, List.length_cons]
    omega
theorem tape_in {rs : List C4} {h : Int} {S : List Sl} {Q : List Int} {l : List Ch} (R : Replayed rs h S Q l) : (tapeIn rs h S mcNew l).length ≤ 8100 := by
  have h1 := tapeIn_len (rs := rs) (h := h) (m := mcNew) (l := l) R.sl (run_like R.go).2
  have := R.fewS
  have := R.few
  omega
theorem tapeOf_some {rs : List C4} {h : Int} {S : List Sl} {Q : List Int} {l : List Ch} (e : replay rs h S Q = some l) : tapeOf rs h S Q = tapeIn rs h S mcNew l := by
  unfold tapeOf
  rw [e]
theorem tapeOf_none {rs : List C4} {h : Int} {S : List Sl} {Q : List Int} (e : replay rs h S Q = none) : tapeOf rs h S Q = [] := by
  unfold tapeOf
  rw [e]
theorem tapeOf_len (rs : List C4) (h : Int) (S : List Sl) (Q : List Int) : (tapeOf rs h S Q).length ≤ 8100 := by
  cases e : replay rs h S Q with
  | none => rw [tapeOf_none e]; simp
  | some l => rw [tapeOf_some e]; exact tape_in (replayed e)
end Bt
end Go.Proofs.Ytemogjmghgfdfaa
