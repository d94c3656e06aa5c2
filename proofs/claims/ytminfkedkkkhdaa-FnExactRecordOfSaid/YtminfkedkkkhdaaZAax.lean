/-
  Part of a proof: OrdI. No condition.
-/
import Derived.Test.YtminfkedkkkhdaaZAah
import Derived.Test.YtminfkedkkkhdaaZAar
namespace Go.Proofs.Ytminfkedkkkhdaa
open Go.RowKit
def CJ (J : List (Nat × (World → Prop))) (listed : Array Bool) (w : World) : Prop := ∀ q ∈ J, listed.getD q.1 false = false → q.2 w
def FamOk (ops : List Oper) (fam : List (Nat × Nat × Nat)) (i : Nat) (A : Act) (w : World) (v : Value) (w' : World) : Prop :=
 ∀ q ∈ fam, q.1 = i → ∀ k, v.ownBlock = some k → k < w'.heap.size ∧ (w.heap.size ≤ k ∨ ∃ q' ∈ fam, q'.1 ∈ anc ops ops.length i ∧ q'.2.2 = q.2.2 ∧ (slotAt A q'.2.1).ownBlock = some k)
section
variable (P : Program) (ops : List Oper) (F : List Fact) (J : List (Nat × (World → Prop))) (fam : List (Nat × Nat × Nat)) (a0 : Act)
def OpGoodI (i : Nat) (o : Oper) : Prop :=
 ∀ (A : Act) (w : World), (∀ q ∈ J, (q.1 = i ∨ i ∈ anc ops ops.length q.1) → q.2 w) → (∀ t, (∀ o ∈ ops, o.dst ≠ some t) → slotAt A t = slotAt a0 t) →
  (∀ j, j ∈ anc ops ops.length i → (∀ k, (F.getD j Fact.none').kill = some k → k = i ∨ i ∈ anc ops ops.length k) → factAt F j (slotAt A) w) → Differ ops i (slotAt A) →
  surely P o A w fun v w' => Grows o w v w' ∧ (Below w.heap.size w w' ∨ ((∀ j, j ≠ i → i ∉ anc ops ops.length j → (∀ k, (F.getD j Fact.none').kill = some k → k ≠ i ∧ k ∉ anc ops ops.length i) → factAt F j (slotAt A) w → factAt F j (slotAt A) w') ∧ ∀ q ∈ J, q.1 ≠ i → q.1 ∉ anc ops ops.length i → q.2 w → q.2 w')) ∧ factAt F i (put1 A o v) w' ∧ FamOk ops fam i A w v w'
def opsGoodI : List Oper → Nat → Prop
 | [], _ => True
 | o :: l, i => OpGoodI P ops F J fam a0 i o ∧ opsGoodI l (i + 1)
end
section
variable {P : Program} {ops : List Oper} {F : List Fact} {J : List (Nat × (World → Prop))} {fam : List (Nat × Nat × Nat)} {a0 : Act}
theorem opsGoodI_at : ∀ (l : List Oper) (i : Nat), opsGoodI P ops F J fam a0 l i → ∀ j o, l[j]? = some o → OpGoodI P ops F J fam a0 (i + j) o
 | [], _, _, j, o, h => by simp at h
 | x :: l, i, hg, 0, o, h => by simp at h; subst h; exact hg.1
 | x :: l, i, hg, j + 1, o, h => by
  have := opsGoodI_at l (i + 1) hg.2 j o (by simpa using h)
  rwa [show i + 1 + j = i + (j + 1) by omega] at this
theorem Inv.step2 {C C' : World → Prop} {R : Value → World → Prop} {listed : Array Bool} {a : Act} {w : World} {i : Nat} {o : Oper} {Q : Exit → Act → World → Prop} (H : OrdOk ops F a0.tmps.size)
  (hbel : ∀ j s w w', Below w.heap.size w w' → factAt F j s w → factAt F j s w') (hg : (∀ j, j ∈ anc ops ops.length i → (∀ k, (F.getD j Fact.none').kill = some k → k = i ∨ i ∈ anc ops ops.length k) → factAt F j (slotAt a) w) → Differ ops i (slotAt a) →
  surely P o a w fun v w' => Grows o w v w' ∧ C' w' ∧ (Below w.heap.size w w' ∨ ∀ j, j ≠ i → i ∉ anc ops ops.length j → (∀ k, (F.getD j Fact.none').kill = some k → k ≠ i ∧ k ∉ anc ops ops.length i) → factAt F j (slotAt a) w → factAt F j (slotAt a) w') ∧ factAt F i (put1 a o v) w' ∧ R v w') (ho : ops[i]? = some o)
  (hi : i ∈ Region.ready .any ops.toArray listed) (h : Inv ops F C a0 listed a w) : wpOp P ops.toArray Q i (fun a' w' => Inv ops F C' a0 (listed.setIfInBounds i true) a' w' ∧ ∃ v, a' = a.put o.dst v ∧ w.heap.size ≤ w'.heap.size ∧ R v w') a w := by
 obtain ⟨hun, o1, ho1, hdeps⟩ := mem_ready.1 hi
 have e1 : o1 = o := by rw [List.getElem?_toArray, ho] at ho1; exact (Option.some.inj ho1).symm
 subst e1
 have hil : i < listed.size := by rw [h.size]; exact (List.getElem?_eq_some_iff.1 ho).1
 have hun' : listed.getD i false = false := by simpa [hil] using hun
 unfold wpOp
 rw [ho1]
 have hw : Region.wanted o1 (yielded ops.toArray a.tmps) = true := by unfold Region.wanted; rw [H.guard i o1 ho]
 simp only [hw, if_true]
 have hD : ∀ j d, allocD ops j = some d → j ≠ i → o1.dst ≠ some d := fun j d hj hji e => by
  unfold allocD at hj
  split at hj
  ·rename_i oj hoj
   split at hj
   ·exact (H.apart i o1 d j oj ho e hoj hji).1 hj
   ·cases hj
  ·cases hj
 refine .inl (wp_of_surely (hg (fun j hj hk => h.fact j (anc_ready h.down ho hdeps _ j hj) (fun k e => ?_)) (fun j j' d d' e e' hne hj hj' => h.diff j j' d d' e e' hne (anc_ready h.down ho hdeps _ j hj) (anc_ready h.down ho hdeps _ j' hj'))) ?_)
 ·rcases hk k e with rfl | hk
  ·exact hun'
  ·cases hl : listed.getD k false with
   | false => rfl
   | true => rw [anc_listed h.down _ k hl i hk] at hun'; cases hun'
 ·rintro v w' ⟨⟨hgr, hal⟩, hc, hst, hf, hR⟩
  have hnew : ∀ d, allocD ops i = some d → slotAt (a.put o1.dst v) d = v ∧ isAlloc o1 = true := fun d hd => by
   unfold allocD at hd
   rw [ho] at hd
   simp only at hd
   split at hd
   ·rename_i hx
    rw [hd]
    exact ⟨slot_put_self (by rw [h.tsize]; exact H.dst _ _ _ ho hd), hx⟩
   ·cases hd
  refine ⟨?_, v, rfl, hgr, hR⟩
  refine ⟨by simpa using h.size, by rw [size_put]; exact h.tsize, by rw [defers_put]; exact h.defers, fun t ht => ?_, fun j oj hj hlj e he hb => ?_, hc, fun j hlj hkj => ?_, fun j d hd hlj => ?_, fun j j' d d' hd hd' hne hlj hlj' => ?_⟩
  ·rw [slot_put_ne (ht o1 (List.mem_of_getElem? ho))]
   exact h.off t ht
  ·by_cases hji : j = i
   ·subst hji
    obtain rfl : oj = o1 := by rw [ho] at hj; exact (Option.some.inj hj).symm
    exact getD_set_true (hdeps e he hb)
   ·rw [getD_set_ne false (Ne.symm hji)] at hlj
    exact getD_set_true (h.down j oj hj hlj e he hb)
  ·by_cases hji : j = i
   ·subst hji
    unfold factAt at hf ⊢
    have : (F.getD j Fact.none').D.map (put1 a o1 v) = (F.getD j Fact.none').D.map (slotAt (a.put o1.dst v)) := by
     refine List.map_congr_left fun t _ => ?_
     unfold put1
     split
     ·rename_i e
      rw [e, slot_put_self (by rw [h.tsize]; exact H.dst _ _ _ ho e)]
     ·rename_i e
      rw [slot_put_ne e]
    rw [← this]
    exact hf
   ·rw [getD_set_ne false (Ne.symm hji)] at hlj
    have hk' : ∀ k, (F.getD j Fact.none').kill = some k → k ≠ i ∧ listed.getD k false = false := fun k e => by
     have := hkj k e
     by_cases hki : k = i
     ·subst hki; rw [getD_set_self hil] at this; cases this
     ·rw [getD_set_ne false (Ne.symm hki)] at this; exact ⟨hki, this⟩
    have hold := h.fact j hlj (fun k e => (hk' k e).2)
    have hold' : factAt F j (slotAt a) w' := by
     rcases hst with hb | hst
     ·exact hbel j _ _ _ hb hold
     ·refine hst j hji (fun hin => by have := anc_listed h.down _ j hlj i hin; rw [hun'] at this; cases this) (fun k e => ⟨(hk' k e).1, fun hk => ?_⟩) hold
      have := anc_ready h.down ho hdeps _ k hk
      rw [(hk' k e).2] at this
      cases this
    unfold factAt at hold' ⊢
    have : (F.getD j Fact.none').D.map (slotAt (a.put o1.dst v)) = (F.getD j Fact.none').D.map (slotAt a) := by
     refine List.map_congr_left fun t ht => slot_put_ne fun e => ?_
     have hjl : j < ops.length := by
      rw [← h.size]
      rcases Nat.lt_or_ge j listed.size with h' | h'
      ·exact h'
      ·simp [Array.getElem?_eq_none h'] at hlj
     have := anc_listed h.down _ j hlj i ((H.apart i o1 t j ops[j] ho e (List.getElem?_eq_getElem hjl) hji).2 ht)
     rw [hun'] at this
     cases this
    rw [this]
    exact hold'
  ·by_cases hji : j = i
   ·subst hji
    obtain ⟨e1, e2⟩ := hnew d hd
    obtain ⟨g, eg, _, hg2⟩ := hal e2
    exact ⟨g, by rw [e1, eg], hg2⟩
   ·rw [getD_set_ne false (Ne.symm hji)] at hlj
    obtain ⟨g, eg, hg2⟩ := h.own j d hd hlj
    exact ⟨g, by rw [slot_put_ne (hD j d hd hji)]; exact eg, by omega⟩
  ·have cross : ∀ j d d', allocD ops i = some d → allocD ops j = some d' → j ≠ i → listed.getD j false = true → slotAt (a.put o1.dst v) d ≠ slotAt (a.put o1.dst v) d' := fun j d d' hd hd' hji hlj => by
    obtain ⟨e1, e2⟩ := hnew d hd
    obtain ⟨g, eg, hg1, _⟩ := hal e2
    obtain ⟨g', eg', hg'⟩ := h.own j d' hd' hlj
    rw [e1, eg, slot_put_ne (hD j d' hd' hji), eg']
    intro e
    injection e with e; injection e with e; injection e with e
    omega
   by_cases hji : j = i
   ·subst hji
    rw [getD_set_ne false hne] at hlj'
    exact cross j' d d' hd hd' (Ne.symm hne) hlj'
   ·rw [getD_set_ne false (Ne.symm hji)] at hlj
    by_cases hji' : j' = i
    ·subst hji'
     exact (cross j d' d hd' hd hji hlj).symm
    ·rw [getD_set_ne false (Ne.symm hji')] at hlj'
     rw [slot_put_ne (hD j d hd hji), slot_put_ne (hD j' d' hd' hji')]
     exact h.diff j j' d d' hd hd' hne hlj hlj'
structure FamInv (fam : List (Nat × Nat × Nat)) (listed : Array Bool) (a : Act) (w : World) : Prop where
 lt : ∀ q ∈ fam, listed.getD q.1 false = true → ∀ k, (slotAt a q.2.1).ownBlock = some k → k < w.heap.size
 ne : ∀ q ∈ fam, ∀ q' ∈ fam, listed.getD q.1 false = true → listed.getD q'.1 false = true → q.2.2 ≠ q'.2.2 → ∀ k, (slotAt a q.2.1).ownBlock = some k → (slotAt a q'.2.1).ownBlock ≠ some k
def famB (ops : List Oper) (fam : List (Nat × Nat × Nat)) (size : Nat) : Bool := fam.all fun q => (match ops[q.1]? with
 | some o => o.dst == some q.2.1
 | none => false) && decide (q.2.1 < size) && fam.all fun q' => q.1 != q'.1 || q.2.2 == q'.2.2
theorem Inv.stepI {fam : List (Nat × Nat × Nat)} {listed : Array Bool} {a : Act} {w : World} {i : Nat} {o : Oper} {Q : Exit → Act → World → Prop} (H : OrdOk ops F a0.tmps.size) (hfam : famB ops fam a0.tmps.size = true)
  (hbel : ∀ j s w w', Below w.heap.size w w' → factAt F j s w → factAt F j s w') (hJ : ∀ q ∈ J, ∀ w w', Below w.heap.size w w' → q.2 w → q.2 w') (hg : OpGoodI P ops F J fam a0 i o) (ho : ops[i]? = some o)
  (hi : i ∈ Region.ready .any ops.toArray listed) (h : Inv ops F (CJ J listed) a0 listed a w) (hF : FamInv fam listed a w) : wpOp P ops.toArray Q i (fun a' w' => Inv ops F (CJ J (listed.setIfInBounds i true)) a0 (listed.setIfInBounds i true) a' w' ∧ FamInv fam (listed.setIfInBounds i true) a' w') a w := by
 obtain ⟨hun, o1, ho1, hdeps⟩ := mem_ready.1 hi
 have e1 : o1 = o := by rw [List.getElem?_toArray, ho] at ho1; exact (Option.some.inj ho1).symm
 subst e1
 have hil : i < listed.size := by rw [h.size]; exact (List.getElem?_eq_some_iff.1 ho).1
 have hun' : listed.getD i false = false := by simpa [hil] using hun
 refine wpOp_mono (fun a' w' hh => ?_) (Inv.step2 (C' := CJ J (listed.setIfInBounds i true)) (R := FamOk ops fam i a w) H hbel (fun hdep hdif => surely_mono (hg a w (fun q hq hqi => h.c q hq ?_) h.off hdep hdif) (fun v w' ⟨hgr, hst, hf, hR⟩ => ⟨hgr, fun q hq hql => ?_, hst.imp id And.left, hf, hR⟩)) ho hi h)
 ·obtain ⟨hinv, v, rfl, hz, hR⟩ := hh
  refine ⟨hinv, ?_⟩
  unfold famB at hfam
  rw [List.all_eq_true] at hfam
  have hd : ∀ q ∈ fam, ∃ oq, ops[q.1]? = some oq ∧ oq.dst = some q.2.1 ∧ q.2.1 < a0.tmps.size ∧ ∀ q' ∈ fam, q.1 = q'.1 → q.2.2 = q'.2.2 := fun q hq => by
   have hb := hfam q hq
   rw [Bool.and_eq_true, Bool.and_eq_true] at hb
   obtain ⟨⟨hb1, hb2⟩, hb3⟩ := hb
   split at hb1
   ·rename_i oq hoq
    refine ⟨oq, hoq, by simpa using hb1, by simpa using hb2, fun q' hq' e => ?_⟩
    rw [List.all_eq_true] at hb3
    have := hb3 q' hq'
    simp only [Bool.or_eq_true, bne_iff_ne, beq_iff_eq] at this
    rcases this with h' | h'
    ·exact absurd e h'
    ·exact h'
   ·cases hb1
  have hself : ∀ q ∈ fam, q.1 = i → slotAt (a.put o1.dst v) q.2.1 = v := fun q hq e => by
   obtain ⟨oq, hoq, hdst, hlt, _⟩ := hd q hq
   rw [e, ho] at hoq
   obtain rfl := Option.some.inj hoq
   rw [hdst]
   exact slot_put_self (by rw [h.tsize]; exact hlt)
  have hoth : ∀ q ∈ fam, q.1 ≠ i → slotAt (a.put o1.dst v) q.2.1 = slotAt a q.2.1 := fun q hq e => by
   obtain ⟨oq, hoq, hdst, _⟩ := hd q hq
   exact slot_put_ne (H.apart q.1 oq q.2.1 i o1 hoq hdst ho (Ne.symm e)).1
  have hlist : ∀ q : Nat × Nat × Nat, q.1 ≠ i → (listed.setIfInBounds i true).getD q.1 false = true → listed.getD q.1 false = true := fun q e hl => by rwa [getD_set_ne false (Ne.symm e)] at hl
  have cross : ∀ q ∈ fam, ∀ q' ∈ fam, q.1 = i → q'.1 ≠ i → listed.getD q'.1 false = true → q.2.2 ≠ q'.2.2 → ∀ k, v.ownBlock = some k → (slotAt a q'.2.1).ownBlock ≠ some k := fun q hq q' hq' e e' hl' hne k hk hk' => by
   rcases (hR q hq e k hk).2 with hh | ⟨p, hp, hpa, hpf, hpk⟩
   ·have := hF.lt q' hq' hl' k hk'; omega
   ·exact hF.ne p hp q' hq' (anc_ready h.down ho hdeps _ p.1 hpa) hl' (by rw [hpf]; exact hne) k hpk hk'
  refine ⟨fun q hq hl k hk => ?_, fun q hq q' hq' hl hl' hne k hk hk' => ?_⟩
  ·by_cases e : q.1 = i
   ·rw [hself q hq e] at hk
    exact (hR q hq e k hk).1
   ·rw [hoth q hq e] at hk
    have := hF.lt q hq (hlist q e hl) k hk
    omega
  ·by_cases e : q.1 = i
   ·by_cases e' : q'.1 = i
    ·obtain ⟨_, _, _, _, hsame⟩ := hd q hq
     exact hne (hsame q' hq' (e.trans e'.symm))
    ·rw [hself q hq e] at hk
     rw [hoth q' hq' e'] at hk'
     exact cross q hq q' hq' e e' (hlist q' e' hl') hne k hk hk'
   ·by_cases e' : q'.1 = i
    ·rw [hoth q hq e] at hk
     rw [hself q' hq' e'] at hk'
     exact cross q' hq' q hq e' e (hlist q e hl) (Ne.symm hne) k hk' hk
    ·rw [hoth q hq e] at hk
     rw [hoth q' hq' e'] at hk'
     exact hF.ne q hq q' hq' (hlist q e hl) (hlist q' e' hl') hne k hk hk'
 ·rcases hqi with e | hk
  ·rw [e]; exact hun'
  ·cases hl : listed.getD q.1 false with
   | false => rfl
   | true => rw [anc_listed h.down _ q.1 hl i hk] at hun'; cases hun'
 ·have hqi : q.1 ≠ i := fun e => by rw [e, getD_set_self hil] at hql; cases hql
  rw [getD_set_ne false (Ne.symm hqi)] at hql
  rcases hst with hb | ⟨_, hst⟩
  ·exact hJ q hq _ _ hb (h.c q hq hql)
  ·refine hst q hq hqi (fun hk => ?_) (h.c q hq hql)
   have := anc_ready h.down ho hdeps _ q.1 hk
   rw [hql] at this
   cases this
def FamAll (fam : List (Nat × Nat × Nat)) (s : Nat → Value) : Prop := ∀ q ∈ fam, ∀ q' ∈ fam, q.2.2 ≠ q'.2.2 → ∀ k, (s q.2.1).ownBlock = some k → (s q'.2.1).ownBlock ≠ some k
theorem wpAny_inv2 {Q : Exit → Act → World → Prop} (H : OrdOk ops F a0.tmps.size) (hfam : famB ops fam a0.tmps.size = true) (hbel : ∀ j s w w', Below w.heap.size w w' → factAt F j s w → factAt F j s w') (hJ : ∀ q ∈ J, ∀ w w', Below w.heap.size w w' → q.2 w → q.2 w') (hg : opsGoodI P ops F J fam a0 ops 0)
  (hQ : ∀ A w', A.tmps.size = a0.tmps.size → A.defers = a0.defers → (∀ t, (∀ o ∈ ops, o.dst ≠ some t) → slotAt A t = slotAt a0 t) → (∀ i, i < ops.length → (F.getD i Fact.none').kill = none → factAt F i (slotAt A) w') → DifferAll ops (slotAt A) → FamAll fam (slotAt A) → Q .normal A w') :
  ∀ (fuel : Nat) (listed : Array Bool) (a : Act) (w : World), left listed = fuel → Inv ops F (CJ J listed) a0 listed a w → FamInv fam listed a w → wpAny P .any ops.toArray Q fuel listed a w := by
 have fin : ∀ listed a w, Region.ready .any ops.toArray listed = [] → Inv ops F (CJ J listed) a0 listed a w → FamInv fam listed a w → Q .normal a w := by
  intro listed a w hr h hF
  have all : ∀ n, ∀ i, i < n → i < ops.length → listed.getD i false = true := by
   intro n
   induction n with
   | zero => intro i hi; omega
   | succ n ih =>
    intro i hi hlt
    cases hl : listed.getD i false with
    | true => rfl
    | false =>
     have hil : i < listed.size := by rw [h.size]; exact hlt
     have : i ∈ Region.ready .any ops.toArray listed := mem_ready.2 ⟨by simpa [hil] using hl, ops[i], by simp [hlt], fun e he hb => by
      have := H.early i ops[i] (List.getElem?_eq_getElem hlt) e he hb
      exact ih e.on (by omega) (by omega)⟩
     rw [hr] at this
     cases this
  have lt : ∀ j d, allocD ops j = some d → j < ops.length := fun j d hj => by
   unfold allocD at hj
   split at hj
   ·rename_i o ho; exact (List.getElem?_eq_some_iff.1 ho).1
   ·cases hj
  have fl : ∀ q ∈ fam, q.1 < ops.length := fun q hq => by
   unfold famB at hfam
   rw [List.all_eq_true] at hfam
   have hb := hfam q hq
   rw [Bool.and_eq_true, Bool.and_eq_true] at hb
   have hb1 := hb.1.1
   split at hb1
   ·rename_i oq hoq; exact (List.getElem?_eq_some_iff.1 hoq).1
   ·cases hb1
  exact hQ a w h.tsize h.defers h.off (fun i hi hk => h.fact i (all (i + 1) i (by omega) hi) (fun k e => by rw [hk] at e; cases e)) (fun j j' d d' e e' hne => h.diff j j' d d' e e' hne (all (j + 1) j (by omega) (lt j d e)) (all (j' + 1) j' (by omega) (lt j' d' e'))) (fun q hq q' hq' hne => hF.ne q hq q' hq' (all (q.1 + 1) q.1 (by omega) (fl q hq)) (all (q'.1 + 1) q'.1 (by omega) (fl q' hq')) hne)
 intro fuel
 induction fuel with
 | zero =>
  intro listed a w hl h hF
  have hr : Region.ready .any ops.toArray listed = [] := by
   rw [List.eq_nil_iff_forall_not_mem]
   intro i hi
   obtain ⟨hun, o, ho, _⟩ := mem_ready.1 hi
   have hil : i < listed.size := by rw [h.size]; simpa using (Array.getElem?_eq_some_iff.1 ho).1
   have := left_set hil hun
   omega
  exact ⟨hr, fin listed a w hr h hF⟩
 | succ fuel ih =>
  intro listed a w hl h hF
  refine ⟨fun hr => fin listed a w hr h hF, fun i hi => ?_⟩
  obtain ⟨hun, o, ho, _⟩ := mem_ready.1 hi
  have hil : i < listed.size := by rw [h.size]; simpa using (Array.getElem?_eq_some_iff.1 ho).1
  have ho' : ops[i]? = some o := by simpa using ho
  have hop := opsGoodI_at ops 0 hg i o ho'
  rw [Nat.zero_add] at hop
  refine wpOp_mono (fun a' w' h' => ih _ a' w' ?_ h'.1 h'.2) (h.stepI (Q := Q) H hfam hbel hJ hop ho' hi hF)
  have := left_set hil hun
  omega
theorem init_of {i n k : Nat} {R : World → Prop} {w : World} (hd : ∀ q ∈ J, (q.1 = i ∨ i ∈ anc ops ops.length q.1) → q.2 w) (e : J[n]? = some (k, R)) (h : (k == i || (anc ops ops.length k).contains i) = true) : R w := by
 refine hd (k, R) (List.mem_of_getElem? e) ?_
 simp only [Bool.or_eq_true, beq_iff_eq] at h
 exact h.imp id List.contains_iff_mem.1
theorem init_none {i : Nat} {w w' : World} (h : (J.map Prod.fst).all (fun k => k == i || (anc ops ops.length i).contains k) = true) : ∀ q ∈ J, q.1 ≠ i → q.1 ∉ anc ops ops.length i → q.2 w → q.2 w' := by
 intro q hq h1 h2 _
 rw [List.all_eq_true] at h
 have := h q.1 (List.mem_map_of_mem hq)
 simp only [Bool.or_eq_true, beq_iff_eq] at this
 rcases this with e | e
 ·exact absurd e h1
 ·exact absurd (List.contains_iff_mem.1 e) h2
def Jstable (J : List (Nat × (World → Prop))) : Prop := ∀ q ∈ J, ∀ w w', Below w.heap.size w w' → q.2 w → q.2 w'
theorem wp_region_ordI {id : Nat} {Q : Exit → Act → World → Prop} {w : World} (F : List Fact) (J : List (Nat × (World → Prop))) (fam : List (Nat × Nat × Nat)) (hm : P.follows .mixedOrders = true) (hB : ordB ops F a0.tmps.size = true) (hfam : famB ops fam a0.tmps.size = true) (hC : ∀ q ∈ J, q.2 { w with drawn := w.drawn + 1 })
  (hbel : allStable F) (hJ : Jstable J) (hg : opsGoodI P ops F J fam a0 ops 0)
  (hQ : ∀ s w', (∀ i, i < ops.length → (F.getD i Fact.none').kill = none → factAt F i s w') → DifferAll ops s → FamAll fam s → Q .normal (putAll a0 s ops) w') :
  (Code.region id ops.toArray true).wp P Q a0 w := by
 refine wp_region_any hm (wpAny_inv2 (F := F) (J := J) (fam := fam) (a0 := a0) (ordB_ok hB) hfam (fun j s w w' hb h => allStable_at F hbel j _ w w' hb h) hJ hg (fun A w' h1 h2 h3 hf hdf hff => ?_) _ _ _ _ ?_ ?_ ?_)
 ·rw [← putAll_eq h1 h2 h3]
  exact hQ _ w' hf hdf hff
 ·simp [left, List.countP_replicate]
 ·have hno : ∀ i, (Array.replicate ops.toArray.size false).getD i false = false := fun i => by
   simp only [Array.getD_eq_getD_getElem?, Array.getElem?_replicate]
   split <;> rfl
  exact ⟨by simp, rfl, rfl, fun _ _ => rfl, fun i o _ h => (by rw [hno] at h; cases h), fun q hq _ => hC q hq, fun i h => (by rw [hno] at h; cases h), fun i _ _ h => (by rw [hno] at h; cases h), fun i _ _ _ _ _ _ h => (by rw [hno] at h; cases h)⟩
 ·have hno : ∀ i, (Array.replicate ops.toArray.size false).getD i false = false := fun i => by
   simp only [Array.getD_eq_getD_getElem?, Array.getElem?_replicate]
   split <;> rfl
  exact ⟨fun q _ h => (by rw [hno] at h; cases h), fun q _ q' _ h => (by rw [hno] at h; cases h)⟩
theorem fam_none {ops : List Oper} {fam : List (Nat × Nat × Nat)} {i : Nat} {A : Act} {w : World} {v : Value} {w' : World} (h : (fam.all fun q => q.1 != i) = true) : FamOk ops fam i A w v w' := by
 intro q hq e
 rw [List.all_eq_true] at h
 have := h q hq
 rw [bne_iff_ne] at this
 exact absurd e this
theorem fam_new {ops : List Oper} {fam : List (Nat × Nat × Nat)} {i : Nat} {A : Act} {w : World} {v : Value} {w' : World} (h : ∀ k, v.ownBlock = some k → w.heap.size ≤ k ∧ k < w'.heap.size) : FamOk ops fam i A w v w' :=
 fun _ _ _ k hk => ⟨(h k hk).2, .inl (h k hk).1⟩
theorem fam_of {ops : List Oper} {fam : List (Nat × Nat × Nat)} {i : Nat} {A : Act} {w : World} {v : Value} {w' : World} (j d f : Nat) (hq : (j, d, f) ∈ fam) (hone : (fam.all fun q => q.1 != i || q.2.2 == f) = true) (hj : (anc ops ops.length i).contains j = true)
  (h : ∀ k, v.ownBlock = some k → k < w'.heap.size ∧ (w.heap.size ≤ k ∨ (slotAt A d).ownBlock = some k)) : FamOk ops fam i A w v w' := by
 intro q hq' e k hk
 rw [List.all_eq_true] at hone
 have he := hone q hq'
 simp only [Bool.or_eq_true, bne_iff_ne, beq_iff_eq] at he
 have hf : q.2.2 = f := he.resolve_left (fun hn => hn e)
 exact ⟨(h k hk).1, (h k hk).2.imp id (fun hs => ⟨(j, d, f), hq, List.contains_iff_mem.1 hj, hf.symm, hs⟩)⟩
def LeavesI (ops : List Oper) (F : List Fact) (J : List (Nat × (World → Prop))) (fam : List (Nat × Nat × Nat)) (i : Nat) (o : Oper) (A : Act) (w : World) (v : Value) (w' : World) : Prop :=
 Grows o w v w' ∧ (Below w.heap.size w w' ∨ ((∀ j, j ≠ i → i ∉ anc ops ops.length j → (∀ k, (F.getD j Fact.none').kill = some k → k ≠ i ∧ k ∉ anc ops ops.length i) → factAt F j (slotAt A) w → factAt F j (slotAt A) w') ∧ ∀ q ∈ J, q.1 ≠ i → q.1 ∉ anc ops ops.length i → q.2 w → q.2 w')) ∧ factAt F i (put1 A o v) w' ∧ FamOk ops fam i A w v w'
theorem isI {i d : Nat} {o : Oper} {A : Act} {w : World} {v : Value} (e : F.getD i Fact.none' = Fact.is d v) (hd : o.dst = some d) (h : (execOp A.eval o).run P w = .ok (.value v) w) (ha : isAlloc o = false := by rfl) (hf : (fam.all fun q => q.1 != i) = true := by kernel_rfl) : surely P o A w (LeavesI ops F J fam i o A w) :=
 surely_value h ⟨⟨Nat.le_refl _, fun h => by rw [ha] at h; cases h⟩, .inl (Below.refl _ _), is_to e hd, fam_none hf⟩
theorem runI {i : Nat} {o : Oper} {A : Act} {w w' : World} {v : Value} (h : (execOp A.eval o).run P w = .ok (.value v) w') (hb : Below w.heap.size w w') (hf : factAt F i (put1 A o v) w') (hfam : FamOk ops fam i A w v w') (ha : isAlloc o = false := by rfl) : surely P o A w (LeavesI ops F J fam i o A w) :=
 surely_value h ⟨⟨hb.size, fun h => by rw [ha] at h; cases h⟩, .inl hb, hf, hfam⟩
theorem allocI {i : Nat} {o : Oper} {A : Act} {w : World} {ob : Obj} (h : (execOp A.eval o).run P w = .ok (.value (.pointer (some ⟨w.heap.size, 0, none⟩))) (w.alloc ob)) (hf : factAt F i (put1 A o (.pointer (some ⟨w.heap.size, 0, none⟩))) (w.alloc ob)) (hfam : (fam.all fun q => q.1 != i) = true := by kernel_rfl) : surely P o A w (LeavesI ops F J fam i o A w) :=
 surely_value h ⟨⟨by simp, fun _ => ⟨_, rfl, Nat.le_refl _, by simp⟩⟩, .inl ((Below.refl _ _).alloc (Nat.le_refl _) _), hf, fam_none hfam⟩
theorem callI {i : Nat} {o : Oper} {A : Act} {w : World} {f : FuncId} {args : Array Value} (h : (execOp A.eval o).run P w = .ok (.enter f args) w)
  (hc : Calls P f args w fun e w' => ∃ v, e = .returned v ∧ Below w.heap.size w w' ∧ factAt F i (put1 A o v) w' ∧ FamOk ops fam i A w v w') (ha : isAlloc o = false := by rfl) : surely P o A w (LeavesI ops F J fam i o A w) :=
 surely_call h (hc.mono fun _ _ ⟨v, he, hb, hf, hfam⟩ => ⟨v, he, ⟨hb.size, fun h => by rw [ha] at h; cases h⟩, .inl hb, hf, hfam⟩)
theorem lastI {i : Nat} {o : Oper} {A : Act} {w w' : World} (h : (execOp A.eval o).run P w = .ok .skip w') (hz : w.heap.size ≤ w'.heap.size) (hf : factAt F i (put1 A o undef) w')
  (hfs : ∀ j, j ≠ i → i ∉ anc ops ops.length j → (∀ k, (F.getD j Fact.none').kill = some k → k ≠ i ∧ k ∉ anc ops ops.length i) → factAt F j (slotAt A) w → factAt F j (slotAt A) w')
  (hj : (J.map Prod.fst).all (fun k => k == i || (anc ops ops.length i).contains k) = true) (ha : isAlloc o = false := by rfl) (hfam : (fam.all fun q => q.1 != i) = true := by kernel_rfl) : surely P o A w (LeavesI ops F J fam i o A w) :=
 surely_skip h ⟨⟨hz, fun h => by rw [ha] at h; cases h⟩, .inr ⟨hfs, init_none hj⟩, hf, fam_none hfam⟩
end
theorem Only.cell {S : List Value} {w w' : World} (h : Only S w w') {p : Addr} {v : Value} (hp : w.cell? p = some v) (hne : ∀ u ∈ S, u.ownBlock ≠ some p.block) : w'.cell? p = some v := by
 rw [World.cell?_of_block (a := p) (h.block p.block (cell_lt hp) hne)]
 exact hp
theorem Only.frozen {S : List Value} {w w' : World} (h : Only S w w') {p : Addr} {v : Value} (hp : w.cell? p = some v) (hf : w.frozen? p = false) (hne : ∀ u ∈ S, u.ownBlock ≠ some p.block) : w'.frozen? p = false := by
 rw [World.frozen?_of_block (a := p) (h.block p.block (cell_lt hp) hne)]
 exact hf
theorem Only.drew (S : List Value) (w : World) : Only S w { w with drawn := w.drawn + 1 } := ⟨rfl, rfl, rfl, Nat.le_refl _, fun _ _ _ => rfl⟩
theorem Only.then {S : List Value} {a b c : World} (h : Only S a b) (hb : Below b.heap.size b c) : Only S a c := h.trans (Only.of_below hb)
theorem below_then {a b c : World} (h : Below a.heap.size a b) (hb : Below b.heap.size b c) : Below a.heap.size a c := h.trans (hb.mono h.size)
end Go.Proofs.Ytminfkedkkkhdaa
