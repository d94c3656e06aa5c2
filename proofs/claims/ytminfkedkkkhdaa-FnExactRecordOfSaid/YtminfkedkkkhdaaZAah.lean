/-
  Part of a proof: Ord. No condition.
-/
import Derived.Test.YtminfkedkkkhdaaZAaa
import Derived.Orders
namespace Go.Proofs.Ytminfkedkkkhdaa
open Go.RowKit
def slotAt (a : Act) (t : Nat) : Value := a.tmps.getD t undef
theorem eval_slot (a : Act) (t : Nat) : a.eval (.tmp t) = slotAt a t := rfl
def surely (P : Program) (o : Oper) (a : Act) (w : World) (R : Value → World → Prop) : Prop :=
 ∀ (K : Act → World → Prop) (Q : Exit → Act → World → Prop), (∀ v w', R v w' → K (a.put o.dst v) w') → o.wp P a w K Q
theorem wp_of_surely {P : Program} {o : Oper} {a : Act} {w : World} {R : Value → World → Prop} {K : Act → World → Prop} {Q : Exit → Act → World → Prop} (h : surely P o a w R) (hK : ∀ v w', R v w' → K (a.put o.dst v) w') : o.wp P a w K Q := h K Q hK
theorem surely_value {P : Program} {o : Oper} {a : Act} {w w' : World} {v : Value} {R : Value → World → Prop} (h : (execOp a.eval o).run P w = .ok (.value v) w') (hr : R v w') : surely P o a w R := fun K Q hK => by
 unfold Oper.wp
 rw [h]
 exact hK _ _ hr
theorem surely_skip {P : Program} {o : Oper} {a : Act} {w w' : World} {R : Value → World → Prop} (h : (execOp a.eval o).run P w = .ok .skip w') (hr : R undef w') : surely P o a w R := fun K Q hK => by
 unfold Oper.wp
 rw [h]
 exact hK _ _ hr
theorem surely_call {P : Program} {o : Oper} {a : Act} {w w' : World} {f : FuncId} {args : Array Value} {R : Value → World → Prop} (h : (execOp a.eval o).run P w = .ok (.enter f args) w') (hr : Calls P f args w' fun e w'' => ∃ v, e = .returned v ∧ R v w'') : surely P o a w R := fun K Q hK => by
 unfold Oper.wp
 rw [h]
 exact hr.mono fun e w'' ⟨v, he, hv⟩ => by subst he; exact hK _ _ hv
theorem surely_mono {P : Program} {o : Oper} {a : Act} {w : World} {R R' : Value → World → Prop} (h : surely P o a w R) (hr : ∀ v w', R v w' → R' v w') : surely P o a w R' := fun K Q hK => h K Q (fun v w' hv => hK v w' (hr v w' hv))
structure Fact where
 D : List Nat
 kill : Option Nat
 holds : List Value → World → Prop
def Fact.none' : Fact := ⟨[], none, fun _ _ => True⟩
def Fact.is (d : Nat) (v : Value) : Fact := ⟨[d], none, fun vs _ => vs = [v]⟩
def Fact.upto (d k : Nat) (R : Value → World → Prop) : Fact := ⟨[d], some k, fun vs w => ∃ v, vs = [v] ∧ R v w⟩
def Fact.keep (d : Nat) (R : Value → World → Prop) : Fact := ⟨[d], none, fun vs w => ∃ v, vs = [v] ∧ R v w⟩
def anc (ops : List Oper) : Nat → Nat → List Nat
 | 0, _ => []
 | n + 1, i => match ops[i]? with
  | some o => (o.after.toList.filter fun e => Region.binds .any e).flatMap fun e => e.on :: anc ops n e.on
  | none => []
def ordB (ops : List Oper) (F : List Fact) (size : Nat) : Bool :=
 (List.range ops.length).all fun i => match ops[i]? with
  | some o => o.guard.isNone && (o.after.toList.all fun e => !Region.binds .any e || decide (e.on < i)) && (match o.dst with
    | some d => decide (d < size) && (List.range ops.length).all fun j => j == i || match ops[j]? with
     | some o' => o'.dst != some d && (!((F.getD j Fact.none').D.contains d) || (anc ops ops.length j).contains i)
     | none => true
    | none => true)
  | none => true
def factAt (F : List Fact) (j : Nat) (s : Nat → Value) (w : World) : Prop := (F.getD j Fact.none').holds ((F.getD j Fact.none').D.map s) w
def put1 (a : Act) (o : Oper) (v : Value) (t : Nat) : Value := if o.dst = some t then v else slotAt a t
def isAlloc (o : Oper) : Bool := match o.op with
 | .alloc _ => true
 | _ => false
def allocD (ops : List Oper) (j : Nat) : Option Nat := match ops[j]? with
 | some o => if isAlloc o then o.dst else none
 | none => none
def Differ (ops : List Oper) (i : Nat) (s : Nat → Value) : Prop := ∀ j j' d d', allocD ops j = some d → allocD ops j' = some d' → j ≠ j' → j ∈ anc ops ops.length i → j' ∈ anc ops ops.length i → s d ≠ s d'
def Grows (o : Oper) (w : World) (v : Value) (w' : World) : Prop := w.heap.size ≤ w'.heap.size ∧ (isAlloc o = true → ∃ g, v = .pointer (some ⟨g, 0, none⟩) ∧ w.heap.size ≤ g ∧ g < w'.heap.size)
section
variable (P : Program) (ops : List Oper) (F : List Fact) (C : World → Prop) (a0 : Act)
def OpGood (i : Nat) (o : Oper) : Prop :=
 ∀ (A : Act) (w : World), C w → (∀ t, (∀ o ∈ ops, o.dst ≠ some t) → slotAt A t = slotAt a0 t) →
  (∀ j, j ∈ anc ops ops.length i → (∀ k, (F.getD j Fact.none').kill = some k → k = i ∨ i ∈ anc ops ops.length k) → factAt F j (slotAt A) w) → Differ ops i (slotAt A) →
  surely P o A w fun v w' => Grows o w v w' ∧ C w' ∧ (Below w.heap.size w w' ∨ ∀ j, j ≠ i → (∀ k, (F.getD j Fact.none').kill = some k → k ≠ i ∧ k ∉ anc ops ops.length i) → factAt F j (slotAt A) w → factAt F j (slotAt A) w') ∧ factAt F i (put1 A o v) w'
def opsGood : List Oper → Nat → Prop
 | [], _ => True
 | o :: l, i => OpGood P ops F C a0 i o ∧ opsGood l (i + 1)
end
section
variable {P : Program} {ops : List Oper} {F : List Fact} {C : World → Prop} {a0 : Act}
theorem opsGood_at : ∀ (l : List Oper) (i : Nat), opsGood P ops F C a0 l i → ∀ j o, l[j]? = some o → OpGood P ops F C a0 (i + j) o
 | [], _, _, j, o, h => by simp at h
 | x :: l, i, hg, 0, o, h => by simp at h; subst h; exact hg.1
 | x :: l, i, hg, j + 1, o, h => by
  have := opsGood_at l (i + 1) hg.2 j o (by simpa using h)
  rwa [show i + 1 + j = i + (j + 1) by omega] at this
structure Inv (ops : List Oper) (F : List Fact) (C : World → Prop) (a0 : Act) (listed : Array Bool) (a : Act) (w : World) : Prop where
 size : listed.size = ops.length
 tsize : a.tmps.size = a0.tmps.size
 defers : a.defers = a0.defers
 off : ∀ t, (∀ o ∈ ops, o.dst ≠ some t) → slotAt a t = slotAt a0 t
 down : ∀ (i : Nat) (o : Oper), ops[i]? = some o → listed.getD i false = true → ∀ e ∈ o.after, Region.binds .any e = true → listed.getD e.on false = true
 c : C w
 fact : ∀ i, listed.getD i false = true → (∀ k, (F.getD i Fact.none').kill = some k → listed.getD k false = false) → factAt F i (slotAt a) w
 own : ∀ i d, allocD ops i = some d → listed.getD i false = true → ∃ g, slotAt a d = .pointer (some ⟨g, 0, none⟩) ∧ g < w.heap.size
 diff : ∀ i j d d', allocD ops i = some d → allocD ops j = some d' → i ≠ j → listed.getD i false = true → listed.getD j false = true → slotAt a d ≠ slotAt a d'
theorem anc_listed {listed : Array Bool} (hd : ∀ (i : Nat) (o : Oper), ops[i]? = some o → listed.getD i false = true → ∀ e ∈ o.after, Region.binds .any e = true → listed.getD e.on false = true) :
  ∀ (n i : Nat), listed.getD i false = true → ∀ j ∈ anc ops n i, listed.getD j false = true
 | 0, _, _, j, hj => by simp [anc] at hj
 | n + 1, i, hi, j, hj => by
  unfold anc at hj
  split at hj
  ·rename_i o ho
   simp only [List.mem_flatMap, List.mem_filter, List.mem_cons] at hj
   obtain ⟨e, ⟨he, hb⟩, h⟩ := hj
   have hl := hd i o ho hi e (by simpa using he) hb
   rcases h with rfl | h
   ·exact hl
   ·exact anc_listed hd n e.on hl j h
  ·simp at hj
theorem anc_ready {listed : Array Bool} (hd : ∀ (i : Nat) (o : Oper), ops[i]? = some o → listed.getD i false = true → ∀ e ∈ o.after, Region.binds .any e = true → listed.getD e.on false = true) {i : Nat} {o : Oper}
  (ho : ops[i]? = some o) (hr : ∀ e ∈ o.after, Region.binds .any e = true → listed.getD e.on false = true) (n : Nat) : ∀ j ∈ anc ops n i, listed.getD j false = true := by
 cases n with
 | zero => intro j hj; simp [anc] at hj
 | succ n =>
  intro j hj
  unfold anc at hj
  rw [ho] at hj
  simp only [List.mem_flatMap, List.mem_filter, List.mem_cons] at hj
  obtain ⟨e, ⟨he, hb⟩, h⟩ := hj
  have hl := hr e (by simpa using he) hb
  rcases h with rfl | h
  ·exact hl
  ·exact anc_listed hd n e.on hl j h
theorem slot_put_ne {a : Act} {d : Option Nat} {v : Value} {t : Nat} (h : d ≠ some t) : slotAt (a.put d v) t = slotAt a t := by
 cases d with
 | none => rfl
 | some d =>
  have : d ≠ t := fun e => h (by rw [e])
  simp [slotAt, Act.put, Array.getElem?_setIfInBounds_ne this]
theorem slot_put_self {a : Act} {d : Nat} {v : Value} (h : d < a.tmps.size) : slotAt (a.put (some d) v) d = v := by
 simp [slotAt, Act.put, h]
theorem size_put {a : Act} {d : Option Nat} {v : Value} : (a.put d v).tmps.size = a.tmps.size := by
 cases d <;> simp [Act.put]
theorem defers_put {a : Act} {d : Option Nat} {v : Value} : (a.put d v).defers = a.defers := by
 cases d <;> simp [Act.put]
structure OrdOk (ops : List Oper) (F : List Fact) (size : Nat) : Prop where
 guard : ∀ (i : Nat) (o : Oper), ops[i]? = some o → o.guard = none
 early : ∀ (i : Nat) (o : Oper), ops[i]? = some o → ∀ e ∈ o.after, Region.binds .any e = true → e.on < i
 dst : ∀ (i : Nat) (o : Oper) (d : Nat), ops[i]? = some o → o.dst = some d → d < size
 apart : ∀ (i : Nat) (o : Oper) (d j : Nat) (o' : Oper), ops[i]? = some o → o.dst = some d → ops[j]? = some o' → j ≠ i → o'.dst ≠ some d ∧ (d ∈ (F.getD j Fact.none').D → i ∈ anc ops ops.length j)
theorem ordB_ok {size : Nat} (h : ordB ops F size = true) : OrdOk ops F size := by
 unfold ordB at h
 rw [List.all_eq_true] at h
 have key : ∀ (i : Nat) (o : Oper), ops[i]? = some o → (o.guard.isNone && (o.after.toList.all fun e => !Region.binds .any e || decide (e.on < i)) && (match o.dst with
    | some d => decide (d < size) && (List.range ops.length).all fun j => j == i || match ops[j]? with
     | some o' => o'.dst != some d && (!((F.getD j Fact.none').D.contains d) || (anc ops ops.length j).contains i)
     | none => true
    | none => true)) = true := by
  intro i o ho
  have := h i (List.mem_range.2 (List.getElem?_eq_some_iff.1 ho).1)
  rw [ho] at this
  exact this
 refine ⟨fun i o ho => ?_, fun i o ho e he hb => ?_, fun i o d ho hd => ?_, fun i o d j o' ho hd ho' hji => ?_⟩
 ·have := key i o ho
  simp only [Bool.and_eq_true] at this
  simpa using this.1.1
 ·have := key i o ho
  simp only [Bool.and_eq_true, List.all_eq_true] at this
  have h2 := this.1.2 e (by simpa using he)
  rw [hb] at h2
  simpa using h2
 ·have := key i o ho
  rw [hd] at this
  simp only [Bool.and_eq_true, decide_eq_true_eq] at this
  exact this.2.1
 ·have := key i o ho
  rw [hd] at this
  simp only [Bool.and_eq_true, decide_eq_true_eq, List.all_eq_true] at this
  have h2 := this.2.2 j (List.mem_range.2 (List.getElem?_eq_some_iff.1 ho').1)
  rw [ho'] at h2
  have hne : (j == i) = false := by simpa using hji
  simp only [hne, Bool.false_or, Bool.and_eq_true, bne_iff_ne, Bool.or_eq_true, Bool.not_eq_true'] at h2
  refine ⟨h2.1, fun hmem => ?_⟩
  rcases h2.2 with h3 | h3
  ·rw [List.contains_iff_mem.2 hmem] at h3; cases h3
  ·exact List.contains_iff_mem.1 h3
theorem getD_set_self {listed : Array Bool} {i : Nat} (h : i < listed.size) (d : Bool) : (listed.setIfInBounds i true).getD i d = true := by simp [h]
theorem Inv.step {listed : Array Bool} {a : Act} {w : World} {i : Nat} {o : Oper} {Q : Exit → Act → World → Prop} (H : OrdOk ops F a0.tmps.size)
  (hbel : ∀ j s w w', Below w.heap.size w w' → factAt F j s w → factAt F j s w') (hg : OpGood P ops F C a0 i o) (ho : ops[i]? = some o)
  (hi : i ∈ Region.ready .any ops.toArray listed) (h : Inv ops F C a0 listed a w) : wpOp P ops.toArray Q i (fun a' w' => Inv ops F C a0 (listed.setIfInBounds i true) a' w') a w := by
 obtain ⟨hun, o1, ho1, hdeps⟩ := mem_ready.1 hi
 have e1 : o1 = o := by rw [List.getElem?_toArray, ho] at ho1; exact (Option.some.inj ho1).symm
 subst e1
 have hil : i < listed.size := by rw [h.size]; exact (List.getElem?_eq_some_iff.1 ho).1
 have hun' : listed.getD i false = false := by simpa [hil] using hun
 unfold wpOp
 rw [ho1]
 have hw : Region.wanted o1 (yielded ops.toArray a.tmps) = true := by unfold Region.wanted; rw [H.guard i o1 ho]
 simp only [hw, if_true]
 have hD : ∀ j d, allocD ops j = some d → j ≠ i → o1.dst ≠ some d := fun j d hj hji e => by
  unfold allocD at hj
  split at hj
  ·rename_i oj hoj
   split at hj
   ·exact (H.apart i o1 d j oj ho e hoj hji).1 hj
   ·cases hj
  ·cases hj
 refine .inl (wp_of_surely (hg a w h.c h.off (fun j hj hk => h.fact j (anc_ready h.down ho hdeps _ j hj) (fun k e => ?_)) (fun j j' d d' e e' hne hj hj' => h.diff j j' d d' e e' hne (anc_ready h.down ho hdeps _ j hj) (anc_ready h.down ho hdeps _ j' hj'))) ?_)
 ·rcases hk k e with rfl | hk
  ·exact hun'
  ·cases hl : listed.getD k false with
   | false => rfl
   | true => rw [anc_listed h.down _ k hl i hk] at hun'; cases hun'
 ·rintro v w' ⟨⟨hgr, hal⟩, hc, hst, hf⟩
  have hnew : ∀ d, allocD ops i = some d → slotAt (a.put o1.dst v) d = v ∧ isAlloc o1 = true := fun d hd => by
   unfold allocD at hd
   rw [ho] at hd
   simp only at hd
   split at hd
   ·rename_i hx
    rw [hd]
    exact ⟨slot_put_self (by rw [h.tsize]; exact H.dst _ _ _ ho hd), hx⟩
   ·cases hd
  refine ⟨by simpa using h.size, by rw [size_put]; exact h.tsize, by rw [defers_put]; exact h.defers, fun t ht => ?_, fun j oj hj hlj e he hb => ?_, hc, fun j hlj hkj => ?_, fun j d hd hlj => ?_, fun j j' d d' hd hd' hne hlj hlj' => ?_⟩
  ·rw [slot_put_ne (ht o1 (List.mem_of_getElem? ho))]
   exact h.off t ht
  ·by_cases hji : j = i
   ·subst hji
    obtain rfl : oj = o1 := by rw [ho] at hj; exact (Option.some.inj hj).symm
    exact getD_set_true (hdeps e he hb)
   ·rw [getD_set_ne false (Ne.symm hji)] at hlj
    exact getD_set_true (h.down j oj hj hlj e he hb)
  ·by_cases hji : j = i
   ·subst hji
    unfold factAt at hf ⊢
    have : (F.getD j Fact.none').D.map (put1 a o1 v) = (F.getD j Fact.none').D.map (slotAt (a.put o1.dst v)) := by
     refine List.map_congr_left fun t _ => ?_
     unfold put1
     split
     ·rename_i e
      rw [e, slot_put_self (by rw [h.tsize]; exact H.dst _ _ _ ho e)]
     ·rename_i e
      rw [slot_put_ne e]
    rw [← this]
    exact hf
   ·rw [getD_set_ne false (Ne.symm hji)] at hlj
    have hk' : ∀ k, (F.getD j Fact.none').kill = some k → k ≠ i ∧ listed.getD k false = false := fun k e => by
     have := hkj k e
     by_cases hki : k = i
     ·subst hki; rw [getD_set_self hil] at this; cases this
     ·rw [getD_set_ne false (Ne.symm hki)] at this; exact ⟨hki, this⟩
    have hold := h.fact j hlj (fun k e => (hk' k e).2)
    have hold' : factAt F j (slotAt a) w' := by
     rcases hst with hb | hst
     ·exact hbel j _ _ _ hb hold
     ·refine hst j hji (fun k e => ⟨(hk' k e).1, fun hk => ?_⟩) hold
      have := anc_ready h.down ho hdeps _ k hk
      rw [(hk' k e).2] at this
      cases this
    unfold factAt at hold' ⊢
    have : (F.getD j Fact.none').D.map (slotAt (a.put o1.dst v)) = (F.getD j Fact.none').D.map (slotAt a) := by
     refine List.map_congr_left fun t ht => slot_put_ne fun e => ?_
     have hjl : j < ops.length := by
      rw [← h.size]
      rcases Nat.lt_or_ge j listed.size with h' | h'
      ·exact h'
      ·simp [Array.getElem?_eq_none h'] at hlj
     have := anc_listed h.down _ j hlj i ((H.apart i o1 t j ops[j] ho e (List.getElem?_eq_getElem hjl) hji).2 ht)
     rw [hun'] at this
     cases this
    rw [this]
    exact hold'
  ·by_cases hji : j = i
   ·subst hji
    obtain ⟨e1, e2⟩ := hnew d hd
    obtain ⟨g, eg, _, hg2⟩ := hal e2
    exact ⟨g, by rw [e1, eg], hg2⟩
   ·rw [getD_set_ne false (Ne.symm hji)] at hlj
    obtain ⟨g, eg, hg2⟩ := h.own j d hd hlj
    exact ⟨g, by rw [slot_put_ne (hD j d hd hji)]; exact eg, by omega⟩
  ·have cross : ∀ j d d', allocD ops i = some d → allocD ops j = some d' → j ≠ i → listed.getD j false = true → slotAt (a.put o1.dst v) d ≠ slotAt (a.put o1.dst v) d' := fun j d d' hd hd' hji hlj => by
    obtain ⟨e1, e2⟩ := hnew d hd
    obtain ⟨g, eg, hg1, _⟩ := hal e2
    obtain ⟨g', eg', hg'⟩ := h.own j d' hd' hlj
    rw [e1, eg, slot_put_ne (hD j d' hd' hji), eg']
    intro e
    injection e with e; injection e with e; injection e with e
    omega
   by_cases hji : j = i
   ·subst hji
    rw [getD_set_ne false hne] at hlj'
    exact cross j' d d' hd hd' (Ne.symm hne) hlj'
   ·rw [getD_set_ne false (Ne.symm hji)] at hlj
    by_cases hji' : j' = i
    ·subst hji'
     exact (cross j d' d hd' hd hji hlj).symm
    ·rw [getD_set_ne false (Ne.symm hji')] at hlj'
     rw [slot_put_ne (hD j d hd hji), slot_put_ne (hD j' d' hd' hji')]
     exact h.diff j j' d d' hd hd' hne hlj hlj'
def left (listed : Array Bool) : Nat := listed.toList.countP (fun b => !b)
theorem left_set {listed : Array Bool} {i : Nat} (hi : i < listed.size) (h : listed.getD i true = false) : left listed = left (listed.setIfInBounds i true) + 1 := by
 unfold left
 have h0 : listed.toList[i]'(by simpa using hi) = false := by simpa [hi] using h
 rw [Array.toList_setIfInBounds, List.countP_set (by simpa using hi)]
 have h1 : 0 < listed.toList.countP (fun b => !b) := List.countP_pos_iff.2 ⟨_, List.getElem_mem (by simpa using hi), by rw [h0]; rfl⟩
 rw [if_pos (by rw [h0]; rfl), if_neg (by decide)]
 omega
def DifferAll (ops : List Oper) (s : Nat → Value) : Prop := ∀ j j' d d', allocD ops j = some d → allocD ops j' = some d' → j ≠ j' → s d ≠ s d'
theorem wpAny_inv {Q : Exit → Act → World → Prop} (H : OrdOk ops F a0.tmps.size) (hbel : ∀ j s w w', Below w.heap.size w w' → factAt F j s w → factAt F j s w') (hg : opsGood P ops F C a0 ops 0)
  (hQ : ∀ A w', A.tmps.size = a0.tmps.size → A.defers = a0.defers → (∀ t, (∀ o ∈ ops, o.dst ≠ some t) → slotAt A t = slotAt a0 t) → C w' → (∀ i, i < ops.length → (F.getD i Fact.none').kill = none → factAt F i (slotAt A) w') → DifferAll ops (slotAt A) → Q .normal A w') :
  ∀ (fuel : Nat) (listed : Array Bool) (a : Act) (w : World), left listed = fuel → Inv ops F C a0 listed a w → wpAny P .any ops.toArray Q fuel listed a w := by
 have fin : ∀ listed a w, Region.ready .any ops.toArray listed = [] → Inv ops F C a0 listed a w → Q .normal a w := by
  intro listed a w hr h
  have all : ∀ n, ∀ i, i < n → i < ops.length → listed.getD i false = true := by
   intro n
   induction n with
   | zero => intro i hi; omega
   | succ n ih =>
    intro i hi hlt
    cases hl : listed.getD i false with
    | true => rfl
    | false =>
     have hil : i < listed.size := by rw [h.size]; exact hlt
     have : i ∈ Region.ready .any ops.toArray listed := mem_ready.2 ⟨by simpa [hil] using hl, ops[i], by simp [hlt], fun e he hb => by
      have := H.early i ops[i] (List.getElem?_eq_getElem hlt) e he hb
      exact ih e.on (by omega) (by omega)⟩
     rw [hr] at this
     cases this
  have lt : ∀ j d, allocD ops j = some d → j < ops.length := fun j d hj => by
   unfold allocD at hj
   split at hj
   ·rename_i o ho; exact (List.getElem?_eq_some_iff.1 ho).1
   ·cases hj
  exact hQ a w h.tsize h.defers h.off h.c (fun i hi hk => h.fact i (all (i + 1) i (by omega) hi) (fun k e => by rw [hk] at e; cases e)) (fun j j' d d' e e' hne => h.diff j j' d d' e e' hne (all (j + 1) j (by omega) (lt j d e)) (all (j' + 1) j' (by omega) (lt j' d' e')))
 intro fuel
 induction fuel with
 | zero =>
  intro listed a w hl h
  have hr : Region.ready .any ops.toArray listed = [] := by
   rw [List.eq_nil_iff_forall_not_mem]
   intro i hi
   obtain ⟨hun, o, ho, _⟩ := mem_ready.1 hi
   have hil : i < listed.size := by rw [h.size]; simpa using (Array.getElem?_eq_some_iff.1 ho).1
   have := left_set hil hun
   omega
  exact ⟨hr, fin listed a w hr h⟩
 | succ fuel ih =>
  intro listed a w hl h
  refine ⟨fun hr => fin listed a w hr h, fun i hi => ?_⟩
  obtain ⟨hun, o, ho, _⟩ := mem_ready.1 hi
  have hil : i < listed.size := by rw [h.size]; simpa using (Array.getElem?_eq_some_iff.1 ho).1
  have ho' : ops[i]? = some o := by simpa using ho
  have hop := opsGood_at ops 0 hg i o ho'
  rw [Nat.zero_add] at hop
  refine wpOp_mono (fun a' w' h' => ih _ a' w' ?_ h') (h.step (Q := Q) H hbel hop ho' hi)
  have := left_set hil hun
  omega
def Fact.Stable (f : Fact) : Prop := ∀ vs w w', Below w.heap.size w w' → f.holds vs w → f.holds vs w'
def allStable : List Fact → Prop
 | [] => True
 | f :: l => f.Stable ∧ allStable l
theorem Fact.is_stable (d : Nat) (v : Value) : (Fact.is d v).Stable := fun _ _ _ _ h => h
theorem Fact.upto_stable {d k : Nat} {R : Value → World → Prop} (h : ∀ v w w', Below w.heap.size w w' → R v w → R v w') : (Fact.upto d k R).Stable := fun _ w w' hb ⟨v, e, hr⟩ => ⟨v, e, h v w w' hb hr⟩
theorem Fact.keep_stable {d : Nat} {R : Value → World → Prop} (h : ∀ v w w', Below w.heap.size w w' → R v w → R v w') : (Fact.keep d R).Stable := fun _ w w' hb ⟨v, e, hr⟩ => ⟨v, e, h v w w' hb hr⟩
theorem allStable_at : ∀ (F : List Fact), allStable F → ∀ j, (F.getD j Fact.none').Stable
 | [], _, j => by intro vs w w' _ _; trivial
 | f :: l, h, 0 => h.1
 | f :: l, h, j + 1 => allStable_at l h.2 j
def askB (ops : List Oper) (F : List Fact) (i j : Nat) : Bool := (anc ops ops.length i).contains j && (match (F.getD j Fact.none').kill with
 | some k => k == i || (anc ops ops.length k).contains i
 | none => true)
theorem ask_of {ops : List Oper} {F : List Fact} {i j : Nat} {s : Nat → Value} {w : World}
  (hd : ∀ j, j ∈ anc ops ops.length i → (∀ k, (F.getD j Fact.none').kill = some k → k = i ∨ i ∈ anc ops ops.length k) → factAt F j s w) (h : askB ops F i j = true) : factAt F j s w := by
 unfold askB at h
 rw [Bool.and_eq_true] at h
 refine hd j (List.contains_iff_mem.1 h.1) (fun k e => ?_)
 have h2 := h.2
 rw [e] at h2
 simp only [Bool.or_eq_true, beq_iff_eq] at h2
 exact h2.imp id List.contains_iff_mem.1
theorem off_of {ops : List Oper} {A a0 : Act} (hoff : ∀ t, (∀ o ∈ ops, o.dst ≠ some t) → slotAt A t = slotAt a0 t) (t : Nat) (h : (ops.all fun o => o.dst != some t) = true) : A.eval (.tmp t) = slotAt a0 t := by
 rw [eval_slot]
 refine hoff t (fun o ho => ?_)
 rw [List.all_eq_true] at h
 simpa using h o ho
def putAll (a : Act) (s : Nat → Value) : List Oper → Act
 | [] => a
 | o :: l => putAll (a.put o.dst (match o.dst with
  | some d => s d
  | none => undef)) s l
theorem size_putAll {s : Nat → Value} : ∀ (l : List Oper) (a : Act), (putAll a s l).tmps.size = a.tmps.size
 | [], _ => rfl
 | o :: l, a => by rw [putAll, size_putAll l, size_put]
theorem defers_putAll {s : Nat → Value} : ∀ (l : List Oper) (a : Act), (putAll a s l).defers = a.defers
 | [], _ => rfl
 | o :: l, a => by rw [putAll, defers_putAll l, defers_put]
theorem slot_putAll {s : Nat → Value} {t : Nat} : ∀ (l : List Oper) (a : Act), t < a.tmps.size → (slotAt a t = s t ∨ ∃ o ∈ l, o.dst = some t) → slotAt (putAll a s l) t = s t
 | [], _, _, h => by
  rcases h with h | ⟨o, ho, _⟩
  ·exact h
  ·cases ho
 | o :: l, a, hs, h => by
  rw [putAll]
  refine slot_putAll l _ (by rw [size_put]; exact hs) ?_
  by_cases e : o.dst = some t
  ·left
   rw [e, slot_put_self hs]
  ·rcases h with h | ⟨o', ho', he⟩
   ·left
    rw [slot_put_ne e]
    exact h
   ·rcases List.mem_cons.1 ho' with rfl | ho'
    ·exact absurd he e
    ·exact .inr ⟨o', ho', he⟩
theorem slotAt_lt {a : Act} {i : Nat} (h : i < a.tmps.size) : slotAt a i = a.tmps[i] := by simp [slotAt, h]
theorem putAll_eq {A a0 : Act} (hs : A.tmps.size = a0.tmps.size) (hd : A.defers = a0.defers) (hoff : ∀ t, (∀ o ∈ ops, o.dst ≠ some t) → slotAt A t = slotAt a0 t) : putAll a0 (slotAt A) ops = A := by
 have h1 : (putAll a0 (slotAt A) ops).tmps = A.tmps := by
  refine Array.ext (by rw [size_putAll, hs]) (fun i h h' => ?_)
  have hlt : i < a0.tmps.size := by rw [← hs]; exact h'
  have e : slotAt (putAll a0 (slotAt A) ops) i = slotAt A i := by
   refine slot_putAll ops a0 hlt ?_
   by_cases hx : ∃ o ∈ ops, o.dst = some i
   ·exact .inr hx
   ·exact .inl (hoff i (fun o ho he => hx ⟨o, ho, he⟩)).symm
  rw [slotAt_lt h, slotAt_lt h'] at e
  exact e
 have h2 := (defers_putAll (s := slotAt A) ops a0).trans hd.symm
 cases hA : putAll a0 (slotAt A) ops
 cases A
 rw [hA] at h1 h2
 simp only at h1 h2
 rw [h1, h2]
theorem wp_region_ord {id : Nat} {Q : Exit → Act → World → Prop} {w : World} (F : List Fact) (C : World → Prop) (hm : P.follows .mixedOrders = true) (hB : ordB ops F a0.tmps.size = true) (hC : C { w with drawn := w.drawn + 1 })
  (hbel : allStable F) (hg : opsGood P ops F C a0 ops 0)
  (hQ : ∀ s w', C w' → (∀ i, i < ops.length → (F.getD i Fact.none').kill = none → factAt F i s w') → DifferAll ops s → Q .normal (putAll a0 s ops) w') :
  (Code.region id ops.toArray true).wp P Q a0 w := by
 refine wp_region_any hm (wpAny_inv (F := F) (C := C) (a0 := a0) (ordB_ok hB) (fun j s w w' hb h => allStable_at F hbel j _ w w' hb h) hg (fun A w' h1 h2 h3 hc hf hdf => ?_) _ _ _ _ ?_ ?_)
 ·rw [← putAll_eq h1 h2 h3]
  exact hQ _ w' hc hf hdf
 ·simp [left, List.countP_replicate]
 ·have hno : ∀ i, (Array.replicate ops.toArray.size false).getD i false = false := fun i => by
   simp only [Array.getD_eq_getD_getElem?, Array.getElem?_replicate]
   split <;> rfl
  exact ⟨by simp, rfl, rfl, fun _ _ => rfl, fun i o _ h => (by rw [hno] at h; cases h), hC, fun i h => (by rw [hno] at h; cases h), fun i _ _ h => (by rw [hno] at h; cases h), fun i _ _ _ _ _ _ h => (by rw [hno] at h; cases h)⟩
def Leaves (ops : List Oper) (F : List Fact) (W : World) (i : Nat) (o : Oper) (A : Act) (w : World) (v : Value) (w' : World) : Prop :=
 Grows o w v w' ∧ (∃ y : Cls W, w' = y.val) ∧ (Below w.heap.size w w' ∨ ∀ j, j ≠ i → (∀ k, (F.getD j Fact.none').kill = some k → k ≠ i ∧ k ∉ anc ops ops.length i) → factAt F j (slotAt A) w → factAt F j (slotAt A) w') ∧ factAt F i (put1 A o v) w'
def OpGoodC (P : Program) (ops : List Oper) (F : List Fact) (W : World) (a0 : Act) (i : Nat) (o : Oper) : Prop :=
 ∀ (A : Act) (x : Cls W), (∀ t, (∀ o ∈ ops, o.dst ≠ some t) → slotAt A t = slotAt a0 t) →
  (∀ j, j ∈ anc ops ops.length i → (∀ k, (F.getD j Fact.none').kill = some k → k = i ∨ i ∈ anc ops ops.length k) → factAt F j (slotAt A) x.val) → Differ ops i (slotAt A) →
  surely P o A x.val (Leaves ops F W i o A x.val)
def opsGoodC (P : Program) (ops : List Oper) (F : List Fact) (W : World) (a0 : Act) : List Oper → Nat → Prop
 | [], _ => True
 | o :: l, i => OpGoodC P ops F W a0 i o ∧ opsGoodC P ops F W a0 l (i + 1)
theorem opsGoodC_of {W : World} : ∀ (l : List Oper) (i : Nat), opsGoodC P ops F W a0 l i → opsGood P ops F (fun w' => ∃ x : Cls W, w' = x.val) a0 l i
 | [], _, _ => trivial
 | o :: l, i, h => ⟨fun A w ⟨x, e⟩ hoff hdep hdif => by subst e; exact h.1 A x hoff hdep hdif, opsGoodC_of l (i + 1) h.2⟩
theorem wp_region_ord_cls {id : Nat} {Q : Exit → Act → World → Prop} {w : World} (F : List Fact) (hm : P.follows .mixedOrders = true) (hB : ordB ops F a0.tmps.size = true)
  (hbel : allStable F) (hg : opsGoodC P ops F w a0 ops 0)
  (hQ : ∀ s w', Below w.heap.size w w' → (∀ i, i < ops.length → (F.getD i Fact.none').kill = none → factAt F i s w') → DifferAll ops s → Q .normal (putAll a0 s ops) w') :
  (Code.region id ops.toArray true).wp P Q a0 w :=
 wp_region_ord F _ hm hB ⟨⟨{ w with drawn := w.drawn + 1 }, ⟨rfl, rfl, rfl, Nat.le_refl _, fun _ _ => rfl⟩⟩, rfl⟩ hbel (opsGoodC_of ops 0 hg) (fun s w' ⟨x, e⟩ hf hdf => hQ s w' (by rw [e]; exact x.below) hf hdf)
theorem is_of {j d : Nat} {v : Value} {A : Act} {w : World} (h : factAt F j (slotAt A) w) (e : F.getD j Fact.none' = Fact.is d v) : A.eval (.tmp d) = v := by
 unfold factAt at h
 rw [e] at h
 simpa [Fact.is, eval_slot] using h
theorem upto_of {j d k : Nat} {R : Value → World → Prop} {A : Act} {w : World} (h : factAt F j (slotAt A) w) (e : F.getD j Fact.none' = Fact.upto d k R) : R (A.eval (.tmp d)) w := by
 unfold factAt at h
 rw [e] at h
 obtain ⟨v, h1, h2⟩ := h
 have h1 : [slotAt A d] = [v] := h1
 rw [eval_slot]
 injection h1 with h1
 rw [h1]
 exact h2
theorem keep_of {j d : Nat} {R : Value → World → Prop} {s : Nat → Value} {w : World} (h : factAt F j s w) (e : F.getD j Fact.none' = Fact.keep d R) : R (s d) w := by
 unfold factAt at h
 rw [e] at h
 obtain ⟨v, h1, h2⟩ := h
 have h1 : [s d] = [v] := h1
 injection h1 with h1
 rw [h1]
 exact h2
theorem val_of {j d : Nat} {v : Value} {s : Nat → Value} {w : World} (h : factAt F j s w) (e : F.getD j Fact.none' = Fact.is d v) : s d = v := by
 unfold factAt at h
 rw [e] at h
 have h : [s d] = [v] := h
 injection h
theorem put1_self {A : Act} {o : Oper} {v : Value} {d : Nat} (h : o.dst = some d) : put1 A o v d = v := by unfold put1; rw [if_pos h]
theorem put1_other {A : Act} {o : Oper} {v : Value} {d : Nat} (h : o.dst ≠ some d) : put1 A o v d = A.eval (.tmp d) := by unfold put1; rw [if_neg h]; rfl
theorem is_to {i d : Nat} {v : Value} {A : Act} {o : Oper} {w : World} (e : F.getD i Fact.none' = Fact.is d v) (h : o.dst = some d) : factAt F i (put1 A o v) w := by
 unfold factAt
 rw [e]
 simp only [Fact.is, List.map_cons, List.map_nil]
 rw [put1_self h]
theorem upto_to {i d k : Nat} {v : Value} {R : Value → World → Prop} {A : Act} {o : Oper} {w : World} (e : F.getD i Fact.none' = Fact.upto d k R) (h : o.dst = some d) (hr : R v w) : factAt F i (put1 A o v) w := by
 unfold factAt
 rw [e]
 refine ⟨v, ?_, hr⟩
 simp only [Fact.upto, List.map_cons, List.map_nil]
 rw [put1_self h]
theorem keep_to {i d : Nat} {v u : Value} {R : Value → World → Prop} {A : Act} {o : Oper} {w : World} (e : F.getD i Fact.none' = Fact.keep d R) (h : o.dst ≠ some d) (ha : A.eval (.tmp d) = u) (hr : R u w) : factAt F i (put1 A o v) w := by
 unfold factAt
 rw [e]
 refine ⟨u, ?_, hr⟩
 simp only [Fact.keep, List.map_cons, List.map_nil]
 rw [put1_other h, ha]
theorem leaves_below {W : World} {x : Cls W} {i : Nat} {o : Oper} {A : Act} {v : Value} {w' : World} (hb : Below x.val.heap.size x.val w') (hf : factAt F i (put1 A o v) w') (ha : isAlloc o = false := by rfl) : Leaves ops F W i o A x.val v w' :=
 ⟨⟨hb.size, fun h => by rw [ha] at h; cases h⟩, ⟨⟨w', x.below.trans (hb.mono x.below.size)⟩, rfl⟩, .inl hb, hf⟩
theorem leaves_alloc {W : World} {x : Cls W} {i : Nat} {o : Oper} {A : Act} {ob : Obj} (hf : factAt F i (put1 A o (.pointer (some ⟨x.val.heap.size, 0, none⟩))) (x.val.alloc ob)) : Leaves ops F W i o A x.val (.pointer (some ⟨x.val.heap.size, 0, none⟩)) (x.val.alloc ob) :=
 have hb : Below x.val.heap.size x.val (x.val.alloc ob) := (Below.refl _ _).alloc (Nat.le_refl _) _
 ⟨⟨hb.size, fun _ => ⟨_, rfl, Nat.le_refl _, by simp⟩⟩, ⟨⟨_, x.below.trans (hb.mono x.below.size)⟩, rfl⟩, .inl hb, hf⟩
theorem leaves_below' {W : World} {x : Cls W} {i : Nat} {o : Oper} {A : Act} {v : Value} {w' : World} (ha : isAlloc o = false) (hb : Below x.val.heap.size x.val w') (hf : factAt F i (put1 A o v) w') : Leaves ops F W i o A x.val v w' :=
 ⟨⟨hb.size, fun h => by rw [ha] at h; cases h⟩, ⟨⟨w', x.below.trans (hb.mono x.below.size)⟩, rfl⟩, .inl hb, hf⟩
theorem good_run {W : World} {x : Cls W} {i : Nat} {o : Oper} {A : Act} {v : Value} {w' : World} (h : (execOp A.eval o).run P x.val = .ok (.value v) w') (hl : Leaves ops F W i o A x.val v w') : surely P o A x.val (Leaves ops F W i o A x.val) := surely_value h hl
theorem good_skip {W : World} {x : Cls W} {i : Nat} {o : Oper} {A : Act} {w' : World} (h : (execOp A.eval o).run P x.val = .ok .skip w') (hl : Leaves ops F W i o A x.val undef w') : surely P o A x.val (Leaves ops F W i o A x.val) := surely_skip h hl
theorem good_call {W : World} {x : Cls W} {i : Nat} {o : Oper} {A : Act} {f : FuncId} {args : Array Value} (h : (execOp A.eval o).run P x.val = .ok (.enter f args) x.val)
  (hc : Calls P f args x.val fun e w' => ∃ v, e = .returned v ∧ Below x.val.heap.size x.val w' ∧ factAt F i (put1 A o v) w') (ha : isAlloc o = false := by rfl) : surely P o A x.val (Leaves ops F W i o A x.val) :=
 surely_call h (hc.mono fun _ _ ⟨v, he, hb, hf⟩ => ⟨v, he, leaves_below' ha hb hf⟩)
theorem good_is {W : World} {x : Cls W} {i d : Nat} {o : Oper} {A : Act} {v : Value} (e : F.getD i Fact.none' = Fact.is d v) (hd : o.dst = some d) (h : (execOp A.eval o).run P x.val = .ok (.value v) x.val) (ha : isAlloc o = false := by rfl) : surely P o A x.val (Leaves ops F W i o A x.val) :=
 good_run h (leaves_below' ha (Below.refl _ _) (is_to e hd))
theorem good_call_is {W : World} {x : Cls W} {i d : Nat} {o : Oper} {A : Act} {f : FuncId} {args : Array Value} {v : Value} (e : F.getD i Fact.none' = Fact.is d v) (hd : o.dst = some d) (h : (execOp A.eval o).run P x.val = .ok (.enter f args) x.val)
  (hc : Calls P f args x.val fun e w' => e = .returned v ∧ Below x.val.heap.size x.val w') (ha : isAlloc o = false := by rfl) : surely P o A x.val (Leaves ops F W i o A x.val) :=
 good_call h (hc.mono fun _ _ ⟨h1, h2⟩ => ⟨v, h1, h2, is_to e hd⟩) ha
theorem good_call_upto {W : World} {x : Cls W} {i d k : Nat} {R : Value → World → Prop} {o : Oper} {A : Act} {f : FuncId} {args : Array Value} (e : F.getD i Fact.none' = Fact.upto d k R) (hd : o.dst = some d) (h : (execOp A.eval o).run P x.val = .ok (.enter f args) x.val)
  (hc : Calls P f args x.val fun e w' => ∃ v, e = .returned v ∧ Below x.val.heap.size x.val w' ∧ R v w') (ha : isAlloc o = false := by rfl) : surely P o A x.val (Leaves ops F W i o A x.val) :=
 good_call h (hc.mono fun _ _ ⟨v, h1, h2, h3⟩ => ⟨v, h1, h2, upto_to e hd h3⟩) ha
end
end Go.Proofs.Ytminfkedkkkhdaa
