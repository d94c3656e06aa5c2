/-
  What a text does on the plain machine, and that memory follows.
  What a function answers on the plain machine it answers.
  A function that answers so on the plain machine answers so; how the plain machine is run.
  How the plain machine is run, step by step: equations, and rules for calls and loops.
  How the plain machine is run: calls and loops.
  More rules for running the plain machine.
-/
import Derived.Test.YtbkbppllcjcmhaaAvT
import Derived.Tactics
set_option linter.unusedSimpArgs false
set_option linter.unusedVariables false
set_option linter.defProp false
namespace Go.Proofs.Ytbkbppllcjcmhaa
open Go.RowKit
namespace Av

/-- one numbering for another one -/
inductive AvRen (ρ : Nat → Nat) (L : Nat → Prop) : AV → AV → Prop
  | und (y : AV) : AvRen ρ L .und y
  | pv (p : PV) : AvRen ρ L (.pv p) (.pv p)
  | nil (e : TypeId) : AvRen ρ L (.nil e) (.nil e)
  | sl (b c : Nat) (h : L b) (e : c = ρ b) : AvRen ρ L (.sl b) (.sl c)
  | ptr (b c o : Nat) (h : L b) (e : c = ρ b) : AvRen ρ L (.ptr b o) (.ptr c o)
  | agg (xs ys : List AV) (hl : ys.length = xs.length) (h : ∀ i (hi : i < xs.length), AvRen ρ L xs[i] (ys[i]'(by omega))) : AvRen ρ L (.agg xs) (.agg ys)
/-- a machine that tells less, with other numbers -/
def BlkRen (ρ : Nat → Nat) (L : Nat → Prop) : Blk → Blk → Prop
  | .none, _ => True
  | .box xs, .box ys => ∃ hl : ys.length = xs.length, ∀ i (hi : i < xs.length), AvRen ρ L xs[i] (ys[i]'(by omega))
  | .row own e rows, .row own' e' rows' => own = own' ∧ e = e' ∧ rows = rows'
  | .frz e rows, .frz e' rows' => e = e' ∧ rows = rows'
  | _, _ => False
structure Less (ρ : Nat → Nat) (S' S : ASt) : Prop where
  slots : ∀ t, AvRen ρ (fun b => (S'.h b).known = true) (S'.t t) (S.t t)
  blks : ∀ b, BlkRen ρ (fun b => (S'.h b).known = true) (S'.h b) (S.h (ρ b))
  inj : ∀ b c, (S'.h b).known = true → (S'.h c).known = true → ρ b = ρ c → b = c
section
variable {P : Program} {w0 : W0} {w : World} {N : Nat} {S S' : ASt} {φ : Nat → Value} {T : Nat → Nat → Nat → Prop} {M : Nat → Prop} {a : Act} {ρ : Nat → Nat}
theorem AvRen.ra {L L' : Nat → Prop} {x y : AV} {v : Value} (h : AvRen ρ L' x y) : Ra P w M φ L y v → Ra P w M (fun b => φ (ρ b)) L' x v := by
  intro hr
  induction h generalizing v with
  | und y => exact .und v
  | pv p => cases hr with | pv _ _ h => exact .pv p v h
  | nil e => cases hr with | nil => exact .nil e
  | sl b c h e =>
    subst e
    cases hr with | sl _ h' => exact Ra.sl (φ := fun b => φ (ρ b)) b h
  | ptr b c o h e =>
    subst e
    cases hr with | ptr _ _ g h' e => exact .ptr b o g h e
  | agg xs ys hl h ih =>
    cases hr with | agg _ vs hl' h' => exact .agg xs vs (by omega) (fun i hi => ih i hi (h' i (by omega)))
theorem Rel.less (h : Rel P w0 N S φ T M a w) (hl : Less ρ S' S) : Rel P w0 N S' (fun b => φ (ρ b)) (fun b k g => (S'.h b).known = true ∧ T (ρ b) k g) M a w := by
  have hlv : ∀ b, (S'.h b).live = true → (S.h (ρ b)).live = true ∧ (S'.h b).known = true := fun b hb => by
    have := hl.blks b
    cases hB : S'.h b <;> rw [hB] at this hb <;> cases hC : S.h (ρ b) <;> rw [hC] at this <;> first | exact ⟨rfl, rfl⟩ | exact this.elim | cases hb
  have hTs : ∀ b, (S'.h b).isTree = false := fun b => by
    have := hl.blks b
    cases hB : S'.h b with
    | tree e rows => rw [hB] at this; cases hC : S.h (ρ b) <;> rw [hC] at this <;> exact this.elim
    | opn e rows i cs => rw [hB] at this; cases hC : S.h (ρ b) <;> rw [hC] at this <;> exact this.elim
    | none | dead | box | row | frz => rfl
  have hTr : ∀ b, (S'.h b).known = true → (S.h (ρ b)).isTree = false := fun b hb => by
    have := hl.blks b
    cases hC : S.h (ρ b) with
    | tree e rows =>
      rw [hC] at this
      cases hB : S'.h b with
      | none => rw [hB] at hb; cases hb
      | dead | box | row | frz | tree | opn => rw [hB] at this; exact this.elim
    | opn e rows i cs =>
      rw [hC] at this
      cases hB : S'.h b with
      | none => rw [hB] at hb; cases hb
      | dead | box | row | frz | tree | opn => rw [hB] at this; exact this.elim
    | none | dead | box | row | frz => rfl
  refine ⟨h.below, h.defers, h.size, fun t => (hl.slots t).ra (h.slots t), fun b => ?_, fun b g hb e => h.mutb _ g (hlv b hb).1 e, h.mlt, h.amb, fun b c g hb hc e e' => hl.inj b c (hlv b hb).2 (hlv c hc).2 (h.disj _ _ g (hlv b hb).1 (hlv c hc).1 e e'), fun b k g ht => ⟨(h.own _ k g ht.2).1, (h.own _ k g ht.2).2.1, fun _ => (h.own _ k g ht.2).2.2 (hTr b ht.1)⟩, fun b k g ht hb => absurd hb (by rw [hTs b]; decide), fun b k c k' g ht ht' => ?_⟩
  · have hb := hl.blks b
    have hB := h.blks (ρ b)
    cases hx : S'.h b with
    | none => trivial
    | dead => trivial
    | box xs =>
      rw [hx] at hb
      cases hy : S.h (ρ b) with
      | box ys =>
        rw [hy] at hb hB
        obtain ⟨hlen, hr⟩ := hb
        obtain ⟨g, cur, ty, h1, h2, h3, h4, h5⟩ := hB
        exact ⟨g, cur, ty, h1, h2, h3, by omega, fun i hi hj => (hr i hi).ra (h5 i (by omega) hj)⟩
      | none => rw [hy] at hb; exact hb.elim
      | dead => rw [hy] at hb; exact hb.elim
      | row => rw [hy] at hb; exact hb.elim
      | frz => rw [hy] at hb; exact hb.elim
      | tree => rw [hy] at hb; exact hb.elim
      | opn => rw [hy] at hb; exact hb.elim
    | row own e rows =>
      rw [hx] at hb
      cases hy : S.h (ρ b) with
      | row own' e' rows' =>
        rw [hy] at hb hB
        obtain ⟨rfl, rfl, rfl⟩ := hb
        obtain ⟨xs, f, h1, h2, h3, h4⟩ := hB
        refine ⟨xs, f, h1, h2, h3, fun i hi j hj => ?_⟩
        have := h4 i hi j hj
        cases own with
        | true => exact Ow.mono this (fun g hg => ⟨rfl, hg⟩)
        | false => exact this
      | none => rw [hy] at hb; exact hb.elim
      | dead => rw [hy] at hb; exact hb.elim
      | box => rw [hy] at hb; exact hb.elim
      | frz => rw [hy] at hb; exact hb.elim
      | tree => rw [hy] at hb; exact hb.elim
      | opn => rw [hy] at hb; exact hb.elim
    | tree e rows => rw [hx] at hb; cases hy : S.h (ρ b) <;> rw [hy] at hb <;> exact hb.elim
    | opn e rows i cs => rw [hx] at hb; cases hy : S.h (ρ b) <;> rw [hy] at hb <;> exact hb.elim
    | frz e rows =>
      rw [hx] at hb
      cases hy : S.h (ρ b) with
      | frz e' rows' =>
        rw [hy] at hb hB
        obtain ⟨rfl, rfl⟩ := hb
        exact hB
      | none => rw [hy] at hb; exact hb.elim
      | dead => rw [hy] at hb; exact hb.elim
      | box => rw [hy] at hb; exact hb.elim
      | row => rw [hy] at hb; exact hb.elim
      | tree => rw [hy] at hb; exact hb.elim
      | opn => rw [hy] at hb; exact hb.elim
  · obtain ⟨h1, h2⟩ := h.apart _ k _ k' g ht.2 ht'.2
    exact ⟨hl.inj b c ht.1 ht'.1 h1, h2⟩
end

/-- slots are slots -/
def dstB (N : Nat) (ops : List Oper) : Bool := ops.all fun o => match o.dst with
  | some d => decide (d < N)
  | none => true
/-- the operations of a region keep to what is asked of their order -/
def footOk (draw : Bool) (ops : List Oper) (m : Nat) (acc : List Foot) : Bool := if draw then orderB ops m acc.reverse else boundB m acc.reverse
theorem ftS {a : Bool} {b : List Oper} {c : Nat} {d : List Foot} {Q : Prop} (h : footOk a b c d = true) (q : Q) : footOk a b c d = true ∧ Q := ⟨h, q⟩
def dstAll (N : Nat) : Code → Bool
  | .seq x y => dstAll N x && dstAll N y
  | .cond _ x y => dstAll N x && dstAll N y
  | .block _ c => dstAll N c
  | .loop c => dstAll N c
  | .region _ ops _ => dstB N ops.toList
  | _ => true
abbrev Post := Exit → ASt → Nat → Prop
/-- behind the first of two texts -/
def seqQ (next : Post → ASt → Nat → Prop) (Q : Post) : Post
  | .normal, S, m => next Q S m
  | e, S, m => Q e S m
def blockQ (id : Nat) (Q : Post) : Post
  | .exit i, S, m => if i = id then Q .normal S m else Q (.exit i) S m
  | e, S, m => Q e S m
def loopQ (I : Nat → ASt → Nat → Prop) (k : Nat) (Q : Post) : Post
  | .normal, S1, _ => ∃ k' ρ S' m', k' < k ∧ I k' S' m' ∧ Less ρ S' S1 ∧ ∀ b, m' ≤ b → S'.h b = .none
  | e, S, m => Q e S m
def condA (S : ASt) : Operand → AV
  | .tmp i => S.t i
  | .const (.bool b) => .pv (.bool b)
  | _ => .und
/-- what a text does on the plain machine -/
def awp (E : Tab) : Code → Post → ASt → Nat → Prop
  | .skip, Q, S, m => Q .normal S m
  | .label _, Q, S, m => Q .normal S m
  | .ret, Q, S, m => Q .ret S m
  | .exit id, Q, S, m => Q (.exit id) S m
  | .seq x y, Q, S, m => awp E x (seqQ (awp E y) Q) S m
  | .cond c x y, Q, S, m => ∃ t, condA S c = .pv (.bool t) ∧ (t = true → awp E x Q S m) ∧ (t = false → awp E y Q S m)
  | .block id c, Q, S, m => awp E c (blockQ id Q) S m
  | .loop c, Q, S, _ => ∃ (I : Nat → ASt → Nat → Prop), (∃ k ρ S' m', I k S' m' ∧ Less ρ S' S ∧ ∀ b, m' ≤ b → S'.h b = .none) ∧ ∀ k S m, I k S m → awp E c (loopQ I k Q) S m
  | .region _ ops draw, Q, S, m => aops E ops.toList ops.toList m S [] (fun S' acc => footOk draw ops.toList m acc = true ∧ Q .normal S' (m + 16 * ops.size))
  | _, _, _, _ => False
/-- memory is so, and there are numbers left -/
def Mem (P : Program) (w0 : W0) (N : Nat) (S : ASt) (m : Nat) (a : Act) (w : World) : Prop := (∃ φ T M, Rel P w0 N S φ T M a w) ∧ ∀ b, m ≤ b → S.h b = .none
theorem dstB_at {N : Nat} {ops : List Oper} (h : dstB N ops = true) : ∀ o ∈ ops, ∀ x, o.dst = some x → x < N := fun o ho x hx => by
  unfold dstB at h
  rw [List.all_eq_true] at h
  have := h o ho
  rw [hx] at this
  simpa using this
theorem awp_sound {E : Tab} {w0 : W0} {N : Nat} (hmix : E.P.follows .mixedOrders = true) : ∀ (c : Code) (Q : Post) (S : ASt) (m : Nat) (a : Act) (w : World), dstAll N c = true → awp E c Q S m → Mem E.P w0 N S m a w → c.wp E.P (fun e a' w' => ∃ S' m', Q e S' m' ∧ Mem E.P w0 N S' m' a' w') a w
  | .skip, Q, S, m, a, w, _, h, hM => wp_skip ⟨S, m, h, hM⟩
  | .label _, Q, S, m, a, w, _, h, hM => wp_label ⟨S, m, h, hM⟩
  | .ret, Q, S, m, a, w, _, h, hM => wp_ret ⟨S, m, h, hM⟩
  | .exit id, Q, S, m, a, w, _, h, hM => wp_exit ⟨S, m, h, hM⟩
  | .seq x y, Q, S, m, a, w, hd, h, hM => by
    simp only [dstAll, Bool.and_eq_true] at hd
    refine wp_seq (wp_mono (awp_sound hmix x _ S m a w hd.1 h hM) (fun e a' w' he => ?_))
    obtain ⟨S', m', h1, h2⟩ := he
    cases e with
    | normal => exact awp_sound hmix y Q S' m' a' w' hd.2 h1 h2
    | exit | goto | ret | panic | outgrown => exact ⟨S', m', h1, h2⟩
  | .cond c x y, Q, S, m, a, w, hd, h, hM => by
    simp only [dstAll, Bool.and_eq_true] at hd
    obtain ⟨t, ht, h1, h2⟩ := h
    have hc : a.eval c = .bool t := by
      obtain ⟨⟨φ, T, M, hrel⟩, _⟩ := hM
      cases c with
      | tmp i =>
        have := hrel.slots i
        have ht' : S.t i = .pv (.bool t) := ht
        rw [ht'] at this
        exact rd_bool (ra_pv this)
      | const v =>
        cases v <;> simp only [condA] at ht <;> first | (injection ht with ht; injection ht with ht; subst ht; rfl) | cases ht
      | global => cases ht
      | func => cases ht
    refine wp_cond hc ?_
    cases t with
    | true => exact awp_sound hmix x Q S m a w hd.1 (h1 rfl) hM
    | false => exact awp_sound hmix y Q S m a w hd.2 (h2 rfl) hM
  | .block id c, Q, S, m, a, w, hd, h, hM => by
    refine wp_block (wp_mono (awp_sound hmix c _ S m a w (by simpa [dstAll] using hd) h hM) (fun e a' w' he => ?_))
    obtain ⟨S', m', h1, h2⟩ := he
    cases e with
    | exit i =>
      unfold Exit.inBlock
      unfold blockQ at h1
      simp only at h1 ⊢
      split
      · rename_i e; rw [if_pos e] at h1; exact ⟨S', m', h1, h2⟩
      · rename_i e; rw [if_neg e] at h1; exact ⟨S', m', h1, h2⟩
    | normal | goto | ret | panic | outgrown => exact ⟨S', m', h1, h2⟩
  | .loop c, Q, S, m, a, w, hd, h, hM => by
    obtain ⟨I, ⟨k0, ρ, S1, m1, hI, hless, hfr⟩, hround⟩ := h
    have hM1 : Mem E.P w0 N S1 m1 a w := by
      obtain ⟨⟨φ, T, M, hrel⟩, _⟩ := hM
      exact ⟨⟨_, _, _, hrel.less hless⟩, hfr⟩
    intro b kk cs
    have key : ∀ k a w, (∃ S m, I k S m ∧ Mem E.P w0 N S m a w) → ∃ e a' w', (∃ S' m', Q e S' m' ∧ Mem E.P w0 N S' m' a' w') ∧ Arrives E.P (lone (b.at a (.code c :: .inLoop c :: kk)) cs w) b kk cs e a' w' := by
      intro k
      induction k using Nat.strongRecOn with
      | _ k ih =>
        intro a w ⟨S, m, hI, hM⟩
        obtain ⟨e, a', w', ⟨S2, m2, hq, hM2⟩, harr⟩ := awp_sound hmix c _ S m a w (by simpa [dstAll] using hd) (hround k S m hI) hM b (.inLoop c :: kk) cs
        cases e with
        | normal =>
          obtain ⟨k', ρ', S3, m3, hlt, hI', hless', hfr'⟩ := hq
          have hM3 : Mem E.P w0 N S3 m3 a' w' := by
            obtain ⟨⟨φ, T, M, hrel⟩, _⟩ := hM2
            exact ⟨⟨_, _, _, hrel.less hless'⟩, hfr'⟩
          obtain ⟨e2, a2, w2, hq2, harr2⟩ := ih k' hlt a' w' ⟨S3, m3, hI', hM3⟩
          exact ⟨e2, a2, w2, hq2, .of_steps (Go.Steps.trans harr (.one step_inLoop)) harr2⟩
        | exit id => exact ⟨_, a', w', ⟨S2, m2, hq, hM2⟩, .pass (x := .inLoop c) rfl (fun _ _ => .inl (by simp)) harr⟩
        | goto l => exact ⟨_, a', w', ⟨S2, m2, hq, hM2⟩, .pass (x := .inLoop c) rfl (fun _ _ => .inl (by simp)) harr⟩
        | ret => exact ⟨_, a', w', ⟨S2, m2, hq, hM2⟩, .pass (x := .inLoop c) rfl (fun _ _ => .inl (by simp)) harr⟩
        | panic ch => exact ⟨_, a', w', ⟨S2, m2, hq, hM2⟩, .pass (x := .inLoop c) rfl (fun _ _ => .inl (by simp)) harr⟩
        | outgrown => exact ⟨_, a', w', ⟨S2, m2, hq, hM2⟩, .pass (x := .inLoop c) rfl (fun _ _ => .inl (by simp)) harr⟩
    obtain ⟨e, a', w', hq, harr⟩ := key k0 a w ⟨S1, m1, hI, hM1⟩
    exact ⟨e, a', w', hq, .of_steps (.one step_loop) harr⟩
  | .region id ⟨ops⟩ draw, Q, S, m, a, w, hd, h, hM => by
    obtain ⟨es, S', hs, hB, hQ⟩ := aops_steps h
    obtain ⟨⟨φ, T, M, hrel⟩, hf⟩ := hM
    simp only [List.append_nil, footOk, List.reverse_reverse] at hB
    cases draw with
    | false =>
      refine wp_region_list (region_text (dstB_at hd) hs hB hf hrel (fun φ T M a w h' hf' => ⟨S', _, hQ, ⟨φ, T, M, h'⟩, hf'⟩))
    | true =>
      refine wp_region_any hmix (region_any (w0 := w0) (dstB_at hd) hs hB hf (fun φ T M a w h' hf' => ⟨S', _, hQ, ⟨φ, T, M, h'⟩, hf'⟩) _ _ _ _ ?_ ?_)
      · simp [leftN, List.countP_replicate]
      · have hno : ∀ i, (Array.replicate ops.toArray.size false).getD i false = false := fun i => by
          simp only [Array.getD_eq_getD_getElem?, Array.getElem?_replicate]
          split <;> rfl
        refine ⟨by simp, (fun i o _ hl => by rw [hno] at hl; cases hl), φ, T, M, ?_⟩
        have e0 : stD S (effs ops es) (fun i => (Array.replicate ops.toArray.size false).getD i false) ops.length = S := by
          rw [stD_stop (i := 0) (by omega) (fun k _ => hno k)]
          rfl
        rw [e0]
        exact keepN hrel
  | .goto _, _, _, _, _, _, _, h, _ => h.elim
  | .rangeFunc .., _, _, _, _, _, _, h, _ => h.elim
  | .scope _, _, _, _, _, _, _, h, _ => h.elim
  | .refuse _, _, _, _, _, _, _, h, _ => h.elim
end Av
end Go.Proofs.Ytbkbppllcjcmhaa

namespace Go.Proofs.Ytbkbppllcjcmhaa
open Go.RowKit
namespace Av

/-- the cells of values -/
def flatC : List AV → List AV
  | [] => []
  | .agg cs :: l => cs ++ flatC l
  | x :: l => x :: flatC l
def tupOf : List PV → PV
  | [p] => p
  | ps => .tup ps
/-- the arguments, as a call finds them -/
def begin_ (ps : List PV) : ASt := ⟨fun t => match ps[t]? with | some p => plain1 p | none => .und, fun _ => .none⟩
/-- what is handed back is this, and of the call's own, if that is asked -/
def Fin (own : Bool) (S : ASt) (ys : List AV) (r : PV) : Prop := (snapAs ys fun ps => if own then ownQ (flatC ys) fun o => .need (o = true ∧ nodupB (slots ys) = true ∧ tupOf ps = r) (ret .und) else freeze (slots ys) fun u => .need (tupOf ps = r) (.ret ⟨.und, u⟩)).run S ⟨[], []⟩ (fun _ _ => True)
section
variable {E : Tab} {w0 : W0} {w : World} {N : Nat} {S : ASt} {φ : Nat → Value} {T : Nat → Nat → Nat → Prop} {M : Nat → Prop} {a : Act}
theorem slots_cons (y : AV) (l : List AV) : slots (y :: l) = slots [y] ++ slots l := by
  cases y <;> simp [slots]
theorem nodup_app : ∀ {q p : List Nat}, nodupB (q ++ p) = true → nodupB q = true ∧ nodupB p = true ∧ ∀ b, b ∈ q → b ∉ p
  | [], p, h => ⟨rfl, h, fun b hb => by cases hb⟩
  | x :: q, p, h => by
    simp only [List.cons_append, nodupB, Bool.and_eq_true, Bool.not_eq_true', List.contains_eq_mem, decide_eq_false_iff_not] at h ⊢
    obtain ⟨h1, h2⟩ := h
    obtain ⟨h3, h4, h5⟩ := nodup_app h2
    refine ⟨⟨fun hx => h1 (List.mem_append_left _ hx), h3⟩, h4, fun b hb hp => ?_⟩
    rcases List.mem_cons.1 hb with rfl | hb
    · exact h1 (List.mem_append_right _ hp)
    · exact h5 b hb hp
theorem slots_two : ∀ {ys : List AV}, nodupB (slots ys) = true → ∀ {i j : Nat} (hi : i < ys.length) (hj : j < ys.length) {b : Nat}, b ∈ slots [ys[i]] → b ∈ slots [ys[j]] → i = j
  | [], _, i, _, hi, _, _, _, _ => by simp at hi
  | y :: l, hn, i, j, hi, hj, b, h1, h2 => by
    rw [slots_cons] at hn
    obtain ⟨_, hn2, hn3⟩ := nodup_app hn
    have inl : ∀ {k : Nat} (hk : k < l.length), b ∈ slots [l[k]] → b ∈ slots l := by
      intro k hk hb
      have : ∀ (l : List AV) (k : Nat) (hk : k < l.length), b ∈ slots [l[k]] → b ∈ slots l := by
        intro l
        induction l with
        | nil => intro k hk; simp at hk
        | cons z l ih =>
          intro k hk hb
          rw [slots_cons]
          cases k with
          | zero => exact List.mem_append_left _ hb
          | succ k => exact List.mem_append_right _ (ih k (by simpa using hk) hb)
      exact this l k hk hb
    cases i with
    | zero =>
      cases j with
      | zero => rfl
      | succ j => exact absurd (inl (by simpa using hj) h2) (hn3 b h1)
    | succ i =>
      cases j with
      | zero => exact absurd (inl (by simpa using hi) h1) (hn3 b h2)
      | succ j =>
        have := slots_two hn2 (i := i) (j := j) (by simpa using hi) (by simpa using hj) h1 h2
        omega
theorem flatC_mem : ∀ {ys : List AV} {i : Nat} (hi : i < ys.length), (∀ cs, ys[i] = .agg cs → ∀ x ∈ cs, x ∈ flatC ys) ∧ ((∀ cs, ys[i] ≠ .agg cs) → ys[i] ∈ flatC ys)
  | [], i, hi => by simp at hi
  | y :: l, 0, _ => by
    refine ⟨fun cs e x hx => ?_, fun hne => ?_⟩
    · simp only [List.getElem_cons_zero] at e
      subst e
      exact List.mem_append_left _ hx
    · simp only [List.getElem_cons_zero] at hne ⊢
      cases y <;> first | exact List.mem_cons_self .. | exact absurd rfl (hne _)
  | y :: l, i + 1, hi => by
    obtain ⟨h1, h2⟩ := flatC_mem (ys := l) (i := i) (by simpa using hi)
    have up : ∀ x, x ∈ flatC l → x ∈ flatC (y :: l) := fun x hx => by cases y <;> first | exact List.mem_cons_of_mem _ hx | exact List.mem_append_right _ hx
    exact ⟨fun cs e x hx => up x (h1 cs e x hx), fun hne => up _ (h2 hne)⟩
/-- one answer of the call's own -/
theorem one_own (h : Rel E.P w0 N S φ T M a w) {y : AV} {p : PV} {v : Value} (hx : RaS E w M φ S y v) (hs : SnA S y p) (ho : (∀ cs, y = .agg cs → ∀ x ∈ cs, OwnAV S x) ∧ ((∀ cs, y ≠ .agg cs) → OwnAV S y)) (hn : nodupB (slots [y]) = true) :
    Ow E.P w (fun g => ∃ c e rows, c ∈ slots [y] ∧ S.h c = .row true e rows ∧ rowSet φ T c g) p v := by
  by_cases hag : ∃ cs, y = .agg cs
  · obtain ⟨cs, rfl⟩ := hag
    have hsl : slots [AV.agg cs] = slots cs := by simp [slots]
    rw [hsl] at hn ⊢
    have hoc := ho.1 cs rfl
    rcases hs with ⟨cs', qs, e1, rfl, he, hsn⟩ | hs
    · injection e1 with e1
      subst e1
      cases hx with
      | agg _ vs hl hv =>
        refine .agg _ qs vs (cellSet φ T cs) (by omega) (fun k g hk => ?_) (fun k k' g hk hk' => ?_) (fun i hi => sn_own h (hv i (by omega)) (hsn i (by omega)) (hoc _ (List.getElem_mem _)) (fun c hc g hg => ⟨c, by rw [List.getElem?_eq_getElem (show i < cs.length by omega), hc], hg⟩))
        · obtain ⟨c, e, rows, h1, h2, h3, _⟩ := cellSet_in h hoc hk
          exact ⟨c, e, rows, mem_slots (List.mem_of_getElem? h1), h2, h3⟩
        · obtain ⟨c, e, rows, h1, h2, h3, _⟩ := cellSet_in h hoc hk
          obtain ⟨c', e', rows', h1', h2', h3', _⟩ := cellSet_in h hoc hk'
          have := rowSet_inj h (by rw [h2]; rfl) (by rw [h2']; rfl) (by rw [h2]; rfl) (by rw [h2']; rfl) h3 h3'
          subst this
          exact slots_inj hn h1 h1'
    · rcases hs with e1 | ⟨_, e1, _⟩ | ⟨_, _, _, e1, _⟩ <;> cases e1
  · have hne : ∀ cs, y ≠ .agg cs := fun cs e => hag ⟨cs, e⟩
    have hoy := ho.2 hne
    rcases hs with ⟨cs', qs, e1, _⟩ | hs
    · exact absurd e1 (hne _)
    · refine sn_own h hx hs hoy (fun c hc g hg => ?_)
      subst hc
      rcases hoy with ⟨_, e, _⟩ | ⟨_, e⟩ | ⟨b, e, rows, e1, hB⟩
      · cases e
      · cases e
      · injection e1 with e1
        subst e1
        exact ⟨_, e, rows, by simp [slots], hB, hg⟩
/-- what is handed back -/
theorem fin_sound {own : Bool} (h : Rel E.P w0 N S φ T M a w) {ys : List AV} {vs : List Value} {r : PV} (hl : vs.length = ys.length) (hra : ∀ i (hi : i < ys.length), RaS E w M φ S ys[i] (vs[i]'(by omega))) (hf : Fin own S ys r) :
    if own then Ow E.P w (fun g => w0.heap.size ≤ g ∧ g < w.heap.size) r (if h : vs.toArray.size = 1 then vs.toArray[0] else .tuple vs.toArray) else Rd E.P w (fun g => w0.A g ∧ g < w0.heap.size) r (if h : vs.toArray.size = 1 then vs.toArray[0] else .tuple vs.toArray) := by
  unfold Fin at hf
  obtain ⟨ps, s1, hr1, hpl, hsn⟩ := snapAs_sn hf
  cases own with
  | true =>
    simp only [if_true] at hr1 ⊢
    obtain ⟨o, s2, ⟨⟨ho, hn, hr⟩, _⟩, hown⟩ := ownQ_run hr1
    have hoAll := hown ho
    have hin : ∀ {c e rows g}, S.h c = .row true e rows → rowSet φ T c g → w0.heap.size ≤ g ∧ g < w.heap.size := fun {c e rows g} hB hg => by
      rcases hg with hg | ⟨k, hg⟩
      · exact ⟨h.low c g (by rw [hB]; rfl) hg, h.mlt g (h.mutb c g (by rw [hB]; rfl) hg)⟩
      · exact ⟨(h.own c k g hg).1, (h.own c k g hg).2.1⟩
    have hone : ∀ i (hi : i < ys.length), Ow E.P w (fun g => ∃ c e rows, c ∈ slots [ys[i]] ∧ S.h c = .row true e rows ∧ rowSet φ T c g) (ps[i]'(by omega)) (vs[i]'(by omega)) := fun i hi => by
      obtain ⟨h1, h2⟩ := flatC_mem hi
      have hni : nodupB (slots [ys[i]]) = true := by
        have : ∀ (ys : List AV) (i : Nat) (hi : i < ys.length), nodupB (slots ys) = true → nodupB (slots [ys[i]]) = true := by
          intro ys
          induction ys with
          | nil => intro i hi; simp at hi
          | cons y l ih =>
            intro i hi hn
            rw [slots_cons] at hn
            obtain ⟨hn1, hn2, _⟩ := nodup_app hn
            cases i with
            | zero => exact hn1
            | succ i => exact ih i (by simpa using hi) hn2
        exact this ys i hi hn
      exact one_own h (hra i hi) (hsn i hi) ⟨fun cs e x hx => hoAll x (h1 cs e x hx), fun hne => hoAll _ (h2 hne)⟩ hni
    by_cases h1 : vs.length = 1
    · rw [dif_pos (by simpa using h1)]
      have hp1 : ps.length = 1 := by omega
      obtain ⟨p, rfl⟩ : ∃ p, ps = [p] := by
        match ps, hp1 with
        | [p], _ => exact ⟨p, rfl⟩
      have hr' : p = r := hr
      subst hr'
      have := hone 0 (by omega)
      simp only [List.getElem_cons_zero] at this
      exact Ow.mono this (fun g ⟨c, e, rows, _, hB, hg⟩ => hin hB hg)
    · rw [dif_neg (by simpa using h1)]
      have hr' : PV.tup ps = r := by
        rw [← hr]
        match ps, hpl with
        | [], _ => rfl
        | [p], hp => exfalso; simp at hp; omega
        | p :: q :: l, _ => rfl
      subst hr'
      refine .tup _ ps vs (fun i g => ∃ hi : i < ys.length, ∃ c e rows, c ∈ slots [ys[i]] ∧ S.h c = .row true e rows ∧ rowSet φ T c g) (by omega) (fun i g ⟨_, c, e, rows, _, hB, hg⟩ => hin hB hg) (fun i j g ⟨hi, c, e, rows, hc, hB, hg⟩ ⟨hj, c', e', rows', hc', hB', hg'⟩ => ?_) (fun i hi => Ow.mono (hone i (by omega)) (fun g hg => ⟨by omega, hg⟩))
      have := rowSet_inj h (by rw [hB]; rfl) (by rw [hB']; rfl) (by rw [hB]; rfl) (by rw [hB']; rfl) hg hg'
      subst this
      exact slots_two hn hi hj hc hc'
  | false =>
    simp only [Bool.false_eq_true, if_false] at hr1 ⊢
    obtain ⟨U, s2, ⟨hr, _⟩, hu1, hu2, hu3⟩ := freeze_run hr1
    obtain ⟨M', h', hM', hfz, hup, hdl⟩ := freeze_rel hu1 h
    have hra' : ∀ {x : AV} {v : Value}, RaS E w M φ S x v → RaS E w M' φ ⟨S.t, updL S.h U⟩ x v := fun hx => hx.keep (fun p v hr => hr.weak hM') (fun b hb => ⟨by
      rcases hup b with e1 | ⟨e1, r1, e2, _⟩
      · show (updL S.h U b).known = true; rw [e1]; exact hb
      · show (updL S.h U b).known = true; rw [e2]; rfl, rfl⟩)
    have hfr : ∀ b ∈ slots ys, ∀ e rows, ((∃ own, S.h b = .row own e rows) ∨ S.h b = .frz e rows) → updL S.h U b = .frz e rows := by
      intro b hb e' rows' hB
      rcases hB with ⟨own', hB⟩ | hB
      · obtain ⟨B, hB' | ⟨cs', hB'⟩⟩ := hu3 b hb (by rw [hB]; rfl)
        · have := hdl _ hB'
          rcases hup b with e1 | ⟨e1, r1, e2, o1, e3⟩
          · rw [e1, hB] at this; cases this
          · rw [hB] at e3; injection e3 with _ e4 e5; subst e4; subst e5; exact e2
        · rw [hB] at hB'; cases hB'
      · rcases hup b with e1 | ⟨e1, r1, e2, o1, e3⟩
        · rw [e1, hB]
        · rw [hB] at e3; cases e3
    have hone : ∀ i (hi : i < ys.length), Rd E.P w (fun g => w0.A g ∧ g < w0.heap.size) (ps[i]'(by omega)) (vs[i]'(by omega)) := fun i hi => by
      refine Rd.weak (snA_rd h' (hra' (hra i hi)) (hsn i hi) (fun b e rows hx hB => ?_)) (fun g hg => h'.amb g hg.1 hg.2)
      refine hfr b ?_ e rows hB
      have hmem : ys[i] ∈ ys := List.getElem_mem _
      rcases hx with hx | ⟨cs, hx, hb⟩
      · rw [hx] at hmem; exact mem_slots hmem
      · rw [hx] at hmem; exact mem_slots_agg hb hmem
    by_cases h1 : vs.length = 1
    · rw [dif_pos (by simpa using h1)]
      have hp1 : ps.length = 1 := by omega
      obtain ⟨p, rfl⟩ : ∃ p, ps = [p] := by
        match ps, hp1 with
        | [p], _ => exact ⟨p, rfl⟩
      have hr' : p = r := hr
      subst hr'
      exact hone 0 (by omega)
    · rw [dif_neg (by simpa using h1)]
      have hr' : PV.tup ps = r := by
        rw [← hr]
        match ps, hpl with
        | [], _ => rfl
        | [p], hp => exfalso; simp at hp; omega
        | p :: q :: l, _ => rfl
      subst hr'
      exact .tup ps vs (by omega) (fun i hi => hone i (by omega))
end
end Av
end Go.Proofs.Ytbkbppllcjcmhaa

namespace Go.Proofs.Ytbkbppllcjcmhaa
open Go.RowKit
namespace Av

/-- what a result variable holds -/
def resAV (E : Tab) (S : ASt) : ResultVar → AV
  | .tmp t => S.t t
  | .cell a t => match E.tb t, S.t a with
    | some x, .ptr b o => match S.h b with
      | .box cs => if x.agg then (if x.size ≤ (cs.drop o).length then .agg ((cs.drop o).take x.size) else .und) else match cs.drop o with
        | c :: _ => c
        | [] => .und
      | _ => .und
    | _, _ => .und
section
variable {E : Tab} {w0 : W0} {w : World} {N : Nat} {S : ASt} {φ : Nat → Value} {T : Nat → Nat → Nat → Prop} {M : Nat → Prop} {a : Act}
theorem res_run (h : Rel E.P w0 N S φ T M a w) {g : ResultVar → Sem Value} (hg1 : ∀ t, g (.tmp t) = pure (a.tmps.getD t undef)) (hg2 : ∀ c t, g (.cell c t) = (do loadVar t (← asAddr (a.tmps.getD c undef)))) {rv : ResultVar} {y : AV} (hy : resAV E S rv = y) (hne : y ≠ .und) : ∃ v, (g rv).run E.P w = .ok v w ∧ RaS E w M φ S y v := by
  cases rv with
  | tmp t => subst hy; exact ⟨_, by rw [hg1]; rfl, h.slots t⟩
  | cell c t =>
    rw [hg2]
    unfold resAV at hy
    simp only at hy
    cases hx : E.tb t with
    | none => simp only [hx] at hy; exact absurd hy.symm hne
    | some x =>
      simp only [hx] at hy
      cases hp : S.t c with
      | ptr b o =>
        simp only [hp] at hy
        have hsl := h.slots c
        rw [hp] at hsl
        split at hy
        · rename_i cs hB
          have hb := h.blks b
          rw [hB] at hb
          obtain ⟨g0, cur, ty, hv, _, hh, hsz, hc⟩ := hb
          generalize hsv : sl1 a c = sv at hsl
          cases hsl with
          | ptr _ _ g' hk hg =>
            rw [hg] at hv
            injection hv with hv
            injection hv with hv
            injection hv with hv
            subst hv
            have hcell : ∀ i (hi : i < (cs.drop o).length), ∃ u, w.cell? ⟨g', o + i, none⟩ = some u ∧ RaS E w M φ S (cs.drop o)[i] u := fun i hi => by
              simp only [List.length_drop] at hi
              have hq : o + i < cur.size := by omega
              refine ⟨cur[o + i], by simp [World.cell?, hh, hq], ?_⟩
              rw [List.getElem_drop]
              exact hc (o + i) (by omega) hq
            have hld : (ldv x (cs.drop o) ret).run S ⟨[], []⟩ (fun r _ => r.av = y) := by
              unfold ldv
              split at hy
              · rename_i ha
                rw [if_pos ha]
                split at hy
                · rename_i hl; exact ⟨hl, hy⟩
                · exact absurd hy.symm hne
              · rename_i ha
                rw [if_neg ha]
                split at hy
                · rename_i e; rw [e]; exact hy
                · exact absurd hy.symm hne
            obtain ⟨z, v, s1, hz, hra, hrun⟩ := ldv_sound hx hcell hld
            have hzy : z = y := hz
            subst hzy
            refine ⟨v, ?_, hra⟩
            have e1 : a.tmps.getD c undef = .pointer (some ⟨g', o, none⟩) := hsv
            simp only [e1, asAddr, Sem.run_bind, Sem.run_pure, Result.andThen_ok]
            simpa [Instr.loadAt, Instr.sureAddr] using hrun
        · exact absurd hy.symm hne
      | und => simp only [hp] at hy; exact absurd hy.symm hne
      | pv => simp only [hp] at hy; exact absurd hy.symm hne
      | nil => simp only [hp] at hy; exact absurd hy.symm hne
      | sl => simp only [hp] at hy; exact absurd hy.symm hne
      | eltS => simp only [hp] at hy; exact absurd hy.symm hne
      | eltP => simp only [hp] at hy; exact absurd hy.symm hne
      | agg => simp only [hp] at hy; exact absurd hy.symm hne
      | tup => simp only [hp] at hy; exact absurd hy.symm hne
      | out => simp only [hp] at hy; exact absurd hy.symm hne
theorem run_results (h : Rel E.P w0 N S φ T M a w) {fn : Func} {rs : List ResultVar} (hrs : fn.results = rs.toArray) (hne : ∀ rv ∈ rs, resAV E S rv ≠ .und) :
    ∃ vs : List Value, (results fn a.tmps).run E.P w = .ok (if h : vs.toArray.size = 1 then vs.toArray[0] else .tuple vs.toArray) w ∧ ∃ hl : vs.length = (rs.map (resAV E S)).length, ∀ i (hi : i < (rs.map (resAV E S)).length), RaS E w M φ S (rs.map (resAV E S))[i] (vs[i]'(by omega)) := by
  have key : ∀ (rs : List ResultVar) (g : ResultVar → Sem Value), (∀ rv ∈ rs, ∃ v, (g rv).run E.P w = .ok v w ∧ RaS E w M φ S (resAV E S rv) v) → ∃ vs : List Value, (rs.mapM g).run E.P w = .ok vs w ∧ ∃ hl : vs.length = (rs.map (resAV E S)).length, ∀ i (hi : i < (rs.map (resAV E S)).length), RaS E w M φ S (rs.map (resAV E S))[i] (vs[i]'(by omega)) := by
    intro rs g hg
    induction rs with
    | nil => exact ⟨[], rfl, rfl, fun i hi => absurd hi (by simp)⟩
    | cons t l ih =>
      obtain ⟨v, h1, h2⟩ := hg t (List.mem_cons_self ..)
      obtain ⟨vs, h3, h4, h5⟩ := ih (fun rv hrv => hg rv (List.mem_cons_of_mem _ hrv))
      refine ⟨v :: vs, ?_, by simpa using h4, fun i hi => ?_⟩
      · rw [List.mapM_cons, Sem.run_bind, h1, Result.andThen_ok, Sem.run_bind, h3, Result.andThen_ok]
        rfl
      · cases i with
        | zero => exact h2
        | succ i => exact h5 i (by simpa using hi)
  have main : ∀ g : ResultVar → Sem Value, (∀ t, g (.tmp t) = pure (a.tmps.getD t undef)) → (∀ c t, g (.cell c t) = (do loadVar t (← asAddr (a.tmps.getD c undef)))) → ∃ vs : List Value, (((rs.mapM g).run E.P w).andThen fun a w' => Result.ok a.toArray w').andThen (fun (a : Array Value) w' => Result.ok (if h : a.size = 1 then a[0] else Value.tuple a) w') = .ok (if h : vs.toArray.size = 1 then vs.toArray[0] else .tuple vs.toArray) w ∧ ∃ hl : vs.length = (rs.map (resAV E S)).length, ∀ i (hi : i < (rs.map (resAV E S)).length), RaS E w M φ S (rs.map (resAV E S))[i] (vs[i]'(by omega)) := by
    intro g hg1 hg2
    obtain ⟨vs, h1, h2⟩ := key rs g (fun rv hrv => res_run h hg1 hg2 rfl (hne rv hrv))
    refine ⟨vs, ?_, h2⟩
    rw [h1]
    rfl
  unfold results
  rw [hrs, Array.mapM_eq_mapM_toList, Sem.run_bind]
  simp only [map_eq_pure_bind, Sem.run_bind, Sem.run_pure]
  exact main _ (fun t => rfl) (fun c t => rfl)
end
theorem fn_ok {E : Tab} (hmix : E.P.follows .mixedOrders = true) {f : FuncId} {fn : Func} {c : Code} {ps : List PV} {r : PV} {own : Bool} (hf : E.P.funcs[f]? = some fn) (hb : fn.body = some c) (hn : (fn.name == "runtime.NumGoroutine") = false) (rs : List ResultVar) (hrs : fn.results = rs.toArray) (N : Nat) (hN : fn.ntmps = N)
    (hnt : ps.length ≤ N) (hd : dstAll N c = true) (h : awp E c (fun e S _ => (e = .normal ∨ e = .ret) ∧ Fin own S (rs.map (resAV E S)) r) (begin_ ps) 0) : FnOk E.P f ps r own := by
  subst hN
  refine ⟨⟨fn, hf, hn, by rw [hb]; rfl⟩, fun w M vs hl hv => calls_of_wp hf hb ?_⟩
  have hmem : Mem E.P ⟨w, M⟩ fn.ntmps (begin_ ps) 0 { tmps := vs.toArray ++ Array.replicate (fn.ntmps - vs.toArray.size) undef, defers := [] } w := by
    refine ⟨⟨fun _ => undef, fun _ _ _ => False, fun g => M g ∧ g < w.heap.size, ⟨Below.refl _ _, rfl, by simp; omega, fun t => ?_, fun b => trivial, fun b g hb => (by cases hb), fun g hg => hg.2, fun g h1 h2 => ⟨h1, h2⟩, fun b b' g hb => (by cases hb), fun b k g ht => ht.elim, fun b k g ht => ht.elim, fun b k b' k' g ht => ht.elim⟩⟩, fun b _ => rfl⟩
    show Ra _ _ _ _ _ (match ps[t]? with | some p => plain1 p | none => .und) _
    split
    · rename_i p hp
      obtain ⟨ht, rfl⟩ := List.getElem?_eq_some_iff.1 hp
      have h1 := hv t ht (by omega)
      have e1 : sl1 { tmps := vs.toArray ++ Array.replicate (fn.ntmps - vs.toArray.size) undef, defers := [] } t = vs[t]'(by omega) := by
        have : t < vs.length := by omega
        unfold sl1
        rw [Array.getD_eq_getD_getElem?, Array.getElem?_append_left (by simpa using this), List.getElem?_toArray, List.getElem?_eq_getElem this]
        rfl
      rw [e1]
      exact plain1_ra (h1.weak (fun g hg => hg.1))
    · exact .und _
  refine wp_mono (awp_sound (w0 := ⟨w, M⟩) hmix c _ _ 0 _ w hd h hmem) (fun e a' w' ⟨S', m', ⟨he, hfin⟩, hM'⟩ => ?_)
  obtain ⟨⟨φ, T, M', hrel⟩, hfr⟩ := hM'
  have hne : ∀ rv ∈ rs, resAV E S' rv ≠ .und := by
    intro rv hrv e
    unfold Fin at hfin
    obtain ⟨ps', s1, _, hpl, hsn⟩ := snapAs_sn hfin
    obtain ⟨i, hi, rfl⟩ := List.getElem_of_mem hrv
    have := hsn i (by simpa using hi)
    rw [List.getElem_map, e] at this
    rcases this with ⟨_, _, e1, _⟩ | e1 | ⟨_, e1, _⟩ | ⟨_, _, _, e1, _⟩ <;> cases e1
  obtain ⟨us, hres, hul, hura⟩ := run_results hrel hrs hne
  have hend := fin_sound hrel hul hura hfin
  have fin : a'.defers = [] ∧ ∃ v, (results fn a'.tmps).run E.P w' = .ok v w' ∧ ∃ u, Ending.returned v = .returned u ∧ Below w.heap.size w w' ∧ if own then Ow E.P w' (fun g => w.heap.size ≤ g ∧ g < w'.heap.size) r u else Rd E.P w' (fun g => M g ∧ g < w.heap.size) r u :=
    ⟨hrel.defers, _, hres, _, rfl, hrel.below, hend⟩
  rcases he with rfl | rfl
  · exact fin
  · exact fin
end Av
end Go.Proofs.Ytbkbppllcjcmhaa

namespace Go.Proofs.Ytbkbppllcjcmhaa
open Go.RowKit
namespace Av

section
variable {E : Tab} {S : ASt} {m : Nat} {s : Seen} {K : ARes → Seen → Prop} {Q : Post} {ops : List Oper} {acc : List Foot} {KK : ASt → List Foot → Prop}
theorem upd_at {α : Type} (f : Nat → α) (k x : Nat) (v : α) : upd f k v x = if x = k then v else f x := rfl
theorem run_ret (r : ARes) : (Rq.ret r).run S s K = K r s := rfl
theorem run_getT (t : Nat) (k : AV → Rq) : (Rq.getT t k).run S s K = (k (S.t t)).run S ⟨t :: s.ts, s.hs⟩ K := rfl
theorem run_getH (b : Nat) (k : Blk → Rq) : (Rq.getH b k).run S s K = (k (S.h b)).run S ⟨s.ts, b :: s.hs⟩ K := rfl
theorem run_need (p : Prop) (k : Rq) : (Rq.need p k).run S s K = (p ∧ k.run S s K) := rfl
theorem run_cond (c : Bool) (a b : Rq) : (Rq.cond c a b).run S s K = ((c = true → a.run S s K) ∧ (c = false → b.run S s K)) := rfl
theorem run_row (rows : List (List PV)) (i : Nat) (k : List PV → Rq) : (Rq.row rows i k).run S s K = ∃ r, rows[i]? = some r ∧ (k r).run S s K := rfl
theorem run_fail : Rq.fail.run S s K = False := rfl
theorem ite_run (c : Prop) [Decidable c] (a b : Rq) : (if c then a else b).run S s K = if c then a.run S s K else b.run S s K := by split <;> rfl
theorem aops_nil : aops E ops [] m S acc KK = KK S acc := rfl
theorem app_some (d : Tmp) (r : ARes) : app S (some d) r = ⟨upd S.t d r.av, updL S.h r.upd⟩ := rfl
theorem app_none (r : ARes) : app S none r = ⟨S.t, updL S.h r.upd⟩ := rfl
theorem updL0 {α : Type} (f : Nat → α) : updL f [] = f := rfl
theorem updL1 {α : Type} (f : Nat → α) (k : Nat) (v : α) (l : List (Nat × α)) : updL f ((k, v) :: l) = updL (upd f k v) l := rfl
variable (d : Option Tmp) (ty : TypeId) (pos : String) (af : Array Edge) (g : Option (Nat × Bool))
theorem aops_move {ll : List Oper} (x : Operand) : aops E ops (⟨d, .move x, ty, pos, af, g⟩ :: ll) m S acc KK = (aopG E ops m ⟨d, .move x, ty, pos, af, g⟩).run S ⟨[], []⟩ (fun r s => aops E ops ll (m + 16) (app S d r) (footOf s r :: acc) KK) := rfl
theorem aops_assign {ll : List Oper} (x : Operand) : aops E ops (⟨d, .assign x, ty, pos, af, g⟩ :: ll) m S acc KK = (aopG E ops m ⟨d, .assign x, ty, pos, af, g⟩).run S ⟨[], []⟩ (fun r s => aops E ops ll (m + 16) (app S d r) (footOf s r :: acc) KK) := rfl
theorem aops_bin {ll : List Oper} (op : BinOp) (t t' : TypeId) (x y : Operand) : aops E ops (⟨d, .binOp op t x y t', ty, pos, af, g⟩ :: ll) m S acc KK = (aopG E ops m ⟨d, .binOp op t x y t', ty, pos, af, g⟩).run S ⟨[], []⟩ (fun r s => aops E ops ll (m + 16) (app S d r) (footOf s r :: acc) KK) := rfl
theorem aops_pick {ll : List Oper} (a b c : Operand) : aops E ops (⟨d, .pick a b c, ty, pos, af, g⟩ :: ll) m S acc KK = (aopG E ops m ⟨d, .pick a b c, ty, pos, af, g⟩).run S ⟨[], []⟩ (fun r s => aops E ops ll (m + 16) (app S d r) (footOf s r :: acc) KK) := rfl
theorem aops_alloc {ll : List Oper} (t : TypeId) : aops E ops (⟨d, .alloc t, ty, pos, af, g⟩ :: ll) m S acc KK = (aopG E ops m ⟨d, .alloc t, ty, pos, af, g⟩).run S ⟨[], []⟩ (fun r s => aops E ops ll (m + 16) (app S d r) (footOf s r :: acc) KK) := rfl
theorem aops_box {ll : List Oper} (t : TypeId) (x : Operand) : aops E ops (⟨d, .box t x, ty, pos, af, g⟩ :: ll) m S acc KK = (aopG E ops m ⟨d, .box t x, ty, pos, af, g⟩).run S ⟨[], []⟩ (fun r s => aops E ops ll (m + 16) (app S d r) (footOf s r :: acc) KK) := rfl
theorem aops_build {ll : List Oper} (t : TypeId) (parts : Array (Nat × Operand)) : aops E ops (⟨d, .build t parts, ty, pos, af, g⟩ :: ll) m S acc KK = (aopG E ops m ⟨d, .build t parts, ty, pos, af, g⟩).run S ⟨[], []⟩ (fun r s => aops E ops ll (m + 16) (app S d r) (footOf s r :: acc) KK) := rfl
theorem aops_buildSlice {ll : List Oper} (t : TypeId) (len : Nat) (parts : Array (Nat × Operand)) : aops E ops (⟨d, .buildSlice t len parts, ty, pos, af, g⟩ :: ll) m S acc KK = (aopG E ops m ⟨d, .buildSlice t len parts, ty, pos, af, g⟩).run S ⟨[], []⟩ (fun r s => aops E ops ll (m + 16) (app S d r) (footOf s r :: acc) KK) := rfl
theorem aops_load {ll : List Oper} (t : TypeId) (a : Operand) : aops E ops (⟨d, .load t a, ty, pos, af, g⟩ :: ll) m S acc KK = (aopG E ops m ⟨d, .load t a, ty, pos, af, g⟩).run S ⟨[], []⟩ (fun r s => aops E ops ll (m + 16) (app S d r) (footOf s r :: acc) KK) := rfl
theorem aops_store {ll : List Oper} (t : TypeId) (a x : Operand) : aops E ops (⟨d, .store t a x, ty, pos, af, g⟩ :: ll) m S acc KK = (aopG E ops m ⟨d, .store t a x, ty, pos, af, g⟩).run S ⟨[], []⟩ (fun r s => aops E ops ll (m + 16) (app S d r) (footOf s r :: acc) KK) := rfl
theorem aops_unOp {ll : List Oper} (op : UnOp) (t : TypeId) (x : Operand) : aops E ops (⟨d, .unOp op t x, ty, pos, af, g⟩ :: ll) m S acc KK = (aopG E ops m ⟨d, .unOp op t x, ty, pos, af, g⟩).run S ⟨[], []⟩ (fun r s => aops E ops ll (m + 16) (app S d r) (footOf s r :: acc) KK) := rfl
theorem aops_convert {ll : List Oper} (s t : TypeId) (x : Operand) : aops E ops (⟨d, .convert s t x, ty, pos, af, g⟩ :: ll) m S acc KK = (aopG E ops m ⟨d, .convert s t x, ty, pos, af, g⟩).run S ⟨[], []⟩ (fun r s => aops E ops ll (m + 16) (app S d r) (footOf s r :: acc) KK) := rfl
theorem aops_makeSlice {ll : List Oper} (t : TypeId) (l c : Operand) : aops E ops (⟨d, .makeSlice t l c, ty, pos, af, g⟩ :: ll) m S acc KK = (aopG E ops m ⟨d, .makeSlice t l c, ty, pos, af, g⟩).run S ⟨[], []⟩ (fun r s => aops E ops ll (m + 16) (app S d r) (footOf s r :: acc) KK) := rfl
theorem aops_slice {ll : List Oper} (t : TypeId) (x : Operand) (lo hi mx : Option Operand) : aops E ops (⟨d, .slice t x lo hi mx, ty, pos, af, g⟩ :: ll) m S acc KK = (aopG E ops m ⟨d, .slice t x lo hi mx, ty, pos, af, g⟩).run S ⟨[], []⟩ (fun r s => aops E ops ll (m + 16) (app S d r) (footOf s r :: acc) KK) := rfl
theorem aops_fieldAddr {ll : List Oper} (t : TypeId) (x : Operand) (f : Nat) : aops E ops (⟨d, .fieldAddr t x f, ty, pos, af, g⟩ :: ll) m S acc KK = (aopG E ops m ⟨d, .fieldAddr t x f, ty, pos, af, g⟩).run S ⟨[], []⟩ (fun r s => aops E ops ll (m + 16) (app S d r) (footOf s r :: acc) KK) := rfl
theorem aops_field {ll : List Oper} (t : TypeId) (x : Operand) (f : Nat) : aops E ops (⟨d, .field t x f, ty, pos, af, g⟩ :: ll) m S acc KK = (aopG E ops m ⟨d, .field t x f, ty, pos, af, g⟩).run S ⟨[], []⟩ (fun r s => aops E ops ll (m + 16) (app S d r) (footOf s r :: acc) KK) := rfl
theorem aops_indexAddr {ll : List Oper} (t : TypeId) (x i : Operand) : aops E ops (⟨d, .indexAddr t x i, ty, pos, af, g⟩ :: ll) m S acc KK = (aopG E ops m ⟨d, .indexAddr t x i, ty, pos, af, g⟩).run S ⟨[], []⟩ (fun r s => aops E ops ll (m + 16) (app S d r) (footOf s r :: acc) KK) := rfl
theorem aops_index {ll : List Oper} (t : TypeId) (x i : Operand) : aops E ops (⟨d, .index t x i, ty, pos, af, g⟩ :: ll) m S acc KK = (aopG E ops m ⟨d, .index t x i, ty, pos, af, g⟩).run S ⟨[], []⟩ (fun r s => aops E ops ll (m + 16) (app S d r) (footOf s r :: acc) KK) := rfl
theorem aops_extract {ll : List Oper} (x : Operand) (i : Nat) : aops E ops (⟨d, .extract x i, ty, pos, af, g⟩ :: ll) m S acc KK = (aopG E ops m ⟨d, .extract x i, ty, pos, af, g⟩).run S ⟨[], []⟩ (fun r s => aops E ops ll (m + 16) (app S d r) (footOf s r :: acc) KK) := rfl
theorem aops_builtin {ll : List Oper} (b : Builtin) (args : Array Operand) (tys : Array TypeId) : aops E ops (⟨d, .call ⟨.builtin b, args, tys⟩, ty, pos, af, g⟩ :: ll) m S acc KK = (aopG E ops m ⟨d, .call ⟨.builtin b, args, tys⟩, ty, pos, af, g⟩).run S ⟨[], []⟩ (fun r s => aops E ops ll (m + 16) (app S d r) (footOf s r :: acc) KK) := rfl
theorem aopG_none (op : Op) : aopG E ops m ⟨d, op, ty, pos, af, none⟩ = aop E m ⟨d, op, ty, pos, af, none⟩ := rfl
theorem aopG_some (op : Op) (i : Nat) (want : Bool) : aopG E ops m ⟨d, op, ty, pos, af, some (i, want)⟩ = guardQ ((ops[i]?).bind (·.dst)) want (aop E m ⟨d, op, ty, pos, af, some (i, want)⟩) := rfl
theorem aop_move (x : Operand) : aop E m ⟨d, .move x, ty, pos, af, g⟩ = ev E ty x ret := rfl
theorem aop_assign (x : Operand) : aop E m ⟨d, .assign x, ty, pos, af, g⟩ = ev E ty x ret := rfl
theorem aop_bin (op : BinOp) (t t' : TypeId) (x y : Operand) : aop E m ⟨d, .binOp op t x y t', ty, pos, af, g⟩ = ev E t x fun a => ev E t y fun b => binA (isBool E t) E.wr op a b := rfl
theorem aop_pick (c a b : Operand) : aop E m ⟨d, .pick c a b, ty, pos, af, g⟩ = (ev E 0 c fun
  | .pv (.bool t) => .cond t (ev E ty a ret) (ev E ty b ret)
  | _ => .fail) := rfl
theorem aop_alloc (t : TypeId) : aop E m ⟨d, .alloc t, ty, pos, af, g⟩ = (match E.tb t with
  | some x => .ret ⟨.ptr m 0, [(m, .box x.zero)]⟩
  | none => .fail) := rfl
theorem aop_box (t : TypeId) (x : Operand) : aop E m ⟨d, .box t x, ty, pos, af, g⟩ = (ev E t x fun a => cellsOf a fun cs => .ret ⟨.ptr m 0, [(m, .box cs)]⟩) := rfl
theorem aop_build (t : TypeId) (parts : Array (Nat × Operand)) : aop E m ⟨d, .build t parts, ty, pos, af, g⟩ = (match E.tb t with
  | some x => match x.kind with
    | .struct fs => buildQ E fs parts.toList x.zero fun cs => ret (.agg cs)
    | .arr _ _ _ fs => buildQ E fs parts.toList x.zero fun cs => ret (.agg cs)
    | _ => .fail
  | none => .fail) := rfl
theorem aop_buildSlice (t : TypeId) (len : Nat) (parts : Array (Nat × Operand)) : aop E m ⟨d, .buildSlice t len parts, ty, pos, af, g⟩ = (match E.tb t with
  | some x => match x.kind with
    | .slice e => match E.tb e with
      | some y => .need (0 < y.size ∧ len * y.size ≤ 16777216) (rowsQ E e y.size 0 parts.toList fun n rows cs => .need (n = len) (ownQ cs fun own => freeze (slots cs) fun u => .ret ⟨.sl m, u ++ [(m, .row (own && nodupB (slots cs)) e rows)]⟩))
      | none => .fail
    | _ => .fail
  | none => .fail) := rfl
theorem aop_load (t : TypeId) (a : Operand) : aop E m ⟨d, .load t a, ty, pos, af, g⟩ = (match E.tb t with
  | some x => ev E 0 a fun
    | .ptr b o => .getH b fun
      | .box cs => ldv x (cs.drop o) ret
      | _ => .fail
    | .eltS b e i o => .getH b fun
      | .row _ e' rows => .need (e = e') (.row rows i fun r => ldv x ((r.drop o).map .pv) ret)
      | .opn e' _ i' cs => .need (e = e' ∧ i = i' ∧ cs.all AV.leaf = true) (ldv x (cs.drop o) ret)
      | _ => .fail
    | .eltP _ rows i o => .row rows i fun r => ldv x ((r.drop o).map .pv) ret
    | _ => .fail
  | none => .fail) := rfl
theorem aop_store (t : TypeId) (a x : Operand) : aop E m ⟨d, .store t a x, ty, pos, af, g⟩ = (match E.tb t with
  | some y => ev E 0 a fun p => ev E t x fun v => cellsOf v fun xs => .need (xs.length = y.size ∧ xs.all AV.leaf = true) (match p with
    | .ptr b o => .getH b fun
      | .box cs => .need (o + xs.length ≤ cs.length) (rowsChk xs (.ret ⟨.und, [(b, .box (setL cs o xs))]⟩))
      | _ => .fail
    | .eltS b e i o => snaps xs fun ps => .getH b fun
      | .row own e' rows => .need (e = e') (.row rows i fun r => .need (o + ps.length ≤ r.length) (.cond (ps.all PV.flat) (.ret ⟨.und, [(b, .row own e' (rows.set i (setL r o ps)))]⟩) (ownQ xs fun q => .need (own = true ∧ q = true ∧ nodupB (slots xs) = true ∧ (slots xs).contains b = false) (freeze (slots xs) fun u => .ret ⟨.und, u ++ [(b, .row own e' (rows.set i (setL r o ps)))]⟩))))
      | .opn e' rows i' cs => .need (e = e' ∧ i = i' ∧ o + xs.length ≤ cs.length) (rowsChk xs (.ret ⟨.und, [(b, .opn e' rows i' (setL cs o xs))]⟩))
      | _ => .fail
    | _ => .fail)
  | none => .fail) := rfl
theorem aop_unOp (op : UnOp) (t : TypeId) (x : Operand) : aop E m ⟨d, .unOp op t x, ty, pos, af, g⟩ = (ev E ty x fun
  | .pv (.bool b) => match op with
    | .not => ret (.pv (.bool (!b)))
    | _ => .fail
  | .pv (.int k n) => match op with
    | .neg => .need (intB k (0 - n)) (ret (.pv (.int k (0 - n))))
    | _ => .fail
  | _ => .fail) := rfl
theorem aop_convert (s t : TypeId) (x : Operand) : aop E m ⟨d, .convert s t x, ty, pos, af, g⟩ = (match E.tb s, E.tb t with
  | some y0, some y => match y.kind with
    | .int k => ev E s x fun
      | .pv (.int _ n) => .need (intB k n) (ret (.pv (.int k n)))
      | _ => .fail
    | .str => match y0.kind with
      | .slice e => match E.tb e with
        | some z => match z.kind with
          | .int .u8 => ev E s x fun a => snap a fun
            | .lst _ rows => .need (allBy rows = true) (ret (.pv (.str (strOf rows))))
            | _ => .fail
          | _ => .fail
        | none => .fail
      | _ => ev E s x fun
        | .pv (.str b) => ret (.pv (.str b))
        | _ => .fail
    | _ => .fail
  | _, _ => .fail) := rfl
theorem aop_makeSlice (t : TypeId) (l c : Operand) : aop E m ⟨d, .makeSlice t l c, ty, pos, af, g⟩ = (match E.tb t with
  | some x => match x.kind with
    | .slice e => match E.tb e with
      | some y => ev E 0 l fun
        | .pv (.int .i64 n) => ev E 0 c fun
          | .pv (.int .i64 n') => .need (0 < y.size ∧ y.bytes ≤ 32768 ∧ n = n' ∧ 0 ≤ n ∧ n ≤ 4294967296) (.ret ⟨.sl m, [(m, .row true e (List.replicate n.toNat (y.zero.map zp)))]⟩)
          | _ => .fail
        | _ => .fail
      | none => .fail
    | _ => .fail
  | none => .fail) := rfl
theorem aop_slice (t : TypeId) (x : Operand) (lo hi mx : Option Operand) : aop E m ⟨d, .slice t x lo hi mx, ty, pos, af, g⟩ = (match E.tb t, mx with
  | some y, none => match y.kind with
    | .slice e => match E.tb e with
      | some _ => ev E t x fun a => evO E lo fun l => evO E hi fun h => sliceRow e m a l h
      | none => .fail
    | .str => ev E t x fun a => evO E lo fun l => evO E hi fun h => sliceStr a l h
    | _ => .fail
  | _, _ => .fail) := rfl
theorem aop_fieldAddr (t : TypeId) (x : Operand) (f : Nat) : aop E m ⟨d, .fieldAddr t x f, ty, pos, af, g⟩ = (match E.tb t with
  | some y => match y.kind with
    | .struct fs => match fs[f]? with
      | some (off, ft) => match E.tb ft with
        | some z => .need (z.size ≠ 0) (ev E 0 x fun
          | .ptr b o => ret (.ptr b (o + off))
          | .eltS b e i o => ret (.eltS b e i (o + off))
          | .eltP e rows i o => ret (.eltP e rows i (o + off))
          | _ => .fail)
        | none => .fail
      | none => .fail
    | _ => .fail
  | none => .fail) := rfl
theorem aop_field (t : TypeId) (x : Operand) (f : Nat) : aop E m ⟨d, .field t x f, ty, pos, af, g⟩ = (match E.tb t with
  | some y => match y.kind with
    | .struct fs => match fs[f]? with
      | some (off, ft) => match E.tb ft with
        | some z => ev E t x fun
          | .agg cs => ldv z (cs.drop off) ret
          | _ => .fail
        | none => .fail
      | none => .fail
    | _ => .fail
  | none => .fail) := rfl
theorem aop_indexAddr (t : TypeId) (x i : Operand) : aop E m ⟨d, .indexAddr t x i, ty, pos, af, g⟩ = (match E.tb t with
  | some y => match y.kind with
    | .arr _ l size _ => ev E 0 x fun a => ev E 0 i fun
      | .pv (.int _ n) => match a with
        | .ptr b o => .need (0 ≤ n ∧ n < l) (ret (.ptr b (o + n.toNat * size)))
        | _ => .fail
      | _ => .fail
    | .slice e => match E.tb e with
      | some z => .need (0 < z.size) (ev E t x fun a => ev E 0 i fun
        | .pv (.int _ n) => match a with
          | .sl b => .getH b fun
            | .row _ e' rows => .need (e = e' ∧ 0 ≤ n ∧ n < rows.length) (ret (.eltS b e n.toNat 0))
            | .frz e' rows => .need (e = e' ∧ 0 ≤ n ∧ n < rows.length) (ret (.eltP e rows n.toNat 0))
            | .opn e' rows _ _ => .need (e = e' ∧ 0 ≤ n ∧ n < rows.length) (ret (.eltS b e n.toNat 0))
            | _ => .fail
          | .pv (.lst e' rows) => .need (e = e' ∧ 0 ≤ n ∧ n < rows.length) (ret (.eltP e rows n.toNat 0))
          | _ => .fail
        | _ => .fail)
      | none => .fail
    | _ => .fail
  | none => .fail) := rfl
theorem aop_index (t : TypeId) (x i : Operand) : aop E m ⟨d, .index t x i, ty, pos, af, g⟩ = (match E.tb t with
  | some y => match y.kind with
    | .str => ev E t x fun a => ev E 0 i fun b => match a, b with
      | .pv (.str s), .pv (.int _ n) => .need (0 ≤ n ∧ n < s.size) (ret (.pv (.int .u8 (byteAt s n.toNat))))
      | _, _ => .fail
    | _ => .fail
  | none => .fail) := rfl
theorem aop_extract (x : Operand) (i : Nat) : aop E m ⟨d, .extract x i, ty, pos, af, g⟩ = (ev E 0 x fun
  | .tup vs => match vs[i]? with
    | some a => ret a
    | none => .fail
  | _ => .fail) := rfl
theorem aop_len (args : Array Operand) (tys : Array TypeId) : aop E m ⟨d, .call ⟨.builtin .len, args, tys⟩, ty, pos, af, g⟩ = (match args.toList, tys.toList with
  | [x], [t] => match E.tb t with
    | some z => ev E t x (lenQ z.kind)
    | none => .fail
  | _, _ => .fail) := rfl
theorem aop_append (args : Array Operand) (tys : Array TypeId) : aop E m ⟨d, .call ⟨.builtin .append, args, tys⟩, ty, pos, af, g⟩ = (match args.toList, tys.toList with
  | [x, y], [t, t'] => match E.tb t with
    | some z => match z.kind with
      | .slice e => match E.tb e with
        | some q => .need (t = t' ∧ 0 < q.size) (ev E t x fun a => ev E t y fun b => appQ m q.bytes e a b)
        | none => .fail
      | _ => .fail
    | none => .fail
  | _, _ => .fail) := rfl
theorem aop_min (args : Array Operand) (tys : Array TypeId) : aop E m ⟨d, .call ⟨.builtin .min, args, tys⟩, ty, pos, af, g⟩ = (match args.toList with
  | [x, y] => ev E 0 x fun a => ev E 0 y fun b => match a, b with
    | .pv (.int k p), .pv (.int _ q) => ret (.pv (.int k (if q < p then q else p)))
    | _, _ => .fail
  | _ => .fail) := rfl
theorem aop_max (args : Array Operand) (tys : Array TypeId) : aop E m ⟨d, .call ⟨.builtin .max, args, tys⟩, ty, pos, af, g⟩ = (match args.toList with
  | [x, y] => ev E 0 x fun a => ev E 0 y fun b => match a, b with
    | .pv (.int k p), .pv (.int _ q) => ret (.pv (.int k (if p < q then q else p)))
    | _, _ => .fail
  | _ => .fail) := rfl
theorem ev_tmp (t : TypeId) (i : Nat) (k : AV → Rq) : ev E t (.tmp i) k = .getT i k := rfl
theorem ev_const (t : TypeId) (v : Value) (k : AV → Rq) : ev E t (.const v) k = k (ofV (elemOf E t) v) := rfl
theorem ofV_int (e : TypeId) (k : IntKind) (n : Int) : ofV e (.int k n) = .pv (.int k n) := rfl
theorem ofV_bool (e : TypeId) (b : Bool) : ofV e (.bool b) = .pv (.bool b) := rfl
theorem ofV_str (e : TypeId) (b : ByteArray) : ofV e (.string b) = .pv (.str b) := rfl
theorem ofV_nil (e : TypeId) : ofV e (.slice none 0 0) = .nil e := rfl
end
section
variable {E : Tab} {S : ASt} {m : Nat} {Q : Post}
theorem intB_i64 (n : Int) : intB .i64 n = (-9223372036854775808 ≤ n ∧ n ≤ 9223372036854775807) := rfl
theorem intB_u8 (n : Int) : intB .u8 n = (0 ≤ n ∧ n ≤ 255) := rfl
theorem bool_beq_tt (t : Bool) : (t == true) = t := by cases t <;> rfl
theorem bool_beq_ff (t : Bool) : (t == false) = !t := by cases t <;> rfl
theorem awp_skip : awp E .skip Q S m = Q .normal S m := rfl
theorem awp_label (l : Nat) : awp E (.label l) Q S m = Q .normal S m := rfl
theorem awp_ret : awp E .ret Q S m = Q .ret S m := rfl
theorem awp_exit (id : Nat) : awp E (.exit id) Q S m = Q (.exit id) S m := rfl
theorem awp_seq (x y : Code) : awp E (.seq x y) Q S m = awp E x (seqQ (awp E y) Q) S m := rfl
theorem awp_block (id : Nat) (c : Code) : awp E (.block id c) Q S m = awp E c (blockQ id Q) S m := rfl
/-- a condition: what follows is looked at when the condition is known -/
def condGo (E : Tab) (a : AV) (x y : Code) (Q : Post) (S : ASt) (m : Nat) : Prop := ∃ t, a = .pv (.bool t) ∧ (t = true → awp E x Q S m) ∧ (t = false → awp E y Q S m)
theorem awp_cond (c : Operand) (x y : Code) : awp E (.cond c x y) Q S m = condGo E (condA S c) x y Q S m := rfl
theorem condGo_tt (x y : Code) : condGo E (.pv (.bool true)) x y Q S m = awp E x Q S m := by
  unfold condGo
  exact propext ⟨fun ⟨t, e, h, _⟩ => by cases e; exact h rfl, fun h => ⟨true, rfl, fun _ => h, fun e => by cases e⟩⟩
theorem condGo_ff (x y : Code) : condGo E (.pv (.bool false)) x y Q S m = awp E y Q S m := by
  unfold condGo
  exact propext ⟨fun ⟨t, e, _, h⟩ => by cases e; exact h rfl, fun h => ⟨false, rfl, (fun e => by cases e), fun _ => h⟩⟩
theorem condGo_bool (b : Bool) (x y : Code) : condGo E (.pv (.bool b)) x y Q S m = ((b = true → awp E x Q S m) ∧ (b = false → awp E y Q S m)) := by
  unfold condGo
  exact propext ⟨fun ⟨t, e, h⟩ => by cases e; exact h, fun h => ⟨b, rfl, h⟩⟩
theorem awp_region (id : Nat) (l : List Oper) (draw : Bool) : awp E (.region id l.toArray draw) Q S m = aops E l l m S [] (fun S' acc => footOk draw l m acc = true ∧ Q .normal S' (m + 16 * l.length)) := by
  simp [awp]
theorem condA_tmp (i : Nat) : condA S (.tmp i) = S.t i := rfl
theorem seqQ_normal (n : Post → ASt → Nat → Prop) : seqQ n Q .normal S m = n Q S m := rfl
theorem seqQ_ret (n : Post → ASt → Nat → Prop) : seqQ n Q .ret S m = Q .ret S m := rfl
theorem seqQ_exit (n : Post → ASt → Nat → Prop) (i : Nat) : seqQ n Q (.exit i) S m = Q (.exit i) S m := rfl
theorem blockQ_exit (id i : Nat) : blockQ id Q (.exit i) S m = if i = id then Q .normal S m else Q (.exit i) S m := rfl
theorem blockQ_normal (id : Nat) : blockQ id Q .normal S m = Q .normal S m := rfl
theorem blockQ_ret (id : Nat) : blockQ id Q .ret S m = Q .ret S m := rfl
theorem loopQ_normal (I : Nat → ASt → Nat → Prop) (k : Nat) : loopQ I k Q .normal S m = ∃ k' ρ S' m', k' < k ∧ I k' S' m' ∧ Less ρ S' S ∧ ∀ b, m' ≤ b → S'.h b = .none := rfl
theorem loopQ_exit (I : Nat → ASt → Nat → Prop) (k i : Nat) : loopQ I k Q (.exit i) S m = Q (.exit i) S m := rfl
theorem loopQ_ret (I : Nat → ASt → Nat → Prop) (k : Nat) : loopQ I k Q .ret S m = Q .ret S m := rfl
/-- the arguments, slot by slot -/
def argS : List PV → Nat → Nat → AV
  | [], _ => fun _ => .und
  | p :: l, k => upd (argS l (k + 1)) k (plain1 p)
theorem begin_eq (ps : List PV) : begin_ ps = ⟨argS ps 0, fun _ => .none⟩ := by
  have key : ∀ (ps : List PV) (k t : Nat), argS ps k t = if k ≤ t then (match ps[t - k]? with | some p => plain1 p | none => .und) else .und := by
    intro ps
    induction ps with
    | nil => intro k t; simp [argS]
    | cons p l ih =>
      intro k t
      unfold argS
      rw [upd_at]
      by_cases h : t = k
      · subst h; simp
      · rw [if_neg h, ih]
        by_cases h1 : k ≤ t
        · rw [if_pos h1, if_pos (by omega), show t - k = (t - (k + 1)) + 1 by omega, List.getElem?_cons_succ]
        · rw [if_neg h1, if_neg (by omega)]
  unfold begin_
  congr 1
  funext t
  rw [key, if_pos (Nat.zero_le _), Nat.sub_zero] <;> (cases ps[t]? <;> rfl)
end
end Av
end Go.Proofs.Ytbkbppllcjcmhaa

namespace Go.Proofs.Ytbkbppllcjcmhaa
open Go.RowKit
namespace Av

section
variable {E : Tab} {S : ASt} {m : Nat} {s : Seen} {K : ARes → Seen → Prop} {Q : Post} {ops : List Oper} {acc : List Foot} {KK : ASt → List Foot → Prop}
theorem ev_split {t : TypeId} {x : Operand} {k : AV → Rq} (h : (ev E t x k).run S s K) : ∃ y s1, (k y).run S s1 K ∧ ∀ k' K', (k' y).run S s1 K' → (ev E t x k').run S s K' := by
  cases x with
  | tmp i => exact ⟨_, _, h, fun k' K' h' => h'⟩
  | const v => exact ⟨_, _, h, fun k' K' h' => h'⟩
  | global => exact h.elim
  | func => exact h.elim
theorem evs_split : ∀ {xs : List Operand} {ts : List TypeId} {k : List AV → Rq} {s : Seen}, (evs E ts xs k).run S s K → ∃ ys s1, (k ys).run S s1 K ∧ ∀ k' K', (k' ys).run S s1 K' → (evs E ts xs k').run S s K'
  | [], ts, k, s, h => ⟨[], s, h, fun _ _ h' => h'⟩
  | x :: l, ts, k, s, h => by
    obtain ⟨y, s1, h1, h2⟩ := ev_split h
    obtain ⟨ys, s2, h3, h4⟩ := evs_split (xs := l) (k := fun as => k (y :: as)) h1
    exact ⟨y :: ys, s2, h3, fun k' K' h' => h2 _ _ (h4 (fun as => k' (y :: as)) _ h')⟩
theorem snap_split {x : AV} {k : PV → Rq} (h : (snap x k).run S s K) : ∃ y s1, (k y).run S s1 K ∧ ∀ k' K', (k' y).run S s1 K' → (snap x k').run S s K' := by
  unfold snap at h
  split at h
  · exact ⟨_, _, h, fun k' K' h' => h'⟩
  · exact ⟨_, _, h, fun k' K' h' => h'⟩
  · rename_i b
    simp only [Rq.run] at h
    split at h
    · rename_i own e rows hB
      exact ⟨_, _, h, fun k' K' h' => by unfold snap; simp only [Rq.run, hB]; exact h'⟩
    · rename_i e rows hB
      exact ⟨_, _, h, fun k' K' h' => by unfold snap; simp only [Rq.run, hB]; exact h'⟩
    · exact h.elim
  · exact h.elim
theorem snaps_split : ∀ {xs : List AV} {k : List PV → Rq} {s : Seen}, (snaps xs k).run S s K → ∃ ys s1, (k ys).run S s1 K ∧ ∀ k' K', (k' ys).run S s1 K' → (snaps xs k').run S s K'
  | [], k, s, h => ⟨[], s, h, fun _ _ h' => h'⟩
  | x :: l, k, s, h => by
    obtain ⟨y, s1, h1, h2⟩ := snap_split h
    obtain ⟨ys, s2, h3, h4⟩ := snaps_split (xs := l) (k := fun as => k (y :: as)) h1
    exact ⟨y :: ys, s2, h3, fun k' K' h' => h2 _ _ (h4 (fun as => k' (y :: as)) _ h')⟩
theorem snapA_split {x : AV} {k : PV → Rq} (h : (snapA x k).run S s K) : ∃ y s1, (k y).run S s1 K ∧ ∀ k' K', (k' y).run S s1 K' → (snapA x k').run S s K' := by
  cases x with
  | agg cs =>
    obtain ⟨ps, s1, h1, h2⟩ := snaps_split (k := fun ps => k (.agg ps)) h
    exact ⟨_, s1, h1, fun k' K' h' => h2 (fun ps => k' (.agg ps)) _ h'⟩
  | und => exact snap_split (x := .und) (k := k) h
  | out => exact snap_split (x := .out) (k := k) h
  | pv p => exact snap_split (x := .pv p) (k := k) h
  | nil e => exact snap_split (x := .nil e) (k := k) h
  | sl b => exact snap_split (x := .sl b) (k := k) h
  | ptr b o => exact snap_split (x := .ptr b o) (k := k) h
  | eltS b e i o => exact snap_split (x := .eltS b e i o) (k := k) h
  | eltP e rows i o => exact snap_split (x := .eltP e rows i o) (k := k) h
  | tup vs => exact snap_split (x := .tup vs) (k := k) h
theorem snapAs_split : ∀ {xs : List AV} {k : List PV → Rq} {s : Seen}, (snapAs xs k).run S s K → ∃ ys s1, (k ys).run S s1 K ∧ ∀ k' K', (k' ys).run S s1 K' → (snapAs xs k').run S s K'
  | [], k, s, h => ⟨[], s, h, fun _ _ h' => h'⟩
  | x :: l, k, s, h => by
    obtain ⟨y, s1, h1, h2⟩ := snapA_split h
    obtain ⟨ys, s2, h3, h4⟩ := snapAs_split (xs := l) (k := fun as => k (y :: as)) h1
    exact ⟨y :: ys, s2, h3, fun k' K' h' => h2 _ _ (h4 (fun as => k' (y :: as)) _ h')⟩
/-- what a call's arguments read as -/
def ArgsAre (E : Tab) (S : ASt) (tys : List TypeId) (args : List Operand) (ps : List PV) (s0 sn : Seen) : Prop := (evs E tys args fun as => snapAs as fun ps' => .need (ps' = ps) (ret .und)).run S s0 (fun _ s => s = sn)
theorem call_run {f : FuncId} {args : Array Operand} {tys : Array TypeId} {ps : List PV} {s0 sn : Seen} {r : PV} {d : Option Tmp} {ty : TypeId} {pos : String} {af : Array Edge} {g : Option (Nat × Bool)} (hmd : E.md = false) (hargs : ArgsAre E S tys.toList args.toList ps s0 sn) (hfn : FnOk E.P f ps r true) (hid : (introT m r).2.2 ≤ m + 16)
    (h : K ⟨(introT m r).1, (introT m r).2.1⟩ sn) : (aop E m ⟨d, .call ⟨.value (.func f), args, tys⟩, ty, pos, af, g⟩).run S s0 K := by
  obtain ⟨as, s1, h1, h2⟩ := evs_split hargs
  obtain ⟨ps', s2, ⟨rfl, h3⟩, h4⟩ := snapAs_split h1
  obtain rfl : s2 = sn := h3
  show (evs E tys.toList args.toList fun as => if E.md then lawQ E m f as else snapAs as fun ps => .call (fun r own => FnOk E.P f ps r own ∧ (introT m r).2.2 ≤ m + 16) fun r own =>
      .cond own (.ret ⟨(introT m r).1, (introT m r).2.1⟩) (freeze (slots as) fun u => .ret ⟨plainT r, u⟩)).run S s0 K
  rw [hmd]
  refine h2 _ _ (h4 _ _ ⟨r, true, ⟨hfn, hid⟩, fun _ => h, fun e => by cases e⟩)
/-- a call whose answer is read alone -/
theorem call_runF {f : FuncId} {args : Array Operand} {tys : Array TypeId} {ps : List PV} {s0 : Seen} {r : PV} {d : Option Tmp} {ty : TypeId} {pos : String} {af : Array Edge} {g : Option (Nat × Bool)} (hmd : E.md = false) (hfn : FnOk E.P f ps r false) (hid : (introT m r).2.2 ≤ m + 16)
    (h : (evs E tys.toList args.toList fun as => snapAs as fun ps' => .need (ps' = ps) (freeze (slots as) fun u => .ret ⟨plainT r, u⟩)).run S s0 K) : (aop E m ⟨d, .call ⟨.value (.func f), args, tys⟩, ty, pos, af, g⟩).run S s0 K := by
  obtain ⟨as, s1, h1, h2⟩ := evs_split h
  obtain ⟨ps', s2, ⟨rfl, h3⟩, h4⟩ := snapAs_split h1
  show (evs E tys.toList args.toList fun as => if E.md then lawQ E m f as else snapAs as fun ps => .call (fun r own => FnOk E.P f ps r own ∧ (introT m r).2.2 ≤ m + 16) fun r own =>
      .cond own (.ret ⟨(introT m r).1, (introT m r).2.1⟩) (freeze (slots as) fun u => .ret ⟨plainT r, u⟩)).run S s0 K
  rw [hmd]
  refine h2 _ _ (h4 _ _ ?_)
  exact ⟨r, false, ⟨hfn, hid⟩, (fun e => by cases e), fun _ => h3⟩
theorem aops_callF {f : FuncId} {args : Array Operand} {tys : Array TypeId} {ll : List Oper} {ps : List PV} {r : PV} {d : Option Tmp} {ty : TypeId} {pos : String} {af : Array Edge} (hfn : FnOk E.P f ps r false) (hid : (introT m r).2.2 ≤ m + 16) (hmd : E.md = false)
    (h : (evs E tys.toList args.toList fun as => snapAs as fun ps' => .need (ps' = ps) (freeze (slots as) fun u => .ret ⟨plainT r, u⟩)).run S ⟨[], []⟩ (fun r s => aops E ops ll (m + 16) (app S d r) (footOf s r :: acc) KK)) : aops E ops (⟨d, .call ⟨.value (.func f), args, tys⟩, ty, pos, af, none⟩ :: ll) m S acc KK :=
  call_runF (ty := ty) (pos := pos) (af := af) (g := none) (d := d) hmd hfn hid h
/-- a call, its arguments read by the machine -/
theorem aops_fn {f : FuncId} {args : Array Operand} {tys : Array TypeId} {ll : List Oper} {ps : List PV} {r : PV} {d : Option Tmp} {ty : TypeId} {pos : String} {af : Array Edge} (hfn : FnOk E.P f ps r true) (hid : (introT m r).2.2 ≤ m + 16) (hmd : E.md = false)
    (h : (evs E tys.toList args.toList fun as => snapAs as fun ps' => .need (ps' = ps) (.ret ⟨(introT m r).1, (introT m r).2.1⟩)).run S ⟨[], []⟩ (fun r s => aops E ops ll (m + 16) (app S d r) (footOf s r :: acc) KK)) : aops E ops (⟨d, .call ⟨.value (.func f), args, tys⟩, ty, pos, af, none⟩ :: ll) m S acc KK := by
  show (aopG E ops m _).run S ⟨[], []⟩ _
  obtain ⟨as, s1, h1, h2⟩ := evs_split h
  obtain ⟨ps', s2, ⟨rfl, h3⟩, h4⟩ := snapAs_split h1
  show (evs E tys.toList args.toList fun as => if E.md then lawQ E m f as else snapAs as fun ps => .call (fun r own => FnOk E.P f ps r own ∧ (introT m r).2.2 ≤ m + 16) fun r own =>
      .cond own (.ret ⟨(introT m r).1, (introT m r).2.1⟩) (freeze (slots as) fun u => .ret ⟨plainT r, u⟩)).run S ⟨[], []⟩ _
  rw [hmd]
  exact h2 _ _ (h4 _ _ ⟨r, true, ⟨hfn, hid⟩, fun _ => h3, fun e => by cases e⟩)
/-- a call that hangs on a guard, and is done -/
theorem aops_fnG {f : FuncId} {args : Array Operand} {tys : Array TypeId} {ll : List Oper} {ps : List PV} {r : PV} {d : Option Tmp} {ty : TypeId} {pos : String} {af : Array Edge} {i d0 : Nat} {want : Bool} (hfn : FnOk E.P f ps r true) (hid : (introT m r).2.2 ≤ m + 16) (hmd : E.md = false) (hd : (ops[i]?).bind (·.dst) = some d0) (ht : S.t d0 = .pv (.bool want))
    (h : (evs E tys.toList args.toList fun as => snapAs as fun ps' => .need (ps' = ps) (.ret ⟨(introT m r).1, (introT m r).2.1⟩)).run S ⟨[d0], []⟩ (fun r s => aops E ops ll (m + 16) (app S d r) (footOf s r :: acc) KK)) : aops E ops (⟨d, .call ⟨.value (.func f), args, tys⟩, ty, pos, af, some (i, want)⟩ :: ll) m S acc KK := by
  show (guardQ ((ops[i]?).bind (·.dst)) want (aop E m _)).run S ⟨[], []⟩ _
  rw [hd]
  simp only [guardQ, Rq.run, ht]
  refine ⟨fun _ => ?_, fun e => by simp at e⟩
  obtain ⟨as, s1, h1, h2⟩ := evs_split h
  obtain ⟨ps', s2, ⟨rfl, h3⟩, h4⟩ := snapAs_split h1
  show (evs E tys.toList args.toList fun as => if E.md then lawQ E m f as else snapAs as fun ps => .call (fun r own => FnOk E.P f ps r own ∧ (introT m r).2.2 ≤ m + 16) fun r own =>
      .cond own (.ret ⟨(introT m r).1, (introT m r).2.1⟩) (freeze (slots as) fun u => .ret ⟨plainT r, u⟩)).run S ⟨[d0], []⟩ _
  rw [hmd]
  exact h2 _ _ (h4 _ _ ⟨r, true, ⟨hfn, hid⟩, fun _ => h3, fun e => by cases e⟩)
/-- a call that hangs on a guard, and is left out -/
theorem aops_fnS {f : FuncId} {args : Array Operand} {tys : Array TypeId} {ll : List Oper} {d : Option Tmp} {ty : TypeId} {pos : String} {af : Array Edge} {i d0 : Nat} {want t : Bool} (hd : (ops[i]?).bind (·.dst) = some d0) (ht : S.t d0 = .pv (.bool t)) (hne : t ≠ want)
    (h : aops E ops ll (m + 16) (app S d ⟨.out, []⟩) (⟨[d0], [], []⟩ :: acc) KK) : aops E ops (⟨d, .call ⟨.value (.func f), args, tys⟩, ty, pos, af, some (i, want)⟩ :: ll) m S acc KK := by
  show (guardQ ((ops[i]?).bind (·.dst)) want (aop E m _)).run S ⟨[], []⟩ _
  rw [hd]
  simp only [guardQ, Rq.run, ht]
  exact ⟨fun e => absurd (by simpa using e) hne, fun _ => h⟩
/-- an answer of the call's own is read as well -/
theorem FnOk.read {P : Program} {f : FuncId} {ps : List PV} {r : PV} (h : FnOk P f ps r true) : FnOk P f ps r false :=
  ⟨h.1, fun w M vs hl hv => (h.2 w M vs hl hv).mono fun e w' ⟨v, he, hb, ho⟩ => ⟨v, he, hb, by
    simp only [Bool.false_eq_true, if_false]
    simp only [if_true] at ho
    exact Ow.rd ho (fun g hg hm => by have := hm.2; omega)⟩⟩
theorem snapT_split {x : AV} {k : PV → Rq} (h : (snapT x k).run S s K) : ∃ y s1, (k y).run S s1 K ∧ ∀ k' K', (k' y).run S s1 K' → (snapT x k').run S s K' := by
  unfold snapT at h
  split at h
  · exact ⟨_, _, h, fun k' K' h' => h'⟩
  · exact ⟨_, _, h, fun k' K' h' => h'⟩
  · simp only [Rq.run] at h
    split at h
    · rename_i e rows hB
      exact ⟨_, _, h, fun k' K' h' => by unfold snapT; simp only [Rq.run, hB]; exact h'⟩
    · exact h.elim
  · exact h.elim
theorem snapTs_split : ∀ {xs : List AV} {k : List PV → Rq} {s : Seen}, (snapTs xs k).run S s K → ∃ ys s1, (k ys).run S s1 K ∧ ∀ k' K', (k' ys).run S s1 K' → (snapTs xs k').run S s K'
  | [], k, s, h => ⟨[], s, h, fun _ _ h' => h'⟩
  | x :: l, k, s, h => by
    obtain ⟨y, s1, h1, h2⟩ := snapT_split h
    obtain ⟨ys, s2, h3, h4⟩ := snapTs_split (xs := l) (k := fun as => k (y :: as)) h1
    exact ⟨y :: ys, s2, h3, fun k' K' h' => h2 _ _ (h4 (fun as => k' (y :: as)) _ h')⟩
theorem snapTA_split {x : AV} {k : PV → Rq} (h : (snapTA x k).run S s K) : ∃ y s1, (k y).run S s1 K ∧ ∀ k' K', (k' y).run S s1 K' → (snapTA x k').run S s K' := by
  cases x with
  | agg cs =>
    obtain ⟨ps, s1, h1, h2⟩ := snapTs_split (k := fun ps => k (.agg ps)) h
    exact ⟨_, s1, h1, fun k' K' h' => h2 (fun ps => k' (.agg ps)) _ h'⟩
  | und => exact snapT_split (x := .und) (k := k) h
  | out => exact snapT_split (x := .out) (k := k) h
  | pv p => exact snapT_split (x := .pv p) (k := k) h
  | nil e => exact snapT_split (x := .nil e) (k := k) h
  | sl b => exact snapT_split (x := .sl b) (k := k) h
  | ptr b o => exact snapT_split (x := .ptr b o) (k := k) h
  | eltS b e i o => exact snapT_split (x := .eltS b e i o) (k := k) h
  | eltP e rows i o => exact snapT_split (x := .eltP e rows i o) (k := k) h
  | tup vs => exact snapT_split (x := .tup vs) (k := k) h
theorem snapTAs_split : ∀ {xs : List AV} {k : List PV → Rq} {s : Seen}, (snapTAs xs k).run S s K → ∃ ys s1, (k ys).run S s1 K ∧ ∀ k' K', (k' ys).run S s1 K' → (snapTAs xs k').run S s K'
  | [], k, s, h => ⟨[], s, h, fun _ _ h' => h'⟩
  | x :: l, k, s, h => by
    obtain ⟨y, s1, h1, h2⟩ := snapTA_split h
    obtain ⟨ys, s2, h3, h4⟩ := snapTAs_split (xs := l) (k := fun as => k (y :: as)) h1
    exact ⟨y :: ys, s2, h3, fun k' K' h' => h2 _ _ (h4 (fun as => k' (y :: as)) _ h')⟩
/-- a call in a law -/
theorem aopsL_fn {f : FuncId} {args : Array Operand} {tys : Array TypeId} {ll : List Oper} {ps : List PV} {r : PV} {d : Option Tmp} {ty : TypeId} {pos : String} {af : Array Edge} (hfn : FnOk E.P f ps r true) (hsh : r.allT = true) (hid : (introT m r).2.2 ≤ m + 16) (hmd : E.md = true)
    (h : (evs E tys.toList args.toList fun as => snapTAs as fun ps' => .need (ps' = ps) (.ret ⟨(introT m r).1, treeU (introT m r).2.1⟩)).run S ⟨[], []⟩ (fun r s => aops E ops ll (m + 16) (app S d r) (footOf s r :: acc) KK)) : aops E ops (⟨d, .call ⟨.value (.func f), args, tys⟩, ty, pos, af, none⟩ :: ll) m S acc KK := by
  obtain ⟨as, s1, h1, h2⟩ := evs_split h
  obtain ⟨ps', s2, ⟨rfl, h3⟩, h4⟩ := snapTAs_split h1
  show (evs E tys.toList args.toList fun as => if E.md then lawQ E m f as else snapAs as fun ps => .call (fun r own => FnOk E.P f ps r own ∧ (introT m r).2.2 ≤ m + 16) fun r own =>
      .cond own (.ret ⟨(introT m r).1, (introT m r).2.1⟩) (freeze (slots as) fun u => .ret ⟨plainT r, u⟩)).run S ⟨[], []⟩ _
  rw [hmd]
  refine h2 _ _ ?_
  simp only [if_true]
  unfold lawQ
  refine h4 _ _ ?_
  exact ⟨r, true, ⟨hfn, hid, hsh⟩, (fun _ => h3), fun e => by cases e⟩
/-- a call in a law whose answer is read alone -/
theorem aopsL_rd {f : FuncId} {args : Array Operand} {tys : Array TypeId} {ll : List Oper} {ps : List PV} {r : PV} {d : Option Tmp} {ty : TypeId} {pos : String} {af : Array Edge} (hfn : FnOk E.P f ps r false) (hmd : E.md = true)
    (h : (evs E tys.toList args.toList fun as => snapTAs as fun ps' => .need (ps' = ps) (freezeT (slots as) fun u => .ret ⟨plainT r, u⟩)).run S ⟨[], []⟩ (fun r s => aops E ops ll (m + 16) (app S d r) (footOf s r :: acc) KK)) : aops E ops (⟨d, .call ⟨.value (.func f), args, tys⟩, ty, pos, af, none⟩ :: ll) m S acc KK := by
  obtain ⟨as, s1, h1, h2⟩ := evs_split h
  obtain ⟨ps', s2, ⟨rfl, h3⟩, h4⟩ := snapTAs_split h1
  show (evs E tys.toList args.toList fun as => if E.md then lawQ E m f as else snapAs as fun ps => .call (fun r own => FnOk E.P f ps r own ∧ (introT m r).2.2 ≤ m + 16) fun r own =>
      .cond own (.ret ⟨(introT m r).1, (introT m r).2.1⟩) (freeze (slots as) fun u => .ret ⟨plainT r, u⟩)).run S ⟨[], []⟩ _
  rw [hmd]
  refine h2 _ _ ?_
  simp only [if_true]
  unfold lawQ
  refine h4 _ _ ?_
  refine ⟨.agg [r], false, .inr ⟨r, rfl, hfn⟩, (fun e => by cases e), fun _ => ?_⟩
  simpa only using h3
/-- a call in a law that hangs on a guard, and is done -/
theorem aopsL_fnG {f : FuncId} {args : Array Operand} {tys : Array TypeId} {ll : List Oper} {ps : List PV} {r : PV} {d : Option Tmp} {ty : TypeId} {pos : String} {af : Array Edge} {i d0 : Nat} {want : Bool} (hfn : FnOk E.P f ps r true) (hsh : r.allT = true) (hid : (introT m r).2.2 ≤ m + 16) (hmd : E.md = true) (hd : (ops[i]?).bind (·.dst) = some d0) (ht : S.t d0 = .pv (.bool want))
    (h : (evs E tys.toList args.toList fun as => snapTAs as fun ps' => .need (ps' = ps) (.ret ⟨(introT m r).1, treeU (introT m r).2.1⟩)).run S ⟨[d0], []⟩ (fun r s => aops E ops ll (m + 16) (app S d r) (footOf s r :: acc) KK)) : aops E ops (⟨d, .call ⟨.value (.func f), args, tys⟩, ty, pos, af, some (i, want)⟩ :: ll) m S acc KK := by
  show (guardQ ((ops[i]?).bind (·.dst)) want (aop E m _)).run S ⟨[], []⟩ _
  rw [hd]
  simp only [guardQ, Rq.run, ht]
  refine ⟨fun _ => ?_, fun e => by simp at e⟩
  obtain ⟨as, s1, h1, h2⟩ := evs_split h
  obtain ⟨ps', s2, ⟨rfl, h3⟩, h4⟩ := snapTAs_split h1
  show (evs E tys.toList args.toList fun as => if E.md then lawQ E m f as else snapAs as fun ps => .call (fun r own => FnOk E.P f ps r own ∧ (introT m r).2.2 ≤ m + 16) fun r own =>
      .cond own (.ret ⟨(introT m r).1, (introT m r).2.1⟩) (freeze (slots as) fun u => .ret ⟨plainT r, u⟩)).run S ⟨[d0], []⟩ _
  rw [hmd]
  refine h2 _ _ ?_
  simp only [if_true]
  unfold lawQ
  refine h4 _ _ ?_
  exact ⟨r, true, ⟨hfn, hid, hsh⟩, (fun _ => h3), fun e => by cases e⟩
/-- a call in a law that writes its first argument -/
theorem aopsL_mut {f : FuncId} {args : Array Operand} {tys : Array TypeId} {ll : List Oper} {p p' : PV} {n z : Int} {d : Option Tmp} {ty : TypeId} {pos : String} {af : Array Edge} (hmut : MutOk E.P f p n p' z) (hmd : E.md = true)
    (h : (evs E tys.toList args.toList fun as => snapTAs as fun ps' => .need (ps' = [p, .int .i64 n] ∧ as.length = 2 ∧ nodupB (slots as) = true ∧ (as.headD .und).ownArg = true) (.ret ⟨.pv (.int .i64 z), putT (as.headD .und) p'⟩)).run S ⟨[], []⟩ (fun r s => aops E ops ll (m + 16) (app S d r) (footOf s r :: acc) KK)) : aops E ops (⟨d, .call ⟨.value (.func f), args, tys⟩, ty, pos, af, none⟩ :: ll) m S acc KK := by
  obtain ⟨as, s1, h1, h2⟩ := evs_split h
  obtain ⟨ps', s2, ⟨⟨rfl, hlen, hn, ho⟩, h3⟩, h4⟩ := snapTAs_split h1
  match as, hlen with
  | [x, y], _ =>
    show (evs E tys.toList args.toList fun as => if E.md then lawQ E m f as else snapAs as fun ps => .call (fun r own => FnOk E.P f ps r own ∧ (introT m r).2.2 ≤ m + 16) fun r own =>
      .cond own (.ret ⟨(introT m r).1, (introT m r).2.1⟩) (freeze (slots as) fun u => .ret ⟨plainT r, u⟩)).run S ⟨[], []⟩ _
    rw [hmd]
    refine h2 _ _ ?_
    simp only [if_true]
    unfold lawQ
    refine h4 _ _ ?_
    exact ⟨.tup [.tup [p', .int .i64 z]], false, .inl ⟨p, n, p', z, rfl, rfl, hmut, hn, ho⟩, (fun e => by cases e), fun _ => h3⟩
/-- a call -/
theorem aops_call {f : FuncId} {args : Array Operand} {tys : Array TypeId} {ll : List Oper} {ps : List PV} {sn : Seen} {r : PV} {d : Option Tmp} {ty : TypeId} {pos : String} {af : Array Edge} (hargs : ArgsAre E S tys.toList args.toList ps ⟨[], []⟩ sn) (hfn : FnOk E.P f ps r true) (hid : (introT m r).2.2 ≤ m + 16) (hmd : E.md = false)
    (h : aops E ops ll (m + 16) (app S d ⟨(introT m r).1, (introT m r).2.1⟩) (⟨sn.ts, sn.hs, (introT m r).2.1.map (·.1)⟩ :: acc) KK) : aops E ops (⟨d, .call ⟨.value (.func f), args, tys⟩, ty, pos, af, none⟩ :: ll) m S acc KK :=
  call_run (ty := ty) (pos := pos) (af := af) (g := none) (d := d) hmd hargs hfn hid h
/-- a call that hangs on a guard -/
theorem aops_callG {f : FuncId} {args : Array Operand} {tys : Array TypeId} {ll : List Oper} {d : Option Tmp} {ty : TypeId} {pos : String} {af : Array Edge} {i d0 : Nat} {want t : Bool} (hmd : E.md = false) (hd : (ops[i]?).bind (·.dst) = some d0) (ht : S.t d0 = .pv (.bool t))
    (h1 : t = want → ∃ ps sn r, ArgsAre E S tys.toList args.toList ps ⟨[d0], []⟩ sn ∧ FnOk E.P f ps r true ∧ (introT m r).2.2 ≤ m + 16 ∧ aops E ops ll (m + 16) (app S d ⟨(introT m r).1, (introT m r).2.1⟩) (⟨sn.ts, sn.hs, (introT m r).2.1.map (·.1)⟩ :: acc) KK)
    (h2 : t ≠ want → aops E ops ll (m + 16) (app S d ⟨.out, []⟩) (⟨[d0], [], []⟩ :: acc) KK) : aops E ops (⟨d, .call ⟨.value (.func f), args, tys⟩, ty, pos, af, some (i, want)⟩ :: ll) m S acc KK := by
  show (guardQ ((ops[i]?).bind (·.dst)) want (aop E m _)).run S ⟨[], []⟩ _
  rw [hd]
  simp only [guardQ, Rq.run, ht]
  refine ⟨fun e => ?_, fun e => ?_⟩
  · obtain ⟨ps, sn, r, ha, hf, hi, h⟩ := h1 (by simpa using e)
    exact call_run (ty := ty) (pos := pos) (af := af) (g := some (i, want)) (d := d) hmd ha hf hi h
  · exact h2 (by simpa using e)
end

/-- a machine of rows that are written out -/
def mkS (ts : List (Nat × AV)) (hs : List (Nat × Blk)) : ASt := ⟨updL (fun _ => .und) ts, updL (fun _ => .none) hs⟩
def look : List (Nat × Nat) → Nat → Nat
  | [], _ => 0
  | (k, v) :: l, b => if b = k then v else look l b
def renA (ρ : Nat → Nat) : AV → AV
  | .sl b => .sl (ρ b)
  | .ptr b o => .ptr (ρ b) o
  | x => x
def renL (ρ : Nat → Nat) : List AV → List AV
  | [] => []
  | x :: l => renA ρ x :: renL ρ l
/-- numbers that are used are there -/
def okA (keys : List Nat) : AV → Bool
  | .und | .pv _ | .nil _ => true
  | .sl b => keys.contains b
  | .ptr b _ => keys.contains b
  | _ => false
def mA : AV → AV → List (Nat × Nat)
  | .sl b, .sl c => [(b, c)]
  | .ptr b _, .ptr c _ => [(b, c)]
  | _, _ => []
def mL : List AV → List AV → List (Nat × Nat)
  | x :: l, y :: k => mA x y ++ mL l k
  | _, _ => []
def rho1 (S : ASt) : List (Nat × AV) → List (Nat × Nat)
  | [] => []
  | (t, x) :: l => mA x (S.t t) ++ rho1 S l
def mB : Blk → Blk → List (Nat × Nat)
  | .box xs, .box ys => mL xs ys
  | _, _ => []
def rho2 (S : ASt) (r : List (Nat × Nat)) : List (Nat × Blk) → List (Nat × Nat)
  | [] => []
  | (b, B) :: l => mB B (S.h (look r b)) ++ rho2 S r l
/-- the numbers that the slots name, and those that boxes do -/
def rho (S : ASt) (ts : List (Nat × AV)) (hs : List (Nat × Blk)) : List (Nat × Nat) := rho1 S ts ++ rho2 S (rho1 S ts) hs
def lessT (ρ : Nat → Nat) (S : ASt) : List (Nat × AV) → Prop
  | [] => True
  | (t, x) :: l => S.t t = renA ρ x ∧ lessT ρ S l
def renB (ρ : Nat → Nat) : Blk → Blk
  | .box xs => .box (renL ρ xs)
  | B => B
def lessH (ρ : Nat → Nat) (S : ASt) : List (Nat × Blk) → Prop
  | [] => True
  | (b, B) :: l => S.h (ρ b) = renB ρ B ∧ lessH ρ S l
def okB (keys : List Nat) : Blk → Bool
  | .box xs => xs.all (okA keys)
  | .row .. | .frz .. => true
  | _ => false
def wellB (m : Nat) (ρ : Nat → Nat) (ts : List (Nat × AV)) (hs : List (Nat × Blk)) : Bool := ts.all (fun p => okA (hs.map (·.1)) p.2) && hs.all (fun p => okB (hs.map (·.1)) p.2 && decide (p.1 < m)) && nodupB (hs.map (·.1)) && nodupB ((hs.map (·.1)).map ρ)
/-- this machine tells less than that one -/
def LessL (m : Nat) (S : ASt) (ts : List (Nat × AV)) (hs : List (Nat × Blk)) : Prop := wellB m (look (rho S ts hs)) ts hs = true ∧ lessT (look (rho S ts hs)) S ts ∧ lessH (look (rho S ts hs)) S hs
theorem nodup_keys {α : Type} : ∀ {l : List (Nat × α)}, nodupB (l.map (·.1)) = true → ∀ {x : Nat} {u v : α}, (x, u) ∈ l → (x, v) ∈ l → u = v
  | [], _, x, u, v, h, _ => by cases h
  | (k, w) :: l, hn, x, u, v, hu, hv => by
    simp only [List.map_cons, nodupB, Bool.and_eq_true, Bool.not_eq_true', List.contains_eq_mem, decide_eq_false_iff_not] at hn
    rcases List.mem_cons.1 hu with hu | hu <;> rcases List.mem_cons.1 hv with hv | hv
    · injection hu with e1 e2; injection hv with e3 e4; rw [e2, e4]
    · injection hu with e1 e2; exact absurd (List.mem_map.2 ⟨_, hv, e1⟩) hn.1
    · injection hv with e1 e2; exact absurd (List.mem_map.2 ⟨_, hu, e1⟩) hn.1
    · exact nodup_keys hn.2 hu hv
theorem nodup_map {f : Nat → Nat} : ∀ {l : List Nat}, nodupB (l.map f) = true → ∀ {x y : Nat}, x ∈ l → y ∈ l → f x = f y → x = y
  | [], _, x, y, h, _, _ => by cases h
  | k :: l, hn, x, y, hx, hy, e => by
    simp only [List.map_cons, nodupB, Bool.and_eq_true, Bool.not_eq_true', List.contains_eq_mem, decide_eq_false_iff_not] at hn
    obtain ⟨hn1, hn2⟩ := hn
    rcases List.mem_cons.1 hx with hx | hx <;> rcases List.mem_cons.1 hy with hy | hy
    · rw [hx, hy]
    · exact absurd (List.mem_map.2 ⟨y, hy, by rw [← e, hx]⟩) hn1
    · exact absurd (List.mem_map.2 ⟨x, hx, by rw [e, hy]⟩) hn1
    · exact nodup_map hn2 hx hy e
theorem okA_ren {ρ : Nat → Nat} {keys : List Nat} {L : Nat → Prop} (hL : ∀ b ∈ keys, L b) {x : AV} (h : okA keys x = true) : AvRen ρ L x (renA ρ x) := by
  cases x with
  | und => exact .und _
  | pv p => exact .pv p
  | nil e => exact .nil e
  | sl b => exact .sl b _ (hL b (by simpa [okA] using h)) rfl
  | ptr b o => exact .ptr b _ o (hL b (by simpa [okA] using h)) rfl
  | eltS | eltP | agg | tup | out => cases h
theorem renL_len (ρ : Nat → Nat) : ∀ l, (renL ρ l).length = l.length
  | [] => rfl
  | x :: l => by simp [renL, renL_len ρ l]
theorem renL_at (ρ : Nat → Nat) : ∀ (l : List AV) (i : Nat) (hi : i < l.length) (hj : i < (renL ρ l).length), (renL ρ l)[i] = renA ρ l[i]
  | [], i, hi, _ => by simp at hi
  | x :: l, 0, _, _ => rfl
  | x :: l, i + 1, hi, hj => renL_at ρ l i (by simpa using hi) (by simpa [renL] using hj)
theorem lessL_less {m : Nat} {S : ASt} {ts : List (Nat × AV)} {hs : List (Nat × Blk)} (h : LessL m S ts hs) : Less (look (rho S ts hs)) (mkS ts hs) S ∧ ∀ b, m ≤ b → (mkS ts hs).h b = .none := by
  obtain ⟨hw, hT, hH⟩ := h
  generalize look (rho S ts hs) = ρ at hw hT hH
  simp only [wellB, Bool.and_eq_true, List.all_eq_true, decide_eq_true_eq] at hw
  obtain ⟨⟨⟨hw1, hw2⟩, hw3⟩, hw4⟩ := hw
  have hTm : ∀ p ∈ ts, S.t p.1 = renA ρ p.2 := by
    have : ∀ (l : List (Nat × AV)), lessT ρ S l → ∀ p ∈ l, S.t p.1 = renA ρ p.2 := by
      intro l
      induction l with
      | nil => intro _ p hp; cases hp
      | cons q l ih =>
        intro h p hp
        rcases List.mem_cons.1 hp with rfl | hp
        · exact h.1
        · exact ih h.2 p hp
    exact this ts hT
  have hHm : ∀ p ∈ hs, S.h (ρ p.1) = renB ρ p.2 := by
    have : ∀ (l : List (Nat × Blk)), lessH ρ S l → ∀ p ∈ l, S.h (ρ p.1) = renB ρ p.2 := by
      intro l
      induction l with
      | nil => intro _ p hp; cases hp
      | cons q l ih =>
        intro h p hp
        rcases List.mem_cons.1 hp with rfl | hp
        · exact h.1
        · exact ih h.2 p hp
    exact this hs hH
  have hkn : ∀ b ∈ hs.map (·.1), ((mkS ts hs).h b).known = true := fun b hb => by
    rcases updL_cases (l := hs) (f := fun _ => Blk.none) (x := b) with ⟨h1, _⟩ | ⟨v, h1, h2⟩
    · exact absurd hb h1
    · show (updL _ hs b).known = true
      rw [h2]
      have := (hw2 _ h1).1
      cases v <;> first | rfl | cases this
  have hin : ∀ b, ((mkS ts hs).h b).known = true → b ∈ hs.map (·.1) := fun b hb => by
    rcases updL_cases (l := hs) (f := fun _ => Blk.none) (x := b) with ⟨_, h2⟩ | ⟨v, h1, _⟩
    · have hb' : (updL (fun _ => Blk.none) hs b).known = true := hb
      rw [h2] at hb'; cases hb'
    · exact List.mem_map.2 ⟨_, h1, rfl⟩
  refine ⟨⟨fun t => ?_, fun b => ?_, fun b c hb hc e => nodup_map hw4 (hin b hb) (hin c hc) e⟩, fun b hb => ?_⟩
  · rcases updL_cases (l := ts) (f := fun _ => AV.und) (x := t) with ⟨_, h2⟩ | ⟨v, h1, h2⟩
    · show AvRen _ _ (updL _ ts t) _
      rw [h2]; exact .und _
    · show AvRen _ _ (updL _ ts t) _
      rw [h2, hTm _ h1]
      exact okA_ren hkn (hw1 _ h1)
  · rcases updL_cases (l := hs) (f := fun _ => Blk.none) (x := b) with ⟨_, h2⟩ | ⟨v, h1, h2⟩
    · show BlkRen _ _ (updL _ hs b) _
      rw [h2]; trivial
    · show BlkRen _ _ (updL _ hs b) _
      rw [h2, hHm _ h1]
      have hok := (hw2 _ h1).1
      cases v with
      | box xs =>
        have hok' : xs.all (okA (hs.map (·.1))) = true := hok
        rw [List.all_eq_true] at hok'
        refine ⟨renL_len ρ xs, fun i hi => ?_⟩
        rw [renL_at ρ xs i hi (by rw [renL_len]; exact hi)]
        exact okA_ren hkn (hok' _ (List.getElem_mem hi))
      | row own e rows => exact ⟨rfl, rfl, rfl⟩
      | frz e rows => exact ⟨rfl, rfl⟩
      | tree e rows => cases hok
      | opn e rows i cs => cases hok
      | none => cases hok
      | dead => cases hok
  · rcases updL_cases (l := hs) (f := fun _ => Blk.none) (x := b) with ⟨_, h2⟩ | ⟨v, h1, _⟩
    · exact h2
    · have := (hw2 _ h1).2
      omega
/-- behind a round of a loop -/
def roundQ {X : Type} (ts : X → List (Nat × AV)) (hs : X → List (Nat × Blk)) (inv : X → Prop) (μ : X → Nat) (m' : Nat) (x : X) (Q : Post) : Post
  | .normal, S1, _ => ∃ x', inv x' ∧ μ x' < μ x ∧ LessL m' S1 (ts x') (hs x')
  | e, S, m => Q e S m
/-- a loop -/
theorem awp_loop {E : Tab} {X : Type} {c : Code} {Q : Post} {S : ASt} {m : Nat} (ts : X → List (Nat × AV)) (hs : X → List (Nat × Blk)) (inv : X → Prop) (μ : X → Nat) (m' : Nat) (x0 : X) (h0 : inv x0) (hless : LessL m' S (ts x0) (hs x0))
    (hround : ∀ x, inv x → awp E c (roundQ ts hs inv μ m' x Q) (mkS (ts x) (hs x)) m') : awp E (.loop c) Q S m := by
  refine ⟨fun k S m => ∃ x, inv x ∧ μ x = k ∧ S = mkS (ts x) (hs x) ∧ m = m', ?_, fun k S m ⟨x, hi, hk, hS, hm⟩ => ?_⟩
  · obtain ⟨h1, h2⟩ := lessL_less hless
    exact ⟨_, _, _, m', ⟨x0, h0, rfl, rfl, rfl⟩, h1, h2⟩
  · subst hS
    subst hm
    subst hk
    have key : ∀ (c : Code) (Q1 Q2 : Post) (S : ASt) (m : Nat), (∀ e S m, Q1 e S m → Q2 e S m) → awp E c Q1 S m → awp E c Q2 S m := by
      intro c
      induction c with
      | skip => intro Q1 Q2 S m h h1; exact h _ _ _ h1
      | label => intro Q1 Q2 S m h h1; exact h _ _ _ h1
      | ret => intro Q1 Q2 S m h h1; exact h _ _ _ h1
      | exit => intro Q1 Q2 S m h h1; exact h _ _ _ h1
      | region id ops draw =>
        intro Q1 Q2 S m h h1
        have mono : ∀ (ol l : List Oper) (m : Nat) (S : ASt) (acc : List Foot) (K1 K2 : ASt → List Foot → Prop), (∀ S a, K1 S a → K2 S a) → aops E ol l m S acc K1 → aops E ol l m S acc K2 := by
          intro ol l
          induction l with
          | nil => intro m S acc K1 K2 hk h; exact hk _ _ h
          | cons o l ih =>
            intro m S acc K1 K2 hk h
            have rm : ∀ (q : Rq) (s : Seen) (J1 J2 : ARes → Seen → Prop), (∀ r s, J1 r s → J2 r s) → q.run S s J1 → q.run S s J2 := by
              intro q s J1 J2 hj hq
              obtain ⟨r, s', h1, h2⟩ := Rq.elim hq
              have : ∀ {q : Rq} {s : Seen}, q.run S s (isRes r s') → q.run S s J2 := by
                intro q
                induction q with
                | ret x => intro s h; obtain ⟨rfl, rfl⟩ := h; exact hj _ _ h2
                | getT t k ih => intro s h; exact ih _ h
                | getH t k ih => intro s h; exact ih _ h
                | need p k ih => intro s h; exact ⟨h.1, ih h.2⟩
                | cond c a b iha ihb => intro s h; exact ⟨fun e => iha (h.1 e), fun e => ihb (h.2 e)⟩
                | row rows i k ih => intro s ⟨x, hx, h⟩; exact ⟨x, hx, ih _ h⟩
                | call p k ih => intro s ⟨x, own, hx, h⟩; exact ⟨x, own, hx, ih _ _ h⟩
                | fail => intro s h; exact h.elim
              exact this h1
            exact rm _ _ _ _ (fun r s h => ih _ _ _ _ _ hk h) h
        exact mono _ _ _ _ _ _ _ (fun S a ⟨h1, h2⟩ => ⟨h1, h _ _ _ h2⟩) h1
      | seq x y ihx ihy =>
        intro Q1 Q2 S m h h1
        refine ihx _ _ _ _ (fun e S m he => ?_) h1
        cases e <;> first | exact ihy _ _ _ _ h he | exact h _ _ _ he
      | cond c x y ihx ihy =>
        intro Q1 Q2 S m h ⟨t, h1, h2, h3⟩
        exact ⟨t, h1, fun e => ihx _ _ _ _ h (h2 e), fun e => ihy _ _ _ _ h (h3 e)⟩
      | block id c ih =>
        intro Q1 Q2 S m h h1
        refine ih _ _ _ _ (fun e S m he => ?_) h1
        cases e with
        | exit i =>
          simp only [blockQ] at he ⊢
          split
          · rename_i e; rw [if_pos e] at he; exact h _ _ _ he
          · rename_i e; rw [if_neg e] at he; exact h _ _ _ he
        | normal | goto | ret | panic | outgrown => exact h _ _ _ he
      | loop c ih =>
        intro Q1 Q2 S m h ⟨I, h1, h2⟩
        refine ⟨I, h1, fun k S m hI => ih _ _ _ _ (fun e S m he => ?_) (h2 k S m hI)⟩
        cases e <;> first | exact he | exact h _ _ _ he
      | rangeFunc => intro Q1 Q2 S m h h1; exact h1.elim
      | scope => intro Q1 Q2 S m h h1; exact h1.elim
      | goto => intro Q1 Q2 S m h h1; exact h1.elim
      | refuse => intro Q1 Q2 S m h h1; exact h1.elim
    refine key c _ _ _ _ (fun e S m he => ?_) (hround x hi)
    cases e with
    | normal =>
      obtain ⟨x', h1, h2, h3⟩ := he
      obtain ⟨h4, h5⟩ := lessL_less h3
      exact ⟨_, _, _, _, h2, ⟨x', h1, rfl, rfl, rfl⟩, h4, h5⟩
    | exit | goto | ret | panic | outgrown => exact he
/-- how many blocks a value brings -/
def blL : List PV → Nat
  | [] => 0
  | .lst _ _ :: l => blL l + 1
  | _ :: l => blL l
def PV.bl1 : PV → Nat
  | .agg cs => blL cs
  | .lst _ _ => 1
  | _ => 0
def blS : List PV → Nat
  | [] => 0
  | p :: l => p.bl1 + blS l
def PV.blT : PV → Nat
  | .tup vs => blS vs
  | p => p.bl1
theorem introL_bl : ∀ (cs : List PV) (m : Nat), (introL m cs).2.2 = m + blL cs
  | [], m => rfl
  | p :: l, m => by
    cases p with
    | lst e rows =>
      have := introL_bl l (m + 1)
      show (introL (m + 1) l).2.2 = m + (blL l + 1)
      omega
    | int | bool | str | agg | tup => exact introL_bl l m
theorem intro1_bl (p : PV) (m : Nat) : (intro1 m p).2.2 = m + p.bl1 := by
  cases p with
  | agg cs => exact introL_bl cs m
  | lst e rows => rfl
  | int | bool | str | tup => rfl
theorem intros_bl : ∀ (vs : List PV) (m : Nat), (intros m vs).2.2 = m + blS vs
  | [], m => rfl
  | p :: l, m => by
    have h1 := intro1_bl p m
    have h2 := intros_bl l (intro1 m p).2.2
    show (intros (intro1 m p).2.2 l).2.2 = m + (p.bl1 + blS l)
    omega
theorem hidB {m : Nat} {r : PV} (h : Nat.ble r.blT 16 = true) : (introT m r).2.2 ≤ m + 16 := by
  have h := Nat.le_of_ble_eq_true h
  cases r with
  | tup vs =>
    have := intros_bl vs m
    show (intros m vs).2.2 ≤ m + 16
    have h' : blS vs ≤ 16 := h
    omega
  | agg cs =>
    have := intro1_bl (.agg cs) m
    have h' : PV.bl1 (.agg cs) ≤ 16 := h
    show (intro1 m (.agg cs)).2.2 ≤ m + 16
    omega
  | lst e rows => exact Nat.add_le_add_left (by decide : 1 ≤ 16) m
  | int | bool | str => exact Nat.le_add_right m 16
/-- what the machine does, said for simp -/
def vcs := (And.intro (And.intro (And.intro (And.intro (And.intro (And.intro (And.intro (And.intro @awp_skip
  @awp_label) (And.intro @awp_ret (And.intro @awp_exit @awp_seq))) (And.intro (And.intro @awp_block (And.intro @awp_cond @condGo_tt)) (And.intro @condGo_ff
  (And.intro @awp_region @condA_tmp)))) (And.intro (And.intro (And.intro @seqQ_normal @seqQ_ret) (And.intro @seqQ_exit (And.intro @blockQ_exit @blockQ_normal)))
  (And.intro (And.intro @blockQ_ret (And.intro @loopQ_normal @loopQ_exit)) (And.intro @loopQ_ret (And.intro @upd_at @run_ret))))) (And.intro (And.intro (And.intro
  (And.intro @run_getT @run_getH) (And.intro @run_need (And.intro @run_cond @run_row))) (And.intro (And.intro @run_fail (And.intro @ite_run @aops_nil)) (And.intro
  @aops_move (And.intro @aops_assign @aops_bin)))) (And.intro (And.intro (And.intro @aops_pick @aops_alloc) (And.intro @aops_box (And.intro @aops_build
  @aops_buildSlice))) (And.intro (And.intro @aops_load (And.intro @aops_store @aops_unOp)) (And.intro @aops_convert (And.intro @aops_makeSlice @aops_slice))))))
  (And.intro (And.intro (And.intro (And.intro (And.intro @aops_fieldAddr @aops_field) (And.intro @aops_indexAddr (And.intro @aops_index @aops_extract)))
  (And.intro (And.intro @aops_builtin (And.intro @app_some @app_none)) (And.intro @updL0 (And.intro @updL1 @aopG_none)))) (And.intro (And.intro (And.intro
  @aopG_some @guardQ.eq_1) (And.intro @guardQ.eq_2 (And.intro @aop_move @aop_assign))) (And.intro (And.intro @aop_bin (And.intro @aop_pick @aop_alloc)) (And.intro
  @aop_box (And.intro @aop_build @aop_buildSlice))))) (And.intro (And.intro (And.intro (And.intro @aop_load @aop_store) (And.intro @aop_unOp (And.intro
  @aop_convert @aop_makeSlice))) (And.intro (And.intro @aop_slice (And.intro @aop_fieldAddr @aop_field)) (And.intro @aop_indexAddr (And.intro @aop_index
  @aop_extract)))) (And.intro (And.intro (And.intro @aop_len (And.intro @aop_append @aop_min)) (And.intro @aop_max (And.intro @ev_tmp @ev_const))) (And.intro
  (And.intro @ofV_int (And.intro @ofV_bool @ofV_str)) (And.intro @ofV_nil (And.intro @argS.eq_1 @argS.eq_2))))))) (And.intro (And.intro (And.intro (And.intro
  (And.intro (And.intro @plain1.eq_1 @plain1.eq_2) (And.intro @binA.eq_1 (And.intro @binA.eq_2 @binA.eq_3))) (And.intro (And.intro @binA.eq_4 (And.intro
  @binA.eq_5 @binA.eq_6)) (And.intro @binA.eq_7 (And.intro @binA.eq_8 @binA.eq_9)))) (And.intro (And.intro (And.intro @binA.eq_10 @binA.eq_11) (And.intro
  @binA.eq_12 (And.intro @binA.eq_13 @binA.eq_14))) (And.intro (And.intro @binA.eq_15 (And.intro @binA.eq_16 @binA.eq_17)) (And.intro @binA.eq_18 (And.intro
  @binA.eq_19 (And.intro (And.intro (And.intro @binA.eq_20 @binA.eq_21) (And.intro @addR.eq_1 @addR.eq_2)) (And.intro (And.intro @plainT.eq_1 @plainT.eq_2) (And.intro @bne_self_eq_false.{0} (And.intro decide_true decide_false))))))))) (And.intro (And.intro (And.intro (And.intro @isBool.eq_1 @elemOf.eq_1) (And.intro @TI.elem.eq_1 (And.intro @TI.agg.eq_1
  @ret.eq_1))) (And.intro (And.intro @snap.eq_1 (And.intro @snap.eq_2 @snap.eq_3)) (And.intro @snap.eq_4 (And.intro @snaps.eq_1 @snaps.eq_2)))) (And.intro
  (And.intro (And.intro @snapA.eq_1 @snapA.eq_2) (And.intro @snapAs.eq_1 (And.intro @snapAs.eq_2 @cellsOf.eq_1))) (And.intro (And.intro @cellsOf.eq_2 (And.intro
  @cellsOf.eq_3 @cellsOf.eq_4)) (And.intro @cellsOf.eq_5 (And.intro @rowsChk.eq_1 @rowsChk.eq_2)))))) (And.intro (And.intro (And.intro (And.intro (And.intro
  @rowsChk.eq_3 @setL.eq_1) (And.intro @setL.eq_2 (And.intro @ldv.eq_1 @ldv.eq_2))) (And.intro (And.intro @evs.eq_1 (And.intro @evs.eq_2 @buildQ.eq_1)) (And.intro
  @buildQ.eq_2 (And.intro @rowsQ.eq_1 @rowsQ.eq_2)))) (And.intro (And.intro (And.intro @ownQ.eq_1 @ownQ.eq_2) (And.intro @ownQ.eq_3 (And.intro @ownQ.eq_4
  @ownQ.eq_5))) (And.intro (And.intro @freeze.eq_1 (And.intro @freeze.eq_2 @slots.eq_1)) (And.intro @slots.eq_2 (And.intro @slots.eq_3 @slots.eq_4))))) (And.intro
  (And.intro (And.intro (And.intro @nodupB.eq_1 @nodupB.eq_2) (And.intro @flatRows.eq_1 (And.intro @leafRows.eq_1 @PV.leaf.eq_1))) (And.intro (And.intro
  @PV.leaf.eq_2 (And.intro @PV.leaf.eq_3 @PV.leaf.eq_4)) (And.intro @PV.leaf.eq_5 (And.intro @PV.flat.eq_1 @PV.flat.eq_2)))) (And.intro (And.intro (And.intro
  @PV.flat.eq_3 (And.intro @PV.flat.eq_4 @AV.leaf.eq_1)) (And.intro @AV.leaf.eq_2 (And.intro @AV.leaf.eq_3 @AV.leaf.eq_4))) (And.intro (And.intro @AV.rowOf.eq_1
  (And.intro @AV.rowOf.eq_2 @lenQ.eq_1)) (And.intro @lenQ.eq_2 (And.intro @lenQ.eq_3 @srcQ.eq_1)))))))) (And.intro (And.intro (And.intro (And.intro (And.intro
  (And.intro (And.intro @srcQ.eq_2 @srcQ.eq_3) (And.intro @srcQ.eq_4 (And.intro @appQ.eq_1 @boundQ.eq_1))) (And.intro (And.intro @boundQ.eq_2 (And.intro
  @boundQ.eq_3 @sliceP.eq_1)) (And.intro @sliceStr.eq_1 (And.intro @sliceStr.eq_2 @sliceRow.eq_1)))) (And.intro (And.intro (And.intro @sliceRow.eq_2
  @sliceRow.eq_3) (And.intro @evO.eq_1 (And.intro @evO.eq_2 @zp.eq_1))) (And.intro (And.intro @zp.eq_2 (And.intro @zp.eq_3 @footOf.eq_1)) (And.intro @begin_eq
  (And.intro @List.toList_toArray.{0} @List.length_cons.{0}))))) (And.intro (And.intro (And.intro (And.intro @List.length_nil.{0} @List.map_cons.{0, 0})
  (And.intro @List.map_nil.{0, 0} (And.intro @List.drop_succ_cons.{0} @List.drop_zero.{0}))) (And.intro (And.intro @List.drop_nil.{0} (And.intro
  @List.take_succ_cons.{0} @List.take_zero.{0})) (And.intro @List.take_nil.{0} (And.intro @List.getElem?_cons_succ.{0} @List.getElem?_cons_zero.{0})))) (And.intro
  (And.intro (And.intro @List.set_cons_zero.{0} @List.set_cons_succ.{0}) (And.intro @List.set_nil.{0} (And.intro @List.all_cons.{0} @List.all_nil.{0})))
  (And.intro (And.intro @List.headD_cons.{0} (And.intro @List.headD_nil.{0} @List.tail_cons.{0})) (And.intro @List.tail_nil.{0} (And.intro @List.nil_append.{0}
  @List.cons_append.{0})))))) (And.intro (And.intro (And.intro (And.intro (And.intro @List.append_nil.{0} @List.contains_nil.{0}) (And.intro
  @List.contains_cons.{0} (And.intro @Option.bind_some.{0, 0} @Option.map_some.{0, 0}))) (And.intro (And.intro @Bool.and_true (And.intro @Bool.true_and
  @Bool.and_false)) (And.intro @Bool.false_and (And.intro @Bool.or_false @Bool.not_false)))) (And.intro (And.intro (And.intro @Bool.not_true @and_true) (And.intro
  @true_and (And.intro @and_self @ite_true.{1}))) (And.intro (And.intro @ite_false.{1} (And.intro @ne_eq.{1} @ne_eq.{0})) (And.intro @not_false_eq_true (And.intro
  @not_true_eq_false @Nat.zero_add))))) (And.intro (And.intro (And.intro (And.intro @Nat.add_zero @beq_self_eq_true.{0}) (And.intro @BEq.rfl.{0} (And.intro
  @Nat.lt_irrefl @false_implies))) (And.intro (And.intro @implies_true.{1} (And.intro @implies_true.{0} @forall_const.{1})) (And.intro @forall_const.{0}
  (And.intro @Bool.false_eq_true @Bool.true_eq_false)))) (And.intro (And.intro (And.intro @bool_beq_tt (And.intro @bool_beq_ff @Fin.eq_1)) (And.intro @resAV.eq_1
  (And.intro @resAV.eq_2 @flatC.eq_1))) (And.intro (And.intro @flatC.eq_2 (And.intro @flatC.eq_3 @tupOf.eq_1)) (And.intro @tupOf.eq_2 (And.intro @roundQ.eq_1
  @roundQ.eq_2))))))) (And.intro (And.intro (And.intro (And.intro (And.intro (And.intro @true_or @or_true) (And.intro @false_or (And.intro @introT.eq_1
  @introT.eq_2))) (And.intro (And.intro @intro1.eq_1 (And.intro @intro1.eq_2 @introL.eq_1)) (And.intro @introL.eq_2 (And.intro @introL.eq_3 @intros.eq_1))))
  (And.intro (And.intro (And.intro @intros.eq_2 @ArgsAre.eq_1) (And.intro @Array.toList.eq_1.{0} (And.intro @List.headD.eq_1.{0} @List.headD.eq_2.{0})))
  (And.intro (And.intro @List.tail.eq_1.{0} (And.intro @List.tail.eq_2.{0} @intB_i64)) (And.intro @intB_u8 (And.intro @PV.int.injEq @PV.bool.injEq))))) (And.intro
  (And.intro (And.intro (And.intro @PV.str.injEq @PV.lst.injEq) (And.intro @PV.agg.injEq (And.intro @PV.tup.injEq @AV.pv.injEq))) (And.intro (And.intro
  @AV.sl.injEq (And.intro @AV.ptr.injEq @AV.agg.injEq)) (And.intro @AV.nil.injEq (And.intro @List.cons.injEq.{0} @Blk.box.injEq)))) (And.intro (And.intro
  (And.intro @Blk.row.injEq (And.intro @Blk.frz.injEq @Int.toNat_natCast)) (And.intro @LessL.eq_1 (And.intro @mkS.eq_1 @lessT.eq_1))) (And.intro (And.intro
  @lessT.eq_2 (And.intro @lessH.eq_1 @lessH.eq_2)) (And.intro @renA.eq_1 (And.intro @renA.eq_2 @renA.eq_3)))))) (And.intro (And.intro (And.intro (And.intro
  (And.intro @renB.eq_1 @renB.eq_2) (And.intro @renL.eq_1 (And.intro @renL.eq_2 @rho.eq_1))) (And.intro (And.intro @rho1.eq_1 (And.intro @rho1.eq_2 @rho2.eq_1))
  (And.intro @rho2.eq_2 (And.intro @mA.eq_1 @mA.eq_2)))) (And.intro (And.intro (And.intro @mA.eq_3 @mB.eq_1) (And.intro @mB.eq_2 (And.intro @mL.eq_1 @mL.eq_2)))
  (And.intro (And.intro @look.eq_1 (And.intro @look.eq_2 @wellB.eq_1)) (And.intro @okA.eq_1 (And.intro @okA.eq_2 @okA.eq_3))))) (And.intro (And.intro (And.intro
  (And.intro @okA.eq_4 @okA.eq_5) (And.intro @okA.eq_6 (And.intro @okB.eq_1 @okB.eq_2))) (And.intro (And.intro @okB.eq_3 (And.intro @okB.eq_4
  @List.contains.eq_1.{0})) (And.intro @List.elem.eq_1.{0} (And.intro @List.elem.eq_2.{0} @Int.toNat_zero)))) (And.intro (And.intro (And.intro
  @exists_eq_left'.{1} (And.intro @exists_eq_left.{1} @exists_eq'.{1})) (And.intro @List.getElem?_nil.{0} (And.intro @Int.cast_ofNat_Int @Option.some.injEq.{0})))
  (And.intro (And.intro @decide_true (And.intro @decide_false @Int.zero_add)) (And.intro @Nat.le_refl (And.intro @Bool.true_or @Bool.or_true)))))))))
end Av
end Go.Proofs.Ytbkbppllcjcmhaa

set_option linter.unusedSimpArgs false
set_option linter.unusedVariables false
set_option linter.defProp false
namespace Go.Proofs.Ytbkbppllcjcmhaa
open Go.RowKit
namespace Av
section
variable {E : Tab} {S : ASt} {m : Nat} {ops : List Oper} {acc : List Foot} {KK : ASt → List Foot → Prop}
/-- a call that hangs on a guard, and is left out -/
theorem aops_fnN {f : FuncId} {args : Array Operand} {tys : Array TypeId} {ll : List Oper} {d : Option Tmp} {ty : TypeId} {pos : String} {af : Array Edge} {i d0 : Nat} {want : Bool} (hd : (ops[i]?).bind (·.dst) = some d0) (ht : S.t d0 = .pv (.bool (!want)))
    (h : aops E ops ll (m + 16) (app S d ⟨.out, []⟩) (⟨[d0], [], []⟩ :: acc) KK) : aops E ops (⟨d, .call ⟨.value (.func f), args, tys⟩, ty, pos, af, some (i, want)⟩ :: ll) m S acc KK :=
  aops_fnS hd ht (by cases want <;> decide) h
/-- a call that hangs on a guard that was left out itself -/
theorem aops_fnO {f : FuncId} {args : Array Operand} {tys : Array TypeId} {ll : List Oper} {d : Option Tmp} {ty : TypeId} {pos : String} {af : Array Edge} {i d0 : Nat} {want : Bool} (hd : (ops[i]?).bind (·.dst) = some d0) (ht : S.t d0 = .out)
    (h : aops E ops ll (m + 16) (app S d ⟨.out, []⟩) (⟨[d0], [], []⟩ :: acc) KK) : aops E ops (⟨d, .call ⟨.value (.func f), args, tys⟩, ty, pos, af, some (i, want)⟩ :: ll) m S acc KK := by
  show (guardQ ((ops[i]?).bind (·.dst)) want (aop E m _)).run S ⟨[], []⟩ _
  rw [hd]
  simp only [guardQ, Rq.run, ht]
  exact h
/-- whether a guard is not met at a value, or hangs on what was left out -/
def AV.skips : Bool → AV → Bool
  | w, .pv (.bool b) => b != w
  | _, .out => true
  | _, _ => false
theorem skips_t : AV.skips false (.pv (.bool true)) = true := rfl
theorem skips_f : AV.skips true (.pv (.bool false)) = true := rfl
theorem skips_o (w : Bool) : AV.skips w .out = true := by cases w <;> rfl
theorem skips_or {w : Bool} {a : AV} (h : AV.skips w a = true) : a = .pv (.bool (!w)) ∨ a = .out := by
  unfold AV.skips at h
  split at h
  · rename_i b
    refine .inl ?_
    cases w <;> cases b <;> first | rfl | cases h
  · exact .inr rfl
  · cases h
def sks := (And.intro @skips_t (And.intro @skips_f @skips_o))
/-- a call that hangs on a guard that is not met, or was left out itself -/
theorem aops_fnX {f : FuncId} {args : Array Operand} {tys : Array TypeId} {ll : List Oper} {d : Option Tmp} {ty : TypeId} {pos : String} {af : Array Edge} {i d0 : Nat} {want : Bool} (hd : (ops[i]?).bind (·.dst) = some d0) (ht : AV.skips want (S.t d0) = true)
    (h : aops E ops ll (m + 16) (app S d ⟨.out, []⟩) (⟨[d0], [], []⟩ :: acc) KK) : aops E ops (⟨d, .call ⟨.value (.func f), args, tys⟩, ty, pos, af, some (i, want)⟩ :: ll) m S acc KK :=
  (skips_or ht).elim (fun e => aops_fnN hd e h) (fun e => aops_fnO hd e h)
end
/-- lists of lemmas, for simp -/
def lsa := (And.intro (And.intro @List.replicate_zero.{0} @List.replicate_succ.{0}) (And.intro @List.set_cons_zero.{0} @List.set_cons_succ.{0}))
def lsb := (And.intro (And.intro @Option.isSome_none.{0} @Option.isSome_some.{0}) (And.intro @Option.getD_none.{0} @Option.getD_some.{0}))
def lsm := (And.intro (And.intro @List.map_nil.{0, 0} @List.map_cons.{0, 0}) (And.intro @List.map_append.{0, 0} @List.nil_append.{0}))
def lsc := (And.intro @List.length_set.{0} (And.intro @List.map_set.{0, 0} @List.set_set.{0}))
end Av
end Go.Proofs.Ytbkbppllcjcmhaa
