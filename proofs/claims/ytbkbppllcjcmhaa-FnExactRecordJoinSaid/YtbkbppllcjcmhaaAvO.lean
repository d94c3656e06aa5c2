/-
  Rows that are handed on; a slice that is written out.
  A slice that is written out is a row of the call's own.
  An append to a row of the call's own.
  Append, and parts of slices, as operations.
  Parts of slices and strings; calls.
-/
import Derived.Test.YtbkbppllcjcmhaaAvJ
set_option linter.unusedSimpArgs false
set_option linter.unusedVariables false
namespace Go.Proofs.Ytbkbppllcjcmhaa
open Go.RowKit
namespace Av

section
variable {E : Tab} {m : Nat} {o : Oper} {w0 : W0} {w : World} {N : Nat} {S : ASt} {φ : Nat → Value} {T : Nat → Nat → Nat → Prop} {M : Nat → Prop} {a : Act} {r : ARes} {s s' : Seen}
/-- these are rows that are handed on -/
def FrzU (S : ASt) (u : List (Nat × Blk)) : Prop := ∀ x ∈ u, ∃ e rows, x.2 = .frz e rows ∧ ((∃ own, S.h x.1 = .row own e rows) ∨ S.h x.1 = .frz e rows)
theorem freeze_run {K : ARes → Seen → Prop} : ∀ {l : List Nat} {k : List (Nat × Blk) → Rq} {s : Seen}, (freeze l k).run S s K → ∃ u s1, (k u).run S s1 K ∧ FrzU S u ∧ (∀ x ∈ u, x.1 ∈ l) ∧ ∀ b ∈ l, (S.h b).live = true → ∃ B, (b, B) ∈ u ∨ ∃ cs, S.h b = .box cs
  | [], k, s, hr => ⟨[], s, hr, (fun x hx => by cases hx), (fun x hx => by cases hx), (fun b hb => by cases hb)⟩
  | b :: l, k, s, hr => by
    unfold freeze at hr
    simp only [Rq.run] at hr
    obtain ⟨u, s1, hr1, h1, h2, h3⟩ := freeze_run (l := l) hr
    split at hr1
    · rename_i own e rows hB
      refine ⟨_, _, hr1, fun x hx => ?_, fun x hx => ?_, fun b' hb' hl => ?_⟩
      · rcases List.mem_cons.1 hx with rfl | hx
        · exact ⟨e, rows, rfl, .inl ⟨own, hB⟩⟩
        · exact h1 x hx
      · rcases List.mem_cons.1 hx with rfl | hx
        · exact List.mem_cons_self ..
        · exact List.mem_cons_of_mem _ (h2 x hx)
      · rcases List.mem_cons.1 hb' with rfl | hb'
        · exact ⟨_, .inl (List.mem_cons_self ..)⟩
        · obtain ⟨B, hB'⟩ := h3 b' hb' hl
          exact ⟨B, hB'.imp (List.mem_cons_of_mem _) id⟩
    · exact hr1.elim
    · rename_i hne hno
      refine ⟨_, _, hr1, h1, fun x hx => List.mem_cons_of_mem _ (h2 x hx), fun b' hb' hl => ?_⟩
      rcases List.mem_cons.1 hb' with rfl | hb'
      · cases hB : S.h b' with
        | row own e rows => exact absurd hB (hne own e rows)
        | box cs => exact ⟨.none, .inr ⟨cs, rfl⟩⟩
        | none => rw [hB] at hl; cases hl
        | dead => rw [hB] at hl; cases hl
        | frz => rw [hB] at hl; cases hl
        | opn e rows i cs => exact absurd hB (hno e rows i cs)
        | tree => rw [hB] at hl; cases hl
      · exact h3 b' hb' hl
theorem upd_self {α : Type} {f : Nat → α} {k : Nat} {v : α} (h : f k = v) : upd f k v = f := by
  funext x; unfold upd; split
  · rename_i e; rw [e, h]
  · rfl
theorem freeze_rel : ∀ {u : List (Nat × Blk)} {S : ASt} {M : Nat → Prop}, FrzU S u → Rel E.P w0 N S φ T M a w →
    ∃ M', Rel E.P w0 N ⟨S.t, updL S.h u⟩ φ T M' a w ∧ (∀ g, M' g → M g) ∧ (∀ x ∈ u, (S.h x.1).live = true → ∀ g, blk (φ x.1) = some g → ¬ M' g) ∧
      (∀ b, updL S.h u b = S.h b ∨ ∃ e rows, updL S.h u b = .frz e rows ∧ ∃ own, S.h b = .row own e rows) ∧ ∀ x ∈ u, (updL S.h u x.1).live = false
  | [], S, M, _, h => ⟨M, h, fun _ h => h, (fun x hx => by cases hx), fun b => .inl rfl, (fun x hx => by cases hx)⟩
  | (b, B) :: u, S, M, hu, h => by
    obtain ⟨e, rows, rfl, hB⟩ := hu (b, B) (List.mem_cons_self ..)
    rcases hB with ⟨own, hB⟩ | hB
    · have h1 := h.freeze hB
      have hu1 : FrzU ⟨S.t, upd S.h b (.frz e rows)⟩ u := fun x hx => by
        obtain ⟨e', rows', he, hx'⟩ := hu x (List.mem_cons_of_mem _ hx)
        refine ⟨e', rows', he, ?_⟩
        by_cases hxb : x.1 = b
        · rw [hxb] at hx'
          simp only [hxb, upd_same]
          simp only at hB
          rcases hx' with ⟨own', hx'⟩ | hx'
          · rw [hB] at hx'; injection hx' with _ e1 e2; subst e1; subst e2; exact .inr rfl
          · rw [hB] at hx'; cases hx'
        · simp only [upd, hxb, if_false]; exact hx'
      obtain ⟨M', h2, h3, h4, h5, h6⟩ := freeze_rel (u := u) hu1 h1
      refine ⟨M', h2, fun g hg => (h3 g hg).1, fun x hx hl g eg => ?_, fun b' => ?_, fun x hx => ?_⟩
      · rcases List.mem_cons.1 hx with rfl | hx
        · exact fun hm => (h3 g hm).2 eg
        · by_cases hxb : x.1 = b
          · rw [hxb] at eg; exact fun hm => (h3 g hm).2 eg
          · exact h4 x hx (by simp only [upd, hxb, if_false]; exact hl) g eg
      · rcases h5 b' with h5 | ⟨e', rows', h5, own', h6⟩
        · by_cases hb : b' = b
          · subst hb
            refine .inr ⟨e, rows, ?_, own, hB⟩
            show updL (upd S.h b' (.frz e rows)) u b' = _
            rw [h5]; exact upd_same _ _ _
          · refine .inl ?_
            show updL (upd S.h b (.frz e rows)) u b' = _
            rw [h5]; simp [upd, hb]
        · by_cases hb : b' = b
          · subst hb; simp only [upd_same] at h6; cases h6
          · refine .inr ⟨e', rows', h5, own', ?_⟩
            simpa [upd, hb] using h6
      · rcases List.mem_cons.1 hx with rfl | hx
        · show (updL (upd S.h b (.frz e rows)) u b).live = false
          rcases h5 b with h5 | ⟨e', rows', h5, _⟩
          · rw [h5]; show (upd S.h b (.frz e rows) b).live = false; rw [upd_same]; rfl
          · rw [h5]; rfl
        · exact h6 x hx
    · have e1 : upd S.h b (.frz e rows) = S.h := upd_self hB
      have hu1 : FrzU S u := fun x hx => hu x (List.mem_cons_of_mem _ hx)
      obtain ⟨M', h2, h3, h4, h5, h6⟩ := freeze_rel (u := u) hu1 h
      have e2 : updL S.h ((b, .frz e rows) :: u) = updL S.h u := by show updL (upd S.h b _) u = _; rw [e1]
      rw [e2]
      refine ⟨M', h2, h3, fun x hx hl g eg => ?_, h5, fun x hx => ?_⟩
      · rcases List.mem_cons.1 hx with rfl | hx
        · simp only at hB; rw [hB] at hl; cases hl
        · exact h4 x hx hl g eg
      · rcases List.mem_cons.1 hx with rfl | hx
        · rcases h5 b with h5 | ⟨e', rows', h5, _⟩
          · simp only; rw [h5]; simp only at hB; rw [hB]; rfl
          · simp only; rw [h5]; rfl
        · exact h6 x hx

/-- a cell is of memory of the call's own -/
def OwnAV (S : ASt) (x : AV) : Prop := (∃ p, x = .pv p ∧ p.flat = true) ∨ (∃ e, x = .nil e) ∨ ∃ b e rows, x = .sl b ∧ S.h b = .row true e rows
theorem ownQ_run {K : ARes → Seen → Prop} : ∀ {xs : List AV} {k : Bool → Rq} {s : Seen}, (ownQ xs k).run S s K → ∃ q s1, (k q).run S s1 K ∧ (q = true → ∀ x ∈ xs, OwnAV S x)
  | [], k, s, hr => ⟨true, s, hr, fun _ x hx => by cases hx⟩
  | .pv p :: l, k, s, hr => by
    obtain ⟨q, s1, hr1, h1⟩ := ownQ_run (xs := l) hr
    refine ⟨_, _, hr1, fun e x hx => ?_⟩
    rw [Bool.and_eq_true] at e
    rcases List.mem_cons.1 hx with rfl | hx
    · exact .inl ⟨p, rfl, e.1⟩
    · exact h1 e.2 x hx
  | .nil e :: l, k, s, hr => by
    obtain ⟨q, s1, hr1, h1⟩ := ownQ_run (xs := l) (k := k) hr
    refine ⟨_, _, hr1, fun eq x hx => ?_⟩
    rcases List.mem_cons.1 hx with rfl | hx
    · exact .inr (.inl ⟨e, rfl⟩)
    · exact h1 eq x hx
  | .sl b :: l, k, s, hr => by
    unfold ownQ at hr
    simp only [Rq.run] at hr
    obtain ⟨q, s1, hr1, h1⟩ := ownQ_run (xs := l) hr
    refine ⟨_, _, hr1, fun eq x hx => ?_⟩
    rw [Bool.and_eq_true] at eq
    rcases List.mem_cons.1 hx with rfl | hx
    · refine .inr (.inr ?_)
      obtain ⟨e1, _⟩ := eq
      split at e1
      · rename_i own e rows hB
        subst e1
        exact ⟨b, e, rows, rfl, hB⟩
      · cases e1
    · exact h1 eq.2 x hx
  | .und :: l, k, s, hr => ⟨false, s, hr, fun e => by cases e⟩
  | .out :: l, k, s, hr => ⟨false, s, hr, fun e => by cases e⟩
  | .ptr _ _ :: l, k, s, hr => ⟨false, s, hr, fun e => by cases e⟩
  | .eltS .. :: l, k, s, hr => ⟨false, s, hr, fun e => by cases e⟩
  | .eltP .. :: l, k, s, hr => ⟨false, s, hr, fun e => by cases e⟩
  | .agg _ :: l, k, s, hr => ⟨false, s, hr, fun e => by cases e⟩
  | .tup _ :: l, k, s, hr => ⟨false, s, hr, fun e => by cases e⟩
theorem mem_slots {b : Nat} : ∀ {xs : List AV}, AV.sl b ∈ xs → b ∈ slots xs
  | [], h => by cases h
  | x :: l, h => by
    rcases List.mem_cons.1 h with rfl | h
    · simp [slots]
    · have := mem_slots h
      unfold slots
      split
      · rename_i e; cases e
      · rename_i e; injection e with _ e; subst e; exact List.mem_cons_of_mem _ this
      · rename_i e; injection e with _ e; subst e; exact List.mem_append_right _ this
      · rename_i e; injection e with _ e; subst e; exact this
theorem slots_leaf {b : Nat} : ∀ {xs : List AV}, xs.all AV.leaf = true → b ∈ slots xs → AV.sl b ∈ xs
  | [], _, h => by simp [slots] at h
  | x :: l, hl, h => by
    rw [List.all_cons, Bool.and_eq_true] at hl
    unfold slots at h
    split at h
    · rename_i e; cases e
    · rename_i e; injection e with e1 e2; subst e1; subst e2
      rcases List.mem_cons.1 h with rfl | h
      · exact List.mem_cons_self ..
      · exact List.mem_cons_of_mem _ (slots_leaf hl.2 h)
    · rename_i e; injection e with e1 e2; subst e1; exact absurd hl.1 (by simp [AV.leaf])
    · rename_i e; injection e with e1 e2; subst e2
      exact List.mem_cons_of_mem _ (slots_leaf hl.2 h)
/-- no row is there twice -/
theorem slots_inj : ∀ {xs : List AV}, nodupB (slots xs) = true → ∀ {i j b : Nat}, xs[i]? = some (.sl b) → xs[j]? = some (.sl b) → i = j
  | [], _, i, j, b, h, _ => by simp at h
  | x :: l, hn, i, j, b, hi, hj => by
    have tl : nodupB (slots l) = true := by
      unfold slots at hn
      split at hn
      · rename_i e; cases e
      · rename_i e; injection e with _ e2; subst e2
        simp only [nodupB, Bool.and_eq_true] at hn; exact hn.2
      · rename_i cs l' e; injection e with _ e2; subst e2
        have : ∀ (q p : List Nat), nodupB (q ++ p) = true → nodupB p = true := fun q p => by
          induction q with
          | nil => exact id
          | cons y q ih => intro hh; simp only [List.cons_append, nodupB, Bool.and_eq_true] at hh; exact ih hh.2
        exact this _ _ hn
      · rename_i e; injection e with _ e2; subst e2; exact hn
    have hd : ∀ {k : Nat}, x = .sl b → l[k]? = some (.sl b) → False := fun {k} e hk => by
      subst e
      simp only [slots, nodupB, Bool.and_eq_true, Bool.not_eq_true', List.contains_eq_mem, decide_eq_false_iff_not] at hn
      exact hn.1 (mem_slots (List.mem_of_getElem? hk))
    cases i with
    | zero =>
      cases j with
      | zero => rfl
      | succ j =>
        simp only [List.getElem?_cons_zero, Option.some.injEq] at hi
        exact (hd hi (by simpa using hj)).elim
    | succ i =>
      cases j with
      | zero =>
        simp only [List.getElem?_cons_zero, Option.some.injEq] at hj
        exact (hd hj (by simpa using hi)).elim
      | succ j =>
        have := slots_inj tl (i := i) (j := j) (by simpa using hi) (by simpa using hj)
        omega
end
end Av
end Go.Proofs.Ytbkbppllcjcmhaa

namespace Go.Proofs.Ytbkbppllcjcmhaa
open Go.RowKit
namespace Av

theorem updL_append {α : Type} : ∀ (u v : List (Nat × α)) (f : Nat → α), updL f (u ++ v) = updL (updL f u) v
  | [], _, _ => rfl
  | (_, _) :: u, v, _ => updL_append u v _
theorem getD_in {α : Type} {l : List α} {k : Nat} (d : α) (hk : k < l.length) : l.getD k d = l[k] := by rw [List.getD_eq_getElem?_getD, List.getElem?_eq_getElem hk]; rfl
/-- the row is none of these -/
def b2p (x : Nat) (cs : List AV) : Prop := AV.sl x ∉ cs
section
variable {E : Tab} {m : Nat} {o : Oper} {w0 : W0} {w : World} {N : Nat} {S : ASt} {φ : Nat → Value} {T : Nat → Nat → Nat → Prop} {M : Nat → Prop} {a : Act} {r : ARes} {s s' : Seen}
/-- the memory of a row of the call's own -/
def rowSet (φ : Nat → Value) (T : Nat → Nat → Nat → Prop) (c g : Nat) : Prop := blk (φ c) = some g ∨ ∃ k, T c k g
theorem row_own (h : Rel E.P w0 N S φ T M a w) {c : Nat} {e : TypeId} {rows : List (List PV)} (hc : S.h c = .row true e rows) : Ow E.P w (rowSet φ T c) (.lst e rows) (φ c) := by
  have hb := h.blks c
  rw [hc] at hb
  obtain ⟨xs, f, ho, hs, hf, hcc⟩ := hb
  have hsl : ∃ A n c', φ c = .slice A n c' := by
    obtain ⟨A, c', e1⟩ := rd_slice (row_rd h hc)
    exact ⟨_, _, _, e1⟩
  have hbo := blk_own _ hsl
  refine .lst _ e rows _ xs f (T c) ⟨ho.1, ?_⟩ hs (fun g hg => .inl (by rw [hbo]; exact hg)) (fun k g hk => ⟨.inr ⟨k, hk⟩, fun eg => ?_⟩) (fun k k' g hk hk' => (h.apart c k c k' g hk hk').2) hf hcc
  · rcases ho.2 with h0 | ⟨g, cap, cur, hv, hbg, rest⟩
    · exact .inl h0
    · exact .inr ⟨g, cap, cur, hv, Nat.zero_le _, rest⟩
  · exact (h.own c k g hk).2.2 (by rw [hc]; rfl) (h.mutb c g (by rw [hc]; rfl) (by rw [hbo]; exact eg))
/-- the memory below a new row of these cells -/
def cellSet (φ : Nat → Value) (T : Nat → Nat → Nat → Prop) (cs : List AV) (k g : Nat) : Prop := ∃ c, cs[k]? = some (.sl c) ∧ rowSet φ T c g
theorem cellSet_in (h : Rel E.P w0 N S φ T M a w) {cs : List AV} (ho : ∀ x ∈ cs, OwnAV S x) {k g : Nat} (hk : cellSet φ T cs k g) : ∃ c e rows, cs[k]? = some (.sl c) ∧ S.h c = .row true e rows ∧ rowSet φ T c g ∧ w0.heap.size ≤ g ∧ g < w.heap.size := by
  obtain ⟨c, hc, hr⟩ := hk
  obtain ⟨e, rows, hB⟩ : ∃ e rows, S.h c = .row true e rows := by
    rcases ho _ (List.mem_of_getElem? hc) with ⟨p, e, _⟩ | ⟨e, e'⟩ | ⟨b, e, rows, e', hB⟩
    · cases e
    · cases e'
    · injection e' with e'; subst e'; exact ⟨e, rows, hB⟩
  refine ⟨c, e, rows, hc, hB, hr, ?_⟩
  rcases hr with hr | ⟨k', hr⟩
  · exact ⟨h.low c g (by rw [hB]; rfl) hr, h.mlt g (h.mutb c g (by rw [hB]; rfl) hr)⟩
  · exact ⟨(h.own c k' g hr).1, (h.own c k' g hr).2.1⟩
theorem rowSet_inj (h : Rel E.P w0 N S φ T M a w) {c c' g : Nat} (hc : (S.h c).live = true) (hc' : (S.h c').live = true) (ht : (S.h c).isTree = false) (ht' : (S.h c').isTree = false) (h1 : rowSet φ T c g) (h2 : rowSet φ T c' g) : c = c' := by
  rcases h1 with h1 | ⟨k, h1⟩ <;> rcases h2 with h2 | ⟨k', h2⟩
  · exact h.disj c c' g hc hc' h1 h2
  · exact absurd (h.mutb c g hc h1) ((h.own c' k' g h2).2.2 ht')
  · exact absurd (h.mutb c' g hc' h2) ((h.own c k g h1).2.2 ht)
  · exact (h.apart c k c' k' g h1 h2).1
/-- a cell that is handed on is of its memory -/
theorem sn_own (h : Rel E.P w0 N S φ T M a w) {x : AV} {p : PV} {v : Value} (hx : RaS E w M φ S x v) (hs : Sn S x p) (ho : OwnAV S x) {Q : Nat → Prop} (hQ : ∀ c, x = .sl c → ∀ g, rowSet φ T c g → Q g) : Ow E.P w Q p v := by
  rcases ho with ⟨q, rfl, hf⟩ | ⟨e, rfl⟩ | ⟨b, e, rows, rfl, hB⟩
  · rcases hs with e1 | ⟨_, e1, _⟩ | ⟨_, _, _, e1, _⟩
    · injection e1 with e1; subst e1
      exact Rd.flat_ow (ra_pv hx) hf
    · cases e1
    · cases e1
  · rcases hs with e1 | ⟨_, e1, rfl⟩ | ⟨_, _, _, e1, _⟩
    · cases e1
    · cases hx with
      | nil => exact Ow.nil _ _
    · cases e1
  · rcases hs with e1 | ⟨_, e1, _⟩ | ⟨b', e', rows', e1, rfl, hb'⟩
    · cases e1
    · cases e1
    · injection e1 with e1; subst e1
      have : e' = e ∧ rows' = rows := by
        rcases hb' with ⟨own', hb'⟩ | hb' <;> rw [hB] at hb'
        · injection hb' with _ e1 e2; exact ⟨e1.symm, e2.symm⟩
        · cases hb'
      obtain ⟨rfl, rfl⟩ := this
      rw [ra_sl hx]
      exact (row_own h hB).mono (hQ b rfl)
/-- a cell that is handed on reads as it did -/
theorem sn_rd (h : Rel E.P w0 N S φ T M a w) {S0 : ASt} {x : AV} {p : PV} {v : Value} (hx : RaS E w M φ S x v) (hs : Sn S0 x p) (hk : ∀ b e rows, x = .sl b → ((∃ own, S0.h b = .row own e rows) ∨ S0.h b = .frz e rows) → S.h b = .frz e rows) : Rd E.P w M p v := by
  rcases hs with rfl | ⟨e, rfl, rfl⟩ | ⟨b, e, rows, rfl, rfl, hB⟩
  · exact ra_pv hx
  · cases hx with
    | nil => exact .nil _ _ _
  · have h1 := h.blks b
    rw [hk b e rows rfl hB] at h1
    rw [ra_sl hx]
    exact h1
theorem op_buildSlice {t : TypeId} {len : Nat} {parts : Array (Nat × Operand)} (ho : o.op = .buildSlice t len parts) (hm : S.h m = .none) (h : Rel E.P w0 N S φ T M a w) (hr : (aop E m o).run S s (isRes r s')) : sure E.P o a w (After E w0 N S r a) := by
  unfold aop at hr
  rw [ho] at hr
  simp only at hr
  split at hr
  · rename_i x hx
    split at hr
    · rename_i e hk
      split at hr
      · rename_i y hy
        obtain ⟨⟨hpos, hbig⟩, hr1⟩ := hr
        obtain ⟨n, rows, cs, vss, s1, hr2, hn, hrl, hrs, hps, hvs, hcr, hleaf, hfl, hsn⟩ := rowsQ_sound h hr1
        obtain ⟨hnl, hr3⟩ := hr2
        obtain ⟨own, s2, hr4, hown⟩ := ownQ_run hr3
        obtain ⟨u, s3, hr5, hu1, hu2, hu3⟩ := freeze_run hr4
        obtain ⟨rfl, _⟩ := hr5
        obtain ⟨i, z, hi, hz, hs, hb, hzz, hzs⟩ := tab_info hy
        have hcs := tab_size hy
        obtain ⟨M', h', hM', hfz, hup, hdl⟩ := freeze_rel hu1 h
        have hvl : vss.length = parts.toList.length := by
          have := congrArg List.length hps
          simpa using this.symm
        have hlen : len = parts.toList.length := by omega
        have hvf : vss.flatten.length = len * y.size := by rw [flat_length hvs, hvl, hlen]
        have hfill := fill_rows (size := y.size) (i := 0) (arr := (Array.range (len * y.size)).map (z.cells[· % z.cells.size]!)) (ps := parts.toList.map fun p => (p.1, a.eval p.2)) hps hvs (by simp [hvl, hlen])
        simp only [Nat.zero_mul, List.take_zero, List.nil_append] at hfill
        have hrun : (Instr.buildSlice t len (parts.map fun p => (p.1, a.eval p.2))).run E.P w = .ok (.slice (some ⟨w.heap.size, 0, none⟩) len len) (w.alloc (.cells vss.flatten.toArray e)) := by
          unfold Instr.buildSlice
          rw [Sem.run_bind, run_underlying (tab_slice hx hk), Result.andThen_ok]
          simp only
          have e1 : ¬ (len * y.size > 2 ^ 24) := by omega
          by_cases h0 : len * y.size = 0
          · have hv0 : vss.flatten = [] := List.eq_nil_of_length_eq_zero (by omega)
            rw [h0] at hfill
            simp only [Array.range_zero', Array.map_empty] at hfill
            simp [sizeOf, typeInfo, hi, hs, h0, newRow, hfill, hv0, Array.range_zero']
          · simp [sizeOf, typeInfo, zeroValue, hi, hz, hs, e1, h0, newRow, hfill]
        have hm' : updL S.h u m = .none := by
          rcases hup m with e1 | ⟨e', rows', _, own', e2⟩
          · rw [e1, hm]
          · rw [hm] at e2; cases e2
        have hown0 : (w.alloc (.cells vss.flatten.toArray e)).ownsRow w0.heap.size e y.size (.slice (some ⟨w.heap.size, 0, none⟩) len len) len vss.flatten := by
          have := World.ownsRow_lit (base := w0.heap.size) (e := e) (size := y.size) w vss.flatten.toArray len h.below.size (by unfold maxLen; have := Nat.le_mul_of_pos_right len hpos; omega) (by simpa using hvf)
          simpa using this
        have hgr : w.grownBy (w.alloc (.cells vss.flatten.toArray e)) none := World.grownBy_alloc w _ none
        have hbl : ∀ g, blk (.slice (some ⟨w.heap.size, 0, none⟩) len len) = some g → w.heap.size ≤ g ∧ g < (w.alloc (.cells vss.flatten.toArray e)).heap.size := fun g eg => by have := blk_slice _ _ _ _ _ eg; subst this; simp
        -- the cells
        have hcell : ∀ j (hj : j < rows.length) l (hl : l < rows[j].length), ∃ hk : j * y.size + l < cs.length, ∃ hk' : j * y.size + l < vss.flatten.length, Sn S cs[j * y.size + l] rows[j][l] ∧ RaS E w M φ S cs[j * y.size + l] vss.flatten[j * y.size + l] := by
          intro j hj l hl
          have h1 := getElem_flat hrs hj hl
          obtain ⟨h2, h3⟩ := List.getElem?_eq_some_iff.1 h1
          have hk : j * y.size + l < cs.length := by omega
          refine ⟨hk, by rw [hcr.1]; exact hk, ?_, hcr.2 _ hk⟩
          have := hsn _ hk
          rw [h3] at this
          exact this
        have hrowin : ∀ x ∈ cs, ∀ b, x = .sl b → ∀ e rows, ((∃ own, S.h b = .row own e rows) ∨ S.h b = .frz e rows) → updL S.h u b = .frz e rows := by
          intro x hx b hxb e' rows' hB
          subst hxb
          rcases hB with ⟨own', hB⟩ | hB
          · obtain ⟨B, hB' | ⟨cs', hB'⟩⟩ := hu3 b (mem_slots hx) (by rw [hB]; rfl)
            · have := hdl _ hB'
              rcases hup b with e1 | ⟨e1, r1, e2, o1, e3⟩
              · rw [e1, hB] at this; cases this
              · rw [hB] at e3; injection e3 with _ e4 e5; subst e4; subst e5; exact e2
            · rw [hB] at hB'; cases hB'
          · rcases hup b with e1 | ⟨e1, r1, e2, o1, e3⟩
            · rw [e1, hB]
            · rw [hB] at e3; cases e3
        have hf : ∀ k, k < rows.length * E.P.cellsOf e → vss.flatten[k]? = some (vss.flatten.getD k undef) := fun k hk => by
          rw [hcs, hrl, ← hlen, ← hvf] at hk
          rw [getD_in _ hk, List.getElem?_eq_getElem hk]
        have hlr : rows.length = len := by omega
        refine sure_value (v := .slice (some ⟨w.heap.size, 0, none⟩) len len) (w' := w.alloc (.cells vss.flatten.toArray e)) ?_ ?_
        · unfold execOp
          rw [ho]
          exact (Sem.run_bind ..).trans (by rw [hrun]; rfl)
        · unfold After
          rw [updL_append]
          show ∃ φ' T' M', Rel E.P w0 N ⟨S.t, upd (updL S.h u) m _⟩ φ' T' M' a _ ∧ Ra E.P _ M' φ' (fun b => (upd (updL S.h u) m _ b).known = true) (.sl m) _
          have fin : ∀ {B : Blk} {M2 : Nat → Prop}, B.known = true → Ra E.P (w.alloc (.cells vss.flatten.toArray e)) M2 (upd φ m (.slice (some ⟨w.heap.size, 0, none⟩) len len)) (fun b => (upd (updL S.h u) m B b).known = true) (.sl m) (.slice (some ⟨w.heap.size, 0, none⟩) len len) := fun {B M2} hB => by
            have := Ra.sl (P := E.P) (w := w.alloc (.cells vss.flatten.toArray e)) (M := M2) (φ := upd φ m (.slice (some ⟨w.heap.size, 0, none⟩) len len)) (L := fun b => (upd (updL S.h u) m B b).known = true) m (by rw [upd_same]; exact hB)
            rw [upd_same] at this
            exact this
          by_cases hq : own = true ∧ nodupB (slots cs) = true
          · obtain ⟨rfl, hnd⟩ := hq
            have hoAll := hown rfl
            simp only [hnd, Bool.and_self]
            have hlive : ∀ c e rows, S.h c = .row true e rows → (S.h c).live = true := fun c e rows hc => by rw [hc]; rfl
            refine ⟨_, _, _, h'.new hm' hgr (B := .row true e rows) rfl hbl (fun x k g => if x = m then cellSet φ T cs k g else (b2p x cs ∧ T x k g)) rfl ?_ ?_ ?_ ?_, fin rfl⟩
            · intro x k g hx hxm
              simp only [hxm, if_false] at hx
              exact hx.2
            · intro x hxm ⟨e', rows', hB⟩
              funext k g
              simp only [hxm, if_false]
              have : b2p x cs := fun hc => by
                have h1 := mem_slots hc
                simp only at hB
                rcases hoAll _ hc with ⟨p, e5, _⟩ | ⟨e5, e6⟩ | ⟨b5, e5, rows5, e6, hB5⟩
                · cases e5
                · cases e6
                injection e6 with e6
                subst e6
                rcases hup x with e1 | ⟨e1, r1, e2, _⟩
                · have h2 : (S.h x).live = true := by rw [hB5]; rfl
                  obtain ⟨B, hB' | ⟨cs', hB'⟩⟩ := hu3 x h1 h2
                  · have := hdl _ hB'; simp only at this; rw [e1, hB5] at this; cases this
                  · rw [hB5] at hB'; cases hB'
                · rcases hB with hB | hB | ⟨_, _, hB⟩ <;> rw [e2] at hB <;> cases hB
              simp [this]
            · intro k g hk
              simp only [if_true] at hk
              obtain ⟨c, e', rows', hck, hcB, hrs', hg1, hg2⟩ := cellSet_in h hoAll hk
              refine ⟨⟨hg1, hg2, fun hmm => ?_⟩, fun k' hk' => ?_, fun x k' hxm hx => ?_⟩
              · rcases hrs' with e1 | ⟨k2, e1⟩
                · obtain ⟨B, hB' | ⟨cs', hB'⟩⟩ := hu3 c (mem_slots (List.mem_of_getElem? hck)) (by rw [hcB]; rfl)
                  · exact hfz _ hB' (by rw [hcB]; rfl) g e1 hmm
                  · rw [hcB] at hB'; cases hB'
                · exact (h.own c k2 g e1).2.2 (by rw [hcB]; rfl) (hM' g hmm)
              · simp only [if_true] at hk'
                obtain ⟨c', e2, rows2, hck', hcB', hrs2, _⟩ := cellSet_in h hoAll hk'
                have := rowSet_inj h (hlive _ _ _ hcB) (hlive _ _ _ hcB') (by rw [hcB]; rfl) (by rw [hcB']; rfl) hrs' hrs2
                subst this
                exact slots_inj hnd hck hck'
              · simp only [hxm, if_false] at hx
                rcases hrs' with e1 | ⟨k2, e1⟩
                · exact h.far hx.2 (hlive _ _ _ hcB) e1
                · have := (h.apart x k' c k2 g hx.2 e1).1
                  subst this
                  exact hx.1 (List.mem_of_getElem? hck)
            · refine ⟨vss.flatten, fun k => vss.flatten.getD k undef, by rw [hcs, hlr]; exact hown0, fun r hr => by rw [hcs]; exact hrs r hr, hf, fun j hj l hl => ?_⟩
              obtain ⟨hk1, hk2, hsn1, hra1⟩ := hcell j hj l hl
              have hin : ∀ {k : Nat} (hk : k < cs.length), OwnAV S cs[k] := fun hk => hoAll _ (List.getElem_mem hk)
              have hgd : vss.flatten.getD (j * y.size + l) undef = vss.flatten[j * y.size + l] := getD_in _ hk2
              simp only [if_true, hcs, hgd]
              have := sn_own h hra1 hsn1 (hin hk1) (Q := fun g => cellSet φ T cs (j * y.size + l) g) (fun c hc g hg => ⟨c, by rw [List.getElem?_eq_getElem hk1, hc], hg⟩)
              exact this.keep (fun g hg hlt => Below.heap_alloc w _ g hlt)
          · have hfalse : (own && nodupB (slots cs)) = false := by
              cases own <;> cases hnd : nodupB (slots cs) <;> simp_all
            rw [hfalse]
            refine ⟨_, _, _, h'.new0 hm' hgr (B := .row false e rows) rfl rfl hbl ?_, fin rfl⟩
            refine ⟨vss.flatten, fun k => vss.flatten.getD k undef, by rw [hcs, hlr]; exact hown0, fun r hr => by rw [hcs]; exact hrs r hr, hf, fun j hj l hl => ?_⟩
            obtain ⟨hk1, hk2, hsn1, _⟩ := hcell j hj l hl
            have hgd : vss.flatten.getD (j * y.size + l) undef = vss.flatten[j * y.size + l] := getD_in _ hk2
            simp only [hcs, hgd]
            have hra2 : RaS E w M' φ ⟨S.t, updL S.h u⟩ cs[j * y.size + l] vss.flatten[j * y.size + l] := (hcr.2 _ hk1).keep (fun p v hr => hr.weak hM') (fun b hb => ⟨by
              rcases hup b with e1 | ⟨e1, r1, e2, _⟩
              · show (updL S.h u b).known = true; rw [e1]; exact hb
              · show (updL S.h u b).known = true; rw [e2]; rfl, rfl⟩)
            have := sn_rd h' hra2 hsn1 (fun b e rows hxb hB => hrowin _ (List.getElem_mem hk1) b hxb e rows hB)
            exact Rd.keep this ⟨by simp, fun b hb _ => Below.heap_alloc w _ b hb⟩ (fun b hb hmm => hmm.resolve_right (fun eg => by have := (hbl b eg).1; omega))
      · exact hr.elim
    · exact hr.elim
  · exact hr.elim
/-- a row of the call's own is told of anew, other memory lies below it -/
theorem row_setO (h : Rel E.P w0 N S φ T M a w) {b : Nat} {e : TypeId} {rows rows' : List (List PV)} {cur cur' : Array Value} {g n cap : Nat} {ty : TypeId} (T' : Nat → Nat → Nat → Prop) (hB : S.h b = .row true e rows) (hv : φ b = .slice (some ⟨g, 0, none⟩) n cap) (hg : w.heap[g]? = some (.cells cur ty))
    (hsz : cur'.size = cur.size) (hlen : rows'.length = rows.length) (hrs : ∀ r ∈ rows', r.length = E.P.cellsOf e) (f : Nat → Value) (hf : ∀ k, k < rows'.length * E.P.cellsOf e → cur'[k]? = some (f k))
    (hT : ∀ x k g, x ≠ b → T' x k g → T x k g) (hTl : ∀ x, x ≠ b → (∃ e rows, S.h x = .row true e rows ∨ S.h x = .tree e rows ∨ ∃ i cs, S.h x = .opn e rows i cs) → T' x = T x)
    (hTb : ∀ k g, T' b k g → (w0.heap.size ≤ g ∧ g < w.heap.size ∧ ¬ M g) ∧ (∀ k', T' b k' g → k = k') ∧ ∀ x k', x ≠ b → ¬ T' x k' g)
    (hc : ∀ i (hi : i < rows'.length) j (hj : j < rows'[i].length), Ow E.P w (T' b (i * E.P.cellsOf e + j)) rows'[i][j] (f (i * E.P.cellsOf e + j))) :
    ∃ M', Rel E.P w0 N ⟨S.t, upd S.h b (.row true e rows')⟩ φ T' M' a (w.setRow g cur') := by
  have hbl : (S.h b).live = true := by rw [hB]; rfl
  have hbg : blk (φ b) = some g := by rw [hv]; rfl
  have hM := h.mutb b g hbl hbg
  have hgr : w.grownBy (w.setRow g cur') (some g) := ⟨rfl, rfl, rfl, by simp, fun k _ hk => setRow_other w g k _ (fun e => hk (by rw [e]))⟩
  have h1 := h.kill b (by rw [hB]; rfl)
  have h2 := h1.grown hgr (fun g' e => by
    injection e with e; subst e
    refine ⟨hM, h.low b _ hbl hbg, fun b' hl e' => ?_, fun x k hx ht => ?_⟩
    · simp only [upd] at hl
      split at hl
      · cases hl
      · rename_i hne; exact hne (h.disj b' b _ hl hbl e' hbg)
    · simp only [upd] at hx
      split at hx
      · cases hx
      · exact (h.tree x k _ ht hx).2 b hbl hbg) (fun _ => False) (fun _ hf => hf.elim)
  have h3 := h2.set b (.row true e rows') (φ b) T' rfl (by show (upd S.h b .dead b).live = false; rw [upd_same]; rfl) (fun _ => rfl) ?_ ?_ (fun x k g hx hne => hT x k g hne hx) (fun x hx hxx => hTl x hx (by simpa only [upd, hx, if_false] using hxx)) (fun k g' ht => ⟨⟨(hTb k g' ht).1.1, by have := (hTb k g' ht).1.2.1; simpa using this, fun _ hm => (hTb k g' ht).1.2.2 (hm.resolve_right id), fun e => by cases e⟩, (hTb k g' ht).2.1, (hTb k g' ht).2.2⟩)
  · have e1 : upd (upd S.h b .dead) b (.row true e rows') = upd S.h b (.row true e rows') := by funext x; simp only [upd]; split <;> rfl
    have e2 : upd φ b (φ b) = φ := by funext x; simp only [upd]; split <;> simp_all
    simp only [e1, e2] at h3
    exact ⟨_, h3⟩
  · have hb := h.blks b
    rw [hB] at hb
    obtain ⟨xs, f0, ho, hs, hf0, hc0⟩ := hb
    rcases ho.2 with ⟨hv', _⟩ | ⟨g', cap', cur0, hv', hbg', hg', hn, hm, hcs, htk⟩
    · rw [hv] at hv'; cases hv'
    · have hv2 := hv
      rw [hv] at hv'
      injection hv' with e1 e2 e3
      injection e1 with e1
      injection e1 with e1
      subst e1; subst e3; subst e2
      rw [hg] at hg'
      injection hg' with hg'
      injection hg' with hg1 hg2 _
      subst hg1; subst hg2
      have hlen' : (cur'.toList.take (rows'.length * E.P.cellsOf ty)).length = rows'.length * E.P.cellsOf ty := by
        have : rows.length * E.P.cellsOf ty ≤ cap * E.P.cellsOf ty := Nat.mul_le_mul_right _ hn
        have e0 : cur'.toList.length = cap * E.P.cellsOf ty := by rw [Array.length_toList, hsz, hcs]
        rw [List.length_take, e0, hlen]
        omega
      refine ⟨cur'.toList.take (rows'.length * E.P.cellsOf ty), f, ⟨hlen', .inr ⟨g, cap, cur', by rw [hv2, hlen], hbg', setRow_heap w g cur cur' _ _ hg, by omega, hm, by omega, rfl⟩⟩, hrs, fun k hk => ?_, fun i hi j hj => ?_⟩
      · rw [List.getElem?_take, if_pos hk]
        have := hf k hk
        simpa using this
      · have := hc i hi j hj
        exact Ow.keep this (fun g' hg' _ => setRow_other w g g' _ (fun e => (hTb _ g' hg').1.2.2 (e ▸ hM)))
  · intro _ g' e
    rw [hbg] at e; injection e with e; subst e
    refine ⟨.inl hM, fun b' hne hl e' => ?_, fun x k hne hx ht => ?_⟩
    · have hl' : (upd S.h b .dead b').live = true := hl
      simp only [upd, hne, if_false] at hl'
      exact hne (h.disj b' b g hl' hbl e' hbg)
    · have hx' : (upd S.h b .dead x).isTree = true := hx
      simp only [upd, hne, if_false] at hx'
      exact (h.tree x k g ht hx').2 b hbl hbg
theorem updL_else {α : Type} : ∀ (u : List (Nat × α)) (f : Nat → α) (x : Nat), (∀ p ∈ u, p.1 ≠ x) → updL f u x = f x
  | [], _, _, _ => rfl
  | (k, v) :: u, f, x, h => by
    have h1 : x ≠ k := fun e => h (k, v) (List.mem_cons_self ..) e.symm
    show updL (upd f k v) u x = f x
    rw [updL_else u _ x (fun p hp => h p (List.mem_cons_of_mem _ hp))]
    simp [upd, h1]
/-- cells of memory of the call's own are stored into an element of a row of its own -/
theorem op_storeO {t : TypeId} {z : TI} {v : Value} {xs : List AV} {ps : List PV} {b i q g n cap : Nat} {e : TypeId} {rows : List (List PV)} {own : Bool} {s2 : Seen} (hz : E.tb t = some z) (h : Rel E.P w0 N S φ T M a w) (hB : S.h b = .row own e rows) (hg : φ b = .slice (some ⟨g, 0, none⟩) n cap)
    (hus : v.cells.toList.length = xs.length) (hus' : ∀ i (hi : i < xs.length), RaS E w M φ S xs[i] (v.cells.toList[i]'(by omega))) (hpl : ps.length = xs.length) (hsn : ∀ i (hi : i < xs.length), Sn S xs[i] (ps[i]'(by omega))) (hi : i < rows.length) (hql : q + ps.length ≤ rows[i].length) (hzs : v.cells.size = z.size)
    (hr : (ownQ xs fun q' => .need (own = true ∧ q' = true ∧ nodupB (slots xs) = true ∧ (slots xs).contains b = false) (freeze (slots xs) fun u => .ret ⟨.und, u ++ [(b, .row own e (rows.set i (setL (rows[i]) q ps)))]⟩)).run S s2 (isRes r s'))
    (fin : ∀ {w' : World}, (Instr.storeAt t (.pointer (some ⟨g, i * E.P.cellsOf e + q, none⟩)) v).run E.P w = .ok () w' → (execOp a.eval o).run E.P w = .ok .skip w') : sure E.P o a w (After E w0 N S r a) := by
  obtain ⟨qq, s5, hr7, hown⟩ := ownQ_run hr
  obtain ⟨⟨rfl, rfl, hnd, hbn⟩, hr8⟩ := hr7
  obtain ⟨u, s6, hr9, hu1, hu2, hu3⟩ := freeze_run hr8
  obtain ⟨rfl, _⟩ := hr9
  have hoAll := hown rfl
  have hvz : v.cells.toList.length = v.cells.size := Array.length_toList
  have hcz : z.size = ps.length := by omega
  obtain ⟨M', h', hM', hfz, hup, hdl⟩ := freeze_rel hu1 h
  have hbx : AV.sl b ∉ xs := fun hx => by
    have := mem_slots hx
    simp [this] at hbn
  have hBu : updL S.h u b = .row true e rows := by
    rw [updL_else u S.h b (fun p hp e => hbx (by
      have h1 := hu2 p hp
      rw [e] at h1
      have : (slots xs).contains b = true := by simpa using h1
      rw [hbn] at this; cases this))]
    exact hB
  have hlive : ∀ c e rows, S.h c = .row true e rows → (S.h c).live = true := fun c e rows hc => by rw [hc]; rfl
  have hb := h.blks b
  rw [hB] at hb
  obtain ⟨xs0, f0, hown0, hs0, hf0, hc0⟩ := hb
  rcases hown0.2 with ⟨hv', _⟩ | ⟨g', cap', cur, hv', hbg', hg', hn, hm, hcs, htk⟩
  · rw [hg] at hv'; cases hv'
  have hv2 := hg
  rw [hg] at hv'
  injection hv' with e1 e2 e3
  injection e1 with e1
  injection e1 with e1
  subst e1; subst e3; subst e2
  have hrl : rows[i].length = E.P.cellsOf e := hs0 _ (List.getElem_mem hi)
  have hmul : (i + 1) * E.P.cellsOf e ≤ cap * E.P.cellsOf e := Nat.mul_le_mul_right _ (by omega)
  have hmul' : (i + 1) * E.P.cellsOf e ≤ rows.length * E.P.cellsOf e := Nat.mul_le_mul_right _ (by omega)
  rw [Nat.add_mul, Nat.one_mul] at hmul hmul'
  have hone : ∀ u ∈ v.cells.toList, u.oneCell' = true := by
    intro u hu
    obtain ⟨k, hk, rfl⟩ := List.getElem_of_mem hu
    have hk' : k < xs.length := by rw [← hus]; exact hk
    have h1 := hus' k hk'
    generalize v.cells.toList[k] = uk at h1 ⊢
    rcases hoAll _ (List.getElem_mem hk') with ⟨p, e1, hf⟩ | ⟨e1, e2⟩ | ⟨c, e1, r1, e2, hc⟩
    · rw [e1] at h1
      have h2 := ra_pv h1
      cases h2 <;> first | rfl | cases hf
    · rw [e2] at h1
      cases h1
      rfl
    · rw [e2] at h1
      rw [ra_sl h1]
      obtain ⟨A, c', e9⟩ := rd_slice (row_rd h hc)
      rw [e9]; rfl
  have hst := run_store hz (q := i * E.P.cellsOf e + q) (v := v) hzs hg' (by omega) hone
  have hlenc : ∀ k, k < rows.length * E.P.cellsOf e → cur[k]? = some (f0 k) := fun k hk => by
    have h1 := hf0 k hk
    rw [← htk, List.getElem?_take, if_pos hk] at h1
    simpa using h1
  obtain ⟨M2, h1⟩ := row_setO h' (fun x k g => if x = b then (if i * E.P.cellsOf e + q ≤ k ∧ k < i * E.P.cellsOf e + q + ps.length then cellSet φ T xs (k - (i * E.P.cellsOf e + q)) g else T b k g) else (b2p x xs ∧ T x k g)) hBu hg hg' (rows' := rows.set i (setL rows[i] q ps)) (cur' := (setL cur.toList (i * E.P.cellsOf e + q) v.cells.toList).toArray) (by simp [setL_length]) (by simp) (by
      intro r hr
      rcases List.mem_or_eq_of_mem_set hr with hr | rfl
      · exact hs0 r hr
      · rw [setL_length]; exact hrl)
    (fun k => if i * E.P.cellsOf e + q ≤ k ∧ k < i * E.P.cellsOf e + q + ps.length then (v.cells.toList[k - (i * E.P.cellsOf e + q)]?).getD undef else f0 k) (by
      intro k hk
      rw [List.length_set] at hk
      have hk2 : k < cur.size := by
        have : rows.length * E.P.cellsOf e ≤ cap * E.P.cellsOf e := Nat.mul_le_mul_right _ hn
        omega
      rw [List.getElem?_toArray, setL_get]
      by_cases hkq : i * E.P.cellsOf e + q ≤ k ∧ k < i * E.P.cellsOf e + q + ps.length
      · rw [if_pos (by simp; omega), if_pos hkq, List.getElem?_eq_getElem (by omega)]
        rfl
      · rw [if_neg (by simp; omega), if_neg hkq]
        simpa using hlenc k hk)
    (fun x k g hne hx => by
      simp only [hne, if_false] at hx
      exact hx.2)
    (fun x hxm ⟨e', rows', hB'⟩ => by
      funext k g
      simp only [hxm, if_false]
      have : b2p x xs := fun hc => by
        have h1 := mem_slots hc
        simp only at hB'
        rcases hoAll _ hc with ⟨p, e5, _⟩ | ⟨e5, e6⟩ | ⟨b5, e5, rows5, e6, hB5⟩
        · cases e5
        · cases e6
        injection e6 with e6
        subst e6
        rcases hup x with e1 | ⟨e1, r1, e2, _⟩
        · have h2 : (S.h x).live = true := by rw [hB5]; rfl
          obtain ⟨B, hB' | ⟨cs', hB'⟩⟩ := hu3 x h1 h2
          · have := hdl _ hB'; simp only at this; rw [e1, hB5] at this; cases this
          · rw [hB5] at hB'; cases hB'
        · rcases hB' with hB' | hB' | ⟨_, _, hB'⟩ <;> rw [e2] at hB' <;> cases hB'
      simp [this])
    (fun k g2 hk => by
      simp only [if_true] at hk
      split at hk
      · rename_i hkr
        obtain ⟨c, e', rows', hck, hcB, hrs', hg1, hg2⟩ := cellSet_in h hoAll hk
        have hcb : c ≠ b := fun e => hbx (e ▸ List.mem_of_getElem? hck)
        refine ⟨⟨hg1, hg2, fun hmm => ?_⟩, fun k' hk' => ?_, fun x k' hxm hx => ?_⟩
        · rcases hrs' with e1 | ⟨k2, e1⟩
          · obtain ⟨B, hB' | ⟨cs', hB'⟩⟩ := hu3 c (mem_slots (List.mem_of_getElem? hck)) (by rw [hcB]; rfl)
            · exact hfz _ hB' (by rw [hcB]; rfl) g2 e1 hmm
            · rw [hcB] at hB'; cases hB'
          · exact (h.own c k2 g2 e1).2.2 (by rw [hcB]; rfl) (hM' g2 hmm)
        · simp only [if_true] at hk'
          split at hk'
          · rename_i hkr'
            obtain ⟨c', e2, rows2, hck', hcB', hrs2, _⟩ := cellSet_in h hoAll hk'
            have := rowSet_inj h (hlive _ _ _ hcB) (hlive _ _ _ hcB') (by rw [hcB]; rfl) (by rw [hcB']; rfl) hrs' hrs2
            subst this
            have := slots_inj hnd hck hck'
            omega
          · exfalso
            rcases hrs' with e1 | ⟨k2, e1⟩
            · exact h.far hk' (hlive _ _ _ hcB) e1
            · exact hcb (h.apart b k' c k2 g2 hk' e1).1.symm
        · simp only [hxm, if_false] at hx
          rcases hrs' with e1 | ⟨k2, e1⟩
          · exact h.far hx.2 (hlive _ _ _ hcB) e1
          · have := (h.apart x k' c k2 g2 hx.2 e1).1
            subst this
            exact hx.1 (List.mem_of_getElem? hck)
      · refine ⟨⟨(h.own b k g2 hk).1, (h.own b k g2 hk).2.1, fun hmm => (h.own b k g2 hk).2.2 (by rw [hB]; rfl) (hM' g2 hmm)⟩, fun k' hk' => ?_, fun x k' hxm hx => ?_⟩
        · simp only [if_true] at hk'
          split at hk'
          · exfalso
            obtain ⟨c', e2, rows2, hck', hcB', hrs2, _⟩ := cellSet_in h hoAll hk'
            have hcb : c' ≠ b := fun e => hbx (e ▸ List.mem_of_getElem? hck')
            rcases hrs2 with e1 | ⟨k2, e1⟩
            · exact h.far hk (hlive _ _ _ hcB') e1
            · exact hcb (h.apart b k c' k2 g2 hk e1).1.symm
          · exact (h.apart b k b k' g2 hk hk').2
        · simp only [hxm, if_false] at hx
          exact hxm (h.apart x k' b k g2 hx.2 hk).1)
    (by
      intro i' hi' j' hj'
      rw [List.length_set] at hi'
      simp only [if_true]
      by_cases hii : i' = i
      · subst hii
        simp only [List.getElem_set_self] at hj' ⊢
        rw [setL_length] at hj'
        have hjc : (setL rows[i'] q ps)[j']? = some ((setL rows[i'] q ps)[j']'(by rw [setL_length]; exact hj')) := List.getElem?_eq_getElem _
        rw [setL_get] at hjc
        by_cases hjq : q ≤ j' ∧ j' < q + ps.length
        · rw [if_pos ⟨hjq.1, hjq.2, hj'⟩, List.getElem?_eq_getElem (by omega)] at hjc
          injection hjc with hjc
          have hin : i' * E.P.cellsOf e + q ≤ i' * E.P.cellsOf e + j' ∧ i' * E.P.cellsOf e + j' < i' * E.P.cellsOf e + q + ps.length := by omega
          have e1 : i' * E.P.cellsOf e + j' - (i' * E.P.cellsOf e + q) = j' - q := by omega
          rw [← hjc]
          simp only [if_pos hin, e1]
          have hk' : j' - q < xs.length := by omega
          rw [List.getElem?_eq_getElem (by omega)]
          simp only [Option.getD_some]
          exact sn_own h (hus' (j' - q) hk') (hsn (j' - q) hk') (hoAll _ (List.getElem_mem hk')) (fun c hc g hg => ⟨c, by rw [List.getElem?_eq_getElem hk', hc], hg⟩)
        · rw [if_neg (by omega), List.getElem?_eq_getElem hj'] at hjc
          injection hjc with hjc
          have hin : ¬ (i' * E.P.cellsOf e + q ≤ i' * E.P.cellsOf e + j' ∧ i' * E.P.cellsOf e + j' < i' * E.P.cellsOf e + q + ps.length) := by omega
          rw [← hjc]
          simp only [if_neg hin]
          exact hc0 i' hi j' hj'
      · have e1 : (rows.set i (setL rows[i] q ps))[i']'(by rw [List.length_set]; exact hi') = rows[i'] := by rw [List.getElem_set_ne (Ne.symm hii)]
        simp only [e1] at hj' ⊢
        have hjl : j' < E.P.cellsOf e := by rw [← hs0 _ (List.getElem_mem hi')]; exact hj'
        have hne : ¬ (i * E.P.cellsOf e + q ≤ i' * E.P.cellsOf e + j' ∧ i' * E.P.cellsOf e + j' < i * E.P.cellsOf e + q + ps.length) := by
          intro ⟨ha, hb⟩
          rcases Nat.lt_or_gt_of_ne hii with hlt | hgt
          · have := Nat.mul_le_mul_right (E.P.cellsOf e) (show i' + 1 ≤ i by omega)
            rw [Nat.add_mul, Nat.one_mul] at this
            omega
          · have := Nat.mul_le_mul_right (E.P.cellsOf e) (show i + 1 ≤ i' by omega)
            rw [Nat.add_mul, Nat.one_mul] at this
            omega
        simp only [if_neg hne]
        exact hc0 i' hi' j' hj')
  have e9 : updL S.h (u ++ [(b, Blk.row true e (rows.set i (setL rows[i] q ps)))]) = upd (updL S.h u) b (.row true e (rows.set i (setL rows[i] q ps))) := by rw [updL_append]; rfl
  have h2 : Rel E.P w0 N ⟨S.t, upd (updL S.h u) b (.row true e (rows.set i (setL rows[i] q ps)))⟩ φ _ M2 a _ := h1
  rw [← e9] at h2
  exact sure_skip (fin hst) ⟨φ, _, M2, h2, .und _⟩
theorem op_store {t : TypeId} {x y : Operand} (ho : o.op = .store t x y) (h : Rel E.P w0 N S φ T M a w) (hr : (aop E m o).run S s (isRes r s')) : sure E.P o a w (After E w0 N S r a) := by

  unfold aop at hr
  rw [ho] at hr
  simp only at hr
  split at hr
  · rename_i z hz
    obtain ⟨p, s1, hr1, hp⟩ := ev_sound h hr
    obtain ⟨v, s2, hr2, hvv⟩ := ev_sound h hr1
    obtain ⟨xs, s3, hr3, hxs⟩ := cellsOf_sound h hvv hr2
    obtain ⟨⟨hl1, hl2⟩, hr4⟩ := hr3
    have hcr := cellsRa_cr hxs
    have hsz : (a.eval y).cells.size = xs.length := by simpa using hcr.1
    have fin : ∀ {g q : Nat} {w' : World}, a.eval x = .pointer (some ⟨g, q, none⟩) → (Instr.storeAt t (.pointer (some ⟨g, q, none⟩)) (a.eval y)).run E.P w = .ok () w' → (execOp a.eval o).run E.P w = .ok .skip w' := fun {g q w'} he hrun => by
      unfold execOp
      rw [ho]
      simp [he, hrun]
    generalize hev : a.eval x = vx at hp
    split at hr4
    · rename_i b q
      cases hp with
      | ptr _ _ g hkn hg =>
        simp only [Rq.run] at hr4
        split at hr4
        · rename_i cs hB
          obtain ⟨hql, hr5⟩ := hr4
          obtain ⟨⟨s5, hr6⟩, hrows⟩ := rowsChk_sound hr5
          obtain ⟨rfl, _⟩ := hr6
          have hb := h.blks b
          rw [hB] at hb
          obtain ⟨g', cur, ty, hv', _, hh, hszc, hc⟩ := hb
          have hv2 := hv'
          rw [hg] at hv'
          injection hv' with hv'
          injection hv' with hv'
          injection hv' with hv'
          subst hv'
          have hst := run_store hz (q := q) (v := a.eval y) (by omega) hh (by omega) (cr_one h hcr hl2 hrows)
          obtain ⟨T', M', h1⟩ := box_set h hB hg hh (cs' := setL cs q xs) (cur' := (setL cur.toList q (a.eval y).cells.toList).toArray) (by
            have : CR (RaS E w M φ S) cs cur.toList := ⟨by simpa using hszc, fun i hi => by simpa using hc i hi (by omega)⟩
            simpa using this.setL hcr q)
          exact sure_skip (fin hev hst) ⟨φ, T', M', h1, .und _⟩
        · exact hr4.elim
    · rename_i b e i q
      cases hp with
      | eltS _ _ _ _ g n cap hkn hg =>
        obtain ⟨hus, hus'⟩ := hcr
        obtain ⟨ps, s4, hr5, hpl, hsn⟩ := snaps_sn hr4
        have hps : ps.all PV.flat = true → ∀ k (hk : k < ps.length), Rd E.P w M ps[k] ((a.eval y).cells.toList[k]'(by omega)) := fun hfl k hk => by
          have h1 := hsn k (by omega)
          have h2 := hus' k (by omega)
          have hfk := List.all_eq_true.1 hfl _ (List.getElem_mem hk)
          rcases h1 with e1 | ⟨e, e1, e2⟩ | ⟨b', e, rows, e1, e2, _⟩
          · rw [e1] at h2; exact ra_pv h2
          · rw [e2] at hfk; cases hfk
          · rw [e2] at hfk; cases hfk
        simp only [Rq.run] at hr5
        split at hr5
        · rename_i own e' rows hB
          obtain ⟨rfl, rw_, hrow, hql, hct, hcf⟩ := hr5
          obtain ⟨hi, rfl⟩ := List.getElem?_eq_some_iff.1 hrow
          by_cases hfl : ps.all PV.flat = true
          rotate_left
          · exact op_storeO hz h hB hg hus hus' hpl hsn hi hql (by omega) (hcf (by simpa using hfl)) (fun hrun => fin hev hrun)
          obtain ⟨rfl, _⟩ := hct hfl
          have hb := h.blks b
          rw [hB] at hb
          obtain ⟨xs0, f0, hown, hs0, hf0, hc0⟩ := hb
          rcases hown.2 with ⟨hv', _⟩ | ⟨g', cap', cur, hv', hbg', hg', hn, hm, hcs, htk⟩
          · rw [hg] at hv'; cases hv'
          · have hv2 := hg
            rw [hg] at hv'
            injection hv' with e1 e2 e3
            injection e1 with e1
            injection e1 with e1
            subst e1; subst e3; subst e2
            have hrl : rows[i].length = E.P.cellsOf e := hs0 _ (List.getElem_mem hi)
            have hmul : (i + 1) * E.P.cellsOf e ≤ cap * E.P.cellsOf e := Nat.mul_le_mul_right _ (by omega)
            have hmul' : (i + 1) * E.P.cellsOf e ≤ rows.length * E.P.cellsOf e := Nat.mul_le_mul_right _ (by omega)
            rw [Nat.add_mul, Nat.one_mul] at hmul hmul'
            have hone : ∀ u ∈ (a.eval y).cells.toList, u.oneCell' = true := by
              intro u hu
              obtain ⟨k, hk, rfl⟩ := List.getElem_of_mem hu
              have hk' : k < ps.length := by rw [hpl, ← hus]; exact hk
              have := hps hfl k hk'
              have hfk := List.all_eq_true.1 hfl _ (List.getElem_mem hk')
              generalize ps[k] = pk at this hfk
              generalize (a.eval y).cells.toList[k] = uk at this
              cases this <;> first | rfl | cases hfk
            have hst := run_store hz (q := i * E.P.cellsOf e + q) (v := a.eval y) (by omega) hg' (by omega) hone
            have hlenc : ∀ k, k < rows.length * E.P.cellsOf e → cur[k]? = some (f0 k) := fun k hk => by
              have h1 := hf0 k hk
              rw [← htk, List.getElem?_take, if_pos hk] at h1
              simpa using h1
            obtain ⟨M', h1⟩ := row_set h hB hg hg' (rows' := rows.set i (setL rows[i] q ps)) (cur' := (setL cur.toList (i * E.P.cellsOf e + q) (a.eval y).cells.toList).toArray) (by simp [setL_length]) (by simp) (by
                intro r hr
                rcases List.mem_or_eq_of_mem_set hr with hr | rfl
                · exact hs0 r hr
                · rw [setL_length]; exact hrl)
              (fun k => if i * E.P.cellsOf e + q ≤ k ∧ k < i * E.P.cellsOf e + q + ps.length then ((a.eval y).cells.toList[k - (i * E.P.cellsOf e + q)]?).getD undef else f0 k) (by
                intro k hk
                rw [List.length_set] at hk
                have hk2 : k < cur.size := by
                  have : rows.length * E.P.cellsOf e ≤ cap * E.P.cellsOf e := Nat.mul_le_mul_right _ hn
                  omega
                rw [List.getElem?_toArray, setL_get]
                by_cases hkq : i * E.P.cellsOf e + q ≤ k ∧ k < i * E.P.cellsOf e + q + ps.length
                · rw [if_pos (by simp; omega), if_pos hkq, List.getElem?_eq_getElem (by omega)]
                  rfl
                · rw [if_neg (by simp; omega), if_neg hkq]
                  simpa using hlenc k hk)
              (by
                intro i' hi' j' hj'
                rw [List.length_set] at hi'
                by_cases hii : i' = i
                · subst hii
                  simp only [List.getElem_set_self] at hj' ⊢
                  rw [setL_length] at hj'
                  have hjc : (setL rows[i'] q ps)[j']? = some ((setL rows[i'] q ps)[j']'(by rw [setL_length]; exact hj')) := List.getElem?_eq_getElem _
                  rw [setL_get] at hjc
                  by_cases hjq : q ≤ j' ∧ j' < q + ps.length
                  · rw [if_pos ⟨hjq.1, hjq.2, hj'⟩, List.getElem?_eq_getElem (by omega)] at hjc
                    injection hjc with hjc
                    rw [← hjc, if_pos (show i' * E.P.cellsOf e + q ≤ i' * E.P.cellsOf e + j' ∧ i' * E.P.cellsOf e + j' < i' * E.P.cellsOf e + q + ps.length by omega)]
                    have hk' : j' - q < ps.length := by omega
                    have hrd := hps hfl (j' - q) hk'
                    have hfk := List.all_eq_true.1 hfl _ (List.getElem_mem hk')
                    have e1 : i' * E.P.cellsOf e + j' - (i' * E.P.cellsOf e + q) = j' - q := by omega
                    rw [e1, List.getElem?_eq_getElem (by omega)]
                    simp only [Option.getD_some]
                    have hof := hrd.flat_ow (S := fun _ => False) hfk
                    cases own with
                    | true => exact hof.mono (fun _ h => h.elim)
                    | false => exact hof.rd (fun _ h => h.elim)
                  · rw [if_neg (by omega), List.getElem?_eq_getElem hj'] at hjc
                    injection hjc with hjc
                    rw [← hjc, if_neg (show ¬ (i' * E.P.cellsOf e + q ≤ i' * E.P.cellsOf e + j' ∧ i' * E.P.cellsOf e + j' < i' * E.P.cellsOf e + q + ps.length) by omega)]
                    exact hc0 i' hi j' hj'
                · have e1 : (rows.set i (setL rows[i] q ps))[i']'(by rw [List.length_set]; exact hi') = rows[i'] := by rw [List.getElem_set_ne (Ne.symm hii)]
                  simp only [e1] at hj' ⊢
                  have hjl : j' < E.P.cellsOf e := by rw [← hs0 _ (List.getElem_mem hi')]; exact hj'
                  have hne : ¬ (i * E.P.cellsOf e + q ≤ i' * E.P.cellsOf e + j' ∧ i' * E.P.cellsOf e + j' < i * E.P.cellsOf e + q + ps.length) := by
                    intro ⟨ha, hb⟩
                    rcases Nat.lt_or_gt_of_ne hii with hlt | hgt
                    · have := Nat.mul_le_mul_right (E.P.cellsOf e) (show i' + 1 ≤ i by omega)
                      rw [Nat.add_mul, Nat.one_mul] at this
                      omega
                    · have := Nat.mul_le_mul_right (E.P.cellsOf e) (show i + 1 ≤ i' by omega)
                      rw [Nat.add_mul, Nat.one_mul] at this
                      omega
                  rw [if_neg hne]
                  exact hc0 i' hi' j' hj')
            exact sure_skip (fin hev hst) ⟨φ, T, M', h1, .und _⟩
        · rename_i e' rows i' cs hB
          obtain ⟨⟨rfl, rfl, hql⟩, hr6⟩ := hr5
          obtain ⟨⟨s5, hr7⟩, hrows⟩ := rowsChk_sound hr6
          obtain ⟨rfl, _⟩ := hr7
          have hb := h.blks b
          rw [hB] at hb
          obtain ⟨xs0, f0, hown, hs0, hf0, hi, hcl, hc0, hcs0⟩ := hb
          rcases hown.2 with ⟨hv', _⟩ | ⟨g', cap', cur, hv', hbg', hg', hn, hm, hcs, htk⟩
          · rw [hg] at hv'; cases hv'
          · have hv2 := hg
            rw [hg] at hv'
            injection hv' with e1 e2 e3
            injection e1 with e1
            injection e1 with e1
            subst e1; subst e3; subst e2
            have hmul : (i + 1) * E.P.cellsOf e ≤ cap * E.P.cellsOf e := Nat.mul_le_mul_right _ (by omega)
            have hmul' : (i + 1) * E.P.cellsOf e ≤ rows.length * E.P.cellsOf e := Nat.mul_le_mul_right _ (by omega)
            rw [Nat.add_mul, Nat.one_mul] at hmul hmul'
            have hst := run_store hz (q := i * E.P.cellsOf e + q) (v := a.eval y) (by omega) hg' (by omega) (cr_one h ⟨hus, hus'⟩ hl2 hrows)
            have hleaf : ∀ j, (setL cs q xs)[j]? = some AV.out → (q ≤ j ∧ j < q + xs.length → False) ∧ cs[j]? = some .out := fun j hj => by
              rw [setL_get] at hj
              by_cases hq : q ≤ j ∧ j < q + xs.length ∧ j < cs.length
              · rw [if_pos hq] at hj
                have := List.all_eq_true.1 hl2 _ (List.mem_of_getElem? hj)
                cases this
              · rw [if_neg hq] at hj
                have hjl := (List.getElem?_eq_some_iff.1 hj).1
                exact ⟨fun hh => hq ⟨hh.1, hh.2, hjl⟩, hj⟩
            have hcur : ∀ k, k < rows.length * E.P.cellsOf e → cur[k]? = some (f0 k) := fun k hk => by
              have h1 := hf0 k hk
              rw [← htk, List.getElem?_take, if_pos hk] at h1
              simpa using h1
            obtain ⟨M', h1⟩ := opn_set h hB hg hg' (cs' := setL cs q xs) (cur' := (setL cur.toList (i * E.P.cellsOf e + q) (a.eval y).cells.toList).toArray) (by simp [setL_length]) (setL_length ..) (fun j hj => (hleaf j hj).2)
              (by
                intro k hk hx
                rw [List.getElem?_toArray, setL_get]
                by_cases hkq : i * E.P.cellsOf e + q ≤ k ∧ k < i * E.P.cellsOf e + q + (a.eval y).cells.toList.length ∧ k < cur.toList.length
                · exfalso
                  have := (hleaf (k - i * E.P.cellsOf e) (hx _ (by omega) (by omega))).1
                  exact this ⟨by omega, by omega⟩
                · rw [if_neg hkq]; simp)
              (by
                intro j hj hne
                rw [setL_length] at hj
                have hk : i * E.P.cellsOf e + j < rows.length * E.P.cellsOf e := by omega
                have hkc : i * E.P.cellsOf e + j < cur.toList.length := by rw [Array.length_toList, hcs]; omega
                rw [List.getElem?_toArray, setL_get]
                have hjc : (setL cs q xs)[j]? = some ((setL cs q xs)[j]'(by rw [setL_length]; exact hj)) := List.getElem?_eq_getElem _
                rw [setL_get] at hjc
                by_cases hjq : q ≤ j ∧ j < q + xs.length ∧ j < cs.length
                · rw [if_pos hjq, List.getElem?_eq_getElem (by omega)] at hjc
                  injection hjc with hjc
                  have hk' : j - q < (a.eval y).cells.toList.length := by rw [hus]; omega
                  have e1 : i * E.P.cellsOf e + j - (i * E.P.cellsOf e + q) = j - q := by omega
                  rw [if_pos ⟨by omega, by omega, hkc⟩, e1, List.getElem?_eq_getElem hk']
                  refine ⟨_, rfl, ?_⟩
                  rw [← hjc]
                  exact hus' (j - q) (by omega)
                · rw [if_neg hjq, List.getElem?_eq_getElem hj] at hjc
                  injection hjc with hjc
                  rw [if_neg (by omega)]
                  refine ⟨f0 (i * E.P.cellsOf e + j), by simpa using hcur _ hk, ?_⟩
                  rw [← hjc]
                  exact hcs0 j hj (by rw [hjc]; exact hne))
            exact sure_skip (fin hev hst) ⟨φ, T, M', h1, .und _⟩
        · exact hr5.elim
    · exact hr4.elim
  · exact hr.elim
end
end Av
end Go.Proofs.Ytbkbppllcjcmhaa

namespace Go.Proofs.Ytbkbppllcjcmhaa
open Go.RowKit
namespace Av

section
variable {E : Tab} {m : Nat} {o : Oper} {w0 : W0} {w : World} {N : Nat} {S : ASt} {φ : Nat → Value} {T : Nat → Nat → Nat → Prop} {M : Nat → Prop} {a : Act} {r : ARes} {s s' : Seen}
theorem leaf_rd {P : Program} {w : World} {M : Nat → Prop} {p : PV} {v : Value} (h : Rd P w M p v) (hl : p.leaf = true) : v.oneCell' = true := by
  cases h <;> first | rfl | cases hl
theorem leafRows_at {rows : List (List PV)} (h : leafRows rows = true) {i : Nat} (hi : i < rows.length) {j : Nat} (hj : j < rows[i].length) : rows[i][j].leaf = true := by
  unfold leafRows at h
  rw [List.all_eq_true] at h
  exact List.all_eq_true.1 (h _ (List.getElem_mem hi)) _ (List.getElem_mem hj)
theorem flatRows_at {rows : List (List PV)} (h : flatRows rows = true) {i : Nat} (hi : i < rows.length) {j : Nat} (hj : j < rows[i].length) : rows[i][j].flat = true := by
  unfold flatRows at h
  rw [List.all_eq_true] at h
  exact List.all_eq_true.1 (h _ (List.getElem_mem hi)) _ (List.getElem_mem hj)
theorem split_row {n s k : Nat} (hk : k < n * s) : ∃ i j, i < n ∧ j < s ∧ k = i * s + j := by
  have hs : 0 < s := by
    rcases Nat.eq_zero_or_pos s with h | h
    · subst h; simp at hk
    · exact h
  refine ⟨k / s, k % s, Nat.div_lt_of_lt_mul (by rw [Nat.mul_comm]; exact hk), Nat.mod_lt _ hs, ?_⟩
  rw [Nat.mul_comm]; exact (Nat.div_add_mod k s).symm
/-- the slice that is copied from -/
structure Src (P : Program) (w : World) (M : Nat → Prop) (e : TypeId) (rows : List (List PV)) (v : Value) (f : Nat → Value) : Prop where
  val : ∃ A cap, v = .slice A rows.length cap ∧ (rows = [] ∨ ∃ b q, A = some ⟨b, q, none⟩ ∧ ∀ k, k < rows.length * P.cellsOf e → w.cell? ⟨b, q + k, none⟩ = some (f k))
  len : ∀ r ∈ rows, r.length = P.cellsOf e
  rd : ∀ i (hi : i < rows.length) j (hj : j < rows[i].length), Rd P w M rows[i][j] (f (i * P.cellsOf e + j))
theorem src_of {P : Program} {w : World} {M : Nat → Prop} {e : TypeId} {rows : List (List PV)} {v : Value} (h : Rd P w M (.lst e rows) v) : ∃ f, Src P w M e rows v f := by
  cases h with
  | nil _ A cap => exact ⟨fun _ => undef, ⟨A, cap, rfl, .inl rfl⟩, (fun r hr => by cases hr), fun i hi => absurd hi (by simp)⟩
  | lst _ _ b q cap f hb hc hM hs hcell hr => exact ⟨f, ⟨_, cap, rfl, .inr ⟨b, q, rfl, hcell⟩⟩, hs, hr⟩
theorem run_app_none {P : Program} {w : World} {base : Nat} {t ty e : TypeId} {i : TypeInfo} (ht : P.underlying t = some (.slice e)) (hi : P.info? e = some i)
    {v : Value} {n c : Nat} {xs : List Value} (hown : w.ownsRow base e i.size v n xs) : (Builtin.append_ #[t, t] ty #[v, .slice none 0 c]).run P w = .ok v w := by
  rcases hown.2 with ⟨rfl, rfl⟩ | ⟨g, cap, cur, rfl, _, _, hnc, _⟩
  · simp [Builtin.append_, run_underlying ht, sizeOf, typeInfo, hi, Builtin.lenOf, Builtin.firstCells]
  · simp [Builtin.append_, run_underlying ht, sizeOf, typeInfo, hi, Builtin.lenOf, Builtin.firstCells, hnc, storeCells]
/-- an append, with the block in which its answer lies -/
theorem run_app {P : Program} {w : World} {base : Nat} {t ty e : TypeId} {i : TypeInfo} {z : Value} (ht : P.underlying t = some (.slice e)) (hi : P.info? e = some i) (hz : i.zero = some z) (hzs : z.cells.size = i.size) (hsz : 0 < i.size)
    {v : Value} {n : Nat} {xs : List Value} (hown : w.ownsRow base e i.size v n xs) (ad : Addr) (m c : Nat) (news : List Value) (hl : news.length = m * i.size) (hnews : ∀ j u, news[j]? = some u → w.cell? (ad.add j) = some u) (h1 : ∀ u ∈ news, u.oneCell' = true)
    (h63 : n + m ≤ maxLen) (hbytes : (n + m) * i.bytes ≤ 140737488355328) (hbase : base ≤ w.heap.size) :
    ∃ v' w', (Builtin.append_ #[t, t] ty #[v, .slice (some ad) m c]).run P w = .ok v' w' ∧ w'.ownsRow base e i.size v' (n + m) (xs ++ news) ∧ w.grownBy w' v.ownBlock ∧ (v'.ownBlock = v.ownBlock ∨ ∃ g, v'.ownBlock = some g ∧ w.heap.size ≤ g ∧ g < w'.heap.size) := by
  obtain ⟨v', w', hr, hown', hg, hnil⟩ := run_append_own (P := P) w base t ty e i z i.size i.bytes ht hi hz rfl rfl hzs hsz v n xs hown ad m c news hl hnews h1 h63 hbytes hbase
  refine ⟨v', w', hr, hown', hg, ?_⟩
  have hown2 := hown
  rcases hown.2 with ⟨rfl, rfl⟩ | ⟨g, cap, cur, rfl, hbg, hgg, hnc, hcm, hcs, htake⟩
  · have hown0 : w.ownsRow w.heap.size e i.size (.slice none 0 0) 0 xs := ⟨hown.1, .inl ⟨rfl, rfl⟩⟩
    obtain ⟨v2, w2, hr2, hown3, _, _⟩ := run_append_own (P := P) w w.heap.size t ty e i z i.size i.bytes ht hi hz rfl rfl hzs hsz _ 0 xs hown0 ad m c news hl hnews h1 h63 hbytes (Nat.le_refl _)
    rw [hr] at hr2
    injection hr2 with e1 e2
    subst e1; subst e2
    cases hv : v'.ownBlock with
    | none => exact .inl rfl
    | some g => exact .inr ⟨g, rfl, World.ownsRow.lt hown3 g hv⟩
  · by_cases hroom : n + m ≤ cap
    · obtain ⟨w2, hr2, _, _⟩ := run_append_fits (P := P) w base t ty e i i.size ht hi rfl g n cap xs hown2 ad m c news hl hnews h1 hroom
      rw [hr] at hr2
      injection hr2 with e1 e2
      subst e1
      exact .inl rfl
    · have holds : ∀ j u, xs[j]? = some u → w.cell? ((⟨g, 0, none⟩ : Addr).add j) = some u := hown2.cells (g := g) rfl
      have hr2 := run_append_grow (P := P) (ty := ty) w t e i z ht hi hz ⟨g, 0, none⟩ n cap xs hown2.1 holds ad m c news hl hnews (by omega) (by unfold maxLen at h63; omega) (growslice_fits (by omega) hbytes)
      rw [hr] at hr2
      injection hr2 with e1 e2
      subst e1; subst e2
      exact .inr ⟨_, rfl, Nat.le_refl _, by simp⟩
theorem srcQ_run (h : Rel E.P w0 N S φ T M a w) {y : AV} {v : Value} {k : TypeId → List (List PV) → Bool → List (Nat × Blk) → Rq} {K : ARes → Seen → Prop} (hy : RaS E w M φ S y v) (hr : (srcQ y k).run S s K) :
    ∃ e rows own u s1, (k e rows own u).run S s1 K ∧ FrzU S u ∧ (∀ x ∈ u, y.rowOf = some x.1) ∧ (∀ {M' : Nat → Prop}, Rel E.P w0 N ⟨S.t, updL S.h u⟩ φ T M' a w → (∀ g, M' g → M g) → Rd E.P w M' (.lst e rows) v) ∧
      (own = true → flatRows rows = true ∨ ∃ c, y = .sl c ∧ S.h c = .row true e rows) ∧ ∀ c, y = .sl c → (S.h c).live = true → ∃ B, (c, B) ∈ u := by
  unfold srcQ at hr
  split at hr
  · exact ⟨_, _, _, _, _, hr, (fun x hx => by cases hx), (fun x hx => by cases hx), fun _ hM => (ra_pv hy).weak hM, .inl, (fun c e => by cases e)⟩
  · cases hy with
    | nil e => exact ⟨_, _, _, _, _, hr, (fun x hx => by cases hx), (fun x hx => by cases hx), fun _ _ => .nil _ _ _, (fun _ => .inl rfl), (fun c e => by cases e)⟩
  · rename_i c
    have hv := ra_sl hy
    simp only [Rq.run] at hr
    split at hr
    · rename_i own e rows hB
      refine ⟨_, _, _, _, _, hr, fun x hx => ?_, fun x hx => ?_, fun {M'} h' _ => ?_, fun ho => ?_, fun c' e1 _ => ?_⟩
      · obtain rfl := List.mem_singleton.1 hx
        exact ⟨e, rows, rfl, .inl ⟨own, hB⟩⟩
      · obtain rfl := List.mem_singleton.1 hx
        rfl
      · have h1 := h'.blks c
        have e1 : updL S.h [(c, .frz e rows)] c = .frz e rows := upd_same _ _ _
        simp only [e1] at h1
        rw [hv]; exact h1
      · rw [Bool.or_eq_true] at ho
        rcases ho with ho | ho
        · subst ho
          exact .inr ⟨c, rfl, hB⟩
        · exact .inl ho
      · injection e1 with e1
        subst e1
        exact ⟨_, List.mem_singleton.2 rfl⟩
    · rename_i e rows hB
      have h1 := h.blks c
      rw [hB] at h1
      exact ⟨_, _, _, _, _, hr, (fun x hx => by cases hx), (fun x hx => by cases hx), (fun _ hM => by rw [hv]; exact Rd.weak (p := .lst e rows) h1 hM), .inl, (fun c' e1 hl => by injection e1 with e1; subst e1; rw [hB] at hl; cases hl)⟩
    · exact hr.elim
  · exact hr.elim
/-- the cells of a row to which elements were appended -/
theorem app_cells {P : Program} {w w' : World} {M' M2 : Nat → Prop} {e : TypeId} {rows rows2 : List (List PV)} {own own2 : Bool} {f f2 : Nat → Value} {Tb Tc : Nat → Nat → Prop} (hl : ∀ r ∈ rows, r.length = P.cellsOf e)
    (hA : ∀ i (hi : i < rows.length) j (hj : j < rows[i].length), if own then Ow P w (Tb (i * P.cellsOf e + j)) rows[i][j] (f (i * P.cellsOf e + j)) else Rd P w M' rows[i][j] (f (i * P.cellsOf e + j))) (hTb : ∀ k g, Tb k g → ¬ M' g)
    (hB : ∀ i (hi : i < rows2.length) j (hj : j < rows2[i].length), Rd P w M' rows2[i][j] (f2 (i * P.cellsOf e + j))) (hBo : own2 = true → ∀ i (hi : i < rows2.length) j (hj : j < rows2[i].length), Ow P w (Tc (i * P.cellsOf e + j)) rows2[i][j] (f2 (i * P.cellsOf e + j)))
    (hR : ∀ p v, Rd P w M' p v → Rd P w' M2 p v) (hOb : ∀ k p v, Ow P w (Tb k) p v → Ow P w' (Tb k) p v) (hOc : ∀ k p v, Ow P w (Tc k) p v → Ow P w' (Tc k) p v) :
    ∀ i (hi : i < (rows ++ rows2).length) j (hj : j < (rows ++ rows2)[i].length), if (own && own2) then Ow P w' (fun g => (i * P.cellsOf e + j < rows.length * P.cellsOf e ∧ Tb (i * P.cellsOf e + j) g) ∨ (rows.length * P.cellsOf e ≤ i * P.cellsOf e + j ∧ Tc (i * P.cellsOf e + j - rows.length * P.cellsOf e) g)) (rows ++ rows2)[i][j] (if i * P.cellsOf e + j < rows.length * P.cellsOf e then f (i * P.cellsOf e + j) else f2 (i * P.cellsOf e + j - rows.length * P.cellsOf e))
      else Rd P w' M2 (rows ++ rows2)[i][j] (if i * P.cellsOf e + j < rows.length * P.cellsOf e then f (i * P.cellsOf e + j) else f2 (i * P.cellsOf e + j - rows.length * P.cellsOf e)) := by
  intro i hi j hj
  by_cases hlt : i < rows.length
  · have e1 : (rows ++ rows2)[i] = rows[i] := List.getElem_append_left hlt
    have hj' : j < rows[i].length := by rw [← e1]; exact hj
    have e2 : (rows ++ rows2)[i][j] = rows[i][j] := by simp only [e1]
    have hjs : j < P.cellsOf e := by rw [← hl _ (List.getElem_mem hlt)]; exact hj'
    have hk : i * P.cellsOf e + j < rows.length * P.cellsOf e := by
      have := Nat.mul_le_mul_right (P.cellsOf e) (show i + 1 ≤ rows.length by omega)
      rw [Nat.add_mul, Nat.one_mul] at this
      omega
    rw [e2, if_pos hk]
    have := hA i hlt j hj'
    cases own with
    | true =>
      cases own2 with
      | true => exact Ow.mono (hOb _ _ _ this) (fun g hg => .inl ⟨hk, hg⟩)
      | false => exact hR _ _ (Ow.rd this (fun g hg => hTb _ g hg))
    | false => exact hR _ _ this
  · have hlt2 : i - rows.length < rows2.length := by simp at hi; omega
    have e1 : (rows ++ rows2)[i] = rows2[i - rows.length] := List.getElem_append_right (by omega)
    have hj' : j < rows2[i - rows.length].length := by rw [← e1]; exact hj
    have e2 : (rows ++ rows2)[i][j] = rows2[i - rows.length][j] := by simp only [e1]
    have hk : ¬ (i * P.cellsOf e + j < rows.length * P.cellsOf e) := by
      have := Nat.mul_le_mul_right (P.cellsOf e) (show rows.length ≤ i by omega)
      omega
    have e3 : i * P.cellsOf e + j - rows.length * P.cellsOf e = (i - rows.length) * P.cellsOf e + j := by
      have := Nat.mul_le_mul_right (P.cellsOf e) (show rows.length ≤ i by omega)
      rw [Nat.sub_mul]; omega
    rw [e2, if_neg hk, e3]
    cases hoo : own && own2 with
    | true =>
      rw [Bool.and_eq_true] at hoo
      exact Ow.mono (hOc _ _ _ (hBo hoo.2 _ hlt2 j hj')) (fun g hg => .inr ⟨by omega, hg⟩)
    | false => exact hR _ _ (hB _ hlt2 j hj')
/-- elements are appended: the slice's value, and its cells -/
theorem app_run {e : TypeId} {t ty : TypeId} {x q : TI} (hx : E.tb t = some x) (hk : x.kind = .slice e) (hq : E.tb e = some q) (hpos : 0 < q.size) (hby : q.bytes ≤ 32768) {B : Nat} {v v2 : Value} {rows rows2 : List (List PV)} {xs : List Value} {f f2 : Nat → Value} {M' : Nat → Prop}
    (hown : w.ownsRow B e (E.P.cellsOf e) v rows.length xs) (hf : ∀ k, k < rows.length * E.P.cellsOf e → xs[k]? = some (f k)) (hsrc : Src E.P w M' e rows2 v2 f2) (hleaf : leafRows rows2 = true) (hn : rows.length + rows2.length ≤ 4294967296) (hB : B ≤ w.heap.size) :
    ∃ v' w' xs', (Builtin.append_ #[t, t] ty #[v, v2]).run E.P w = .ok v' w' ∧ w'.ownsRow B e (E.P.cellsOf e) v' (rows ++ rows2).length xs' ∧ w.grownBy w' v.ownBlock ∧ (v'.ownBlock = v.ownBlock ∨ ∃ g, v'.ownBlock = some g ∧ w.heap.size ≤ g ∧ g < w'.heap.size) ∧
      (∀ k, k < (rows ++ rows2).length * E.P.cellsOf e → xs'[k]? = some (if k < rows.length * E.P.cellsOf e then f k else f2 (k - rows.length * E.P.cellsOf e))) := by
  obtain ⟨i, z, hi, hz, hs, hb, hzz, hzs⟩ := tab_info hq
  have hcs := tab_size hq
  have ht := tab_slice hx hk
  obtain ⟨A, cap, rfl, hA⟩ := hsrc.val
  rw [show E.P.cellsOf e = i.size by omega] at hown
  by_cases h0 : ∃ ad, A = some ad
  · obtain ⟨ad, rfl⟩ := h0
    have hnews : ∃ news : List Value, news.length = rows2.length * i.size ∧ (∀ k, k < rows2.length * i.size → news[k]? = some (f2 k)) ∧ (∀ j u, news[j]? = some u → w.cell? (ad.add j) = some u) ∧ ∀ u ∈ news, u.oneCell' = true := by
      rcases hA with rfl | ⟨b, o2, e1, hc⟩
      · exact ⟨[], by simp, (fun k hk => by simp at hk), (fun j u hu => by simp at hu), (fun u hu => by cases hu)⟩
      · injection e1 with e1
        subst e1
        rw [show E.P.cellsOf e = i.size by omega] at hc
        refine ⟨(List.range (rows2.length * i.size)).map f2, by simp, fun k hk => by simp [hk], fun j u hu => ?_, fun u hu => ?_⟩
        · rw [List.getElem?_map] at hu
          by_cases hj : j < rows2.length * i.size
          · rw [List.getElem?_range hj] at hu
            simp only [Option.map_some, Option.some.injEq] at hu
            rw [add_at, hc j hj, hu]
          · rw [List.getElem?_eq_none (by simpa using hj)] at hu
            cases hu
        · obtain ⟨k, hk, rfl⟩ := List.mem_map.1 hu
          obtain ⟨i', j', hi', hj', rfl⟩ := split_row (List.mem_range.1 hk)
          have hrl := hsrc.len _ (List.getElem_mem hi')
          have hj2 : j' < rows2[i'].length := by omega
          have := hsrc.rd i' hi' j' hj2
          rw [show E.P.cellsOf e = i.size by omega] at this
          exact leaf_rd this (leafRows_at hleaf hi' hj2)
    obtain ⟨news, hnl, hnf, hnc, hn1⟩ := hnews
    obtain ⟨v', w', hr, ho', hg, hbk⟩ := run_app (P := E.P) (ty := ty) ht hi hz (by omega) (by omega) hown ad rows2.length cap news hnl hnc hn1 (by unfold maxLen; omega) (by
      have : (rows.length + rows2.length) * i.bytes ≤ 4294967296 * 32768 := Nat.mul_le_mul hn (by omega)
      omega) hB
    refine ⟨v', w', xs ++ news, hr, by rw [List.length_append, show E.P.cellsOf e = i.size by omega]; exact ho', hg, hbk, fun k hk => ?_⟩
    rw [List.length_append, Nat.add_mul] at hk
    have hxl : xs.length = rows.length * E.P.cellsOf e := by rw [show E.P.cellsOf e = i.size by omega]; exact hown.1
    by_cases hlt : k < rows.length * E.P.cellsOf e
    · rw [if_pos hlt, List.getElem?_append_left (by omega)]
      exact hf k hlt
    · rw [if_neg hlt, List.getElem?_append_right (by omega), hxl]
      refine hnf _ ?_
      rw [← show E.P.cellsOf e = i.size by omega]
      omega
  · have hA0 : A = none := by
      cases A with
      | none => rfl
      | some ad => exact absurd ⟨ad, rfl⟩ h0
    subst hA0
    rcases hA with rfl | ⟨b, q', e1, _⟩
    · refine ⟨v, w, xs, by simpa using run_app_none (ty := ty) ht hi hown, by rw [List.append_nil, show E.P.cellsOf e = i.size by omega]; exact hown, ⟨rfl, rfl, rfl, Nat.le_refl _, fun _ _ _ => rfl⟩, .inl rfl, fun k hk => ?_⟩
      rw [List.append_nil] at hk
      rw [if_pos hk]
      exact hf k hk
    · cases e1
end
end Av
end Go.Proofs.Ytbkbppllcjcmhaa

namespace Go.Proofs.Ytbkbppllcjcmhaa
open Go.RowKit
namespace Av

section
variable {E : Tab} {m : Nat} {o : Oper} {w0 : W0} {w : World} {N : Nat} {S : ASt} {φ : Nat → Value} {T : Nat → Nat → Nat → Prop} {M : Nat → Prop} {a : Act} {r : ARes} {s s' : Seen}
theorem upd_ne {α : Type} (f : Nat → α) {k x : Nat} (v : α) (h : x ≠ k) : upd f k v x = f x := by simp [upd, h]
/-- what the source owns, for the new row -/
theorem src_own (h : Rel E.P w0 N S φ T M a w) {y : AV} {v : Value} {e : TypeId} {rows : List (List PV)} {own : Bool} {f : Nat → Value} {M' : Nat → Prop} (hy : RaS E w M φ S y v) (hsrc : Src E.P w M' e rows v f)
    (ho : own = true → flatRows rows = true ∨ ∃ c, y = .sl c ∧ S.h c = .row true e rows) :
    own = true → ∀ i (hi : i < rows.length) j (hj : j < rows[i].length), Ow E.P w ((fun k g => ∃ c, y = .sl c ∧ S.h c = .row true e rows ∧ T c k g) (i * E.P.cellsOf e + j)) rows[i][j] (f (i * E.P.cellsOf e + j)) := by
  intro hown i hi j hj
  rcases ho hown with hfl | ⟨c, rfl, hB⟩
  · exact Rd.flat_ow (hsrc.rd i hi j hj) (flatRows_at hfl hi hj)
  · have hb := h.blks c
    rw [hB] at hb
    obtain ⟨xs, f0, ho0, hs0, hf0, hc0⟩ := hb
    have hk : i * E.P.cellsOf e + j < rows.length * E.P.cellsOf e := by
      have h1 := hs0 _ (List.getElem_mem hi)
      have := Nat.mul_le_mul_right (E.P.cellsOf e) (show i + 1 ≤ rows.length by omega)
      rw [Nat.add_mul, Nat.one_mul] at this
      omega
    obtain ⟨A, cap, hv, hA⟩ := hsrc.val
    have hvc := ra_sl hy
    rcases row_cells ho0 hf0 with ⟨hv0, h0⟩ | ⟨g, cap', hv0, _, _, _, hc⟩
    · omega
    · rcases hA with rfl | ⟨b, q, rfl, hA⟩
      · simp at hi
      · have e1 : (⟨b, q, none⟩ : Addr) = ⟨g, 0, none⟩ := by
          rw [hvc, hv0] at hv
          injection hv with hv _ _
          injection hv with hv
          exact hv.symm
        injection e1 with e1 e2
        subst e1; subst e2
        have h1 := hA _ hk
        rw [Nat.zero_add, hc _ hk] at h1
        injection h1 with h1
        rw [← h1]
        exact Ow.mono (hc0 i hi j hj) (fun g hg => ⟨c, rfl, hB, hg⟩)
/-- the row that is appended to is told of no more -/
def killO (h : Nat → Blk) : Option Nat → Nat → Blk
  | some b => upd h b .dead
  | none => h
/-- the memory below a row that elements were appended to -/
def appT (T : Nat → Nat → Nat → Prop) (S : ASt) (y : AV) (e : TypeId) (rows2 : List (List PV)) (b : Option Nat) (own : Bool) (m L : Nat) (x k g : Nat) : Prop :=
  if x = m then own = true ∧ ((k < L ∧ ∃ b', b = some b' ∧ T b' k g) ∨ (L ≤ k ∧ ∃ c, y = .sl c ∧ S.h c = .row true e rows2 ∧ T c (k - L) g)) else some x ≠ b ∧ y ≠ .sl x ∧ T x k g
theorem appQ_sound {e : TypeId} {t ty : TypeId} {x q : TI} (hx : E.tb t = some x) (hk : x.kind = .slice e) (hq : E.tb e = some q) (hpos : 0 < q.size) (hm : S.h m = .none) (h : Rel E.P w0 N S φ T M a w) {u y : AV} {v v2 : Value} (hu : RaS E w M φ S u v) (hy : RaS E w M φ S y v2)
    (hr : (appQ m q.bytes e u y).run S s (isRes r s')) : ∃ v' w', (Builtin.append_ #[t, t] ty #[v, v2]).run E.P w = .ok v' w' ∧ After E w0 N S r a v' w' := by
  have hnty : ∀ c, y = .sl c → (S.h c).isTree = false := fun c hc => by
    subst hc
    unfold appQ srcQ at hr
    simp only [Rq.run] at hr
    cases hB : S.h c <;> first | rfl | (rw [hB] at hr; exact hr.elim)
  unfold appQ at hr
  obtain ⟨e2, rows2, own2, U, s1, hr1, hU, hUy, hURd, hUo, hUl⟩ := srcQ_run h hy hr
  obtain ⟨M', h', hM', hfz, hup, hdl⟩ := freeze_rel hU h
  obtain ⟨f2, hsrc⟩ := src_of (hURd h' hM')
  have hmU : updL S.h U m = .none := by
    rcases hup m with e1 | ⟨e', rows', _, own', e2⟩
    · rw [e1, hm]
    · rw [hm] at e2; cases e2
  have hso := src_own (T := T) h hy hsrc hUo
  have fin : ∀ {w2 : World} {v' : Value} {B : Blk} {hh : Nat → Blk} {M2 : Nat → Prop}, B.known = true → Ra E.P w2 M2 (upd φ m v') (fun b => (upd hh m B b).known = true) (.sl m) v' := fun {w2 v' B hh M2} hB => by
    have := Ra.sl (P := E.P) (w := w2) (M := M2) (φ := upd φ m v') (L := fun b => (upd hh m B b).known = true) m (by rw [upd_same]; exact hB)
    rw [upd_same] at this
    exact this
  -- a row that is handed on is no row any more
  have hgone : ∀ c, y = .sl c → (updL S.h U c).live = false := fun c hc => by
    rcases hup c with e1 | ⟨e', rows', e1, _⟩
    · cases hl : (S.h c).live with
      | false => rw [e1]; exact hl
      | true => obtain ⟨B, hB⟩ := hUl c hc hl; exact hdl _ hB
    · rw [e1]; rfl
  -- the row to which is appended
  have key : ∀ {b : Option Nat} {own : Bool} {rows : List (List PV)} {xs : List Value} {f : Nat → Value}, (∀ b', b = some b' → S.h b' = .row own e rows ∧ y ≠ .sl b' ∧ v = φ b') → (b = none → v = .slice none 0 0 ∧ rows = []) →
      w.ownsRow w0.heap.size e (E.P.cellsOf e) v rows.length xs → (∀ r ∈ rows, r.length = E.P.cellsOf e) → (∀ k, k < rows.length * E.P.cellsOf e → xs[k]? = some (f k)) →
      (∀ i (hi : i < rows.length) j (hj : j < rows[i].length), if own then Ow E.P w ((fun k g => ∃ b', b = some b' ∧ T b' k g) (i * E.P.cellsOf e + j)) rows[i][j] (f (i * E.P.cellsOf e + j)) else Rd E.P w M' rows[i][j] (f (i * E.P.cellsOf e + j))) →
      e = e2 → rows.length + rows2.length ≤ 4294967296 → q.bytes ≤ 32768 → leafRows rows2 = true →
      ∃ v' w', (Builtin.append_ #[t, t] ty #[v, v2]).run E.P w = .ok v' w' ∧ ∃ φ' T' M2, Rel E.P w0 N ⟨S.t, upd (killO (updL S.h U) b) m (.row (own && own2) e (rows ++ rows2))⟩ φ' T' M2 a w' ∧
        Ra E.P w' M2 φ' (fun z => (upd (killO (updL S.h U) b) m (.row (own && own2) e (rows ++ rows2)) z).known = true) (.sl m) v' := by
    intro b own rows xs f hb hb0 hown hl hf hA he hn hby hleaf
    subst he
    obtain ⟨v', w', xs', hrun, hown', hg, hbk, hf'⟩ := app_run (ty := ty) hx hk hq hpos hby hown hf hsrc hleaf hn h.below.size
    refine ⟨v', w', hrun, upd φ m v', appT T S y e rows2 b (own && own2) m (rows.length * E.P.cellsOf e), fun g => M' g ∨ (v'.ownBlock = some g ∧ w.heap.size ≤ g), ?_, fin rfl⟩
    have hvs : ∃ A n c, v' = .slice A n c := by
      rcases hown'.2 with ⟨e1, _⟩ | ⟨g, cap, cur, e1, _⟩ <;> exact ⟨_, _, _, e1⟩
    have hvs0 : ∃ A n c, v = .slice A n c := by
      rcases hown.2 with ⟨e1, _⟩ | ⟨g, cap, cur, e1, _⟩ <;> exact ⟨_, _, _, e1⟩
    have hbo := blk_own _ hvs
    have hbo0 := blk_own _ hvs0
    have hbU : ∀ b', b = some b' → updL S.h U b' = .row own e rows := fun b' e1 => by
      obtain ⟨h1, h2, _⟩ := hb b' e1
      rcases hup b' with e2 | ⟨e', rows', e2, own', e3⟩
      · rw [e2, h1]
      · exfalso
        have : (updL S.h U b').live = false := by rw [e2]; rfl
        -- b' is in U only if y is it
        have hmem : ∃ B, (b', B) ∈ U := by
          rcases Classical.em (∃ B, (b', B) ∈ U) with h3 | h3
          · exact h3
          · exfalso
            have : ∀ (U : List (Nat × Blk)) (g : Nat → Blk), (¬ ∃ B, (b', B) ∈ U) → updL g U b' = g b' := by
              intro U
              induction U with
              | nil => intro g _; rfl
              | cons p U ih =>
                intro g hne
                obtain ⟨pk, pB⟩ := p
                show updL (upd g pk pB) U b' = g b'
                rw [ih _ (fun ⟨B, hB⟩ => hne ⟨B, List.mem_cons_of_mem _ hB⟩)]
                exact upd_ne _ _ (fun e4 => hne ⟨pB, by rw [e4]; exact List.mem_cons_self ..⟩)
            rw [this U S.h h3, h1] at e2
            cases e2
        obtain ⟨B, hB⟩ := hmem
        have := hUy _ hB
        cases y <;> simp [AV.rowOf] at this
        subst this
        exact h2 rfl
    have hTM : ∀ {x k g}, T x k g → (S.h x).isTree = false → ¬ M' g := fun {x k g} ht hx hmm => (h.own x k g ht).2.2 hx (hM' g hmm)
    have hbT : ∀ {b'}, b = some b' → (S.h b').isTree = false := fun {b'} e1 => by rw [(hb b' e1).1]; rfl
    have hUT : ∀ z, (updL S.h U z).isTree = true → (S.h z).isTree = true := fun z hz => by
      rcases hup z with e1 | ⟨_, _, e1, _⟩
      · rw [← e1]; exact hz
      · rw [e1] at hz; cases hz
    have hKT : ∀ z, ((killO (updL S.h U) b) z).isTree = true → (updL S.h U z).isTree = true ∧ some z ≠ b := fun z hz => by
      cases b with
      | none => exact ⟨hz, by simp⟩
      | some b' =>
        simp only [killO, upd] at hz
        split at hz
        · cases hz
        · rename_i hne; exact ⟨hz, by simpa using hne⟩
    have hgb : ∀ g, v.ownBlock = some g → M' g ∧ ∀ b', b = some b' → blk (φ b') = some g := fun g eg => by
      cases b with
      | none => rw [(hb0 rfl).1] at eg; cases eg
      | some b' =>
        have e3 := (hb b' rfl).2.2
        have h4 : blk (φ b') = some g := by rw [← e3, hbo0]; exact eg
        exact ⟨h'.mutb b' g (by show (updL S.h U b').live = true; rw [hbU b' rfl]; rfl) h4, fun b2 e5 => by injection e5 with e5; rw [← e5]; exact h4⟩
    have hlow : ∀ g, v.ownBlock = some g → w0.heap.size ≤ g := fun g eg => by
      cases b with
      | none => rw [(hb0 rfl).1] at eg; cases eg
      | some b' => exact h'.low b' g (by show (updL S.h U b').live = true; rw [hbU b' rfl]; rfl) ((hgb g eg).2 b' rfl)
    -- kill, grow
    have h1 : Rel E.P w0 N ⟨S.t, killO (updL S.h U) b⟩ φ T M' a w := by
      cases b with
      | none => exact h'
      | some b' => exact h'.kill b' (by show (updL S.h U b').isTree = false; rw [hbU b' rfl]; rfl)
    have hlv : ∀ z, ((killO (updL S.h U) b) z).live = true → (updL S.h U z).live = true ∧ some z ≠ b := fun z hz => by
      cases b with
      | none => exact ⟨hz, by simp⟩
      | some b' =>
        simp only [killO, upd] at hz
        split at hz
        · cases hz
        · rename_i hne; exact ⟨hz, by simpa using hne⟩
    have h2 := h1.grown hg (fun g eg => ⟨(hgb g eg).1, hlow g eg, fun z hz e5 => by
      obtain ⟨hz1, hz2⟩ := hlv z hz
      cases b with
      | none => rw [(hb0 rfl).1] at eg; cases eg
      | some b' =>
        have := h'.disj z b' g hz1 (by show (updL S.h U b').live = true; rw [hbU b' rfl]; rfl) e5 ((hgb g eg).2 b' rfl)
        exact hz2 (by rw [this]), fun z k hz ht => by
      obtain ⟨hz1, hz2⟩ := hKT z hz
      cases b with
      | none => rw [(hb0 rfl).1] at eg; cases eg
      | some b' => exact (h'.tree z k g ht hz1).2 b' (by show (updL S.h U b').live = true; rw [hbU b' rfl]; rfl) ((hgb g eg).2 b' rfl)⟩) (fun g => v'.ownBlock = some g ∧ w.heap.size ≤ g) (fun g ⟨e5, h5⟩ => ⟨h5, (World.ownsRow.lt hown' g e5).2⟩)
    have hmm0 : ((killO (updL S.h U) b) m) = .none := by
      cases b with
      | none => exact hmU
      | some b' =>
        have : m ≠ b' := fun e6 => by have := (hb b' rfl).1; rw [← e6, hm] at this; cases this
        show upd _ _ _ _ = _
        rw [upd_ne _ _ this]; exact hmU
    refine h2.set m _ v' _ rfl (by show ((killO (updL S.h U) b) m).live = false; rw [hmm0]; rfl) (fun hkn => by
      have hkn' : ((killO (updL S.h U) b) m).known = true := hkn
      rw [hmm0] at hkn'; cases hkn') ?_ (fun _ g eg => ?_) (fun x k g hxx hxm => ?_) (fun x hxm ⟨e', rows', hB⟩ => ?_) (fun k g hkk => ?_)
    · -- the cells of the new row
      have hR : ∀ p v, Rd E.P w M' p v → Rd E.P w' (fun g => M' g ∨ (v'.ownBlock = some g ∧ w.heap.size ≤ g)) p v := fun p v hr => hr.keep ⟨hg.size, fun z hz hzm => hg.block z hz (fun e7 => hzm (hgb z e7.symm).1)⟩ (fun z hz hzm => hzm.resolve_right (fun h7 => by omega))
      have hcells := app_cells (own := own) (own2 := own2) (f := f) (Tb := fun k g => ∃ b', b = some b' ∧ T b' k g) (Tc := fun k g => ∃ c, y = .sl c ∧ S.h c = .row true e rows2 ∧ T c k g) hl hA (fun k g ⟨b', e1, ht⟩ => hTM ht (hbT e1)) hsrc.rd hso hR
        (fun k p v ho => ho.keep (fun z ⟨b', e1, ht⟩ hlt => hg.block z hlt (fun e7 => hTM ht (hbT e1) (hgb z e7.symm).1)))
        (fun k p v ho => ho.keep (fun z ⟨c, e1, _, ht⟩ hlt => hg.block z hlt (fun e7 => hTM ht (hnty c e1) (hgb z e7.symm).1)))
      refine ⟨xs', fun k => if k < rows.length * E.P.cellsOf e then f k else f2 (k - rows.length * E.P.cellsOf e), hown', fun r hr => ?_, hf', fun i hi j hj => ?_⟩
      · rcases List.mem_append.1 hr with hr | hr
        · exact hl r hr
        · exact hsrc.len r hr
      · have h8 := hcells i hi j hj
        cases hoo : own && own2 with
        | true =>
          rw [hoo] at h8
          simp only [if_true] at h8 ⊢
          refine Ow.mono h8 (fun g hg => ?_)
          simp only [appT, if_true]
          exact ⟨trivial, hg⟩
        | false => rw [hoo] at h8; exact h8
    · have e8 : v'.ownBlock = some g := by rw [← hbo]; exact eg
      rcases hbk with e9 | ⟨g', e9, h9, h10⟩
      · rw [e8] at e9
        refine ⟨.inl (hgb g e9.symm).1, fun z hzm hz e11 => ?_, fun z k hzm hz ht => ?_⟩
        · obtain ⟨hz1, hz2⟩ := hlv z hz
          cases b with
          | none => rw [(hb0 rfl).1] at e9; cases e9
          | some b' =>
            have := h'.disj z b' g hz1 (by show (updL S.h U b').live = true; rw [hbU b' rfl]; rfl) e11 ((hgb g e9.symm).2 b' rfl)
            exact hz2 (by rw [this])
        · obtain ⟨hz1, hz2⟩ := hKT z hz
          cases b with
          | none => rw [(hb0 rfl).1] at e9; cases e9
          | some b' => exact (h'.tree z k g ht hz1).2 b' (by show (updL S.h U b').live = true; rw [hbU b' rfl]; rfl) ((hgb g e9.symm).2 b' rfl)
      · rw [e8] at e9
        injection e9 with e9
        subst e9
        refine ⟨.inr ⟨e8, h9⟩, fun z hzm hz e11 => ?_, fun z k hzm hz ht => ?_⟩
        · obtain ⟨hz1, _⟩ := hlv z hz
          have := h'.mlt g (h'.mutb z g hz1 e11)
          omega
        · have := (h.own z k g ht).2.1
          omega
    · simp only [appT, hxm, if_false] at hxx
      exact hxx.2.2
    · have hz2 : some x ≠ b ∧ y ≠ .sl x := by
        have hB1 : (killO (updL S.h U) b) x = .row true e' rows' ∨ ((killO (updL S.h U) b) x).isTree = true := by
          rcases hB with hB | hB | ⟨_, _, hB⟩
          · exact .inl hB
          · have hB' : (killO (updL S.h U) b) x = .tree e' rows' := hB
            exact .inr (by rw [hB']; rfl)
          · have hB' : (killO (updL S.h U) b) x = .opn e' rows' _ _ := hB
            exact .inr (by rw [hB']; rfl)
        rcases hB1 with hB | hz
        · have hz : ((killO (updL S.h U) b) x).live = true := by
            rw [hB]; rfl
          obtain ⟨hz1, hz2⟩ := hlv x hz
          exact ⟨hz2, fun e12 => by rw [hgone x e12] at hz1; cases hz1⟩
        · obtain ⟨hz1, hz2⟩ := hKT x hz
          exact ⟨hz2, fun e12 => by have h1 := hUT x hz1; rw [hnty x e12] at h1; cases h1⟩
      obtain ⟨hz2, hy2⟩ := hz2
      funext k g
      simp [appT, hxm, hz2, hy2]
    · simp only [appT, if_true] at hkk
      obtain ⟨hoo, hkk⟩ := hkk
      have hbc : ∀ {b' c}, b = some b' → y = .sl c → b' ≠ c := fun {b' c} e1 e2 e3 => (hb b' e1).2.1 (by rw [e2, e3])
      have hT1 : ∃ z k0, T z k0 g ∧ (some z = b ∨ y = .sl z) := by
        rcases hkk with ⟨_, b', e1, ht⟩ | ⟨_, c, e1, _, ht⟩
        · exact ⟨b', k, ht, .inl e1.symm⟩
        · exact ⟨c, _, ht, .inr e1⟩
      obtain ⟨z, k0, hz, hzy⟩ := hT1
      have hzt : ((killO (updL S.h U) b) z).isTree = false := by
        cases hzt : ((killO (updL S.h U) b) z).isTree with
        | false => rfl
        | true =>
          obtain ⟨hz1, hz2⟩ := hKT z hzt
          rcases hzy with e4 | e4
          · exact absurd e4 hz2
          · have h1 := hUT z hz1
            rw [hnty z e4] at h1; cases h1
      refine ⟨⟨(h2.own z k0 g hz).1, (h2.own z k0 g hz).2.1, fun _ => (h2.own z k0 g hz).2.2 hzt, fun e4 => by cases e4⟩, fun k' hk' => ?_, fun x k' hxm hxx => ?_⟩
      · simp only [appT, if_true] at hk'
        obtain ⟨_, hk'⟩ := hk'
        rcases hkk with ⟨h3, b', e1, ht⟩ | ⟨h3, c, e1, _, ht⟩ <;> rcases hk' with ⟨h4, b2, e3, ht'⟩ | ⟨h4, c2, e3, _, ht'⟩
        · exact (h.apart _ _ _ _ g ht ht').2
        · exact absurd (h.apart _ _ _ _ g ht ht').1 (hbc e1 e3)
        · exact absurd (h.apart _ _ _ _ g ht' ht).1 (hbc e3 e1)
        · have := (h.apart _ _ _ _ g ht ht').2
          omega
      · simp only [appT, hxm, if_false] at hxx
        have := (h.apart _ _ _ _ g hxx.2.2 hz).1
        subst this
        rcases hzy with e4 | e4
        · exact hxx.1 e4
        · exact hxx.2.1 e4
  split at hr1
  · obtain ⟨⟨he, rfl, hn, hby, hleaf⟩, hr2⟩ := hr1
    obtain ⟨rfl, _⟩ := hr2
    cases hu with
    | nil =>
      obtain ⟨v', w', hrun, φ', T', M2, hrel, hra⟩ := key (b := none) (own := true) (rows := []) (xs := []) (f := fun _ => undef) (fun b' e1 => by cases e1) (fun _ => ⟨rfl, rfl⟩) (World.ownsRow_nil w _ _ _) (fun r hr => by cases hr) (fun k hk => by simp at hk) (fun i hi => absurd hi (by simp)) he (by simpa using hn) hby hleaf
      refine ⟨v', w', hrun, ?_⟩
      unfold After
      simp only
      rw [updL_append]
      exact ⟨φ', T', M2, hrel, hra⟩
  · rename_i b
    simp only [Rq.run] at hr1
    split at hr1
    · rename_i own e' rows hB
      obtain ⟨⟨he, rfl, hn, hby, hleaf, hne⟩, hr2⟩ := hr1
      obtain ⟨rfl, _⟩ := hr2
      have hb := h.blks b
      rw [hB] at hb
      obtain ⟨xs, f, hown, hl, hf, hA⟩ := hb
      have hv := ra_sl hu
      obtain ⟨v', w', hrun, φ', T', M2, hrel, hra⟩ := key (b := some b) (own := own) (rows := rows) (xs := xs) (f := f) (fun b' e1 => by injection e1 with e1; subst e1; exact ⟨hB, fun e2 => hne (by rw [e2]; rfl), hv⟩) (fun e1 => by cases e1) (by rw [hv]; exact hown) hl hf
        (fun i hi j hj => by
          have := hA i hi j hj
          cases own with
          | true => exact Ow.mono this (fun g hg => ⟨b, rfl, hg⟩)
          | false => exact Rd.weak this hM') he hn hby hleaf
      refine ⟨v', w', hrun, ?_⟩
      unfold After
      simp only
      rw [updL_append]
      exact ⟨φ', T', M2, hrel, hra⟩
    · exact hr1.elim
  · exact hr1.elim
theorem op_append {c : Call} (ho : o.op = .call c) (hc : c.callee = .builtin .append) (hm : S.h m = .none) (h : Rel E.P w0 N S φ T M a w) (hr : (aop E m o).run S s (isRes r s')) : sure E.P o a w (After E w0 N S r a) := by
  obtain ⟨cc, ⟨args⟩, ⟨tys⟩⟩ := c
  simp only at hc
  subst hc
  unfold aop at hr
  rw [ho] at hr
  simp only at hr
  split at hr
  · rename_i x y t t'
    split at hr
    · rename_i z hz
      split at hr
      · rename_i e hk
        split at hr
        · rename_i q hq
          obtain ⟨⟨rfl, hpos⟩, hr0⟩ := hr
          obtain ⟨u, s1, hr1, hu⟩ := ev_sound h hr0
          obtain ⟨y', s2, hr2, hy⟩ := ev_sound h hr1
          obtain ⟨v', w', hrun, haf⟩ := appQ_sound (ty := o.type) hz hk hq hpos hm h hu hy hr2
          refine sure_value (v := v') (w' := w') ?_ haf
          unfold execOp
          rw [ho]
          simp [resolve, invoke, builtin, hrun]
        · exact hr.elim
      · exact hr.elim
    · exact hr.elim
  · exact hr.elim
end
end Av
end Go.Proofs.Ytbkbppllcjcmhaa

namespace Go.Proofs.Ytbkbppllcjcmhaa
open Go.RowKit
namespace Av

section
variable {E : Tab} {m : Nat} {o : Oper} {w0 : W0} {w : World} {N : Nat} {S : ASt} {φ : Nat → Value} {T : Nat → Nat → Nat → Prop} {M : Nat → Prop} {a : Act} {r : ARes} {s s' : Seen}
/-- a bound of a part, if it is told -/
def Bd (y : Option AV) (u : Option Value) (d n : Int) : Prop := (y = none ∧ u = none ∧ n = d) ∨ ∃ k, y = some (.pv (.int k n)) ∧ u = some (.int k n)
theorem evO_sound {x : Option Operand} {k : Option AV → Rq} {K : ARes → Seen → Prop} (h : Rel E.P w0 N S φ T M a w) (hr : (evO E x k).run S s K) : ∃ y s1, (k y).run S s1 K ∧ ((x = none ∧ y = none) ∨ ∃ p q, x = some p ∧ y = some q ∧ RaS E w M φ S q (a.eval p)) := by
  cases x with
  | none => exact ⟨none, s, hr, .inl ⟨rfl, rfl⟩⟩
  | some p =>
    obtain ⟨q, s1, hr1, hq⟩ := ev_sound h hr
    exact ⟨some q, s1, hr1, .inr ⟨p, q, rfl, rfl, hq⟩⟩
theorem at_sound {x : Option Operand} {y : Option AV} {d : Int} {k : Int → Rq} {K : ARes → Seen → Prop} (hxy : (x = none ∧ y = none) ∨ ∃ p q, x = some p ∧ y = some q ∧ RaS E w M φ S q (a.eval p))
    (hr : (boundQ y d k).run S s K) : ∃ n, (k n).run S s K ∧ ((x.map a.eval = none ∧ n = d) ∨ ∃ q, x.map a.eval = some (.int q n)) := by
  unfold boundQ at hr
  rcases hxy with ⟨rfl, rfl⟩ | ⟨p, q, rfl, rfl, hq⟩
  · exact ⟨d, hr, .inl ⟨rfl, rfl⟩⟩
  · split at hr
    · rename_i e; cases e
    · rename_i kk n e
      injection e with e
      subst e
      exact ⟨n, hr, .inr ⟨kk, by rw [Option.map_some, rd_int (ra_pv hq)]⟩⟩
    · exact hr.elim
theorem run_bounds {isS : Bool} {len cap : Nat} {lo hi : Option Value} {l h : Int} (hl : (lo = none ∧ l = 0) ∨ ∃ q, lo = some (.int q l)) (hh : (hi = none ∧ h = len) ∨ ∃ q, hi = some (.int q h)) (h0 : 0 ≤ l) (h1 : l ≤ h) (h2 : h ≤ cap) :
    (Instr.sliceBounds isS len cap lo hi none).run E.P w = .ok (l.toNat, h.toNat, cap) w := by
  obtain ⟨l, rfl⟩ := Int.eq_ofNat_of_zero_le h0
  obtain ⟨h, rfl⟩ := Int.eq_ofNat_of_zero_le (show 0 ≤ h by omega)
  have h3 : (h : Int) ≤ cap := h2
  have h4 : (l : Int) ≤ h := h1
  rcases hl with ⟨rfl, e1⟩ | ⟨q, rfl⟩ <;> rcases hh with ⟨rfl, e2⟩ | ⟨q', rfl⟩
  · obtain rfl : l = 0 := by omega
    obtain rfl : h = len := by omega
    simp [Instr.sliceBounds]
  · obtain rfl : l = 0 := by omega
    simp [Instr.sliceBounds, Instr.sliceBound, asIntOf, show h ≤ cap by omega]
  · obtain rfl : h = len := by omega
    simp [Instr.sliceBounds, Instr.sliceBound, asIntOf, show l ≤ h by omega]
  · simp [Instr.sliceBounds, Instr.sliceBound, asIntOf, show l ≤ h by omega, show h ≤ cap by omega]
theorem rd_part {P : Program} {M : Nat → Prop} {e : TypeId} {rows : List (List PV)} {A : Option Addr} {n cap : Nat} (h : Rd P w M (.lst e rows) (.slice A n cap)) :
    n = rows.length ∧ n ≤ cap ∨ rows = [] ∧ n = 0 := by
  cases h with
  | nil => exact .inr ⟨rfl, rfl⟩
  | lst _ _ _ _ _ _ _ hc => exact .inl ⟨rfl, hc⟩
/-- a part of a slice that is not written -/
theorem part_rd {P : Program} {M : Nat → Prop} {e : TypeId} {rows : List (List PV)} {A : Option Addr} {cap : Nat} (h : Rd P w M (.lst e rows) (.slice A rows.length cap)) {l q : Nat} (hl : l ≤ q) (hq : q ≤ rows.length) (hc : rows = [] ∨ rows.length ≤ cap) :
    Rd P w M (.lst e ((rows.take q).drop l)) (.slice (if cap = l then A else A.map (·.add (l * P.cellsOf e))) (q - l) (cap - l)) := by
  have hlen : ((rows.take q).drop l).length = q - l := by simp; omega
  by_cases h0 : q - l = 0
  · have : (rows.take q).drop l = [] := List.eq_nil_of_length_eq_zero (by omega)
    rw [this, h0]
    exact .nil _ _ _
  · cases h with
    | nil => simp at hq; omega
    | lst _ _ b o _ f hb hcc hM hs hcell hr =>
      rw [if_neg (by omega), ← hlen]
      simp only [Option.map_some, add_at]
      refine .lst e _ b (o + l * P.cellsOf e) (cap - l) (fun k => f (l * P.cellsOf e + k)) hb (by omega) hM (fun r hr' => hs r (List.mem_of_mem_take (List.mem_of_mem_drop hr'))) (fun k hk => ?_) (fun i hi j hj => ?_)
      · rw [hlen] at hk
        have := hcell (l * P.cellsOf e + k) (by
          have := Nat.mul_le_mul_right (P.cellsOf e) (show l + (q - l) ≤ rows.length by omega)
          rw [Nat.add_mul] at this
          omega)
        rw [Nat.add_assoc]; exact this
      · have e1 : ((rows.take q).drop l)[i] = rows[l + i]'(by omega) := by simp
        have hj' : j < (rows[l + i]'(by omega)).length := by rw [← e1]; exact hj
        have := hr (l + i) (by omega) j hj'
        simp only [e1]
        rw [show l * P.cellsOf e + (i * P.cellsOf e + j) = (l + i) * P.cellsOf e + j by rw [Nat.add_mul]; omega]
        exact this
/-- a row loses its end -/
theorem row_pop (h : Rel E.P w0 N S φ T M a w) (hm : S.h m = .none) {b : Nat} {own : Bool} {e : TypeId} {rows : List (List PV)} (hB : S.h b = .row own e rows) {A : Option Addr} {cap : Nat} (hv : φ b = .slice A rows.length cap) {q : Nat} (hq : q ≤ rows.length) :
    ∃ φ' T' M', Rel E.P w0 N ⟨S.t, upd (upd S.h b .dead) m (.row own e (rows.take q))⟩ φ' T' M' a w ∧ φ' m = .slice A q cap := by
  have hbl : (S.h b).live = true := by rw [hB]; rfl
  have hmb : m ≠ b := fun e1 => by rw [e1, hB] at hm; cases hm
  have h1 := h.kill b (by rw [hB]; rfl)
  have hb := h.blks b
  rw [hB] at hb
  obtain ⟨xs, f, ho, hs, hf, hc⟩ := hb
  have hlen : (rows.take q).length = q := by simp; omega
  have hqs : q * E.P.cellsOf e ≤ rows.length * E.P.cellsOf e := Nat.mul_le_mul_right _ hq
  have h2 := h1.set m (.row own e (rows.take q)) (.slice A q cap) (fun x k g => if x = m then T b k g else x ≠ b ∧ T x k g) rfl (by show (upd S.h b .dead m).live = false; rw [upd_ne _ _ hmb, hm]; rfl) (fun hk => by
    have hk' : (upd S.h b .dead m).known = true := hk
    rw [upd_ne _ _ hmb, hm] at hk'; cases hk') ?_ ?_ (fun x k g hx hxm => by simp only [hxm, if_false] at hx; exact hx.2) (fun x hxm ⟨e', rows', hx⟩ => ?_) (fun k g hk => ?_)
  · exact ⟨_, _, _, h2, upd_same _ _ _⟩
  · refine ⟨xs.take (q * E.P.cellsOf e), f, ⟨by rw [List.length_take, ho.1, hlen]; omega, ?_⟩, fun r hr => hs r (List.mem_of_mem_take hr), fun k hk => ?_, fun i hi j hj => ?_⟩
    · rcases ho.2 with ⟨hv', h0⟩ | ⟨g, cap', cur, hv', hbg, hg, hn, hmx, hcs, htk⟩
      · rw [hv] at hv'
        injection hv' with e1 e2 e3
        subst e1; subst e3
        have : q = 0 := by omega
        subst this
        exact .inl ⟨rfl, by simp⟩
      · rw [hv] at hv'
        injection hv' with e1 e2 e3
        subst e1; subst e3
        refine .inr ⟨g, cap, cur, by rw [hlen], hbg, hg, by omega, hmx, hcs, ?_⟩
        rw [hlen, ← htk, List.take_take, Nat.min_eq_left hqs]
    · rw [hlen] at hk
      rw [List.getElem?_take, if_pos hk]
      exact hf k (by omega)
    · rw [hlen] at hi
      have e1 : (rows.take q)[i]'(by omega) = rows[i]'(by omega) := by simp
      have hj' : j < (rows[i]'(by omega)).length := by rw [← e1]; exact hj
      have := hc i (by omega) j hj'
      simp only [e1, if_true]
      exact this
  · intro _ g eg
    have eb : blk (φ b) = some g := by
      rw [hv]; cases A with
      | none => cases eg
      | some ad => exact eg
    refine ⟨h.mutb b g hbl eb, fun b' hb' hl e' => ?_, fun x k _ hx ht => h.far ht hbl eb⟩
    have hl' : (upd S.h b .dead b').live = true := hl
    simp only [upd] at hl'
    split at hl'
    · cases hl'
    · rename_i hne; exact hne (h.disj b' b g hl' hbl e' eb)
  · have hx' : upd S.h b .dead x = .row true e' rows' ∨ upd S.h b .dead x = .tree e' rows' ∨ ∃ i cs, upd S.h b .dead x = .opn e' rows' i cs := hx
    have : x ≠ b := fun e1 => by rcases hx' with hx' | hx' | ⟨_, _, hx'⟩ <;> rw [e1, upd_same] at hx' <;> cases hx'
    funext k g
    simp [hxm, this]
  · simp only [if_true] at hk
    refine ⟨⟨(h.own b k g hk).1, (h.own b k g hk).2.1, fun _ => (h.own b k g hk).2.2 (by rw [hB]; rfl), fun e => by cases e⟩, fun k' hk' => ?_, fun x k' hxm hx => ?_⟩
    · simp only [if_true] at hk'
      exact (h.apart b k b k' g hk hk').2
    · simp only [hxm, if_false] at hx
      exact hx.1 (h.apart x k' b k g hx.2 hk).1
theorem op_slice {t : TypeId} {x : Operand} {lo hi mx : Option Operand} (ho : o.op = .slice t x lo hi mx) (hm : S.h m = .none) (h : Rel E.P w0 N S φ T M a w) (hr : (aop E m o).run S s (isRes r s')) : sure E.P o a w (After E w0 N S r a) := by
  unfold aop at hr
  rw [ho] at hr
  simp only at hr
  split at hr
  · rename_i y hy
    have fin : ∀ {v : Value} {w' : World}, (Instr.sliceAt t (a.eval x) (lo.map a.eval) (hi.map a.eval) none).run E.P w = .ok v w' → After E w0 N S r a v w' → sure E.P o a w (After E w0 N S r a) := fun {v w'} hrun haf => sure_value (v := v) (w' := w') (by
      unfold execOp
      rw [ho]
      exact (Sem.run_bind ..).trans (by simp only [Option.map_none]; rw [hrun]; rfl)) haf
    split at hr
    · rename_i et hk
      have ht := tab_slice hy hk
      split at hr
      · rename_i z hz
        obtain ⟨i, _, hi', _, hs, _⟩ := tab_info hz
        have run : ∀ {A : Option Addr} {n cap : Nat} {l q : Int}, a.eval x = .slice A n cap → ((lo.map a.eval = none ∧ l = 0) ∨ ∃ q, lo.map a.eval = some (.int q l)) → ((hi.map a.eval = none ∧ q = n) ∨ ∃ k, hi.map a.eval = some (.int k q)) → 0 ≤ l → l ≤ q → q ≤ cap →
            (Instr.sliceAt t (a.eval x) (lo.map a.eval) (hi.map a.eval) none).run E.P w = .ok (.slice (if cap = l.toNat then A else A.map (·.add (l.toNat * E.P.cellsOf et))) (q.toNat - l.toNat) (cap - l.toNat)) w := by
          intro A n cap l q hv hl hq h0 h1 h2
          unfold Instr.sliceAt Instr.slice
          rw [Sem.run_bind, run_underlying ht, Result.andThen_ok]
          simp only [hv]
          rw [Sem.run_bind, run_underlying ht, Result.andThen_ok]
          simp only
          rw [Sem.run_bind, run_bounds hl hq h0 h1 h2, Result.andThen_ok]
          simp [sizeOf, typeInfo, hi', Program.cellsOf]
        obtain ⟨u, s1, hr1, hu⟩ := ev_sound h hr
        obtain ⟨yl, s2, hr2, hlo⟩ := evO_sound h hr1
        obtain ⟨yh, s3, hr3, hhi⟩ := evO_sound h hr2
        have plain : ∀ {rows : List (List PV)} {s4 : Seen}, Rd E.P w M (.lst et rows) (a.eval x) → (sliceP et rows yl yh).run S s4 (isRes r s') → sure E.P o a w (After E w0 N S r a) := by
          intro rows s4 hrd hr4
          obtain ⟨l, hr5, hl⟩ := at_sound hlo hr4
          obtain ⟨q, ⟨⟨h0, h1, h2⟩, hr6⟩, hq⟩ := at_sound hhi hr5
          obtain ⟨A, cap, hv⟩ := rd_slice hrd
          rw [hv] at hrd
          have hcap : rows = [] ∨ rows.length ≤ cap := by
            rcases rd_part hrd with h | h
            · exact .inr h.2
            · exact .inl h.1
          have hqc : q ≤ (cap : Int) := by
            rcases hcap with hc | hc
            · rw [hc] at h2; simp at h2; omega
            · omega
          exact fin (run hv hl hq h0 h1 hqc) (after_ret h (.pv _ _ (part_rd hrd (by omega) (by omega) hcap)) hr6)
        unfold sliceRow at hr3
        split at hr3
        · rename_i e rows
          obtain ⟨rfl, hr4⟩ := hr3
          exact plain (ra_pv hu) hr4
        · rename_i b
          have hv := ra_sl hu
          simp only [Rq.run] at hr3
          split at hr3
          · rename_i own e rows hB
            split at hr3
            · obtain ⟨q, ⟨⟨rfl, h0, h2⟩, hr6⟩, hq⟩ := at_sound hhi hr3
              obtain ⟨rfl, _⟩ := hr6
              have hl0 : lo.map a.eval = none := by
                rcases hlo with ⟨e1, _⟩ | ⟨_, _, _, e1, _⟩
                · rw [e1]; rfl
                · cases e1
              have hb := h.blks b
              rw [hB] at hb
              obtain ⟨xs, f, hown, _⟩ := hb
              have hvb : ∃ A cap, φ b = .slice A rows.length cap ∧ rows.length ≤ cap := by
                rcases hown.2 with ⟨e1, e2⟩ | ⟨g, cap, cur, e1, _, _, hn, _⟩
                · exact ⟨none, 0, by rw [e1, e2], by omega⟩
                · exact ⟨_, _, e1, hn⟩
              obtain ⟨A, cap, hvb, hcap⟩ := hvb
              obtain ⟨φ', T', M', hrel, hφ⟩ := row_pop h hm hB hvb (q := q.toNat) (by omega)
              have hrun := run (l := 0) (hv.trans hvb) (.inl ⟨hl0, rfl⟩) hq (Int.le_refl _) h0 (by omega)
              have e2 : (if cap = (0 : Int).toNat then A else A.map (·.add ((0 : Int).toNat * E.P.cellsOf e))) = A := by
                split
                · rfl
                · cases A with
                  | none => rfl
                  | some ad => simp [Addr.add]
              rw [e2] at hrun
              simp only [Int.toNat_zero, Nat.sub_zero] at hrun
              refine fin hrun ⟨φ', T', M', hrel, ?_⟩
              have := Ra.sl (P := E.P) (w := w) (M := M') (φ := φ') (L := fun z => (upd (upd S.h b .dead) m (.row own e (rows.take q.toNat)) z).known = true) m (by rw [upd_same]; rfl)
              rw [hφ] at this
              exact this
            · exact hr3.elim
          · rename_i e rows hB
            obtain ⟨rfl, hr4⟩ := hr3
            have hb := h.blks b
            rw [hB] at hb
            exact plain (by rw [hv]; exact hb) hr4
          · exact hr3.elim
        · exact hr3.elim
      · exact hr.elim
    · rename_i hk
      have ht := tab_str hy hk
      obtain ⟨u, s1, hr1, hu⟩ := ev_sound h hr
      obtain ⟨yl, s2, hr2, hlo⟩ := evO_sound h hr1
      obtain ⟨yh, s3, hr3, hhi⟩ := evO_sound h hr2
      unfold sliceStr at hr3
      split at hr3
      · rename_i bs
        have hv := rd_str (ra_pv hu)
        obtain ⟨l, hr5, hl⟩ := at_sound hlo hr3
        obtain ⟨q, ⟨⟨h0, h1, h2⟩, hr6⟩, hq⟩ := at_sound hhi hr5
        refine fin (v := .string (bs.extract l.toNat q.toNat)) (w' := w) ?_ (after_ret h (.pv _ _ (.str _)) hr6)
        unfold Instr.sliceAt Instr.slice
        rw [Sem.run_bind, run_underlying ht, Result.andThen_ok]
        simp only [hv]
        rw [Sem.run_bind, run_underlying ht, Result.andThen_ok]
        simp only [Option.isSome_none, Bool.false_eq_true, if_false]
        have e1 := run_bounds (E := E) (w := w) (isS := false) hl hq h0 h1 h2
        simp [e1]
      · exact hr3.elim
    · exact hr.elim
  · exact hr.elim
end
end Av
end Go.Proofs.Ytbkbppllcjcmhaa
