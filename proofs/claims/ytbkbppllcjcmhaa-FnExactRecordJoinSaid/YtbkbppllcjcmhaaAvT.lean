/-
  What a call hands back of its own is told of as rows.
  Calls as operations.
  A region's operations: each one, one behind the other, and in whatever order.
  A region's operations in whatever order.
  A region whose operations come in whatever order leaves what they leave in the text's order.
-/
import Derived.Test.YtbkbppllcjcmhaaAvO
set_option linter.unusedSimpArgs false
set_option linter.unusedVariables false
namespace Go.Proofs.Ytbkbppllcjcmhaa
open Go.RowKit
namespace Av

section
variable {P : Program} {w0 : W0} {w : World} {N : Nat} {S : ASt} {φ : Nat → Value} {T : Nat → Nat → Nat → Prop} {M : Nat → Prop} {a : Act}
/-- memory of which nothing is told yet; of it X is to be written -/
structure Pool (w0 : W0) (w : World) (S : ASt) (φ : Nat → Value) (T : Nat → Nat → Nat → Prop) (M X F : Nat → Prop) : Prop where
  bd : ∀ g, F g → w0.heap.size ≤ g ∧ g < w.heap.size
  live : ∀ g, F g → ∀ b, (S.h b).live = true → blk (φ b) ≠ some g
  own : ∀ g, F g → ∀ x k, ¬ T x k g
  mx : ∀ g, F g → (M g ↔ X g)
def PV.isLst : PV → Bool
  | .lst .. => true
  | _ => false
/-- a leaf, and of its memory just its row is to be written -/
structure LeafOk (P : Program) (w : World) (X Q : Nat → Prop) (p : PV) (v : Value) : Prop where
  ow : Ow P w Q p v
  top : p.isLst = true → ∀ g, blk v = some g → X g
  only : ∀ g, Q g → X g → p.isLst = true ∧ blk v = some g
/-- what is left -/
def less (F Q : Nat → Prop) (g : Nat) : Prop := F g ∧ ¬ Q g
theorem leaf_new {m : Nat} {p : PV} {v : Value} {X Q F : Nat → Prop} (h : Rel P w0 N S φ T M a w) (hp : Pool w0 w S φ T M X F) (hl : LeafOk P w X Q p v) (hQ : ∀ g, Q g → F g) (hm : (introL m [p]).2.2 ≠ m → S.h m = .none) :
    ∃ φ' T', Rel P w0 N ⟨S.t, updL S.h (introL m [p]).2.1⟩ φ' T' M a w ∧ Pool w0 w ⟨S.t, updL S.h (introL m [p]).2.1⟩ φ' T' M X (less F Q) ∧ (∀ x, (introL m [p]).1 = [x] → Ra P w M φ' (fun b => (updL S.h (introL m [p]).2.1 b).known = true) x v) ∧
      (∀ b, (S.h b).known = true → φ' b = φ b ∧ (updL S.h (introL m [p]).2.1 b).known = true) ∧ ∀ b, b < m ∨ (introL m [p]).2.2 ≤ b → updL S.h (introL m [p]).2.1 b = S.h b := by
  have plain : p.isLst = false → (introL m [p]).2.1 = [] ∧ (introL m [p]).1 = [.pv p] := fun e => by cases p <;> first | exact ⟨rfl, rfl⟩ | cases e
  by_cases hpl : p.isLst = true
  · cases p with
    | lst e rows =>
      have hm' := hm (by simp [introL])
      have hlw := hl.ow
      cases hl.ow with
      | lst _ _ _ _ xs f Tn ho hs hS hT hd hf hr =>
        have hvs : ∃ A n c, v = .slice A n c := by
          rcases ho.2 with ⟨e1, _⟩ | ⟨g, cap, cur, e1, _⟩ <;> exact ⟨_, _, _, e1⟩
        have hbo := blk_own _ hvs
        have hown : w.ownsRow w0.heap.size e (P.cellsOf e) v rows.length xs := by
          refine ⟨ho.1, ?_⟩
          rcases ho.2 with h0 | ⟨g, cap, cur, e1, _, rest⟩
          · exact .inl h0
          · exact .inr ⟨g, cap, cur, e1, (hp.bd g (hQ g (hS g (by rw [e1]; rfl)))).1, rest⟩
        have hTM : ∀ k g, Tn k g → ¬ M g := fun k g ht hmm => by
          have h1 := hT k g ht
          have := hl.only g h1.1 ((hp.mx g (hQ g h1.1)).1 hmm)
          exact h1.2 (by rw [← hbo]; exact this.2)
        have h1 := h.set m (.row true e rows) v (fun x k g => if x = m then Tn k g else T x k g) rfl (by rw [hm']; rfl) (fun hk => by rw [hm'] at hk; cases hk) ?_ ?_ (fun x k g hx hxm => by simpa only [hxm, if_false] using hx) (fun x hxm _ => by funext k g; simp [hxm]) (fun k g hk => ?_)
        · refine ⟨_, _, h1, ⟨fun g hg => hp.bd g hg.1, fun g hg b hb e1 => ?_, fun g hg x k hx => ?_, fun g hg => hp.mx g hg.1⟩, fun x hx => ?_, fun b hb => ?_, fun b hb => ?_⟩
          · have hb' : (upd S.h m (.row true e rows) b).live = true := hb
            by_cases hbm : b = m
            · subst hbm
              rw [upd_same] at e1
              exact hg.2 (hS g (by rw [← hbo]; exact e1))
            · rw [upd_ne _ _ hbm] at hb' e1
              exact hp.live g hg.1 b hb' e1
          · by_cases hxm : x = m
            · simp only [hxm, if_true] at hx
              exact hg.2 (hT k g hx).1
            · simp only [hxm, if_false] at hx
              exact hp.own g hg.1 x k hx
          · injection hx with hx _
            subst hx
            have := Ra.sl (P := P) (w := w) (M := M) (φ := upd φ m v) (L := fun b => (upd S.h m (.row true e rows) b).known = true) m (by rw [upd_same]; rfl)
            rw [upd_same] at this
            exact this
          · have hne : b ≠ m := fun e1 => by rw [e1, hm'] at hb; cases hb
            exact ⟨upd_ne _ _ hne, by show (upd S.h m _ b).known = true; rw [upd_ne _ _ hne]; exact hb⟩
          · have hne : b ≠ m := fun e1 => by
              rcases hb with hb | hb
              · omega
              · have : (introL m [PV.lst e rows]).2.2 = m + 1 := rfl
                omega
            exact upd_ne _ _ hne
        · refine ⟨xs, f, hown, hs, hf, fun i hi j hj => ?_⟩
          simpa only [if_true] using hr i hi j hj
        · intro _ g eg
          have hgS := hS g (by rw [← hbo]; exact eg)
          exact ⟨(hp.mx g (hQ g hgS)).2 (hl.top rfl g eg), fun b' _ hb' => hp.live g (hQ g hgS) b' hb', fun x k _ _ ht => hp.own g (hQ g hgS) x k ht⟩
        · simp only [if_true] at hk
          have hgF := hQ g (hT k g hk).1
          exact ⟨⟨(hp.bd g hgF).1, (hp.bd g hgF).2, fun _ => hTM k g hk, fun e1 => by cases e1⟩, fun k' hk' => by simp only [if_true] at hk'; exact hd k k' g hk hk', fun x k' hxm hx => by simp only [hxm, if_false] at hx; exact hp.own g hgF x k' hx⟩
    | int | bool | str | agg | tup => cases hpl
  · have hpl : p.isLst = false := by simpa using hpl
    obtain ⟨e1, e2⟩ := plain hpl
    rw [e1, e2]
    refine ⟨φ, T, h, ⟨fun g hg => hp.bd g hg.1, fun g hg => hp.live g hg.1, fun g hg => hp.own g hg.1, fun g hg => hp.mx g hg.1⟩, fun x hx => ?_, fun b hb => ⟨rfl, hb⟩, fun b _ => rfl⟩
    injection hx with hx _
    subst hx
    exact .pv p v (hl.ow.rd (fun g hg hmm => by
      have := (hl.only g hg ((hp.mx g (hQ g hg)).1 hmm)).1
      rw [hpl] at this; cases this))
theorem introL_ge : ∀ (cs : List PV) (m : Nat), m ≤ (introL m cs).2.2
  | [], m => Nat.le_refl _
  | p :: l, m => by
    cases p with
    | lst e rows =>
      have := introL_ge l (m + 1)
      show m ≤ (introL (m + 1) l).2.2
      omega
    | int | bool | str | agg | tup => exact introL_ge l m
theorem introL_len : ∀ (cs : List PV) (m : Nat), (introL m cs).1.length = cs.length
  | [], m => rfl
  | p :: l, m => by cases p <;> simp [introL, introL_len l]
theorem introL_cons (p : PV) (l : List PV) (m : Nat) : ∃ x, (introL m [p]).1 = [x] ∧ (introL m (p :: l)).1 = x :: (introL (introL m [p]).2.2 l).1 ∧ (introL m (p :: l)).2.1 = (introL m [p]).2.1 ++ (introL (introL m [p]).2.2 l).2.1 ∧ (introL m (p :: l)).2.2 = (introL (introL m [p]).2.2 l).2.2 := by
  cases p <;> exact ⟨_, rfl, rfl, rfl, rfl⟩
/-- cells that a call hands back -/
theorem list_new {X : Nat → Prop} : ∀ {cs : List PV} {vs : List Value} {Q : Nat → Nat → Prop} {m : Nat} {S : ASt} {φ : Nat → Value} {T : Nat → Nat → Nat → Prop} {F : Nat → Prop}, Rel P w0 N S φ T M a w → Pool w0 w S φ T M X F → (hl : vs.length = cs.length) → (∀ i (hi : i < cs.length), LeafOk P w X (Q i) cs[i] (vs[i]'(by omega))) →
    (∀ i g, Q i g → F g) → (∀ i j g, Q i g → Q j g → i = j) → (∀ b, m ≤ b → b < (introL m cs).2.2 → S.h b = .none) →
    ∃ φ' T', Rel P w0 N ⟨S.t, updL S.h (introL m cs).2.1⟩ φ' T' M a w ∧ Pool w0 w ⟨S.t, updL S.h (introL m cs).2.1⟩ φ' T' M X (less F (fun g => ∃ i, Q i g)) ∧ (∀ i (hi : i < (introL m cs).1.length) (hj : i < vs.length), Ra P w M φ' (fun b => (updL S.h (introL m cs).2.1 b).known = true) (introL m cs).1[i] vs[i]) ∧
      (∀ b, (S.h b).known = true → φ' b = φ b ∧ (updL S.h (introL m cs).2.1 b).known = true) ∧ ∀ b, b < m ∨ (introL m cs).2.2 ≤ b → updL S.h (introL m cs).2.1 b = S.h b
  | [], vs, Q, m, S, φ, T, F, h, hp, hl, hO, hQ, hd, hm => ⟨φ, T, h, ⟨fun g hg => hp.bd g hg.1, fun g hg => hp.live g hg.1, fun g hg => hp.own g hg.1, fun g hg => hp.mx g hg.1⟩, (fun i hi => absurd hi (by simp [introL])), fun b hb => ⟨rfl, hb⟩, fun b _ => rfl⟩
  | p :: l, [], Q, m, S, φ, T, F, h, hp, hl, hO, hQ, hd, hm => by simp at hl
  | p :: l, v :: vs, Q, m, S, φ, T, F, h, hp, hl, hO, hQ, hd, hm => by
    obtain ⟨x, e0, e1, e2, e3⟩ := introL_cons p l m
    have hge1 := introL_ge [p] m
    have hge2 := introL_ge l (introL m [p]).2.2
    obtain ⟨φ1, T1, h1, hp1, hx1, hk1, hu1⟩ := leaf_new (m := m) (p := p) (v := v) h hp (hO 0 (by simp)) (hQ 0) (fun hne => hm m (Nat.le_refl _) (by rw [e3]; omega))
    obtain ⟨φ2, T2, h2, hp2, hx2, hk2, hu2⟩ := list_new (cs := l) (vs := vs) (Q := fun i => Q (i + 1)) (m := (introL m [p]).2.2) h1 hp1 (by simpa using hl) (fun i hi => hO (i + 1) (by simpa using hi)) (fun i g hg => ⟨hQ _ g hg, fun h0 => by have := hd _ _ g h0 hg; omega⟩) (fun i j g hi hj => by have := hd _ _ g hi hj; omega)
      (fun b hb1 hb2 => by show updL S.h (introL m [p]).2.1 b = .none; rw [hu1 b (.inr hb1)]; exact hm b (by omega) (by rw [e3]; exact hb2))
    have eS : updL S.h (introL m (p :: l)).2.1 = updL (updL S.h (introL m [p]).2.1) (introL (introL m [p]).2.2 l).2.1 := by rw [e2, updL_append]
    refine ⟨φ2, T2, by rw [eS]; exact h2, ?_, fun i hi hj => ?_, fun b hb => ?_, fun b hb => ?_⟩
    · rw [eS]
      exact ⟨fun g hg => hp.bd g hg.1, fun g hg => hp2.live g ⟨⟨hg.1, fun h0 => hg.2 ⟨0, h0⟩⟩, fun ⟨i, hi⟩ => hg.2 ⟨i + 1, hi⟩⟩, fun g hg => hp2.own g ⟨⟨hg.1, fun h0 => hg.2 ⟨0, h0⟩⟩, fun ⟨i, hi⟩ => hg.2 ⟨i + 1, hi⟩⟩, fun g hg => hp.mx g hg.1⟩
    · rw [eS]
      cases i with
      | zero =>
        have e4 : (introL m (p :: l)).1[0] = x := by simp [e1]
        rw [e4]
        exact (hx1 x e0).keep (fun _ _ h => h) (fun b hb => ⟨(hk2 b hb).2, (hk2 b hb).1⟩)
      | succ i =>
        have hi' : i < (introL (introL m [p]).2.2 l).1.length := by rw [e1] at hi; simpa using hi
        have e4 : (introL m (p :: l)).1[i + 1] = (introL (introL m [p]).2.2 l).1[i] := by simp [e1]
        rw [e4]
        exact hx2 i hi' (by simpa using hj)
    · rw [eS]
      have q1 := hk1 b hb
      have q2 := hk2 b q1.2
      exact ⟨q2.1.trans q1.1, q2.2⟩
    · rw [eS]
      rw [e3] at hb
      exact (hu2 b (by omega)).trans (hu1 b (by omega))
end
end Av
end Go.Proofs.Ytbkbppllcjcmhaa

namespace Go.Proofs.Ytbkbppllcjcmhaa
open Go.RowKit
namespace Av

section
variable {P : Program} {w0 : W0} {w : World} {N : Nat} {S : ASt} {φ : Nat → Value} {T : Nat → Nat → Nat → Prop} {M : Nat → Prop} {a : Act}
theorem grownB {w w' : World} (hb : Below w.heap.size w w') : w.grownBy w' none := ⟨hb.os, hb.tape, hb.output, hb.size, fun k hk _ => hb.block k hk⟩
/-- the rows of a value that are to be written -/
def tops1 (p : PV) (v : Value) (g : Nat) : Prop := (∃ cs vs, p = .agg cs ∧ v = .agg vs ∧ ∃ (i : Nat) (e : TypeId) (rows : List (List PV)) (u : Value), cs[i]? = some (.lst e rows) ∧ vs[i]? = some u ∧ blk u = some g) ∨ (p.isLst = true ∧ blk v = some g)
def topsT (p : PV) (v : Value) (g : Nat) : Prop := (∃ cs vs, p = .tup cs ∧ v = .tuple vs ∧ ∃ (i : Nat) (q : PV) (u : Value), cs[i]? = some q ∧ vs[i]? = some u ∧ tops1 q u g) ∨ tops1 p v g
theorem lst_top {Q : Nat → Prop} {e : TypeId} {rows : List (List PV)} {v : Value} {g : Nat} (h : Ow P w Q (.lst e rows) v) (hg : blk v = some g) : Q g := by
  cases h with
  | lst _ _ _ _ xs f Tn ho hs hS hT hd hf hr =>
    have hvs : ∃ A n c, v = .slice A n c := by
      rcases ho.2 with ⟨e1, _⟩ | ⟨g, cap, cur, e1, _⟩ <;> exact ⟨_, _, _, e1⟩
    exact hS g (by rw [← blk_own _ hvs]; exact hg)
theorem tops1_in {Q : Nat → Prop} {p : PV} {v : Value} {g : Nat} (h : Ow P w Q p v) (hg : tops1 p v g) : Q g := by
  rcases hg with ⟨cs, vs, rfl, rfl, i, e, rows, u, h1, h2, h3⟩ | ⟨h1, h2⟩
  · cases h with
    | agg _ _ vs' Tn hl hT hd hc =>
      obtain ⟨hi, e1⟩ := List.getElem?_eq_some_iff.1 h1
      have := hc i hi
      rw [e1] at this
      have hu : vs'[i]'(by omega) = u := by
        have : vs'.toArray[i]? = some u := h2
        rw [List.getElem?_toArray] at this
        exact (List.getElem?_eq_some_iff.1 this).2
      rw [hu] at this
      exact hT i g (lst_top this h3)
  · cases p with
    | lst e rows => exact lst_top h h2
    | int | bool | str | agg | tup => cases h1
theorem Pool.sub {X F F' : Nat → Prop} (h : Pool w0 w S φ T M X F) (hF : ∀ g, F' g → F g) : Pool w0 w S φ T M X F' :=
  ⟨fun g hg => h.bd g (hF g hg), fun g hg => h.live g (hF g hg), fun g hg => h.own g (hF g hg), fun g hg => h.mx g (hF g hg)⟩
theorem intro1_snd (p : PV) (m : Nat) : (intro1 m p).2 = (introL m (match p with | .agg cs => cs | p => [p])).2 := by
  cases p <;> rfl
/-- what is known of one value that is handed back -/
theorem one_new {m : Nat} {p : PV} {v : Value} {X Q F : Nat → Prop} (h : Rel P w0 N S φ T M a w) (hp : Pool w0 w S φ T M X F) (hO : Ow P w Q p v) (hX1 : ∀ g, tops1 p v g → X g) (hX2 : ∀ g, Q g → X g → tops1 p v g) (hQ : ∀ g, Q g → F g) (hm : ∀ b, m ≤ b → b < (intro1 m p).2.2 → S.h b = .none) :
    ∃ φ' T', Rel P w0 N ⟨S.t, updL S.h (intro1 m p).2.1⟩ φ' T' M a w ∧ Pool w0 w ⟨S.t, updL S.h (intro1 m p).2.1⟩ φ' T' M X (less F Q) ∧ Ra P w M φ' (fun b => (updL S.h (intro1 m p).2.1 b).known = true) (intro1 m p).1 v ∧
      (∀ b, (S.h b).known = true → φ' b = φ b ∧ (updL S.h (intro1 m p).2.1 b).known = true) ∧ ∀ b, b < m ∨ (intro1 m p).2.2 ≤ b → updL S.h (intro1 m p).2.1 b = S.h b := by
  by_cases hag : ∃ cs, p = .agg cs
  · obtain ⟨cs, rfl⟩ := hag
    cases hO with
    | agg _ _ vs Tn hl hT hd hc =>
      have hleaf : ∀ i (hi : i < cs.length), LeafOk P w X (Tn i) cs[i] (vs[i]'(by omega)) := fun i hi => by
        refine ⟨hc i hi, fun he g hg => hX1 g (.inl ⟨cs, vs.toArray, rfl, rfl, i, ?_⟩), fun g hg hXg => ?_⟩
        · generalize hcs : cs[i] = q at he
          cases q with
          | lst e rows => exact ⟨e, rows, _, by rw [List.getElem?_eq_getElem hi, hcs], by rw [List.getElem?_toArray, List.getElem?_eq_getElem (by omega)], hg⟩
          | int => cases he
          | bool => cases he
          | str => cases he
          | agg => cases he
          | tup => cases he
        · rcases hX2 g (hT i g hg) hXg with ⟨cs', vs', e1, e2, j, e, rows, u, h1, h2, h3⟩ | ⟨h1, _⟩
          · injection e1 with e1
            injection e2 with e2
            subst e1; subst e2
            obtain ⟨hj, e3⟩ := List.getElem?_eq_some_iff.1 h1
            rw [List.getElem?_toArray] at h2
            obtain ⟨hj2, e4⟩ := List.getElem?_eq_some_iff.1 h2
            have hcj := hc j hj
            rw [e3, e4] at hcj
            have hij := hd i j g hg (lst_top hcj h3)
            subst hij
            exact ⟨by rw [e3]; rfl, by rw [e4]; exact h3⟩
          · cases h1
      obtain ⟨φ', T', h1, hp1, hx1, hk1, hu1⟩ := list_new (X := X) (cs := cs) (vs := vs) (Q := Tn) (m := m) h hp hl hleaf (fun i g hg => hQ g (hT i g hg)) (fun i j g hi hj => hd i j g hi hj) hm
      refine ⟨φ', T', h1, hp1.sub (fun g hg => ⟨hg.1, fun ⟨i, hi⟩ => hg.2 (hT i g hi)⟩), ?_, hk1, hu1⟩
      exact .agg _ vs (by rw [introL_len]; exact hl) (fun i hi => hx1 i hi (by rw [introL_len] at hi; omega))
  · have hne : ∀ cs, p ≠ .agg cs := fun cs e => hag ⟨cs, e⟩
    obtain ⟨x, e0, _⟩ := introL_cons p [] m
    have e1 : intro1 m p = (x, (introL m [p]).2.1, (introL m [p]).2.2) := by
      cases p <;> first | exact absurd rfl (hne _) | (simp only [introL, List.cons.injEq, and_true] at e0; subst e0; rfl)
    rw [e1] at hm ⊢
    obtain ⟨φ', T', h1, hp1, hx1, hk1, hu1⟩ := leaf_new (m := m) (p := p) (v := v) h hp ⟨hO, fun he g hg => hX1 g (.inr ⟨he, hg⟩), fun g hg hXg => (hX2 g hg hXg).resolve_left (fun ⟨cs, _, e, _⟩ => hne cs e)⟩ hQ (fun hlt => hm m (Nat.le_refl _) (by have := introL_ge [p] m; simp only; omega))
    exact ⟨φ', T', h1, hp1, hx1 x e0, hk1, hu1⟩
theorem intro1_ge (p : PV) (m : Nat) : m ≤ (intro1 m p).2.2 := by
  rw [intro1_snd]; exact introL_ge _ m
theorem intros_ge : ∀ (ps : List PV) (m : Nat), m ≤ (intros m ps).2.2
  | [], _ => Nat.le_refl _
  | p :: l, m => Nat.le_trans (intro1_ge p m) (intros_ge l _)
theorem intros_len : ∀ (ps : List PV) (m : Nat), (intros m ps).1.length = ps.length
  | [], _ => rfl
  | p :: l, m => by simp [intros, intros_len l]
theorem many_new {X : Nat → Prop} : ∀ {cs : List PV} {vs : List Value} {Q : Nat → Nat → Prop} {m : Nat} {S : ASt} {φ : Nat → Value} {T : Nat → Nat → Nat → Prop} {F : Nat → Prop}, Rel P w0 N S φ T M a w → Pool w0 w S φ T M X F → (hl : vs.length = cs.length) → (∀ i (hi : i < cs.length), Ow P w (Q i) cs[i] (vs[i]'(by omega))) →
    (∀ i (hi : i < cs.length) g, tops1 cs[i] (vs[i]'(by omega)) g → X g) → (∀ i (hi : i < cs.length) g, Q i g → X g → tops1 cs[i] (vs[i]'(by omega)) g) → (∀ i g, Q i g → F g) → (∀ i j g, Q i g → Q j g → i = j) → (∀ b, m ≤ b → b < (intros m cs).2.2 → S.h b = .none) →
    ∃ φ' T', Rel P w0 N ⟨S.t, updL S.h (intros m cs).2.1⟩ φ' T' M a w ∧ (∀ i (hi : i < (intros m cs).1.length) (hj : i < vs.length), Ra P w M φ' (fun b => (updL S.h (intros m cs).2.1 b).known = true) (intros m cs).1[i] vs[i]) ∧
      (∀ b, (S.h b).known = true → φ' b = φ b ∧ (updL S.h (intros m cs).2.1 b).known = true)
  | [], vs, Q, m, S, φ, T, F, h, hp, hl, hO, hX1, hX2, hQ, hd, hm => ⟨φ, T, h, (fun i hi => absurd hi (by simp [intros])), fun b hb => ⟨rfl, hb⟩⟩
  | p :: l, [], Q, m, S, φ, T, F, h, hp, hl, hO, hX1, hX2, hQ, hd, hm => by simp at hl
  | p :: l, v :: vs, Q, m, S, φ, T, F, h, hp, hl, hO, hX1, hX2, hQ, hd, hm => by
    have hge1 := intro1_ge p m
    have hge2 := intros_ge l (intro1 m p).2.2
    have e3 : (intros m (p :: l)).2.2 = (intros (intro1 m p).2.2 l).2.2 := rfl
    obtain ⟨φ1, T1, h1, hp1, hx1, hk1, hu1⟩ := one_new (m := m) (p := p) (v := v) h hp (hO 0 (by simp)) (hX1 0 (by simp)) (hX2 0 (by simp)) (hQ 0) (fun b hb1 hb2 => hm b hb1 (by rw [e3]; omega))
    obtain ⟨φ2, T2, h2, hx2, hk2⟩ := many_new (cs := l) (vs := vs) (Q := fun i => Q (i + 1)) (m := (intro1 m p).2.2) h1 hp1 (by simpa using hl) (fun i hi => hO (i + 1) (by simpa using hi)) (fun i hi => hX1 (i + 1) (by simpa using hi)) (fun i hi => hX2 (i + 1) (by simpa using hi)) (fun i g hg => ⟨hQ _ g hg, fun h0 => by have := hd _ _ g h0 hg; omega⟩) (fun i j g hi hj => by have := hd _ _ g hi hj; omega)
      (fun b hb1 hb2 => by show updL S.h (intro1 m p).2.1 b = .none; rw [hu1 b (.inr hb1)]; exact hm b (by omega) (by rw [e3]; exact hb2))
    have eS : updL S.h (intros m (p :: l)).2.1 = updL (updL S.h (intro1 m p).2.1) (intros (intro1 m p).2.2 l).2.1 := updL_append _ _ _
    refine ⟨φ2, T2, by rw [eS]; exact h2, fun i hi hj => ?_, fun b hb => ?_⟩
    · rw [eS]
      cases i with
      | zero =>
        show Ra P w M φ2 _ (intro1 m p).1 v
        exact hx1.keep (fun _ _ h => h) (fun b hb => ⟨(hk2 b hb).2, (hk2 b hb).1⟩)
      | succ i => exact hx2 i (by simpa [intros] using hi) (by simpa using hj)
    · rw [eS]
      have q1 := hk1 b hb
      have q2 := hk2 b q1.2
      exact ⟨q2.1.trans q1.1, q2.2⟩
end
section
variable {E : Tab} {m : Nat} {o : Oper} {w0 : W0} {w : World} {N : Nat} {S : ASt} {φ : Nat → Value} {T : Nat → Nat → Nat → Prop} {M : Nat → Prop} {a : Act} {r : ARes} {s s' : Seen}
theorem updL_nil {α : Type} (f : Nat → α) : updL f [] = f := rfl
/-- what is known of all that is handed back -/
theorem res_new {w' : World} {p : PV} {v : Value} (h : Rel E.P w0 N S φ T M a w) (hb : Below w.heap.size w w') (hO : Ow E.P w' (fun g => w.heap.size ≤ g ∧ g < w'.heap.size) p v) (hm : ∀ b, m ≤ b → b < (introT m p).2.2 → S.h b = .none) :
    After E w0 N S ⟨(introT m p).1, (introT m p).2.1⟩ a v w' := by
  have hg : w.grownBy w' none := grownB hb
  have hX : ∀ g, topsT p v g → w.heap.size ≤ g ∧ g < w'.heap.size := by
    intro g hg
    rcases hg with ⟨cs, vs, rfl, rfl, i, q, u, h1, h2, h3⟩ | hg
    · cases hO with
      | tup _ _ vs' Tn hl hT hd hc =>
        obtain ⟨hi, e1⟩ := List.getElem?_eq_some_iff.1 h1
        have := hc i hi
        rw [List.getElem?_toArray] at h2
        obtain ⟨hj, e2⟩ := List.getElem?_eq_some_iff.1 h2
        rw [e1, e2] at this
        exact hT i g (tops1_in this h3)
    · exact tops1_in hO hg
  have h1 := h.grown hg (fun g e => by cases e) (topsT p v) hX
  have hp : Pool w0 w' S φ T (fun g => M g ∨ topsT p v g) (topsT p v) (fun g => w.heap.size ≤ g ∧ g < w'.heap.size) := ⟨fun g hg => ⟨Nat.le_trans h.below.size hg.1, hg.2⟩, fun g hg b hl e => by
      have := h.mlt g (h.mutb b g hl e); omega, fun g hg x k ht => by have := (h.own x k g ht).2.1; omega, fun g hg => ⟨fun hm => hm.resolve_left (fun hm => by have := h.mlt g hm; omega), .inr⟩⟩
  by_cases ht : ∃ cs, p = .tup cs
  · obtain ⟨cs, rfl⟩ := ht
    cases hO with
    | tup _ _ vs Tn hl hT hd hc =>
      obtain ⟨φ', T', h2, hx, _⟩ := many_new (cs := cs) (vs := vs) (Q := Tn) (m := m) h1 hp hl hc (fun i hi g hg => .inl ⟨cs, vs.toArray, rfl, rfl, i, cs[i], _, List.getElem?_eq_getElem hi, by rw [List.getElem?_toArray, List.getElem?_eq_getElem (by omega)], hg⟩)
        (fun i hi g hg hXg => by
          rcases hXg with ⟨cs', vs', e1, e2, j, q, u, h1, h2, h3⟩ | hXg
          · injection e1 with e1
            injection e2 with e2
            subst e1; subst e2
            obtain ⟨hj, e3⟩ := List.getElem?_eq_some_iff.1 h1
            rw [List.getElem?_toArray] at h2
            obtain ⟨hj2, e4⟩ := List.getElem?_eq_some_iff.1 h2
            have hcj := hc j hj
            rw [e3, e4] at hcj
            have hij := hd i j g hg (tops1_in hcj h3)
            subst hij
            rw [e3, e4]; exact h3
          · rcases hXg with ⟨_, _, e1, _⟩ | ⟨e1, _⟩ <;> cases e1) (fun i g hg => hT i g hg) hd hm
      exact ⟨φ', T', _, h2, .tup _ vs (by rw [intros_len]; exact hl) (fun i hi => hx i hi (by rw [intros_len] at hi; omega))⟩
  · have hne : ∀ cs, p ≠ .tup cs := fun cs e => ht ⟨cs, e⟩
    have e1 : introT m p = intro1 m p := by cases p <;> first | rfl | exact absurd rfl (hne _)
    rw [e1] at hm ⊢
    obtain ⟨φ', T', h2, _, hx, _⟩ := one_new (m := m) (p := p) (v := v) h1 hp hO (fun g hg => .inr hg) (fun g _ hXg => hXg.resolve_left (fun ⟨cs, _, e, _⟩ => hne cs e)) (fun g hg => hg) hm
    exact ⟨φ', T', _, h2, hx⟩
/-- what an argument reads as now -/
def SnA (S : ASt) (x : AV) (p : PV) : Prop := (∃ cs qs, x = .agg cs ∧ p = .agg qs ∧ ∃ he : qs.length = cs.length, ∀ i (hi : i < cs.length), Sn S cs[i] (qs[i]'(by omega))) ∨ Sn S x p
theorem snapAs_sn {K : ARes → Seen → Prop} : ∀ {xs : List AV} {k : List PV → Rq} {s : Seen}, (snapAs xs k).run S s K → ∃ ps s1, (k ps).run S s1 K ∧ ∃ he : ps.length = xs.length, ∀ i (hi : i < xs.length), SnA S xs[i] (ps[i]'(by omega))
  | [], k, s, hr => ⟨[], s, hr, rfl, fun i hi => absurd hi (by simp)⟩
  | x :: l, k, s, hr => by
    have h1 : ∃ p s1, (snapAs l fun ps => k (p :: ps)).run S s1 K ∧ SnA S x p := by
      unfold snapAs snapA at hr
      split at hr
      · obtain ⟨ps, s1, hr1, he, hps⟩ := snaps_sn hr
        exact ⟨_, _, hr1, .inl ⟨_, ps, rfl, rfl, he, hps⟩⟩
      · obtain ⟨p, s1, hr1, hp⟩ := snap_sn hr
        exact ⟨_, _, hr1, .inr hp⟩
    obtain ⟨p, s1, hr1, hp⟩ := h1
    obtain ⟨ps, s2, hr2, he, hps⟩ := snapAs_sn (xs := l) (k := fun ps => k (p :: ps)) hr1
    refine ⟨p :: ps, s2, hr2, by simp [he], fun i hi => ?_⟩
    cases i with
    | zero => exact hp
    | succ i => exact hps i (by simpa using hi)
theorem sn_rd0 (h : Rel E.P w0 N S φ T M a w) {x : AV} {p : PV} {v : Value} (hx : RaS E w M φ S x v) (hs : Sn S x p) : Rd E.P w (fun _ => False) p v := by
  rcases hs with rfl | ⟨e, rfl, rfl⟩ | ⟨b, e, rows, rfl, rfl, hB⟩
  · exact (ra_pv hx).weak (fun _ h => h.elim)
  · cases hx with
    | nil => exact .nil _ _ _
  · rw [ra_sl hx]
    rcases hB with ⟨own, hB⟩ | hB
    · exact row_rd h hB
    · have h1 := h.blks b
      rw [hB] at h1
      exact Rd.weak (p := .lst e rows) h1 (fun _ h => h.elim)
theorem snA_rd0 (h : Rel E.P w0 N S φ T M a w) {x : AV} {p : PV} {v : Value} (hx : RaS E w M φ S x v) (hs : SnA S x p) : Rd E.P w (fun _ => False) p v := by
  rcases hs with ⟨cs, qs, rfl, rfl, he, hc⟩ | hs
  · cases hx with
    | agg _ vs hl hv => exact .agg qs vs (by omega) (fun i hi => sn_rd0 h (hv i (by omega)) (hc i (by omega)))
  · exact sn_rd0 h hx hs
theorem snA_rd (h : Rel E.P w0 N S φ T M a w) {S0 : ASt} {x : AV} {p : PV} {v : Value} (hx : RaS E w M φ S x v) (hs : SnA S0 x p) (hk : ∀ b e rows, (x = .sl b ∨ ∃ cs, x = .agg cs ∧ AV.sl b ∈ cs) → ((∃ own, S0.h b = .row own e rows) ∨ S0.h b = .frz e rows) → S.h b = .frz e rows) : Rd E.P w M p v := by
  rcases hs with ⟨cs, qs, rfl, rfl, he, hc⟩ | hs
  · cases hx with
    | agg _ vs hl hv => exact .agg qs vs (by omega) (fun i hi => sn_rd h (hv i (by omega)) (hc i (by omega)) (fun b e rows e1 hB => hk b e rows (.inr ⟨cs, rfl, by rw [← e1]; exact List.getElem_mem _⟩) hB))
  · exact sn_rd h hx hs (fun b e rows e1 hB => hk b e rows (.inl e1) hB)
theorem plain1_ra {P : Program} {w : World} {M : Nat → Prop} {φ : Nat → Value} {L : Nat → Prop} {p : PV} {v : Value} (h : Rd P w M p v) : Ra P w M φ L (plain1 p) v := by
  cases h with
  | agg cs vs hl h => exact .agg _ vs (by simpa using hl) (fun i hi => by simp only [List.getElem_map]; exact .pv _ _ (h i (by simpa using hi)))
  | int k n => exact .pv _ _ (.int k n)
  | bool b => exact .pv _ _ (.bool b)
  | str b => exact .pv _ _ (.str b)
  | nil e A c => exact .pv _ _ (.nil e A c)
  | lst e rows b o c f hb hc hM hs hcell hr => exact .pv _ _ (.lst e rows b o c f hb hc hM hs hcell hr)
  | tup cs vs hl h => exact .pv _ _ (.tup cs vs hl h)
theorem plainT_ra {P : Program} {w : World} {M : Nat → Prop} {φ : Nat → Value} {L : Nat → Prop} {p : PV} {v : Value} (h : Rd P w M p v) : Ra P w M φ L (plainT p) v := by
  cases p with
  | tup cs =>
    cases h with
    | tup _ vs hl h => exact .tup _ vs (by simpa using hl) (fun i hi => by simp only [List.getElem_map]; exact plain1_ra (h i (by simpa using hi)))
  | int | bool | str | lst | agg => exact plain1_ra h
theorem mem_slots_agg {b : Nat} {cs : List AV} (hb : AV.sl b ∈ cs) : ∀ {xs : List AV}, AV.agg cs ∈ xs → b ∈ slots xs
  | [], h => by cases h
  | x :: l, h => by
    rcases List.mem_cons.1 h with rfl | h
    · simp [slots, mem_slots hb]
    · have := mem_slots_agg hb h
      unfold slots
      split
      · rename_i e; cases e
      · rename_i e; injection e with _ e; subst e; exact List.mem_cons_of_mem _ this
      · rename_i e; injection e with _ e; subst e; exact List.mem_append_right _ this
      · rename_i e; injection e with _ e; subst e; exact this
theorem updL_cases {α : Type} : ∀ {l : List (Nat × α)} {f : Nat → α} {x : Nat}, (x ∉ l.map (·.1) ∧ updL f l x = f x) ∨ ∃ v, (x, v) ∈ l ∧ updL f l x = v
  | [], _, _ => .inl ⟨by simp, rfl⟩
  | (k, v) :: l, f, x => by
    show (_ ∧ updL (upd f k v) l x = f x) ∨ _
    rcases updL_cases (l := l) (f := upd f k v) (x := x) with ⟨h1, h2⟩ | ⟨u, h1, h2⟩
    · by_cases e : x = k
      · refine .inr ⟨v, by rw [e]; exact List.mem_cons_self .., ?_⟩
        show updL (upd f k v) l x = v
        rw [h2, e]; simp [upd]
      · refine .inl ⟨by simp only [List.map_cons, List.mem_cons, not_or]; exact ⟨e, h1⟩, ?_⟩
        rw [h2]; simp [upd, e]
    · exact .inr ⟨u, List.mem_cons_of_mem _ h1, h2⟩
/-- in a law: what an argument reads as now -/
def SnT (S : ASt) (x : AV) (p : PV) : Prop := x = .pv p ∨ (∃ e, x = .nil e ∧ p = .lst e []) ∨ ∃ b e rows, x = .sl b ∧ p = .lst e rows ∧ S.h b = .tree e rows
def SnTA (S : ASt) (x : AV) (p : PV) : Prop := (∃ cs qs, x = .agg cs ∧ p = .agg qs ∧ ∃ he : qs.length = cs.length, ∀ i (hi : i < cs.length), SnT S cs[i] (qs[i]'(by omega))) ∨ SnT S x p
theorem snapT_sn {x : AV} {k : PV → Rq} {s : Seen} {K : ARes → Seen → Prop} (hr : (snapT x k).run S s K) : ∃ p s1, (k p).run S s1 K ∧ SnT S x p := by
  unfold snapT at hr
  split at hr
  · exact ⟨_, _, hr, .inl rfl⟩
  · exact ⟨_, _, hr, .inr (.inl ⟨_, rfl, rfl⟩)⟩
  · simp only [Rq.run] at hr
    split at hr
    · rename_i b e rows hB
      exact ⟨_, _, hr, .inr (.inr ⟨_, _, _, rfl, rfl, hB⟩)⟩
    · exact hr.elim
  · exact hr.elim
theorem snapTs_sn {K : ARes → Seen → Prop} : ∀ {xs : List AV} {k : List PV → Rq} {s : Seen}, (snapTs xs k).run S s K → ∃ ps s1, (k ps).run S s1 K ∧ ∃ he : ps.length = xs.length, ∀ i (hi : i < xs.length), SnT S xs[i] (ps[i]'(by omega))
  | [], k, s, hr => ⟨[], s, hr, rfl, fun i hi => absurd hi (by simp)⟩
  | x :: l, k, s, hr => by
    obtain ⟨p, s1, hr1, hp⟩ := snapT_sn hr
    obtain ⟨ps, s2, hr2, he, hps⟩ := snapTs_sn (xs := l) (k := fun ps => k (p :: ps)) hr1
    refine ⟨p :: ps, s2, hr2, by simp [he], fun i hi => ?_⟩
    cases i with
    | zero => exact hp
    | succ i => exact hps i (by simpa using hi)
theorem snapTAs_sn {K : ARes → Seen → Prop} : ∀ {xs : List AV} {k : List PV → Rq} {s : Seen}, (snapTAs xs k).run S s K → ∃ ps s1, (k ps).run S s1 K ∧ ∃ he : ps.length = xs.length, ∀ i (hi : i < xs.length), SnTA S xs[i] (ps[i]'(by omega))
  | [], k, s, hr => ⟨[], s, hr, rfl, fun i hi => absurd hi (by simp)⟩
  | x :: l, k, s, hr => by
    have h1 : ∃ p s1, (snapTAs l fun ps => k (p :: ps)).run S s1 K ∧ SnTA S x p := by
      unfold snapTAs snapTA at hr
      split at hr
      · obtain ⟨ps, s1, hr1, he, hps⟩ := snapTs_sn hr
        exact ⟨_, _, hr1, .inl ⟨_, ps, rfl, rfl, he, hps⟩⟩
      · obtain ⟨p, s1, hr1, hp⟩ := snapT_sn hr
        exact ⟨_, _, hr1, .inr hp⟩
    obtain ⟨p, s1, hr1, hp⟩ := h1
    obtain ⟨ps, s2, hr2, he, hps⟩ := snapTAs_sn (xs := l) (k := fun ps => k (p :: ps)) hr1
    refine ⟨p :: ps, s2, hr2, by simp [he], fun i hi => ?_⟩
    cases i with
    | zero => exact hp
    | succ i => exact hps i (by simpa using hi)
theorem tree_ow (h : Rel E.P w0 N S φ T M a w) {b : Nat} {e : TypeId} {rows : List (List PV)} (hB : S.h b = .tree e rows) : Ow E.P w (T b 0) (.lst e rows) (φ b) := by
  have h1 := h.blks b
  rw [hB] at h1
  exact h1
theorem snT_rd0 (h : Rel E.P w0 N S φ T M a w) {x : AV} {p : PV} {v : Value} (hx : RaS E w M φ S x v) (hs : SnT S x p) : Rd E.P w (fun _ => False) p v := by
  rcases hs with rfl | ⟨e, rfl, rfl⟩ | ⟨b, e, rows, rfl, rfl, hB⟩
  · exact (ra_pv hx).weak (fun _ h => h.elim)
  · cases hx with
    | nil => exact .nil _ _ _
  · rw [ra_sl hx]
    exact Ow.rd (tree_ow h hB) (fun _ _ h => h)
theorem snTA_rd0 (h : Rel E.P w0 N S φ T M a w) {x : AV} {p : PV} {v : Value} (hx : RaS E w M φ S x v) (hs : SnTA S x p) : Rd E.P w (fun _ => False) p v := by
  rcases hs with ⟨cs, qs, rfl, rfl, he, hc⟩ | hs
  · cases hx with
    | agg _ vs hl hv => exact .agg qs vs (by omega) (fun i hi => snT_rd0 h (hv i (by omega)) (hc i (by omega)))
  · exact snT_rd0 h hx hs
theorem treeU_append : ∀ (u v : List (Nat × Blk)), treeU (u ++ v) = treeU u ++ treeU v
  | [], _ => rfl
  | (b, B) :: u, v => by cases B <;> simp [treeU, treeU_append u v]
theorem leafT_new {m : Nat} {p : PV} {v : Value} {Q F : Nat → Prop} (h : Rel E.P w0 N S φ T M a w) (hp : Pool w0 w S φ T M (fun _ => True) F) (hO : Ow E.P w Q p v) (hs : p.leafT = true) (hQ : ∀ g, Q g → F g) (hm : (introL m [p]).2.2 ≠ m → S.h m = .none) :
    ∃ φ' T', Rel E.P w0 N ⟨S.t, updL S.h (treeU (introL m [p]).2.1)⟩ φ' T' M a w ∧ Pool w0 w ⟨S.t, updL S.h (treeU (introL m [p]).2.1)⟩ φ' T' M (fun _ => True) (less F Q) ∧ (∀ x, (introL m [p]).1 = [x] → Ra E.P w M φ' (fun b => (updL S.h (treeU (introL m [p]).2.1) b).known = true) x v) ∧
      (∀ b, (S.h b).known = true → φ' b = φ b ∧ (updL S.h (treeU (introL m [p]).2.1) b).known = true) ∧ ∀ b, b < m ∨ (introL m [p]).2.2 ≤ b → updL S.h (treeU (introL m [p]).2.1) b = S.h b := by
  by_cases hpl : p.isLst = true
  · cases p with
    | lst e rows =>
      have hm' := hm (by simp [introL])
      have h1 := h.set m (.tree e rows) v (fun x k g => if x = m then k = 0 ∧ Q g else T x k g) rfl (by rw [hm']; rfl) (fun hk => by rw [hm'] at hk; cases hk) ?_ (fun e => by cases e) (fun x k g hx hxm => by simpa only [hxm, if_false] using hx) (fun x hxm _ => by funext k g; simp [hxm]) (fun k g hk => ?_)
      · refine ⟨_, _, h1, ⟨fun g hg => hp.bd g hg.1, fun g hg b hb e1 => ?_, fun g hg x k hx => ?_, fun g hg => hp.mx g hg.1⟩, fun x hx => ?_, fun b hb => ?_, fun b hb => ?_⟩
        · have hb' : (upd S.h m (.tree e rows) b).live = true := hb
          by_cases hbm : b = m
          · subst hbm
            rw [upd_same] at hb'
            cases hb'
          · rw [upd_ne _ _ hbm] at hb' e1
            exact hp.live g hg.1 b hb' e1
        · by_cases hxm : x = m
          · simp only [hxm, if_true] at hx
            exact hg.2 hx.2
          · simp only [hxm, if_false] at hx
            exact hp.own g hg.1 x k hx
        · injection hx with hx _
          subst hx
          have := Ra.sl (P := E.P) (w := w) (M := M) (φ := upd φ m v) (L := fun b => (upd S.h m (.tree e rows) b).known = true) m (by rw [upd_same]; rfl)
          rw [upd_same] at this
          exact this
        · have hne : b ≠ m := fun e1 => by rw [e1, hm'] at hb; cases hb
          exact ⟨upd_ne _ _ hne, by show (upd S.h m _ b).known = true; rw [upd_ne _ _ hne]; exact hb⟩
        · have hne : b ≠ m := fun e1 => by
            rcases hb with hb | hb
            · omega
            · have : (introL m [PV.lst e rows]).2.2 = m + 1 := rfl
              omega
          exact upd_ne _ _ hne
      · exact Ow.mono hO (fun g hg => by simp only [if_true]; exact ⟨trivial, hg⟩)
      · simp only [if_true] at hk
        obtain ⟨rfl, hk⟩ := hk
        have hgF := hQ g hk
        exact ⟨⟨(hp.bd g hgF).1, (hp.bd g hgF).2, (fun e1 => by cases e1), fun _ => ⟨(hp.mx g hgF).2 trivial, fun b' _ hb' => hp.live g hgF b' hb'⟩⟩, fun k' hk' => by simp only [if_true] at hk'; exact hk'.1.symm, fun x k' hxm hx => by simp only [hxm, if_false] at hx; exact hp.own g hgF x k' hx⟩
    | int | bool | str | agg | tup => cases hpl
  · have hpl : p.isLst = false := by simpa using hpl
    have plain : (introL m [p]).2.1 = [] ∧ (introL m [p]).1 = [.pv p] := by cases p <;> first | exact ⟨rfl, rfl⟩ | (cases hpl; done)
    have hf : p.flat = true := by cases p <;> first | rfl | (cases hs; done) | (cases hpl; done)
    obtain ⟨e1, e2⟩ := plain
    rw [e1, e2]
    refine ⟨φ, T, h, ⟨fun g hg => hp.bd g hg.1, fun g hg => hp.live g hg.1, fun g hg => hp.own g hg.1, fun g hg => hp.mx g hg.1⟩, fun x hx => ?_, fun b hb => ⟨rfl, hb⟩, fun b _ => rfl⟩
    injection hx with hx _
    subst hx
    refine .pv p v ?_
    cases hO with
    | int => exact .int _ _
    | bool => exact .bool _
    | str => exact .str _
    | lst | agg | tup => cases hf
theorem listT_new : ∀ {cs : List PV} {vs : List Value} {Q : Nat → Nat → Prop} {m : Nat} {S : ASt} {φ : Nat → Value} {T : Nat → Nat → Nat → Prop} {F : Nat → Prop}, Rel E.P w0 N S φ T M a w → Pool w0 w S φ T M (fun _ => True) F → (hl : vs.length = cs.length) → (∀ i (hi : i < cs.length), Ow E.P w (Q i) cs[i] (vs[i]'(by omega))) → (cs.all PV.leafT = true) →
    (∀ i g, Q i g → F g) → (∀ i j g, Q i g → Q j g → i = j) → (∀ b, m ≤ b → b < (introL m cs).2.2 → S.h b = .none) →
    ∃ φ' T', Rel E.P w0 N ⟨S.t, updL S.h (treeU (introL m cs).2.1)⟩ φ' T' M a w ∧ Pool w0 w ⟨S.t, updL S.h (treeU (introL m cs).2.1)⟩ φ' T' M (fun _ => True) (less F (fun g => ∃ i, Q i g)) ∧ (∀ i (hi : i < (introL m cs).1.length) (hj : i < vs.length), Ra E.P w M φ' (fun b => (updL S.h (treeU (introL m cs).2.1) b).known = true) (introL m cs).1[i] vs[i]) ∧
      (∀ b, (S.h b).known = true → φ' b = φ b ∧ (updL S.h (treeU (introL m cs).2.1) b).known = true) ∧ ∀ b, b < m ∨ (introL m cs).2.2 ≤ b → updL S.h (treeU (introL m cs).2.1) b = S.h b
  | [], vs, Q, m, S, φ, T, F, h, hp, hl, hO, hs, hQ, hd, hm => ⟨φ, T, h, ⟨fun g hg => hp.bd g hg.1, fun g hg => hp.live g hg.1, fun g hg => hp.own g hg.1, fun g hg => hp.mx g hg.1⟩, (fun i hi => absurd hi (by simp [introL])), fun b hb => ⟨rfl, hb⟩, fun b _ => rfl⟩
  | p :: l, [], Q, m, S, φ, T, F, h, hp, hl, hO, hs, hQ, hd, hm => by simp at hl
  | p :: l, v :: vs, Q, m, S, φ, T, F, h, hp, hl, hO, hs, hQ, hd, hm => by
    obtain ⟨x, e0, e1, e2, e3⟩ := introL_cons p l m
    have hge1 := introL_ge [p] m
    have hge2 := introL_ge l (introL m [p]).2.2
    rw [List.all_cons, Bool.and_eq_true] at hs
    obtain ⟨φ1, T1, h1, hp1, hx1, hk1, hu1⟩ := leafT_new (m := m) (p := p) (v := v) h hp (hO 0 (by simp)) hs.1 (hQ 0) (fun hne => hm m (Nat.le_refl _) (by rw [e3]; omega))
    obtain ⟨φ2, T2, h2, hp2, hx2, hk2, hu2⟩ := listT_new (cs := l) (vs := vs) (Q := fun i => Q (i + 1)) (m := (introL m [p]).2.2) h1 hp1 (by simpa using hl) (fun i hi => hO (i + 1) (by simpa using hi)) hs.2 (fun i g hg => ⟨hQ _ g hg, fun h0 => by have := hd _ _ g h0 hg; omega⟩) (fun i j g hi hj => by have := hd _ _ g hi hj; omega)
      (fun b hb1 hb2 => by show updL S.h (treeU (introL m [p]).2.1) b = .none; rw [hu1 b (.inr hb1)]; exact hm b (by omega) (by rw [e3]; exact hb2))
    have eS : updL S.h (treeU (introL m (p :: l)).2.1) = updL (updL S.h (treeU (introL m [p]).2.1)) (treeU (introL (introL m [p]).2.2 l).2.1) := by rw [e2, treeU_append, updL_append]
    refine ⟨φ2, T2, by rw [eS]; exact h2, ?_, fun i hi hj => ?_, fun b hb => ?_, fun b hb => ?_⟩
    · rw [eS]
      exact ⟨fun g hg => hp.bd g hg.1, fun g hg => hp2.live g ⟨⟨hg.1, fun h0 => hg.2 ⟨0, h0⟩⟩, fun ⟨i, hi⟩ => hg.2 ⟨i + 1, hi⟩⟩, fun g hg => hp2.own g ⟨⟨hg.1, fun h0 => hg.2 ⟨0, h0⟩⟩, fun ⟨i, hi⟩ => hg.2 ⟨i + 1, hi⟩⟩, fun g hg => hp.mx g hg.1⟩
    · rw [eS]
      cases i with
      | zero =>
        have e4 : (introL m (p :: l)).1[0] = x := by simp [e1]
        rw [e4]
        exact (hx1 x e0).keep (fun _ _ h => h) (fun b hb => ⟨(hk2 b hb).2, (hk2 b hb).1⟩)
      | succ i =>
        have hi' : i < (introL (introL m [p]).2.2 l).1.length := by rw [e1] at hi; simpa using hi
        have e4 : (introL m (p :: l)).1[i + 1] = (introL (introL m [p]).2.2 l).1[i] := by simp [e1]
        rw [e4]
        exact hx2 i hi' (by simpa using hj)
    · rw [eS]
      have q1 := hk1 b hb
      have q2 := hk2 b q1.2
      exact ⟨q2.1.trans q1.1, q2.2⟩
    · rw [eS]
      rw [e3] at hb
      exact (hu2 b (by omega)).trans (hu1 b (by omega))
theorem oneT_new {m : Nat} {p : PV} {v : Value} {Q F : Nat → Prop} (h : Rel E.P w0 N S φ T M a w) (hp : Pool w0 w S φ T M (fun _ => True) F) (hO : Ow E.P w Q p v) (hs : p.oneT = true) (hQ : ∀ g, Q g → F g) (hm : ∀ b, m ≤ b → b < (intro1 m p).2.2 → S.h b = .none) :
    ∃ φ' T', Rel E.P w0 N ⟨S.t, updL S.h (treeU (intro1 m p).2.1)⟩ φ' T' M a w ∧ Pool w0 w ⟨S.t, updL S.h (treeU (intro1 m p).2.1)⟩ φ' T' M (fun _ => True) (less F Q) ∧ Ra E.P w M φ' (fun b => (updL S.h (treeU (intro1 m p).2.1) b).known = true) (intro1 m p).1 v ∧
      (∀ b, (S.h b).known = true → φ' b = φ b ∧ (updL S.h (treeU (intro1 m p).2.1) b).known = true) ∧ ∀ b, b < m ∨ (intro1 m p).2.2 ≤ b → updL S.h (treeU (intro1 m p).2.1) b = S.h b := by
  by_cases hag : ∃ cs, p = .agg cs
  · obtain ⟨cs, rfl⟩ := hag
    cases hO with
    | agg _ _ vs Tn hl hT hd hc =>
      obtain ⟨φ', T', h1, hp1, hx1, hk1, hu1⟩ := listT_new (cs := cs) (vs := vs) (Q := Tn) (m := m) h hp hl hc hs (fun i g hg => hQ g (hT i g hg)) (fun i j g hi hj => hd i j g hi hj) hm
      refine ⟨φ', T', h1, hp1.sub (fun g hg => ⟨hg.1, fun ⟨i, hi⟩ => hg.2 (hT i g hi)⟩), ?_, hk1, hu1⟩
      exact .agg _ vs (by rw [introL_len]; exact hl) (fun i hi => hx1 i hi (by rw [introL_len] at hi; omega))
  · have hne : ∀ cs, p ≠ .agg cs := fun cs e => hag ⟨cs, e⟩
    obtain ⟨x, e0, _⟩ := introL_cons p [] m
    have e1 : intro1 m p = (x, (introL m [p]).2.1, (introL m [p]).2.2) := by
      cases p <;> first | exact absurd rfl (hne _) | (simp only [introL, List.cons.injEq, and_true] at e0; subst e0; rfl)
    have hs' : p.leafT = true := by cases p <;> first | rfl | exact absurd rfl (hne _) | exact hs
    rw [e1] at hm ⊢
    obtain ⟨φ', T', h1, hp1, hx1, hk1, hu1⟩ := leafT_new (m := m) (p := p) (v := v) h hp hO hs' hQ (fun hlt => hm m (Nat.le_refl _) (by have := introL_ge [p] m; simp only; omega))
    exact ⟨φ', T', h1, hp1, hx1 x e0, hk1, hu1⟩
theorem manyT_new : ∀ {cs : List PV} {vs : List Value} {Q : Nat → Nat → Prop} {m : Nat} {S : ASt} {φ : Nat → Value} {T : Nat → Nat → Nat → Prop} {F : Nat → Prop}, Rel E.P w0 N S φ T M a w → Pool w0 w S φ T M (fun _ => True) F → (hl : vs.length = cs.length) → (∀ i (hi : i < cs.length), Ow E.P w (Q i) cs[i] (vs[i]'(by omega))) → (cs.all PV.oneT = true) →
    (∀ i g, Q i g → F g) → (∀ i j g, Q i g → Q j g → i = j) → (∀ b, m ≤ b → b < (intros m cs).2.2 → S.h b = .none) →
    ∃ φ' T', Rel E.P w0 N ⟨S.t, updL S.h (treeU (intros m cs).2.1)⟩ φ' T' M a w ∧ (∀ i (hi : i < (intros m cs).1.length) (hj : i < vs.length), Ra E.P w M φ' (fun b => (updL S.h (treeU (intros m cs).2.1) b).known = true) (intros m cs).1[i] vs[i]) ∧
      (∀ b, (S.h b).known = true → φ' b = φ b ∧ (updL S.h (treeU (intros m cs).2.1) b).known = true)
  | [], vs, Q, m, S, φ, T, F, h, hp, hl, hO, hs, hQ, hd, hm => ⟨φ, T, h, (fun i hi => absurd hi (by simp [intros])), fun b hb => ⟨rfl, hb⟩⟩
  | p :: l, [], Q, m, S, φ, T, F, h, hp, hl, hO, hs, hQ, hd, hm => by simp at hl
  | p :: l, v :: vs, Q, m, S, φ, T, F, h, hp, hl, hO, hs, hQ, hd, hm => by
    have hge1 := intro1_ge p m
    have hge2 := intros_ge l (intro1 m p).2.2
    have e3 : (intros m (p :: l)).2.2 = (intros (intro1 m p).2.2 l).2.2 := rfl
    rw [List.all_cons, Bool.and_eq_true] at hs
    obtain ⟨φ1, T1, h1, hp1, hx1, hk1, hu1⟩ := oneT_new (m := m) (p := p) (v := v) h hp (hO 0 (by simp)) hs.1 (hQ 0) (fun b hb1 hb2 => hm b hb1 (by rw [e3]; omega))
    obtain ⟨φ2, T2, h2, hx2, hk2⟩ := manyT_new (cs := l) (vs := vs) (Q := fun i => Q (i + 1)) (m := (intro1 m p).2.2) h1 hp1 (by simpa using hl) (fun i hi => hO (i + 1) (by simpa using hi)) hs.2 (fun i g hg => ⟨hQ _ g hg, fun h0 => by have := hd _ _ g h0 hg; omega⟩) (fun i j g hi hj => by have := hd _ _ g hi hj; omega)
      (fun b hb1 hb2 => by show updL S.h (treeU (intro1 m p).2.1) b = .none; rw [hu1 b (.inr hb1)]; exact hm b (by omega) (by rw [e3]; exact hb2))
    have eS : updL S.h (treeU (intros m (p :: l)).2.1) = updL (updL S.h (treeU (intro1 m p).2.1)) (treeU (intros (intro1 m p).2.2 l).2.1) := by
      show updL S.h (treeU ((intro1 m p).2.1 ++ (intros (intro1 m p).2.2 l).2.1)) = _
      rw [treeU_append, updL_append]
    refine ⟨φ2, T2, by rw [eS]; exact h2, fun i hi hj => ?_, fun b hb => ?_⟩
    · rw [eS]
      cases i with
      | zero =>
        show Ra E.P w M φ2 _ (intro1 m p).1 v
        exact hx1.keep (fun _ _ h => h) (fun b hb => ⟨(hk2 b hb).2, (hk2 b hb).1⟩)
      | succ i => exact hx2 i (by simpa [intros] using hi) (by simpa using hj)
    · rw [eS]
      have q1 := hk1 b hb
      have q2 := hk2 b q1.2
      exact ⟨q2.1.trans q1.1, q2.2⟩
/-- a tree is handed on, and is not written any more -/
theorem Rel.freezeT (h : Rel E.P w0 N S φ T M a w) {b : Nat} {e : TypeId} {rows : List (List PV)} (hb : S.h b = .tree e rows) :
    Rel E.P w0 N ⟨S.t, upd S.h b (.frz e rows)⟩ φ T (fun g => M g ∧ ∀ k, ¬ T b k g) a w := by
  have hk : ∀ x, (S.h x).known = true → ((upd S.h b (.frz e rows) x).known = true) ∧ φ x = φ x := fun x hx => by
    unfold upd; split
    · exact ⟨rfl, rfl⟩
    · exact ⟨hx, rfl⟩
  have hl : ∀ x, ((upd S.h b (.frz e rows) x).live = true) → (S.h x).live = true := fun x hx => by
    unfold upd at hx; split at hx
    · cases hx
    · exact hx
  have hR : ∀ p v, Rd E.P w M p v → Rd E.P w (fun g => M g ∧ ∀ k, ¬ T b k g) p v := fun p v hr => hr.weak (fun g hg => hg.1)
  refine ⟨h.below, h.defers, h.size, fun t => (h.slots t).keep hR hk, fun x => ?_, fun x g hx e1 => ⟨h.mutb x g (hl x hx) e1, fun k ht => h.far ht (hl x hx) e1⟩, fun g hg => h.mlt g hg.1, fun g hA hg => ⟨h.amb g hA hg, fun k ht => by have := (h.own b k g ht).1; omega⟩,
    fun x y g hx hy => h.disj x y g (hl x hx) (hl y hy), fun x k g hx => ⟨(h.own x k g hx).1, (h.own x k g hx).2.1, fun ht hm => ?_⟩, fun x k g hx ht => ?_, h.apart⟩
  · show BlkOk _ _ _ _ _ _ _ _ (upd S.h b (.frz e rows) x)
    unfold upd
    split
    · rename_i e1
      subst e1
      have h1 := h.blks x
      rw [hb] at h1
      exact Ow.rd (show Ow E.P w (T x 0) (.lst e rows) (φ x) from h1) (fun g hg hm => hm.2 0 hg)
    · exact (h.blks x).keep hR (fun _ _ _ h => h) hk (fun _ _ _ => rfl)
  · by_cases e1 : x = b
    · subst e1; exact hm.2 k hx
    · exact (h.own x k g hx).2.2 (by simpa only [upd, e1, if_false] using ht) hm.1
  · have hxb : x ≠ b := fun e1 => by subst e1; simp only [upd, if_true] at ht; cases ht
    have hx' : (S.h x).isTree = true := by simpa only [upd, hxb, if_false] using ht
    have h1 := h.tree x k g hx hx'
    exact ⟨⟨h1.1, fun k' ht' => hxb (h.apart x k b k' g hx ht').1⟩, fun b' hb' => h1.2 b' (hl b' hb')⟩
def FrzT (S : ASt) (u : List (Nat × Blk)) : Prop := ∀ x ∈ u, ∃ e rows, x.2 = .frz e rows ∧ S.h x.1 = .tree e rows
theorem freezeT_run {K : ARes → Seen → Prop} : ∀ {l : List Nat} {k : List (Nat × Blk) → Rq} {s : Seen}, (freezeT l k).run S s K → ∃ u s1, (k u).run S s1 K ∧ FrzT S u ∧ (∀ x ∈ u, x.1 ∈ l) ∧ ∀ b ∈ l, ∃ B, (b, B) ∈ u
  | [], k, s, hr => ⟨[], s, hr, (fun x hx => by cases hx), (fun x hx => by cases hx), (fun b hb => by cases hb)⟩
  | b :: l, k, s, hr => by
    unfold Av.freezeT at hr
    simp only [Rq.run] at hr
    obtain ⟨u, s1, hr1, h1, h2, h3⟩ := freezeT_run (l := l) hr
    split at hr1
    · rename_i e rows hB
      refine ⟨_, _, hr1, fun x hx => ?_, fun x hx => ?_, fun b' hb' => ?_⟩
      · rcases List.mem_cons.1 hx with rfl | hx
        · exact ⟨e, rows, rfl, hB⟩
        · exact h1 x hx
      · rcases List.mem_cons.1 hx with rfl | hx
        · exact List.mem_cons_self ..
        · exact List.mem_cons_of_mem _ (h2 x hx)
      · rcases List.mem_cons.1 hb' with rfl | hb'
        · exact ⟨_, List.mem_cons_self ..⟩
        · obtain ⟨B, hB'⟩ := h3 b' hb'
          exact ⟨B, List.mem_cons_of_mem _ hB'⟩
    · exact hr1.elim
theorem freezeT_rel : ∀ {u : List (Nat × Blk)} {S : ASt} {M : Nat → Prop}, (∀ x ∈ u, ∃ e rows, x.2 = .frz e rows ∧ (S.h x.1 = .tree e rows ∨ S.h x.1 = .frz e rows)) → Rel E.P w0 N S φ T M a w →
    ∃ M', Rel E.P w0 N ⟨S.t, updL S.h u⟩ φ T M' a w ∧ (∀ g, M' g → M g) ∧ (∀ b, updL S.h u b = S.h b ∨ ∃ e rows, updL S.h u b = .frz e rows ∧ S.h b = .tree e rows) ∧ ∀ x ∈ u, ∃ e rows, updL S.h u x.1 = .frz e rows ∧ x.2 = .frz e rows
  | [], S, M, _, h => ⟨M, h, fun _ h => h, fun b => .inl rfl, (fun x hx => by cases hx)⟩
  | (b, B) :: u, S, M, hu, h => by
    obtain ⟨e, rows, rfl, hB⟩ := hu (b, B) (List.mem_cons_self ..)
    simp only at hB
    have step : ∃ M1, Rel E.P w0 N ⟨S.t, upd S.h b (.frz e rows)⟩ φ T M1 a w ∧ ∀ g, M1 g → M g := by
      rcases hB with hB | hB
      · exact ⟨_, h.freezeT hB, fun g hg => hg.1⟩
      · exact ⟨M, by rw [upd_self hB]; exact h, fun _ h => h⟩
    obtain ⟨M1, h1, hM1⟩ := step
    have hu1 : ∀ x ∈ u, ∃ e' rows', x.2 = .frz e' rows' ∧ ((upd S.h b (.frz e rows)) x.1 = .tree e' rows' ∨ (upd S.h b (.frz e rows)) x.1 = .frz e' rows') := fun x hx => by
      obtain ⟨e', rows', he, hx'⟩ := hu x (List.mem_cons_of_mem _ hx)
      refine ⟨e', rows', he, ?_⟩
      by_cases hxb : x.1 = b
      · rw [hxb] at hx'
        simp only [hxb, upd_same]
        refine .inr ?_
        rcases hx' with hx' | hx' <;> rcases hB with hB | hB <;> rw [hB] at hx' <;> first | (injection hx' with h5 h6; rw [h5, h6]; done) | cases hx'
      · simp only [upd, hxb, if_false]; exact hx'
    obtain ⟨M', h2, h3, h4, h5⟩ := freezeT_rel (u := u) (S := ⟨S.t, upd S.h b (.frz e rows)⟩) hu1 h1
    refine ⟨M', h2, fun g hg => hM1 g (h3 g hg), fun b' => ?_, fun x hx => ?_⟩
    · rcases h4 b' with h6 | ⟨e', rows', h6, h7⟩
      · by_cases hbb : b' = b
        · subst hbb
          have h8 : updL (upd S.h b' (.frz e rows)) u b' = .frz e rows := by rw [h6]; exact upd_same _ _ _
          rcases hB with hB | hB
          · exact .inr ⟨e, rows, h8, hB⟩
          · exact .inl (by show updL (upd S.h b' _) u b' = _; rw [h8, hB])
        · refine .inl ?_
          show updL (upd S.h b _) u b' = _
          rw [h6]; simp [upd, hbb]
      · by_cases hbb : b' = b
        · subst hbb
          simp only [upd_same] at h7; cases h7
        · exact .inr ⟨e', rows', h6, by simpa [upd, hbb] using h7⟩
    · rcases List.mem_cons.1 hx with rfl | hx
      · show ∃ e' rows', updL (upd S.h b (.frz e rows)) u b = _ ∧ _
        rcases h4 b with h6 | ⟨e', rows', h6, h7⟩
        · exact ⟨e, rows, by rw [h6]; exact upd_same _ _ _, rfl⟩
        · simp only [upd_same] at h7; cases h7
      · exact h5 x hx
/-- what is known of all that is handed back, in a law -/
theorem resT_new {w' : World} {p : PV} {v : Value} (h : Rel E.P w0 N S φ T M a w) (hb : Below w.heap.size w w') (hO : Ow E.P w' (fun g => w.heap.size ≤ g ∧ g < w'.heap.size) p v) (hs : p.allT = true) (hm : ∀ b, m ≤ b → b < (introT m p).2.2 → S.h b = .none) :
    After E w0 N S ⟨(introT m p).1, treeU (introT m p).2.1⟩ a v w' := by
  have hg : w.grownBy w' none := grownB hb
  have h1 := h.grown hg (fun g e => by cases e) (fun g => w.heap.size ≤ g ∧ g < w'.heap.size) (fun g hg => hg)
  have hp : Pool w0 w' S φ T (fun g => M g ∨ (w.heap.size ≤ g ∧ g < w'.heap.size)) (fun _ => True) (fun g => w.heap.size ≤ g ∧ g < w'.heap.size) := ⟨fun g hg => ⟨Nat.le_trans h.below.size hg.1, hg.2⟩, fun g hg b hl e => by
      have := h.mlt g (h.mutb b g hl e); omega, fun g hg x k ht => by have := (h.own x k g ht).2.1; omega, fun g hg => ⟨fun _ => trivial, fun _ => .inr hg⟩⟩
  by_cases ht : ∃ cs, p = .tup cs
  · obtain ⟨cs, rfl⟩ := ht
    cases hO with
    | tup _ _ vs Tn hl hT hd hc =>
      obtain ⟨φ', T', h2, hx, _⟩ := manyT_new (cs := cs) (vs := vs) (Q := Tn) (m := m) h1 hp hl hc hs (fun i g hg => hT i g hg) hd hm
      exact ⟨φ', T', _, h2, .tup _ vs (by rw [intros_len]; exact hl) (fun i hi => hx i hi (by rw [intros_len] at hi; omega))⟩
  · have hne : ∀ cs, p ≠ .tup cs := fun cs e => ht ⟨cs, e⟩
    have e1 : introT m p = intro1 m p := by cases p <;> first | rfl | exact absurd rfl (hne _)
    have hs' : p.oneT = true := by cases p <;> first | exact absurd rfl (hne _) | exact hs
    rw [e1] at hm ⊢
    obtain ⟨φ', T', h2, _, hx, _⟩ := oneT_new (m := m) (p := p) (v := v) h1 hp hO hs' (fun g hg => hg) hm
    exact ⟨φ', T', _, h2, hx⟩
/-- trees turn -/
theorem Rel.turn {w' : World} (h : Rel E.P w0 N S φ T M a w) {u : List (Nat × Blk)} {Q : Nat → Prop} (hw : Turned Q w w') (hu : ∀ x ∈ u, (∃ e rows, S.h x.1 = .tree e rows) ∧ ∃ e rows, x.2 = .tree e rows ∧ Ow E.P w' (T x.1 0) (.lst e rows) (φ x.1)) (hQ : ∀ g, Q g → ∃ x ∈ u, T x.1 0 g) :
    Rel E.P w0 N ⟨S.t, updL S.h u⟩ φ T M a w' := by
  have hQM : ∀ g, Q g → M g ∧ w0.heap.size ≤ g := fun g hg => by
    obtain ⟨x, hx, ht⟩ := hQ g hg
    obtain ⟨⟨e, rows, hB⟩, _⟩ := hu x hx
    exact ⟨(h.tree x.1 0 g ht (by rw [hB]; rfl)).1, (h.own x.1 0 g ht).1⟩
  have hcase : ∀ b, (updL S.h u b = S.h b ∧ ∀ k g, T b k g → ¬ Q g) ∨ ((∃ e rows, S.h b = .tree e rows) ∧ ∃ e rows, updL S.h u b = .tree e rows ∧ Ow E.P w' (T b 0) (.lst e rows) (φ b)) := fun b => by
    rcases updL_cases (l := u) (f := S.h) (x := b) with ⟨h1, h2⟩ | ⟨B, h1, h2⟩
    · refine .inl ⟨h2, fun k g ht hg => ?_⟩
      obtain ⟨x, hx, ht'⟩ := hQ g hg
      have := (h.apart b k x.1 0 g ht ht').1
      subst this
      exact h1 (List.mem_map.2 ⟨x, hx, rfl⟩)
    · obtain ⟨h3, e, rows, h4, h5⟩ := hu (b, B) h1
      exact .inr ⟨h3, e, rows, by rw [h2]; exact h4, h5⟩
  have hsame : ∀ b, (updL S.h u b).live = (S.h b).live ∧ (updL S.h u b).isTree = (S.h b).isTree ∧ (updL S.h u b).known = (S.h b).known := fun b => by
    rcases hcase b with ⟨h1, _⟩ | ⟨⟨e, rows, h1⟩, e', rows', h2, _⟩
    · rw [h1]; exact ⟨rfl, rfl, rfl⟩
    · rw [h1, h2]; exact ⟨rfl, rfl, rfl⟩
  have hR : ∀ p v, Rd E.P w M p v → Rd E.P w' M p v := fun p v hr => hr.keep ⟨hw.size, fun b hb hm => hw.block b hb (fun hq => hm (hQM b hq).1)⟩ (fun b _ hm => hm)
  have hL : ∀ b, (S.h b).known = true → (updL S.h u b).known = true ∧ φ b = φ b := fun b hb => ⟨by rw [(hsame b).2.2]; exact hb, rfl⟩
  refine ⟨⟨hw.os.trans h.below.os, hw.tape.trans h.below.tape, hw.output.trans h.below.output, Nat.le_trans h.below.size hw.size, fun k hk => ?_⟩, h.defers, h.size, fun t => (h.slots t).keep hR hL, fun b => ?_, fun b g hb e => h.mutb b g (by rw [← (hsame b).1]; exact hb) e, fun g hm => Nat.lt_of_lt_of_le (h.mlt g hm) hw.size, h.amb,
    fun b b' g hb hb' => h.disj b b' g (by rw [← (hsame b).1]; exact hb) (by rw [← (hsame b').1]; exact hb'), fun b k g ht => ⟨(h.own b k g ht).1, Nat.lt_of_lt_of_le (h.own b k g ht).2.1 hw.size, fun hb => (h.own b k g ht).2.2 (by rw [← (hsame b).2.1]; exact hb)⟩,
    fun b k g ht hb => ⟨(h.tree b k g ht (by rw [← (hsame b).2.1]; exact hb)).1, fun b' hb' => (h.tree b k g ht (by rw [← (hsame b).2.1]; exact hb)).2 b' (by rw [← (hsame b').1]; exact hb')⟩, h.apart⟩
  · rw [hw.block k (Nat.lt_of_lt_of_le hk h.below.size) (fun hq => by have := (hQM k hq).2; omega)]
    exact h.below.block k hk
  · show BlkOk _ _ _ _ _ _ _ _ (updL S.h u b)
    rcases hcase b with ⟨h1, h2⟩ | ⟨_, e', rows', h2, h3⟩
    · rw [h1]
      refine (h.blks b).keep hR (fun k p v ho => ho.keep (fun g ht hlt => hw.block g hlt (h2 k g ht))) hL (fun hl g e => hw.block g (h.mlt g (h.mutb b g hl e)) (fun hq => ?_))
      obtain ⟨x, hx, ht⟩ := hQ g hq
      exact h.far ht hl e
    · rw [h2]; exact h3
theorem ow_lst {P : Program} {w : World} {Q : Nat → Prop} {p : PV} {v : Value} (h : Ow P w Q p v) (hv : ∃ A n c, v = .slice A n c) : ∃ e rows, p = .lst e rows := by
  obtain ⟨A, n, c, rfl⟩ := hv
  cases h with
  | lst _ e rows => exact ⟨e, rows, rfl⟩
theorem putL_mem {x : Nat × Blk} : ∀ {cs : List AV} {qs : List PV}, x ∈ putL cs qs → ∃ (i : Nat) (e : TypeId) (rows : List (List PV)), cs[i]? = some (.sl x.1) ∧ qs[i]? = some (.lst e rows) ∧ x.2 = .tree e rows := by
  intro cs qs h
  fun_induction putL cs qs with
  | case1 b l e rows k ih =>
    rcases List.mem_cons.1 h with rfl | h
    · exact ⟨0, e, rows, rfl, rfl, rfl⟩
    · obtain ⟨i, e', rows', h1, h2, h3⟩ := ih h
      exact ⟨i + 1, e', rows', by simpa using h1, by simpa using h2, h3⟩
  | case2 y l q k _ ih =>
    obtain ⟨i, e', rows', h1, h2, h3⟩ := ih h
    exact ⟨i + 1, e', rows', by simpa using h1, by simpa using h2, h3⟩
  | case3 => cases h
theorem putL_in {b : Nat} {e : TypeId} {rows : List (List PV)} : ∀ {cs : List AV} {qs : List PV} {i : Nat}, cs[i]? = some (.sl b) → qs[i]? = some (.lst e rows) → (b, .tree e rows) ∈ putL cs qs := by
  intro cs qs
  fun_induction putL cs qs with
  | case1 b' l e' rows' k ih =>
    intro i h1 h2
    cases i with
    | zero =>
      simp only [List.getElem?_cons_zero, Option.some.injEq, AV.sl.injEq, PV.lst.injEq] at h1 h2
      obtain ⟨rfl, rfl⟩ := h2
      subst h1
      exact List.mem_cons_self ..
    | succ i => exact List.mem_cons_of_mem _ (ih (by simpa using h1) (by simpa using h2))
  | case2 y l q k hne ih =>
    intro i h1 h2
    cases i with
    | zero =>
      simp only [List.getElem?_cons_zero, Option.some.injEq] at h1 h2
      exact absurd h2 (hne b e rows h1)
    | succ i => exact ih (by simpa using h1) (by simpa using h2)
  | case3 cs qs h1 h2 =>
    intro i h3 h4
    cases cs with
    | nil => simp at h3
    | cons y l =>
      cases qs with
      | nil => simp at h4
      | cons q k => exact absurd rfl (h2 y l q k rfl)
theorem op_lawcall {args : List Operand} {tys : Array TypeId} {f : FuncId} {as : List AV} {s1 : Seen} (ho : o.op = .call ⟨.value (.func f), args.toArray, tys⟩) (hm : ∀ b, m ≤ b → b < m + 16 → S.h b = .none) (h : Rel E.P w0 N S φ T M a w) (hal : as.length = args.length) (hra : ∀ i (hi : i < as.length) (hj : i < args.length), RaS E w M φ S as[i] (a.eval args[i]))
    (hr : (if true = true then lawQ E m f as else snapAs as fun ps => .call (fun r own => FnOk E.P f ps r own ∧ (introT m r).2.2 ≤ m + 16) fun r own => .cond own (.ret ⟨(introT m r).1, (introT m r).2.1⟩) (freeze (slots as) fun u => .ret ⟨plainT r, u⟩)).run S s1 (isRes r s')) : sure E.P o a w (After E w0 N S r a) := by
  simp only [if_true] at hr
  unfold lawQ at hr
  obtain ⟨ps, s2, hr2, hpl, hsn⟩ := snapTAs_sn hr
  obtain ⟨q, own, hq, hr3⟩ := hr2
  have hent : Ent E.P f := by
    cases own with
    | true => simp only [if_true] at hq; exact hq.1.1
    | false =>
      simp only [Bool.false_eq_true, if_false] at hq
      rcases hq with ⟨_, _, _, _, _, _, hq, _⟩ | ⟨_, _, hq⟩
      · exact hq.1
      · exact hq.1
  obtain ⟨fn, hfn1, hfn2, hfn3⟩ := hent
  have hcf : ∀ as, (callFunc f as).run E.P w = .ok (.enter f as) w := fun as => by
    have h1 : ¬ (fn.name = "runtime.NumGoroutine") := by simpa using hfn2
    have h2 : ¬ (fn.body = none) := fun e => by rw [e] at hfn3; cases hfn3
    unfold callFunc
    simp [hfn1, h1, h2]
  have hex : (execOp a.eval o).run E.P w = .ok (.enter f (args.map a.eval).toArray) w := by
    unfold execOp
    rw [ho]
    simp [resolve, invoke, Deferred.ofValue, Act.eval, hcf]
  have hvl : (args.map a.eval).length = ps.length := by simp; omega
  cases own with
  | true =>
    simp only [if_true] at hq
    obtain ⟨hfn, hid, hsh⟩ := hq
    have hr4 := hr3.1 rfl
    obtain ⟨rfl, _⟩ := hr4
    refine sure_call hex ((hfn.2 w (fun _ => False) (args.map a.eval) hvl (fun i hi hj => ?_)).mono fun e w' ⟨v, he, hb, hO⟩ => ⟨v, he, ?_⟩)
    · simp only [List.getElem_map]
      exact snTA_rd0 h (hra i (by omega) (by simpa using hj)) (hsn i (by omega))
    · simp only [if_true] at hO
      exact resT_new h hb hO hsh (fun b h1 h2 => hm b h1 (by omega))
  | false =>
    simp only [Bool.false_eq_true, if_false] at hq
    rcases hq with ⟨p, n, p', z, rfl, rfl, hmut, hnd, hoa⟩ | ⟨q', rfl, hfn⟩
    rotate_left
    · have hr4 : (freezeT (slots as) fun u => .ret ⟨plainT q', u⟩).run S s2 (isRes r s') := by
        have := hr3.2 rfl
        simpa only using this
      obtain ⟨U, s3, hr5, hu1, hu2, hu3⟩ := freezeT_run hr4
      obtain ⟨rfl, _⟩ := hr5
      obtain ⟨M', h', hM', hup, hin⟩ := freezeT_rel (fun x hx => by obtain ⟨e, r, h5, h6⟩ := hu1 x hx; exact ⟨e, r, h5, .inl h6⟩) h
      have hra' : ∀ {x : AV} {v : Value}, RaS E w M φ S x v → RaS E w M' φ ⟨S.t, updL S.h U⟩ x v := fun hx => hx.keep (fun p v hr => hr.weak hM') (fun b hb => ⟨by
        rcases hup b with e1 | ⟨e1, r1, e2, _⟩
        · show (updL S.h U b).known = true; rw [e1]; exact hb
        · show (updL S.h U b).known = true; rw [e2]; rfl, rfl⟩)
      have cell : ∀ {x : AV} {p : PV} {v : Value}, RaS E w M φ S x v → SnT S x p → (∀ b, x = .sl b → b ∈ slots as) → Rd E.P w M' p v := fun {x p v} hx hs hb => by
        rcases hs with rfl | ⟨e, rfl, rfl⟩ | ⟨b, e, rows, rfl, rfl, hB⟩
        · exact (ra_pv hx).weak hM'
        · cases hx with
          | nil => exact .nil _ _ _
        · have h1 := h'.blks b
          have h2 : updL S.h U b = .frz e rows := by
            obtain ⟨B, hB'⟩ := hu3 b (hb b rfl)
            obtain ⟨e', r', h3, h4⟩ := hin (b, B) hB'
            obtain ⟨e2, r2, h5, h6⟩ := hu1 (b, B) hB'
            simp only at h3 h4 h5 h6
            rw [hB] at h6
            rw [h5] at h4
            injection h6 with h7 h8
            injection h4 with h9 h10
            subst h7; subst h8; subst h9; subst h10
            exact h3
          simp only [h2] at h1
          rw [ra_sl hx]
          exact h1
      refine sure_call hex ((hfn.2 w M' (args.map a.eval) hvl (fun i hi hj => ?_)).mono fun e w' ⟨v, he, hb, hO⟩ => ⟨v, he, φ, T, M', ?_, ?_⟩)
      · simp only [List.getElem_map]
        have hmem : as[i]'(by omega) ∈ as := List.getElem_mem _
        have hx := hra i (by omega) (by simpa using hj)
        have hs0 := hsn i (by omega)
        generalize a.eval (args[i]'(by simpa using hj)) = v at hx ⊢
        generalize as[i]'(by omega) = x at hx hs0 hmem
        generalize ps[i] = p at hs0 ⊢
        rcases hs0 with ⟨cs, qs, rfl, rfl, hlen, hc⟩ | hs
        · cases hx with
          | agg _ vs hl hv => exact .agg qs vs (by omega) (fun k hk => cell (hv k (by omega)) (hc k (by omega)) (fun b e3 => mem_slots_agg (by rw [← e3]; exact List.getElem_mem _) hmem))
        · exact cell hx hs (fun b e3 => mem_slots (by rw [← e3]; exact hmem))
      · have h2 := h'.grown (grownB hb) (fun g e => by cases e) (fun _ => False) (fun g hg => hg.elim)
        have e1 : (fun g => M' g ∨ False) = M' := by funext g; simp
        rw [e1] at h2
        exact h2
      · simp only [Bool.false_eq_true, if_false] at hO
        exact plainT_ra (hO.weak (fun g hg => ⟨hg, h'.mlt g hg⟩))
    have hr4 := hr3.2 rfl
    have h2 : as.length = 2 := by simpa using hpl.symm
    match as, h2 with
    | [x, y], _ =>
      obtain ⟨rfl, _⟩ := hr4
      have hx := hra 0 (by simp) (by simp at hal; omega)
      have hy := hra 1 (by simp) (by simp at hal; omega)
      have sx := hsn 0 (by simp)
      have sy := hsn 1 (by simp)
      simp only [List.getElem_cons_zero, List.getElem_cons_succ, List.headD_cons] at hx hy sx sy hoa
      have hyv : a.eval (args[1]'(by simp at hal; omega)) = .int .i64 n := by
        rcases sy with ⟨_, _, _, e1, _⟩ | e1 | ⟨_, _, e1⟩ | ⟨_, _, _, _, e1, _⟩
        · cases e1
        · rw [e1] at hy; exact rd_int (ra_pv hy)
        · cases e1
        · cases e1
      have hargs : (args.map a.eval).toArray = #[a.eval (args[0]'(by simp at hal; omega)), .int .i64 n] := by
        have key : ∀ (l : List Operand) (h0 : 0 < l.length) (h1 : 1 < l.length), l.length = 2 → a.eval l[1] = .int .i64 n → (l.map a.eval).toArray = #[a.eval l[0], .int .i64 n] := by
          intro l h0 h1 h2 h3
          match l, h2 with
          | [u, v], _ =>
            have h3' : a.eval v = .int .i64 n := h3
            simp [h3']
        exact key args _ _ (by simp at hal; omega) hyv
      rw [hargs] at hex
      generalize hv : a.eval (args[0]'(by simp at hal; omega)) = v at hx hex
      have hnd' : nodupB (slots [x]) = true := by
        have : ∀ (l k : List Nat), nodupB (l ++ k) = true → nodupB l = true := by
          intro l k
          induction l with
          | nil => intro _; rfl
          | cons b l ih =>
            intro hh
            simp only [List.cons_append, nodupB, Bool.and_eq_true, Bool.not_eq_true', List.contains_eq_mem, decide_eq_false_iff_not, List.mem_append, not_or] at hh ⊢
            exact ⟨hh.1.1, ih hh.2⟩
        have e1 : ∃ k, slots [x, y] = slots [x] ++ k := by
          cases x <;> exact ⟨slots [y], by simp [slots]⟩
        obtain ⟨k, e1⟩ := e1
        rw [e1] at hnd
        exact this _ _ hnd
      -- one cell
      have one : ∀ {x : AV} {q : PV} {u : Value}, RaS E w M φ S x u → SnT S x q → x.ownLeaf = true → Ow E.P w (fun g => ∃ b, x = .sl b ∧ T b 0 g) q u := fun {x q u} hx hs hl => by
        rcases hs with rfl | ⟨e, rfl, rfl⟩ | ⟨b, e, rows, rfl, rfl, hB⟩
        · exact Rd.flat_ow (ra_pv hx) hl
        · cases hx with
          | nil => exact Ow.nil _ _
        · rw [ra_sl hx]
          exact Ow.mono (tree_ow h hB) (fun g hg => ⟨b, rfl, hg⟩)
      -- and behind the call
      have back : ∀ {w' : World} {b : Nat} {q q' : PV} {u : Value}, RaS E w M φ S (.sl b) u → SnT S (.sl b) q → Ow E.P w' (fun g => ∃ b', AV.sl b = .sl b' ∧ T b' 0 g) q' u → ∃ e rows, (∃ e0 rows0, S.h b = .tree e0 rows0) ∧ q' = .lst e rows ∧ Ow E.P w' (T b 0) (.lst e rows) (φ b) := fun {w' b q q' u} hx hs ho => by
        rcases hs with e1 | ⟨_, e1, _⟩ | ⟨b', e, rows, e1, _, hB⟩
        · cases e1
        · cases e1
        · injection e1 with e1
          subst e1
          rw [ra_sl hx] at ho
          obtain ⟨e', rows', rfl⟩ := ow_lst ho (sl_slice h ⟨e, rows, .inr (.inr (.inl hB))⟩)
          exact ⟨e', rows', ⟨e, rows, hB⟩, rfl, Ow.mono ho (fun g ⟨b', h7, h8⟩ => by injection h7 with h7; subst h7; exact h8)⟩
      by_cases hag : ∃ cs, x = .agg cs
      · obtain ⟨cs, rfl⟩ := hag
        rcases sx with ⟨cs', qs, e1, rfl, he, hsc⟩ | e1 | ⟨_, e1, _⟩ | ⟨_, _, _, e1, _⟩
        · injection e1 with e1
          subst e1
          have hoc : ∀ i (hi : i < cs.length), cs[i].ownLeaf = true := fun i hi => List.all_eq_true.1 hoa _ (List.getElem_mem hi)
          have hndc : nodupB (slots cs) = true := by simpa [slots] using hnd'
          cases hx with
          | agg _ vs hl hvv =>
            refine sure_call hex ((hmut.2 w _ (fun i g => ∃ hi : i < cs.length, ∃ b, cs[i] = .sl b ∧ T b 0 g) ⟨vs, rfl, by omega, fun i hi => Ow.mono (one (hvv i (by omega)) (hsc i (by omega)) (hoc i (by omega))) (fun g hg => ⟨by omega, hg⟩)⟩ (fun i j g ⟨hi, b, h3, h4⟩ ⟨hj, b', h5, h6⟩ => ?_) (fun i g ⟨_, b, _, h4⟩ => (h.own b 0 g h4).2.1)).mono fun e w' ⟨hE, hw, hO⟩ => ⟨.int .i64 z, hE, φ, T, M, ?_, .pv _ _ (.int _ _)⟩)
            · have := (h.apart b 0 b' 0 g h4 h6).1
              subst this
              exact slots_inj hndc (by rw [List.getElem?_eq_getElem hi, h3]) (by rw [List.getElem?_eq_getElem hj, h5])
            · have hO' : ∃ qs' : List PV, p' = .agg qs' ∧ ∃ hl : vs.length = qs'.length, ∀ i (hi : i < qs'.length), Ow E.P w' (fun g => ∃ hi : i < cs.length, ∃ b, cs[i] = .sl b ∧ T b 0 g) qs'[i] (vs[i]'(by omega)) := by
                cases p' with
                | agg qs' =>
                  obtain ⟨vs', e1, hl', h3⟩ := hO
                  injection e1 with e1
                  have e2 : vs = vs' := by simpa using e1
                  subst e2
                  exact ⟨qs', rfl, hl', h3⟩
                | int => cases hO
                | bool => cases hO
                | str => cases hO
                | lst e0 rows0 =>
                  have hO2 : Ow E.P w' _ (.lst e0 rows0) (.agg vs.toArray) := hO
                  cases hO2 with | lst _ _ _ _ xs f Tn ho1 => rcases ho1.2 with ⟨e1, _⟩ | ⟨_, _, _, e1, _⟩ <;> cases e1
                | tup => cases hO
              obtain ⟨qs', rfl, hl', hcells⟩ := hO'
              have hmem : ∀ {i b : Nat}, cs[i]? = some (AV.sl b) → ∃ e rows, (∃ e0 rows0, S.h b = .tree e0 rows0) ∧ qs'[i]? = some (.lst e rows) ∧ Ow E.P w' (T b 0) (.lst e rows) (φ b) := fun {i b} h3 => by
                obtain ⟨hi, h4⟩ := List.getElem?_eq_some_iff.1 h3
                have h5 := hvv i hi
                have h5s := hsc i hi
                rw [h4] at h5 h5s
                obtain ⟨e, rows, h6, h7, h8⟩ := back h5 h5s (Ow.mono (hcells i (by omega)) (fun g ⟨_, b', h9, h10⟩ => ⟨b', by rw [← h4]; exact h9, h10⟩))
                exact ⟨e, rows, h6, by rw [List.getElem?_eq_getElem (by omega), h7], h8⟩
              refine h.turn hw (fun x hx => ?_) (fun g ⟨i, hi, b, h3, h4⟩ => ?_)
              · obtain ⟨i, e, rows, h3, h4, h5⟩ := putL_mem hx
                obtain ⟨e', rows', h6, h7, h8⟩ := hmem h3
                rw [h4] at h7
                injection h7 with h7
                injection h7 with h7 h9
                subst h7; subst h9
                exact ⟨h6, e, rows, h5, h8⟩
              · have h3' : cs[i]? = some (.sl b) := by rw [List.getElem?_eq_getElem hi, h3]
                obtain ⟨e, rows, _, h6, _⟩ := hmem h3'
                exact ⟨(b, .tree e rows), putL_in h3' h6, h4⟩
        · cases e1
        · cases e1
        · cases e1
      · have hne : ∀ cs, x ≠ .agg cs := fun cs e => hag ⟨cs, e⟩
        have sx' : SnT S x p := by
          rcases sx with ⟨cs', qs, e1, _⟩ | sx
          · exact absurd e1 (hne _)
          · exact sx
        have hoa' : x.ownLeaf = true := by cases x <;> first | exact absurd rfl (hne _) | exact hoa
        have ho := one hx sx' hoa'
        have hpa : ∀ cs, p ≠ .agg cs := fun cs e => by
          subst e
          rcases sx' with e1 | ⟨_, _, e1⟩ | ⟨_, _, _, _, e1, _⟩
          · rw [e1] at hoa'; cases hoa'
          · cases e1
          · cases e1
        have ho' : OwA E.P w (fun i g => i = 0 ∧ ∃ b, x = .sl b ∧ T b 0 g) p v := by
          have := Ow.mono ho (S' := fun g => 0 = 0 ∧ ∃ b, x = .sl b ∧ T b 0 g) (fun g hg => ⟨rfl, hg⟩)
          cases p <;> first | exact absurd rfl (hpa _) | exact this
        refine sure_call hex ((hmut.2 w v (fun i g => i = 0 ∧ ∃ b, x = .sl b ∧ T b 0 g) ho' (fun i j g h3 h4 => by rw [h3.1, h4.1]) (fun i g ⟨_, b, _, h4⟩ => (h.own b 0 g h4).2.1)).mono fun e w' ⟨hE, hw, hO⟩ => ⟨.int .i64 z, hE, φ, T, M, ?_, .pv _ _ (.int _ _)⟩)
        by_cases hsl : ∃ b, x = .sl b
        · obtain ⟨b, rfl⟩ := hsl
          have hO' : ∃ e rows, (∃ e0 rows0, S.h b = .tree e0 rows0) ∧ p' = .lst e rows ∧ Ow E.P w' (T b 0) (.lst e rows) (φ b) := by
            have hvs : ∃ A n c, v = .slice A n c := by
              rcases sx' with e1 | ⟨_, e1, _⟩ | ⟨b', e, rows, e1, _, hB⟩
              · cases e1
              · cases e1
              · injection e1 with e1; subst e1
                rw [ra_sl hx]; exact sl_slice h ⟨e, rows, .inr (.inr (.inl hB))⟩
            have hO2 : Ow E.P w' (fun g => 0 = 0 ∧ ∃ b', AV.sl b = .sl b' ∧ T b' 0 g) p' v := by
              cases p' with
              | agg qs' => obtain ⟨A, n', c, rfl⟩ := hvs; obtain ⟨_, e1, _⟩ := hO; cases e1
              | int | bool | str | lst | tup => exact hO
            exact back hx sx' (Ow.mono hO2 (fun g hg => hg.2))
          obtain ⟨e, rows, h6, rfl, h8⟩ := hO'
          refine h.turn hw (fun x hx => ?_) (fun g ⟨_, _, b', h3, h4⟩ => ?_)
          · obtain rfl : x = (b, .tree e rows) := by simpa [putT] using hx
            exact ⟨h6, e, rows, rfl, h8⟩
          · injection h3 with h3; subst h3
            exact ⟨(b, .tree e rows), by simp [putT], h4⟩
        · have e1 : putT x p' = [] := by cases x <;> first | rfl | exact absurd rfl (hne _) | exact absurd ⟨_, rfl⟩ hsl
          show Rel E.P w0 N ⟨S.t, updL S.h (putT x p')⟩ φ T M a w'
          rw [e1]
          exact h.turn (u := []) hw (fun x hx => by cases hx) (fun g ⟨_, _, b', h3, _⟩ => absurd ⟨b', h3⟩ hsl)
end
section
variable {E : Tab} {m : Nat} {o : Oper} {w0 : W0} {w : World} {N : Nat} {S : ASt} {φ : Nat → Value} {T : Nat → Nat → Nat → Prop} {M : Nat → Prop} {a : Act} {r : ARes} {s s' : Seen}
theorem op_call {c : Call} {f : FuncId} (ho : o.op = .call c) (hc : c.callee = .value (.func f)) (hm : ∀ b, m ≤ b → b < m + 16 → S.h b = .none) (h : Rel E.P w0 N S φ T M a w) (hr : (aop E m o).run S s (isRes r s')) : sure E.P o a w (After E w0 N S r a) := by
  obtain ⟨cc, ⟨args⟩, tys⟩ := c
  simp only at hc
  subst hc
  unfold aop at hr
  rw [ho] at hr
  simp only at hr
  obtain ⟨as, s1, hr1, hal, hra⟩ := evs_sound h hr
  cases hmd : E.md with
  | true =>
    rw [hmd] at hr1
    exact op_lawcall ho hm h hal hra hr1
  | false =>
  rw [hmd] at hr1
  simp only [Bool.false_eq_true, if_false] at hr1
  obtain ⟨ps, s2, hr2, hpl, hsn⟩ := snapAs_sn hr1
  obtain ⟨q, own, ⟨⟨⟨fn, hfn1, hfn2, hfn3⟩, hfn⟩, hid⟩, hr3⟩ := hr2
  have hcf : ∀ as, (callFunc f as).run E.P w = .ok (.enter f as) w := fun as => by
    have h1 : ¬ (fn.name = "runtime.NumGoroutine") := by simpa using hfn2
    have h2 : ¬ (fn.body = none) := fun e => by rw [e] at hfn3; cases hfn3
    unfold callFunc
    simp [hfn1, h1, h2]
  have hex : (execOp a.eval o).run E.P w = .ok (.enter f (args.map a.eval).toArray) w := by
    unfold execOp
    rw [ho]
    simp [resolve, invoke, Deferred.ofValue, Act.eval, hcf]
  have hvl : (args.map a.eval).length = ps.length := by simp; omega
  cases own with
  | true =>
    have hr4 := hr3.1 rfl
    obtain ⟨rfl, _⟩ := hr4
    refine sure_call hex ((hfn w (fun _ => False) (args.map a.eval) hvl (fun i hi hj => ?_)).mono fun e w' ⟨v, he, hb, hO⟩ => ⟨v, he, ?_⟩)
    · simp only [List.getElem_map]
      exact snA_rd0 h (hra i (by omega) (by simpa using hj)) (hsn i (by omega))
    · simp only [if_true] at hO
      exact res_new h hb hO (fun b h1 h2 => hm b h1 (by omega))
  | false =>
    have hr4 := hr3.2 rfl
    obtain ⟨U, s3, hr5, hu1, hu2, hu3⟩ := freeze_run hr4
    obtain ⟨rfl, _⟩ := hr5
    obtain ⟨M', h', hM', hfz, hup, hdl⟩ := freeze_rel hu1 h
    have hra' : ∀ {x : AV} {v : Value}, RaS E w M φ S x v → RaS E w M' φ ⟨S.t, updL S.h U⟩ x v := fun hx => hx.keep (fun p v hr => hr.weak hM') (fun b hb => ⟨by
      rcases hup b with e1 | ⟨e1, r1, e2, _⟩
      · show (updL S.h U b).known = true; rw [e1]; exact hb
      · show (updL S.h U b).known = true; rw [e2]; rfl, rfl⟩)
    have hfr : ∀ b ∈ slots as, ∀ e rows, ((∃ own, S.h b = .row own e rows) ∨ S.h b = .frz e rows) → updL S.h U b = .frz e rows := by
      intro b hb e' rows' hB
      rcases hB with ⟨own', hB⟩ | hB
      · obtain ⟨B, hB' | ⟨cs', hB'⟩⟩ := hu3 b hb (by rw [hB]; rfl)
        · have := hdl _ hB'
          rcases hup b with e1 | ⟨e1, r1, e2, o1, e3⟩
          · rw [e1, hB] at this; cases this
          · rw [hB] at e3; injection e3 with _ e4 e5; subst e4; subst e5; exact e2
        · rw [hB] at hB'; cases hB'
      · rcases hup b with e1 | ⟨e1, r1, e2, o1, e3⟩
        · rw [e1, hB]
        · rw [hB] at e3; cases e3
    refine sure_call hex ((hfn w M' (args.map a.eval) hvl (fun i hi hj => ?_)).mono fun e w' ⟨v, he, hb, hO⟩ => ⟨v, he, φ, T, M', ?_, ?_⟩)
    · simp only [List.getElem_map]
      refine snA_rd h' (hra' (hra i (by omega) (by simpa using hj))) (hsn i (by omega)) (fun b e rows hx hB => ?_)
      refine hfr b ?_ e rows hB
      have hmem : as[i]'(by omega) ∈ as := List.getElem_mem _
      rcases hx with hx | ⟨cs, hx, hb⟩
      · rw [hx] at hmem; exact mem_slots hmem
      · rw [hx] at hmem; exact mem_slots_agg hb hmem
    · have h2 := h'.grown (grownB hb) (fun g e => by cases e) (fun _ => False) (fun g hg => hg.elim)
      have e1 : (fun g => M' g ∨ False) = M' := by funext g; simp
      rw [e1] at h2
      exact h2
    · simp only [Bool.false_eq_true, if_false] at hO
      exact plainT_ra (hO.weak (fun g hg => ⟨hg, h'.mlt g hg⟩))
end
end Av
end Go.Proofs.Ytbkbppllcjcmhaa

namespace Go.Proofs.Ytbkbppllcjcmhaa
open Go.RowKit
namespace Av

/-- a slot is set, blocks are told of anew -/
def app (S : ASt) (d : Option Tmp) (r : ARes) : ASt := ⟨match d with | some d => upd S.t d r.av | none => S.t, updL S.h r.upd⟩
section
variable {E : Tab} {m : Nat} {o : Oper} {w0 : W0} {w : World} {N : Nat} {S : ASt} {φ : Nat → Value} {T : Nat → Nat → Nat → Prop} {M : Nat → Prop} {a : Act} {r : ARes} {s s' : Seen}
/-- memory behind an operation whose slot is set -/
def Done (E : Tab) (w0 : W0) (N : Nat) (S : ASt) (d : Option Tmp) (r : ARes) (a : Act) (v : Value) (w' : World) : Prop := ∃ φ' T' M', Rel E.P w0 N (app S d r) φ' T' M' (a.put d v) w'
theorem After.done {d : Option Tmp} {v : Value} {w' : World} (h : After E w0 N S r a v w') (hd : ∀ x, d = some x → x < N) : Done E w0 N S d r a v w' := by
  obtain ⟨φ', T', M', h1, h2⟩ := h
  cases d with
  | none => exact ⟨φ', T', M', h1⟩
  | some d => exact ⟨φ', T', M', h1.put (hd d rfl) h2⟩
theorem op_any (hm : ∀ b, m ≤ b → b < m + 16 → S.h b = .none) (h : Rel E.P w0 N S φ T M a w) (hr : (aop E m o).run S s (isRes r s')) : sure E.P o a w (After E w0 N S r a) := by
  have hm0 : S.h m = .none := hm m (Nat.le_refl _) (by omega)
  have hr0 := hr
  have no : ∀ {R : Value → World → Prop}, (Rq.fail).run S s (isRes r s') → sure E.P o a w R := fun h => h.elim
  cases ho : o.op with
  | move x => unfold aop at hr; rw [ho] at hr; exact op_move (.inl ho) h hr
  | assign x => unfold aop at hr; rw [ho] at hr; exact op_move (.inr ho) h hr
  | pick c x y => exact op_pick ho h hr0
  | alloc t => exact op_alloc ho hm0 h hr0
  | box t x => exact op_box ho hm0 h hr0
  | build t ps => exact op_build ho h hr0
  | buildSlice t l ps => exact op_buildSlice ho hm0 h hr0
  | load t x => exact op_load ho h hr0
  | store t x y => exact op_store ho h hr0
  | binOp op t x y t' => exact op_bin ho h hr0
  | unOp op t x => exact op_un ho h hr0
  | convert q t x => exact op_convert ho h hr0
  | makeSlice t l c => exact op_makeSlice ho hm0 h hr0
  | slice t x lo hi mx => exact op_slice ho hm0 h hr0
  | fieldAddr t x f => exact op_fieldAddr ho h hr0
  | field t x f => exact op_field ho h hr0
  | indexAddr t x i => exact op_indexAddr ho h hr0
  | index t x i => exact op_index ho h hr0
  | extract x i => exact op_extract ho h hr0
  | call c =>
    obtain ⟨cc, args, tys⟩ := c
    cases cc with
    | value f =>
      cases f with
      | func f => exact op_call ho rfl hm h hr0
      | tmp t => unfold aop at hr; rw [ho] at hr; exact no hr
      | const v => unfold aop at hr; rw [ho] at hr; exact no hr
      | global g => unfold aop at hr; rw [ho] at hr; exact no hr
    | invoke x n => unfold aop at hr; rw [ho] at hr; exact no hr
    | builtin b =>
      cases b with
      | len => exact op_len ho rfl h hr0
      | append => exact op_append ho rfl hm0 h hr0
      | min => exact op_min ho rfl h hr0
      | max => exact op_max ho rfl h hr0
      | cap | clear | close | complex | copy | delete | imag | make | new | panic | print | println | real | recover | unsafeAdd | unsafeSlice | unsafeSliceData | unsafeString | unsafeStringData | unsafeSizeof | unsafeAlignof | unsafeOffsetof => unfold aop at hr; rw [ho] at hr; exact no hr
  | insert | ready | waits | nilCheck | sliceToArrayPointer | makeInterface | makeFunc | makeMap | makeChan | lookup | mapUpdate | mapEntry | entryStore | range | next | entry | typeAssert | go | defer | panic | send | recv | select => unfold aop at hr; rw [ho] at hr; exact no hr
theorem ra_out {v : Value} (h : RaS E w M φ S .out v) : v = undef := by cases h; rfl
/-- an operation with its guard: it is done, or left out -/
theorem opG_any {ops : List Oper} (hd : ∀ x, o.dst = some x → x < N) (hm : ∀ b, m ≤ b → b < m + 16 → S.h b = .none) (h : Rel E.P w0 N S φ T M a w) (hr : (aopG E ops m o).run S s (isRes r s')) :
    (Region.wanted o (yielded ops.toArray a.tmps) = true ∧ sure E.P o a w (Done E w0 N S o.dst r a)) ∨ (Region.wanted o (yielded ops.toArray a.tmps) = false ∧ Done E w0 N S o.dst r a undef w) := by
  have run : (aop E m o).run S s (isRes r s') → sure E.P o a w (Done E w0 N S o.dst r a) := fun hr => sure_mono (op_any hm h hr) (fun v w' ha => ha.done hd)
  unfold aopG at hr
  unfold Region.wanted
  split at hr
  · rename_i hg
    rw [hg]
    exact .inl ⟨rfl, run hr⟩
  · rename_i g want hg
    rw [hg]
    unfold guardQ at hr
    split at hr
    · rename_i d hgd
      simp only [Rq.run] at hr
      have hsl := h.slots d
      split at hr
      · rename_i t ht
        rw [ht] at hsl
        have hv : sl1 a d = .bool t := rd_bool (ra_pv hsl)
        have hy : yielded ops.toArray a.tmps g = some t := by
          have hlt : d < a.tmps.size := by
            by_cases h1 : d < a.tmps.size
            · exact h1
            · unfold sl1 at hv; rw [Array.getD_eq_getD_getElem?, Array.getElem?_eq_none (Nat.le_of_not_lt h1)] at hv; cases hv
          have h2 : a.tmps[d]? = some (.bool t) := by
            rw [Array.getElem?_eq_getElem hlt]
            unfold sl1 at hv
            simpa [hlt] using hv
          unfold yielded
          rw [List.getElem?_toArray, hgd]
          simp [h2]
        simp only [hy]
        cases hw : (t == want) with
        | true =>
          have h3 := hr.1 (by simpa using hw)
          refine .inl ⟨by simpa using hw, sure_mono (op_any hm h h3) (fun v w' ha => ha.done hd)⟩
        | false =>
          have h3 := hr.2 (by simpa using hw)
          refine .inr ⟨by simpa using hw, ?_⟩
          obtain ⟨rfl, _⟩ := h3
          exact After.done ⟨φ, T, M, h, .out⟩ hd
      · rename_i hout
        rw [hout] at hsl
        have hv : sl1 a d = undef := ra_out hsl
        have hy : yielded ops.toArray a.tmps g = none := by
          unfold yielded
          rw [List.getElem?_toArray, hgd]
          have h2 : a.tmps[d]? = none ∨ a.tmps[d]? = some undef := by
            by_cases h1 : d < a.tmps.size
            · right
              rw [Array.getElem?_eq_getElem h1]
              unfold sl1 at hv
              simpa [h1] using hv
            · left
              exact Array.getElem?_eq_none (Nat.le_of_not_lt h1)
          rcases h2 with h2 | h2
          · simp [h2]
          · simp [h2, undef]
        simp only [hy]
        refine .inr ⟨by cases want <;> rfl, ?_⟩
        obtain ⟨rfl, _⟩ := hr
        exact After.done ⟨φ, T, M, h, .out⟩ hd
      · exact hr.elim
    · exact hr.elim

/-- what an operation looked at, and which blocks it told of anew -/
structure Foot where
  ts : List Nat
  hs : List Nat
  ks : List Nat
def footOf (s : Seen) (r : ARes) : Foot := ⟨s.ts, s.hs, r.upd.map (·.1)⟩
/-- operations, one behind the other; each one has sixteen numbers for what it makes -/
def aops (E : Tab) (ops : List Oper) : List Oper → Nat → ASt → List Foot → (ASt → List Foot → Prop) → Prop
  | [], _, S, acc, K => K S acc
  | o :: l, m, S, acc, K => (aopG E ops m o).run S ⟨[], []⟩ fun r s => aops E ops l (m + 16) (app S o.dst r) (footOf s r :: acc) K
/-- the steps of a run -/
inductive Steps (E : Tab) (ops : List Oper) : List Oper → Nat → ASt → List (ARes × Seen) → ASt → Prop
  | nil (m : Nat) (S : ASt) : Steps E ops [] m S [] S
  | cons {o : Oper} {l : List Oper} {m : Nat} {S S' : ASt} {r : ARes} {s : Seen} {es : List (ARes × Seen)} (h : (aopG E ops m o).run S ⟨[], []⟩ (isRes r s)) (hs : Steps E ops l (m + 16) (app S o.dst r) es S') : Steps E ops (o :: l) m S ((r, s) :: es) S'
theorem aops_steps {ops : List Oper} {K : ASt → List Foot → Prop} : ∀ {l : List Oper} {m : Nat} {S : ASt} {acc : List Foot}, aops E ops l m S acc K → ∃ es S', Steps E ops l m S es S' ∧ K S' ((es.map fun e => footOf e.2 e.1).reverse ++ acc)
  | [], m, S, acc, h => ⟨[], S, .nil m S, by simpa [aops] using h⟩
  | o :: l, m, S, acc, h => by
    unfold aops at h
    obtain ⟨r, s, h1, h2⟩ := Rq.elim h
    obtain ⟨es, S', h3, h4⟩ := aops_steps h2
    exact ⟨(r, s) :: es, S', .cons h1 h3, by simpa using h4⟩
/-- what each operation tells of anew is no farther than its numbers -/
def boundB : Nat → List Foot → Bool
  | _, [] => true
  | m, f :: l => f.ks.all (fun x => decide (x < m + 16)) && boundB (m + 16) l
theorem updL_out {α : Type} : ∀ {u : List (Nat × α)} {f : Nat → α} {x : Nat}, (∀ p ∈ u, p.1 ≠ x) → updL f u x = f x
  | [], _, _, _ => rfl
  | (k, v) :: u, f, x, h => by
    show updL (upd f k v) u x = f x
    rw [updL_out (fun p hp => h p (List.mem_cons_of_mem _ hp))]
    exact upd_ne _ _ (Ne.symm (h (k, v) (List.mem_cons_self ..)))
/-- operations in the order of the text -/
theorem region_text {ops : List Oper} {Q : Exit → Act → World → Prop} : ∀ {l : List Oper} {m : Nat} {S S' : ASt} {es : List (ARes × Seen)} {φ : Nat → Value} {T : Nat → Nat → Nat → Prop} {M : Nat → Prop} {a : Act} {w : World}, (∀ o ∈ l, ∀ x, o.dst = some x → x < N) → Steps E ops l m S es S' → boundB m (es.map fun e => footOf e.2 e.1) = true →
    (∀ b, m ≤ b → S.h b = .none) → Rel E.P w0 N S φ T M a w → (∀ φ T M a w, Rel E.P w0 N S' φ T M a w → (∀ b, m + 16 * l.length ≤ b → S'.h b = .none) → Q .normal a w) → wpList E.P ops.toArray Q l a w
  | [], m, S, S', es, φ, T, M, a, w, hd, hs, hb, hf, h, hQ => by
    cases hs
    exact hQ _ _ _ _ _ h (by simpa using hf)
  | o :: l, m, S, S', es, φ, T, M, a, w, hd, hs, hb, hf, h, hQ => by
    cases hs with
    | @cons _ _ _ _ _ r s es hr hs =>
      simp only [List.map_cons, boundB, Bool.and_eq_true, List.all_eq_true, footOf, List.mem_map, decide_eq_true_eq] at hb
      obtain ⟨hb1, hb2⟩ := hb
      have hf' : ∀ b, m + 16 ≤ b → (app S o.dst r).h b = .none := fun b hbb => by
        show updL S.h r.upd b = .none
        rw [updL_out (fun p hp e => by have := hb1 p.1 ⟨p, hp, rfl⟩; omega)]
        exact hf b (by omega)
      have next : ∀ {v : Value} {w' : World}, Done E w0 N S o.dst r a v w' → wpList E.P ops.toArray Q l (a.put o.dst v) w' := fun ⟨φ', T', M', h'⟩ =>
        region_text (fun o ho => hd o (List.mem_cons_of_mem _ ho)) hs (by simpa [footOf] using hb2) hf' h' (fun φ T M a w h hff => hQ φ T M a w h (fun b hbb => hff b (by simp only [List.length_cons] at hbb; omega)))
      unfold wpList
      rcases opG_any (hd o (List.mem_cons_self ..)) (fun b h1 _ => hf b h1) h hr with ⟨hw, hsure⟩ | ⟨hw, hdone⟩
      · rw [if_pos hw]
        exact .inl (hsure _ _ (fun v w' hD => next hD))
      · rw [if_neg (by rw [hw]; simp)]
        exact next hdone
end
end Av
end Go.Proofs.Ytbkbppllcjcmhaa

namespace Go.Proofs.Ytbkbppllcjcmhaa
open Go.RowKit
namespace Av

/-- the machine where some of the operations are done -/
def stD (S0 : ASt) (es : List (Option Tmp × ARes)) (D : Nat → Bool) : Nat → ASt
  | 0 => S0
  | k + 1 => match es[k]? with
    | some e => if D k then app (stD S0 es D k) e.1 e.2 else stD S0 es D k
    | none => stD S0 es D k
def keysOf (r : ARes) : List Nat := r.upd.map (·.1)
theorem app_t (S : ASt) (d : Option Tmp) (r : ARes) (t : Nat) : (app S d r).t t = if d = some t then r.av else S.t t := by
  unfold app
  cases d with
  | none => simp
  | some d =>
    simp only [upd, Option.some.injEq]
    by_cases h : t = d
    · simp [h]
    · simp [h, Ne.symm h]
theorem updL_in {α : Type} : ∀ {u : List (Nat × α)} {f g : Nat → α} {x : Nat}, x ∈ u.map (·.1) → updL f u x = updL g u x
  | [], _, _, _, h => by cases h
  | (k, v) :: u, f, g, x, h => by
    show updL (upd f k v) u x = updL (upd g k v) u x
    by_cases hx : x ∈ u.map (·.1)
    · exact updL_in hx
    · have hne : ∀ p ∈ u, p.1 ≠ x := fun p hp e => hx (List.mem_map.2 ⟨p, hp, e⟩)
      rw [updL_out hne, updL_out hne]
      rcases List.mem_cons.1 h with h | h
      · subst h; simp [upd]
      · exact absurd h hx
theorem app_h_out {S : ASt} {d : Option Tmp} {r : ARes} {x : Nat} (h : x ∉ keysOf r) : (app S d r).h x = S.h x := updL_out (fun p hp e => h (List.mem_map.2 ⟨p, hp, e⟩))
section
variable {S0 : ASt} {es : List (Option Tmp × ARes)} {D D' : Nat → Bool}
theorem agreeT {t : Nat} : ∀ {n : Nat}, (∀ k, k < n → ∀ e, es[k]? = some e → e.1 = some t → D k = D' k) → (stD S0 es D n).t t = (stD S0 es D' n).t t
  | 0, _ => rfl
  | n + 1, h => by
    have ih := agreeT (n := n) (fun k hk => h k (by omega))
    have hn := h n (by omega)
    unfold stD
    cases he : es[n]? with
    | none => exact ih
    | some e =>
      simp only
      by_cases hw : e.1 = some t
      · rw [hn e he hw]
        split
        · rw [app_t, app_t, if_pos hw, if_pos hw]
        · exact ih
      · have : ∀ S : ASt, (app S e.1 e.2).t t = S.t t := fun S => by rw [app_t, if_neg hw]
        split <;> split <;> first | exact ih | (rw [this, this]; exact ih) | (rw [this]; exact ih)
theorem agreeH {x : Nat} : ∀ {n : Nat}, (∀ k, k < n → ∀ e, es[k]? = some e → x ∈ keysOf e.2 → D k = D' k) → (stD S0 es D n).h x = (stD S0 es D' n).h x
  | 0, _ => rfl
  | n + 1, h => by
    have ih := agreeH (n := n) (fun k hk => h k (by omega))
    have hn := h n (by omega)
    unfold stD
    cases he : es[n]? with
    | none => exact ih
    | some e =>
      simp only
      by_cases hw : x ∈ keysOf e.2
      · rw [hn e he hw]
        split
        · exact updL_in hw
        · exact ih
      · have : ∀ S : ASt, (app S e.1 e.2).h x = S.h x := fun S => app_h_out hw
        split <;> split <;> first | exact ih | (rw [this, this]; exact ih) | (rw [this]; exact ih)
theorem lastT {t i : Nat} {e : Option Tmp × ARes} (he : es[i]? = some e) (hw : e.1 = some t) (hD : D i = true) : ∀ {n : Nat}, i < n → (∀ k, i < k → k < n → ∀ e, es[k]? = some e → e.1 = some t → D k = false) → (stD S0 es D n).t t = e.2.av
  | 0, h, _ => by omega
  | n + 1, h, hl => by
    by_cases hin : i = n
    · subst hin
      unfold stD
      rw [he]
      simp only [hD, if_true]
      rw [app_t, if_pos hw]
    · have ih := lastT he hw hD (n := n) (by omega) (fun k h1 h2 => hl k h1 (by omega))
      have hn := hl n (by omega) (by omega)
      unfold stD
      cases he' : es[n]? with
      | none => exact ih
      | some e' =>
        simp only
        by_cases hw' : e'.1 = some t
        · rw [hn e' he' hw']; exact ih
        · split
          · rw [app_t, if_neg hw']; exact ih
          · exact ih
theorem lastH {x i : Nat} {e : Option Tmp × ARes} (he : es[i]? = some e) (hw : x ∈ keysOf e.2) (hD : D i = true) : ∀ {n : Nat}, i < n → (∀ k, i < k → k < n → ∀ e, es[k]? = some e → x ∈ keysOf e.2 → D k = false) → (stD S0 es D n).h x = updL (fun _ => .none) e.2.upd x
  | 0, h, _ => by omega
  | n + 1, h, hl => by
    by_cases hin : i = n
    · subst hin
      unfold stD
      rw [he]
      simp only [hD, if_true]
      exact updL_in hw
    · have ih := lastH he hw hD (n := n) (by omega) (fun k h1 h2 => hl k h1 (by omega))
      have hn := hl n (by omega) (by omega)
      unfold stD
      cases he' : es[n]? with
      | none => exact ih
      | some e' =>
        simp only
        by_cases hw' : x ∈ keysOf e'.2
        · rw [hn e' he' hw']; exact ih
        · split
          · rw [app_h_out hw']; exact ih
          · exact ih
theorem stD_cons (S0 : ASt) (e : Option Tmp × ARes) (es : List (Option Tmp × ARes)) (D : Nat → Bool) : ∀ k, stD S0 (e :: es) D (k + 1) = stD (if D 0 then app S0 e.1 e.2 else S0) es (fun j => D (j + 1)) k
  | 0 => rfl
  | k + 1 => by
    have ih := stD_cons S0 e es D k
    show (match (e :: es)[k + 1]? with | some e' => if D (k + 1) then app (stD S0 (e :: es) D (k + 1)) e'.1 e'.2 else stD S0 (e :: es) D (k + 1) | none => stD S0 (e :: es) D (k + 1)) = _
    rw [List.getElem?_cons_succ, ih]
    rfl
/-- none behind k is done -/
theorem stD_stop {i : Nat} : ∀ {n : Nat}, i ≤ n → (∀ k, i ≤ k → D k = false) → stD S0 es D n = stD S0 es D i
  | 0, h, _ => by
    have : i = 0 := by omega
    rw [this]
  | n + 1, h, hD => by
    by_cases hin : i = n + 1
    · rw [hin]
    · have ih := stD_stop (n := n) (by omega) hD
      show (match es[n]? with | some e' => if D n then app (stD S0 es D n) e'.1 e'.2 else stD S0 es D n | none => stD S0 es D n) = _
      rw [hD n (by omega), ← ih]
      cases es[n]? <;> rfl
theorem stD_congr : ∀ {n : Nat}, (∀ k, k < n → D k = D' k) → stD S0 es D n = stD S0 es D' n
  | 0, _ => rfl
  | n + 1, h => by
    have ih := stD_congr (n := n) (fun k hk => h k (by omega))
    show (match es[n]? with | some e' => if D n then app (stD S0 es D n) e'.1 e'.2 else stD S0 es D n | none => stD S0 es D n) = (match es[n]? with | some e' => if D' n then app (stD S0 es D' n) e'.1 e'.2 else stD S0 es D' n | none => stD S0 es D' n)
    rw [h n (by omega), ih]
end
/-- the operations with what they leave -/
def effs (l : List Oper) (es : List (ARes × Seen)) : List (Option Tmp × ARes) := (l.zip es).map fun p => (p.1.dst, p.2.1)
theorem steps_len {E : Tab} {ops l : List Oper} {m : Nat} {S S' : ASt} {es : List (ARes × Seen)} (h : Steps E ops l m S es S') : es.length = l.length := by
  induction h with
  | nil => rfl
  | cons _ _ ih => simp [ih]
theorem steps_at {E : Tab} {ops : List Oper} {l : List Oper} {m : Nat} {S S' : ASt} {es : List (ARes × Seen)} (h : Steps E ops l m S es S') : ∀ i o, l[i]? = some o → ∃ r s, es[i]? = some (r, s) ∧ (aopG E ops (m + 16 * i) o).run (stD S (effs l es) (fun _ => true) i) ⟨[], []⟩ (isRes r s) := by
  induction h with
  | nil => intro i o h; simp at h
  | @cons o l m S S' r s es hr hs ih =>
    intro i o' ho
    cases i with
    | zero =>
      simp only [List.getElem?_cons_zero, Option.some.injEq] at ho
      subst ho
      exact ⟨r, s, rfl, hr⟩
    | succ i =>
      obtain ⟨r', s', h1, h2⟩ := ih i o' (by simpa using ho)
      refine ⟨r', s', by simpa using h1, ?_⟩
      have e1 : effs (o :: l) ((r, s) :: es) = (o.dst, r) :: effs l es := rfl
      rw [e1, stD_cons, show m + 16 * (i + 1) = m + 16 + 16 * i by omega]
      exact h2
theorem steps_end {E : Tab} {ops : List Oper} {l : List Oper} {m : Nat} {S S' : ASt} {es : List (ARes × Seen)} (h : Steps E ops l m S es S') : S' = stD S (effs l es) (fun _ => true) l.length := by
  induction h with
  | nil => rfl
  | @cons o l m S S' r s es hr hs ih =>
    have e1 : effs (o :: l) ((r, s) :: es) = (o.dst, r) :: effs l es := rfl
    rw [e1, List.length_cons, stD_cons]
    exact ih

/-- what an operation waits for, near and far, as bits -/
def maskOf (o : Oper) (acc : List Nat) : Nat := o.after.toList.foldr (fun e s => if Region.binds .any e then s ||| 2 ^ e.on ||| acc.getD e.on 0 else s) 0
def masks : List Oper → List Nat → List Nat
  | [], acc => acc
  | o :: l, acc => masks l (acc ++ [maskOf o acc])
theorem maskOf_bit {o : Oper} {acc : List Nat} {j : Nat} (h : (maskOf o acc).testBit j = true) : ∃ e ∈ o.after, Region.binds .any e = true ∧ (e.on = j ∨ (acc.getD e.on 0).testBit j = true) := by
  unfold maskOf at h
  have key : ∀ (l : List Edge), (l.foldr (fun e s => if Region.binds .any e then s ||| 2 ^ e.on ||| acc.getD e.on 0 else s) 0).testBit j = true → ∃ e ∈ l, Region.binds .any e = true ∧ (e.on = j ∨ (acc.getD e.on 0).testBit j = true) := by
    intro l
    induction l with
    | nil => intro h; simp at h
    | cons e l ih =>
      intro h
      simp only [List.foldr_cons] at h
      split at h
      · rename_i hb
        rw [Nat.testBit_or, Nat.testBit_or, Bool.or_eq_true, Bool.or_eq_true] at h
        rcases h with (h | h) | h
        · obtain ⟨e', he', h'⟩ := ih h
          exact ⟨e', List.mem_cons_of_mem _ he', h'⟩
        · rw [Nat.testBit_two_pow] at h
          exact ⟨e, List.mem_cons_self .., hb, .inl (by simpa using h)⟩
        · exact ⟨e, List.mem_cons_self .., hb, .inr h⟩
      · obtain ⟨e', he', h'⟩ := ih h
        exact ⟨e', List.mem_cons_of_mem _ he', h'⟩
  obtain ⟨e, he, h'⟩ := key _ h
  exact ⟨e, by simpa using he, h'⟩
/-- the bits are of what is waited for -/
def MaskOk (ops : List Oper) (B : List Nat) : Prop := ∀ i o j, ops[i]? = some o → (B.getD i 0).testBit j = true → ∃ e ∈ o.after, Region.binds .any e = true ∧ (e.on = j ∨ (B.getD e.on 0).testBit j = true)
theorem masks_ok (ops : List Oper) (hearly : ∀ (i : Nat) (o : Oper), ops[i]? = some o → ∀ e ∈ o.after, Region.binds .any e = true → e.on < i) : MaskOk ops (masks ops []) := by
  have key : ∀ (l pre : List Oper) (acc : List Nat), ops = pre ++ l → acc.length = pre.length → (∀ i o j, pre[i]? = some o → (acc.getD i 0).testBit j = true → ∃ e ∈ o.after, Region.binds .any e = true ∧ (e.on = j ∨ (acc.getD e.on 0).testBit j = true)) → MaskOk ops (masks l acc) := by
    intro l
    induction l with
    | nil =>
      intro pre acc e hl h i o j ho hb
      rw [List.append_nil] at e
      subst e
      exact h i o j ho hb
    | cons o l ih =>
      intro pre acc e hl h
      refine ih (pre ++ [o]) (acc ++ [maskOf o acc]) (by simp [e]) (by simp [hl]) (fun i o' j ho hb => ?_)
      have low : ∀ k, k < acc.length → (acc ++ [maskOf o acc]).getD k 0 = acc.getD k 0 := fun k hk => by simp [List.getElem?_append_left hk]
      by_cases hi : i < pre.length
      · rw [List.getElem?_append_left hi] at ho
        rw [low i (by omega)] at hb
        obtain ⟨e', he', hb', h'⟩ := h i o' j ho hb
        refine ⟨e', he', hb', h'.imp id (fun h' => ?_)⟩
        have := hearly i o' (by rw [e, List.getElem?_append_left hi]; exact ho) e' he' hb'
        rw [low _ (by omega)]; exact h'
      · have hi' : i = pre.length := by
          have := (List.getElem?_eq_some_iff.1 ho).1
          simp at this
          omega
        subst hi'
        have ho' : o' = o := by simpa using ho.symm
        subst ho'
        have hb2 : (maskOf o' acc).testBit j = true := by
          have : (acc ++ [maskOf o' acc]).getD pre.length 0 = maskOf o' acc := by rw [← hl]; simp
          rw [this] at hb; exact hb
        obtain ⟨e', he', hb', h'⟩ := maskOf_bit hb2
        refine ⟨e', he', hb', h'.imp id (fun h' => ?_)⟩
        have := hearly pre.length o' (by rw [e]; simp) e' he' hb'
        rw [low _ (by omega)]; exact h'
  exact key ops [] [] rfl rfl (fun i o j h => by simp at h)
/-- two operations of which neither waits for the other one leave each other alone -/
def pairB (f g : Option Tmp × Foot) (lo : Nat) : Bool :=
  (match f.1 with | some d => !g.2.ts.contains d && g.1 != some d | none => true) && (match g.1 with | some d => !f.2.ts.contains d | none => true) &&
  f.2.ks.all (fun x => !g.2.hs.contains x && !g.2.ks.contains x) && g.2.ks.all (fun x => !f.2.hs.contains x && (decide (x < lo) || decide (lo + 16 ≤ x)))
def rowB (m : Nat) (mask : Nat) (g : Option Tmp × Foot) : Nat → List (Option Tmp × Foot) → Bool
  | _, [] => true
  | i, f :: l => (mask.testBit i || pairB f g (m + 16 * i)) && rowB m mask g (i + 1) l
/-- all pairs -/
def allB (m : Nat) : List (Nat × Option Tmp × Foot) → List (Option Tmp × Foot) → Bool
  | [], _ => true
  | (mask, g) :: l, seen => rowB m mask g 0 seen && allB m l (seen ++ [g])
def earlyB : List Oper → Nat → Bool
  | [], _ => true
  | o :: l, i => (o.after.toList.all fun e => !Region.binds .any e || decide (e.on < i)) && earlyB l (i + 1)
def orderB (ops : List Oper) (m : Nat) (acc : List Foot) : Bool := earlyB ops 0 && boundB m acc && allB m ((masks ops []).zip ((ops.map (·.dst)).zip acc)) []
theorem rowB_at {m mask : Nat} {g : Option Tmp × Foot} : ∀ {l : List (Option Tmp × Foot)} {i : Nat}, rowB m mask g i l = true → ∀ k f, l[k]? = some f → mask.testBit (i + k) = true ∨ pairB f g (m + 16 * (i + k)) = true
  | [], _, _, k, f, h => by simp at h
  | x :: l, i, h, 0, f, hf => by
    simp only [List.getElem?_cons_zero, Option.some.injEq] at hf
    subst hf
    simp only [rowB, Bool.and_eq_true, Bool.or_eq_true] at h
    exact h.1
  | x :: l, i, h, k + 1, f, hf => by
    simp only [rowB, Bool.and_eq_true] at h
    have := rowB_at h.2 k f (by simpa using hf)
    rwa [show i + 1 + k = i + (k + 1) by omega] at this
theorem allB_at {m : Nat} : ∀ {l : List (Nat × Option Tmp × Foot)} {seen : List (Option Tmp × Foot)}, allB m l seen = true → ∀ j mask g, l[j]? = some (mask, g) → ∀ k f, k < seen.length + j → (seen ++ l.map (·.2))[k]? = some f → mask.testBit k = true ∨ pairB f g (m + 16 * k) = true
  | [], _, _, j, mask, g, h, _, _, _, _ => by simp at h
  | (mk, x) :: l, seen, h, 0, mask, g, hg, k, f, hk, hf => by
    simp only [List.getElem?_cons_zero, Option.some.injEq, Prod.mk.injEq] at hg
    obtain ⟨rfl, rfl⟩ := hg
    simp only [allB, Bool.and_eq_true] at h
    rw [List.getElem?_append_left (by omega)] at hf
    have := rowB_at h.1 k f hf
    rwa [Nat.zero_add] at this
  | (mk, x) :: l, seen, h, j + 1, mask, g, hg, k, f, hk, hf => by
    simp only [allB, Bool.and_eq_true] at h
    refine allB_at h.2 j mask g (by simpa using hg) k f (by simp; omega) ?_
    simpa using hf
theorem earlyB_at : ∀ {l : List Oper} {i : Nat}, earlyB l i = true → ∀ (k : Nat) (o : Oper), l[k]? = some o → ∀ e ∈ o.after, Region.binds .any e = true → e.on < i + k
  | [], _, _, k, o, h, _, _, _ => by simp at h
  | x :: l, i, h, 0, o, ho, e, he, hb => by
    simp only [List.getElem?_cons_zero, Option.some.injEq] at ho
    subst ho
    simp only [earlyB, Bool.and_eq_true, List.all_eq_true] at h
    have := h.1 e (by simpa using he)
    rw [hb] at this
    simpa using this
  | x :: l, i, h, k + 1, o, ho, e, he, hb => by
    simp only [earlyB, Bool.and_eq_true] at h
    have := earlyB_at h.2 k o (by simpa using ho) e he hb
    omega
theorem boundB_at : ∀ {l : List Foot} {m : Nat}, boundB m l = true → ∀ k f, l[k]? = some f → ∀ x ∈ f.ks, x < m + 16 * (k + 1)
  | [], _, _, k, f, h, _, _ => by simp at h
  | y :: l, m, h, 0, f, hf, x, hx => by
    simp only [List.getElem?_cons_zero, Option.some.injEq] at hf
    subst hf
    simp only [boundB, Bool.and_eq_true, List.all_eq_true, decide_eq_true_eq] at h
    have := h.1 x hx
    omega
  | y :: l, m, h, k + 1, f, hf, x, hx => by
    simp only [boundB, Bool.and_eq_true] at h
    have := boundB_at h.2 k f (by simpa using hf) x hx
    omega
end Av
end Go.Proofs.Ytbkbppllcjcmhaa

namespace Go.Proofs.Ytbkbppllcjcmhaa
open Go.RowKit
namespace Av

def leftN (listed : Array Bool) : Nat := listed.toList.countP (fun b => !b)
theorem leftN_set {listed : Array Bool} {i : Nat} (hi : i < listed.size) (h : listed.getD i true = false) : leftN listed = leftN (listed.setIfInBounds i true) + 1 := by
  unfold leftN
  have h0 : listed.toList[i]'(by simpa using hi) = false := by simpa [hi] using h
  rw [Array.toList_setIfInBounds, List.countP_set (by simpa using hi)]
  have h1 : 0 < listed.toList.countP (fun b => !b) := List.countP_pos_iff.2 ⟨_, List.getElem_mem (by simpa using hi), by rw [h0]; rfl⟩
  rw [if_pos (by rw [h0]; rfl), if_neg (by decide)]
  omega
theorem keepN {P : Program} {w0 : W0} {w : World} {N : Nat} {S : ASt} {φ : Nat → Value} {T : Nat → Nat → Nat → Prop} {M : Nat → Prop} {a : Act} (h : Rel P w0 N S φ T M a w) : Rel P w0 N S φ T M a { w with drawn := w.drawn + 1 } := by
  have h1 := h.grown (w' := { w with drawn := w.drawn + 1 }) (row := none) ⟨rfl, rfl, rfl, Nat.le_refl _, fun _ _ _ => rfl⟩ (fun g e => by cases e) (fun _ => False) (fun g hg => hg.elim)
  have e1 : (fun g => M g ∨ False) = M := by funext g; simp
  rwa [e1] at h1
section
variable {E : Tab} {m : Nat} {w0 : W0} {N : Nat} {S0 S' : ASt} {ops : List Oper} {es : List (ARes × Seen)}
/-- some of the operations are done -/
structure InvA (E : Tab) (w0 : W0) (N : Nat) (S0 : ASt) (ops : List Oper) (es : List (ARes × Seen)) (listed : Array Bool) (a : Act) (w : World) : Prop where
  size : listed.size = ops.length
  down : ∀ (i : Nat) (o : Oper), ops[i]? = some o → listed.getD i false = true → ∀ e ∈ o.after, Region.binds .any e = true → listed.getD e.on false = true
  rel : ∃ φ T M, Rel E.P w0 N (stD S0 (effs ops es) (fun i => listed.getD i false) ops.length) φ T M a w
theorem mask_listed {listed : Array Bool} (hM : MaskOk ops (masks ops [])) (hearly : ∀ (i : Nat) (o : Oper), ops[i]? = some o → ∀ e ∈ o.after, Region.binds .any e = true → e.on < i)
    (hd : ∀ (i : Nat) (o : Oper), ops[i]? = some o → listed.getD i false = true → ∀ e ∈ o.after, Region.binds .any e = true → listed.getD e.on false = true) :
    ∀ (n i : Nat) (o : Oper) (j : Nat), i < n → ops[i]? = some o → (∀ e ∈ o.after, Region.binds .any e = true → listed.getD e.on false = true) → ((masks ops []).getD i 0).testBit j = true → listed.getD j false = true
  | 0, i, _, _, h, _, _, _ => by omega
  | n + 1, i, o, j, hn, ho, hdeps, hb => by
    obtain ⟨e, he, hbi, h'⟩ := hM i o j ho hb
    have hl := hdeps e he hbi
    rcases h' with rfl | h'
    · exact hl
    · have hlt := hearly i o ho e he hbi
      have hil := (List.getElem?_eq_some_iff.1 ho).1
      have ho' : ops[e.on]? = some ops[e.on] := List.getElem?_eq_getElem (by omega)
      exact mask_listed hM hearly hd n e.on _ j (by omega) ho' (hd e.on _ ho' hl) h'
theorem region_step {Q : Exit → Act → World → Prop} (hdst : ∀ o ∈ ops, ∀ x, o.dst = some x → x < N) (hs : Steps E ops ops m S0 es S') (hB : orderB ops m (es.map fun e => footOf e.2 e.1) = true) (hf : ∀ b, m ≤ b → S0.h b = .none) {listed : Array Bool} {a : Act} {w : World} {i : Nat}
    (hi : i ∈ Region.ready .any ops.toArray listed) (h : InvA E w0 N S0 ops es listed a w) : wpOp E.P ops.toArray Q i (fun a' w' => InvA E w0 N S0 ops es (listed.setIfInBounds i true) a' w') a w := by
  obtain ⟨hun, o, ho1, hdeps⟩ := mem_ready.1 hi
  have ho : ops[i]? = some o := by simpa using ho1
  have hil : i < listed.size := by rw [h.size]; exact (List.getElem?_eq_some_iff.1 ho).1
  have hin : i < ops.length := by rw [← h.size]; exact hil
  have hun' : listed.getD i false = false := by simpa [hil] using hun
  simp only [orderB, Bool.and_eq_true] at hB
  obtain ⟨⟨hB1, hB2⟩, hB3⟩ := hB
  have hearly : ∀ (i : Nat) (o : Oper), ops[i]? = some o → ∀ e ∈ o.after, Region.binds .any e = true → e.on < i := fun i o ho e he hb => by
    have := earlyB_at hB1 i o ho e he hb; omega
  have hMask := masks_ok ops hearly
  obtain ⟨r, s, hes, hrun⟩ := steps_at hs i o ho
  have hlen := steps_len hs
  have eff : ∀ {k : Nat} {o : Oper} {r : ARes} {s : Seen}, ops[k]? = some o → es[k]? = some (r, s) → (effs ops es)[k]? = some (o.dst, r) := fun {k o r s} h1 h2 => by
    unfold effs
    rw [List.getElem?_map, (List.getElem?_zip_eq_some (z := (o, (r, s)))).2 ⟨h1, h2⟩]
    rfl
  have efi : ∀ {k : Nat} {x : Option Tmp × ARes}, (effs ops es)[k]? = some x → ∃ o r s, ops[k]? = some o ∧ es[k]? = some (r, s) ∧ x = (o.dst, r) := fun {k x} hx => by
    unfold effs at hx
    rw [List.getElem?_map] at hx
    cases hz : (ops.zip es)[k]? with
    | none => rw [hz] at hx; cases hx
    | some p =>
      obtain ⟨p1, p2, p3⟩ := p
      rw [hz] at hx
      obtain ⟨h1, h2⟩ := List.getElem?_zip_eq_some.1 hz
      exact ⟨p1, p2, p3, h1, h2, by simpa using hx.symm⟩
  -- a pair
  have pair : ∀ {k j : Nat} {o o' : Oper} {r r' : ARes} {s s' : Seen}, k < j → ops[k]? = some o → es[k]? = some (r, s) → ops[j]? = some o' → es[j]? = some (r', s') → ((masks ops []).getD j 0).testBit k = true ∨ pairB (o.dst, footOf s r) (o'.dst, footOf s' r') (m + 16 * k) = true := fun {k j o o' r r' s s'} hkj h1 h2 h3 h4 => by
    have hml : ∀ (l : List Oper) (acc : List Nat), (masks l acc).length = acc.length + l.length := by
      intro l
      induction l with
      | nil => intro acc; simp [masks]
      | cons o l ih => intro acc; simp only [masks]; rw [ih]; simp; omega
    have hjl := (List.getElem?_eq_some_iff.1 h3).1
    have hmj : (masks ops [])[j]? = some ((masks ops []).getD j 0) := by
      rw [List.getElem?_eq_getElem (by rw [hml]; simpa using hjl)]
      simp [hml, hjl]
    have hz : ∀ {k : Nat} {o : Oper} {r : ARes} {s : Seen}, ops[k]? = some o → es[k]? = some (r, s) → ((ops.map (·.dst)).zip (es.map fun e => footOf e.2 e.1))[k]? = some (o.dst, footOf s r) := fun {k o r s} h1 h2 =>
      List.getElem?_zip_eq_some.2 ⟨by rw [List.getElem?_map, h1]; rfl, by rw [List.getElem?_map, h2]; rfl⟩
    refine allB_at hB3 j _ _ (List.getElem?_zip_eq_some.2 ⟨hmj, hz h3 h4⟩) k _ (by simpa using hkj) ?_
    rw [List.nil_append, List.getElem?_map]
    have hmk : (masks ops [])[k]? = some ((masks ops []).getD k 0) := by
      rw [List.getElem?_eq_getElem (by rw [hml]; simp; omega)]
      simp [hml, show k < ops.length by omega]
    rw [(List.getElem?_zip_eq_some (z := ((masks ops []).getD k 0, (o.dst, footOf s r)))).2 ⟨hmk, hz h1 h2⟩]
    rfl
  have bound : ∀ {k : Nat} {r : ARes} {s : Seen}, es[k]? = some (r, s) → ∀ x ∈ keysOf r, x < m + 16 * (k + 1) := fun {k r s} h1 x hx =>
    boundB_at hB2 k (footOf s r) (by rw [List.getElem?_map, h1]; rfl) x hx
  -- who is done
  have before : ∀ {k : Nat}, ((masks ops []).getD i 0).testBit k = true → listed.getD k false = true := fun {k} hb => mask_listed hMask hearly h.down (i + 1) i o k (by omega) ho (fun e he hb => hdeps e he hb) hb
  have behind : ∀ {j : Nat} {o' : Oper}, ops[j]? = some o' → ((masks ops []).getD j 0).testBit i = true → listed.getD j false = false := fun {j o'} ho' hb => by
    cases hl : listed.getD j false with
    | false => rfl
    | true =>
      have := mask_listed hMask hearly h.down (j + 1) j o' i (by omega) ho' (h.down j o' ho' hl) hb
      rw [hun'] at this; cases this
  -- writers of what is looked at
  have slotW : ∀ t, t ∈ s.ts → ∀ k, k < ops.length → ∀ e, (effs ops es)[k]? = some e → e.1 = some t → listed.getD k false = decide (k < i) := by
    intro t ht k hk e he hw
    obtain ⟨o', r', s', h1, h2, rfl⟩ := efi he
    simp only at hw
    rcases Nat.lt_trichotomy k i with hlt | rfl | hgt
    · rcases pair hlt h1 h2 ho hes with hb | hb
      · rw [before hb]; simp [hlt]
      · simp only [pairB, hw, Bool.and_eq_true, Bool.not_eq_true', List.contains_eq_mem, decide_eq_false_iff_not, footOf] at hb
        exact absurd ht hb.1.1.1.1
    · simp [hun']
    · rcases pair hgt ho hes h1 h2 with hb | hb
      · rw [behind h1 hb]; simp; omega
      · simp only [pairB, hw, Bool.and_eq_true, Bool.not_eq_true', List.contains_eq_mem, decide_eq_false_iff_not, footOf] at hb
        exact absurd ht hb.1.1.2
  have blkW : ∀ x, x ∈ s.hs → ∀ k, k < ops.length → ∀ e, (effs ops es)[k]? = some e → x ∈ keysOf e.2 → listed.getD k false = decide (k < i) := by
    intro x hx k hk e he hw
    obtain ⟨o', r', s', h1, h2, rfl⟩ := efi he
    simp only at hw
    rcases Nat.lt_trichotomy k i with hlt | rfl | hgt
    · rcases pair hlt h1 h2 ho hes with hb | hb
      · rw [before hb]; simp [hlt]
      · simp only [pairB, Bool.and_eq_true, List.all_eq_true, Bool.not_eq_true', List.contains_eq_mem, decide_eq_false_iff_not, footOf] at hb
        exact absurd hx (hb.1.2 x hw).1
    · simp [hun']
    · rcases pair hgt ho hes h1 h2 with hb | hb
      · rw [behind h1 hb]; simp; omega
      · simp only [pairB, Bool.and_eq_true, List.all_eq_true, Bool.not_eq_true', List.contains_eq_mem, decide_eq_false_iff_not, footOf] at hb
        exact absurd hx (hb.2 x hw).1
  -- the operation does here what it does in the text's order
  have hrun' : (aopG E ops (m + 16 * i) o).run (stD S0 (effs ops es) (fun i => listed.getD i false) ops.length) ⟨[], []⟩ (isRes r s) := by
    have hstop : stD S0 (effs ops es) (fun k => decide (k < i)) ops.length = stD S0 (effs ops es) (fun _ => true) i := by
      rw [stD_stop (i := i) (by omega) (fun k hk => by simp; omega)]
      exact stD_congr (fun k hk => by simp [hk])
    refine Rq.near (fun t ht => ?_) (fun x hx => ?_) hrun
    · rw [← hstop]
      exact agreeT (fun k hk e he hw => slotW t ht k hk e he hw)
    · rw [← hstop]
      exact agreeH (fun k hk e he hw => blkW x hx k hk e he hw)
  -- its numbers are free
  have hfree : ∀ b, m + 16 * i ≤ b → b < m + 16 * i + 16 → (stD S0 (effs ops es) (fun i => listed.getD i false) ops.length).h b = .none := by
    intro b h1 h2
    have e0 : ∀ n, stD S0 (effs ops es) (fun _ => false) n = S0 := fun n => stD_stop (i := 0) (by omega) (fun _ _ => rfl)
    rw [agreeH (D' := fun _ => false) (fun k hk e he hw => ?_), e0, hf b (by omega)]
    obtain ⟨o', r', s', g1, g2, rfl⟩ := efi he
    simp only at hw
    rcases Nat.lt_trichotomy k i with hlt | rfl | hgt
    · have := bound g2 b hw; omega
    · exact hun'
    · rcases pair hgt ho hes g1 g2 with hb | hb
      · exact behind g1 hb
      · simp only [pairB, Bool.and_eq_true, List.all_eq_true, Bool.or_eq_true, decide_eq_true_eq, footOf] at hb
        have := (hb.2 b hw).2
        omega
  -- with it done
  have hnext : stD S0 (effs ops es) (fun k => (listed.setIfInBounds i true).getD k false) ops.length = app (stD S0 (effs ops es) (fun i => listed.getD i false) ops.length) o.dst r := by
    have hset : (listed.setIfInBounds i true).getD i false = true := by simp [hil]
    have hne : ∀ k, k ≠ i → (listed.setIfInBounds i true).getD k false = listed.getD k false := fun k hk => getD_set_ne false (Ne.symm hk)
    have hei := eff ho hes
    have ht : ∀ t, (stD S0 (effs ops es) (fun k => (listed.setIfInBounds i true).getD k false) ops.length).t t = (app (stD S0 (effs ops es) (fun i => listed.getD i false) ops.length) o.dst r).t t := by
      intro t
      rw [app_t]
      by_cases hw : o.dst = some t
      · rw [if_pos hw]
        refine lastT hei hw hset hin (fun k h1 h2 e he hw' => ?_)
        obtain ⟨o', r', s', g1, g2, rfl⟩ := efi he
        simp only at hw'
        rw [hne k (by omega)]
        rcases pair h1 ho hes g1 g2 with hb | hb
        · exact behind g1 hb
        · simp only [pairB, hw, hw', Bool.and_eq_true, bne_self_eq_false, Bool.and_false, Bool.false_eq_true, false_and] at hb
      · rw [if_neg hw]
        refine agreeT (fun k hk e he hw' => ?_)
        by_cases hki : k = i
        · subst hki
          rw [hei] at he
          injection he with he
          subst he
          exact absurd hw' hw
        · exact hne k hki
    have hh : ∀ x, (stD S0 (effs ops es) (fun k => (listed.setIfInBounds i true).getD k false) ops.length).h x = (app (stD S0 (effs ops es) (fun i => listed.getD i false) ops.length) o.dst r).h x := by
      intro x
      by_cases hw : x ∈ keysOf r
      · rw [lastH hei hw hset hin (fun k h1 h2 e he hw' => ?_)]
        · exact updL_in hw
        · obtain ⟨o', r', s', g1, g2, rfl⟩ := efi he
          simp only at hw'
          rw [hne k (by omega)]
          rcases pair h1 ho hes g1 g2 with hb | hb
          · exact behind g1 hb
          · simp only [pairB, Bool.and_eq_true, List.all_eq_true, Bool.not_eq_true', List.contains_eq_mem, decide_eq_false_iff_not, footOf] at hb
            exact absurd hw' (hb.1.2 x hw).2
      · rw [app_h_out hw]
        refine agreeH (fun k hk e he hw' => ?_)
        by_cases hki : k = i
        · subst hki
          rw [hei] at he
          injection he with he
          subst he
          exact absurd hw' hw
        · exact hne k hki
    generalize stD S0 (effs ops es) (fun k => (listed.setIfInBounds i true).getD k false) ops.length = A at ht hh ⊢
    generalize app (stD S0 (effs ops es) (fun i => listed.getD i false) ops.length) o.dst r = B at ht hh ⊢
    obtain ⟨At, Ah⟩ := A
    obtain ⟨Bt, Bh⟩ := B
    simp only [ASt.mk.injEq]
    exact ⟨funext ht, funext hh⟩
  have down' : ∀ (j : Nat) (oj : Oper), ops[j]? = some oj → (listed.setIfInBounds i true).getD j false = true → ∀ e ∈ oj.after, Region.binds .any e = true → (listed.setIfInBounds i true).getD e.on false = true := by
    intro j oj hj hlj e he hb
    by_cases hji : j = i
    · subst hji
      obtain rfl : oj = o := by rw [ho] at hj; exact (Option.some.inj hj).symm
      exact getD_set_true (hdeps e he hb)
    · rw [getD_set_ne false (Ne.symm hji)] at hlj
      exact getD_set_true (h.down j oj hj hlj e he hb)
  obtain ⟨φ, T, M, hrel⟩ := h.rel
  have fin : ∀ {v : Value} {w' : World}, Done E w0 N (stD S0 (effs ops es) (fun i => listed.getD i false) ops.length) o.dst r a v w' → InvA E w0 N S0 ops es (listed.setIfInBounds i true) (a.put o.dst v) w' := fun {v w'} ⟨φ', T', M', h'⟩ =>
    ⟨by simpa using h.size, down', φ', T', M', by rw [hnext]; exact h'⟩
  unfold wpOp
  rw [ho1]
  simp only
  rcases opG_any (hdst o (List.mem_of_getElem? ho)) hfree hrel hrun' with ⟨hw, hsure⟩ | ⟨hw, hdone⟩
  · rw [if_pos hw]
    exact .inl (hsure _ _ (fun v w' hD => fin hD))
  · rw [if_neg (by rw [hw]; simp)]
    exact fin hdone
theorem region_any {Q : Exit → Act → World → Prop} (hdst : ∀ o ∈ ops, ∀ x, o.dst = some x → x < N) (hs : Steps E ops ops m S0 es S') (hB : orderB ops m (es.map fun e => footOf e.2 e.1) = true) (hf : ∀ b, m ≤ b → S0.h b = .none)
    (hQ : ∀ φ T M a w, Rel E.P w0 N S' φ T M a w → (∀ b, m + 16 * ops.length ≤ b → S'.h b = .none) → Q .normal a w) :
    ∀ (fuel : Nat) (listed : Array Bool) (a : Act) (w : World), leftN listed = fuel → InvA E w0 N S0 ops es listed a w → wpAny E.P .any ops.toArray Q fuel listed a w := by
  have hB' := hB
  simp only [orderB, Bool.and_eq_true] at hB'
  obtain ⟨⟨hB1, hB2⟩, _⟩ := hB'
  have hlen := steps_len hs
  have fin : ∀ listed a w, Region.ready .any ops.toArray listed = [] → InvA E w0 N S0 ops es listed a w → Q .normal a w := by
    intro listed a w hr h
    have all : ∀ n, ∀ i, i < n → i < ops.length → listed.getD i false = true := by
      intro n
      induction n with
      | zero => intro i hi; omega
      | succ n ih =>
        intro i hi hlt
        cases hl : listed.getD i false with
        | true => rfl
        | false =>
          have hil : i < listed.size := by rw [h.size]; exact hlt
          have : i ∈ Region.ready .any ops.toArray listed := mem_ready.2 ⟨by simpa [hil] using hl, ops[i], by simp [hlt], fun e he hb => by
            have := earlyB_at hB1 i ops[i] (List.getElem?_eq_getElem hlt) e he hb
            exact ih e.on (by omega) (by omega)⟩
          rw [hr] at this
          cases this
    obtain ⟨φ, T, M, hrel⟩ := h.rel
    have e1 : stD S0 (effs ops es) (fun i => listed.getD i false) ops.length = S' := by
      rw [steps_end hs]
      exact stD_congr (fun k hk => all (k + 1) k (by omega) hk)
    rw [e1] at hrel
    refine hQ φ T M a w hrel (fun b hb => ?_)
    rw [steps_end hs]
    have e0 : ∀ n, stD S0 (effs ops es) (fun _ => false) n = S0 := fun n => stD_stop (i := 0) (by omega) (fun _ _ => rfl)
    rw [agreeH (D' := fun _ => false) (fun k hk e he hw => ?_), e0, hf b (by omega)]
    exfalso
    unfold effs at he
    rw [List.getElem?_map] at he
    cases hz : (ops.zip es)[k]? with
    | none => rw [hz] at he; cases he
    | some p =>
      obtain ⟨p1, p2, p3⟩ := p
      rw [hz] at he
      obtain ⟨h1, h2⟩ := List.getElem?_zip_eq_some.1 hz
      have he' : e = (p1.dst, p2) := by simpa using he.symm
      subst he'
      have := boundB_at hB2 k (footOf p3 p2) (by rw [List.getElem?_map, h2]; rfl) b hw
      omega
  intro fuel
  induction fuel with
  | zero =>
    intro listed a w hl h
    have hr : Region.ready .any ops.toArray listed = [] := by
      rw [List.eq_nil_iff_forall_not_mem]
      intro i hi
      obtain ⟨hun, o, ho, _⟩ := mem_ready.1 hi
      have hil : i < listed.size := by rw [h.size]; simpa using (Array.getElem?_eq_some_iff.1 ho).1
      have := leftN_set hil hun
      omega
    exact ⟨hr, fin listed a w hr h⟩
  | succ fuel ih =>
    intro listed a w hl h
    refine ⟨fun hr => fin listed a w hr h, fun i hi => ?_⟩
    obtain ⟨hun, o, ho, _⟩ := mem_ready.1 hi
    have hil : i < listed.size := by rw [h.size]; simpa using (Array.getElem?_eq_some_iff.1 ho).1
    refine wpOp_mono (fun a' w' h' => ih _ a' w' ?_ h') (region_step (Q := Q) hdst hs hB hf hi h)
    have := leftN_set hil hun
    omega
end
end Av
end Go.Proofs.Ytbkbppllcjcmhaa
