/-
  What is known of memory may be told another way between two texts: trees as rows, a tree cell by cell, and closed again.
-/
import Derived.Test.YtbkbppllcjcmhaaAvY
set_option linter.unusedSimpArgs false
set_option linter.unusedVariables false
namespace Go.Proofs.Ytbkbppllcjcmhaa
open Go.RowKit
namespace Av

section
variable {P : Program} {w0 : W0} {w : World} {N : Nat} {S S' : ASt} {φ : Nat → Value} {T : Nat → Nat → Nat → Prop} {M M' : Nat → Prop} {a : Act}
theorem ow_lst_elim {Q : Nat → Prop} {e : TypeId} {rows : List (List PV)} {v : Value} (h : Ow P w Q (.lst e rows) v) : ∃ (xs : List Value) (f : Nat → Value) (T2 : Nat → Nat → Prop), w.ownsRow 0 e (P.cellsOf e) v rows.length xs ∧ (∀ r ∈ rows, r.length = P.cellsOf e) ∧
    (∀ g, v.ownBlock = some g → Q g) ∧ (∀ k g, T2 k g → Q g ∧ v.ownBlock ≠ some g) ∧ (∀ k k' g, T2 k g → T2 k' g → k = k') ∧ (∀ k, k < rows.length * P.cellsOf e → xs[k]? = some (f k)) ∧
    ∀ i (hi : i < rows.length) j (hj : j < rows[i].length), Ow P w (T2 (i * P.cellsOf e + j)) rows[i][j] (f (i * P.cellsOf e + j)) := by
  cases h with
  | lst _ _ _ _ xs f T2 ho hs hS hT hd hf hr => exact ⟨xs, f, T2, ho, hs, hS, hT, hd, hf, hr⟩
theorem ow_slice {Q : Nat → Prop} {e : TypeId} {rows : List (List PV)} {v : Value} (h : Ow P w Q (.lst e rows) v) : ∃ A n c, v = .slice A n c := by
  obtain ⟨xs, f, T2, ho, _⟩ := ow_lst_elim h
  rcases ho.2 with ⟨hv, _⟩ | ⟨g, cap, cur, hv, _⟩
  · exact ⟨_, _, _, hv⟩
  · exact ⟨_, _, _, hv⟩
theorem owns_up {B e s n : Nat} {v : Value} {xs : List Value} (h : w.ownsRow 0 e s v n xs) (hB : ∀ g, v.ownBlock = some g → B ≤ g) : w.ownsRow B e s v n xs := by
  refine ⟨h.1, ?_⟩
  rcases h.2 with h0 | ⟨g, cap, cur, hv, hb, rest⟩
  · exact .inl h0
  · exact .inr ⟨g, cap, cur, hv, hB g (by rw [hv]; rfl), rest⟩
theorem ow_flat_rd {Q : Nat → Prop} {p : PV} {v : Value} (h : Ow P w Q p v) (hf : p.flat = true) : Rd P w M p v := by
  cases h with
  | int => exact .int _ _
  | bool => exact .bool _
  | str => exact .str _
  | lst | agg | tup => cases hf
theorem ow_flat_any {Q Q' : Nat → Prop} {p : PV} {v : Value} (h : Ow P w Q p v) (hf : p.flat = true) : Ow P w Q' p v := (ow_flat_rd (M := fun _ => False) h hf).flat_ow hf
/-- a tree is told of as a block that is written -/
theorem Rel.untree (h : Rel P w0 N S φ T M a w) {b : Nat} {e : TypeId} {rows : List (List PV)} (hB : S.h b = .tree e rows) {T2 : Nat → Nat → Prop} (hT : ∀ k g, T2 k g → T b 0 g ∧ (φ b).ownBlock ≠ some g) (hd : ∀ k k' g, T2 k g → T2 k' g → k = k') (hsl : ∃ A n c, φ b = .slice A n c) (hown : ∀ g, blk (φ b) = some g → T b 0 g)
    {B : Blk} (hk : B.known = true) (hM' : ∀ g, M' g → M g) (hM1 : ∀ g, M g → ¬ T b 0 g → M' g) (hM2 : ∀ g, blk (φ b) = some g → M' g) (hM3 : ∀ k g, T2 k g → (B.isTree = false → ¬ M' g) ∧ (B.isTree = true → M' g)) (hok : BlkOk P w0 w M' φ (fun x => (upd S.h b B x).known = true) (φ b) T2 B) :
    Rel P w0 N ⟨S.t, upd S.h b B⟩ φ (fun x k g => if x = b then T2 k g else T x k g) M' a w := by
  have hbt : (S.h b).isTree = true := by rw [hB]; rfl
  have hne : ∀ {x : Nat}, x ≠ b → upd S.h b B x = S.h x := fun hx => by simp [upd, hx]
  have heq : upd S.h b B b = B := by simp [upd]
  have hL : ∀ x, (S.h x).known = true → ((upd S.h b B x).known = true) ∧ φ x = φ x := fun x hx => by
    by_cases e : x = b
    · subst e; exact ⟨by rw [heq]; exact hk, rfl⟩
    · exact ⟨by rw [hne e]; exact hx, rfl⟩
  have hR : ∀ p v, Rd P w M p v → Rd P w M' p v := fun p v hr => hr.weak hM'
  have hlv : ∀ {x : Nat}, x ≠ b → (upd S.h b B x).live = true → (S.h x).live = true := fun hx hl => by rw [hne hx] at hl; exact hl
  have hto : ∀ {x g : Nat}, (S.h x).live = true → blk (φ x) = some g → ¬ T b 0 g := fun hx e ht => (h.tree b 0 _ ht hbt).2 _ hx e
  refine ⟨h.below, h.defers, h.size, fun t => (h.slots t).keep hR hL, fun x => ?_, fun x g hx e => ?_, fun g hg => h.mlt g (hM' g hg), fun g hA hg => hM1 g (h.amb g hA hg) (fun ht => by have := (h.own b 0 g ht).1; omega), fun x y g hx hy e e' => ?_, fun x k g ht => ?_, fun x k g ht hx => ?_, fun x k y k' g ht ht' => ?_⟩
  · by_cases e : x = b
    · subst e
      show BlkOk _ _ _ _ _ _ _ _ (upd S.h x B x)
      rw [heq]
      have : (fun k g => if x = x then T2 k g else T x k g) = T2 := by funext k g; simp
      rw [this]
      exact hok
    · show BlkOk _ _ _ _ _ _ _ _ (upd S.h b B x)
      rw [hne e]
      have : (fun k g => if x = b then T2 k g else T x k g) = T x := by funext k g; simp [e]
      rw [this]
      exact (h.blks x).keep hR (fun _ _ _ h => h) hL (fun _ _ _ => rfl)
  · by_cases e1 : x = b
    · subst e1; exact hM2 g e
    · exact hM1 g (h.mutb x g (hlv e1 hx) e) (hto (hlv e1 hx) e)
  · by_cases e1 : x = b
    · by_cases e2 : y = b
      · rw [e1, e2]
      · subst e1; exact absurd (hown g e) (hto (hlv e2 hy) e')
    · by_cases e2 : y = b
      · subst e2; exact absurd (hown g e') (hto (hlv e1 hx) e)
      · exact h.disj x y g (hlv e1 hx) (hlv e2 hy) e e'
  · by_cases e1 : x = b
    · subst e1
      rw [if_pos rfl] at ht
      obtain ⟨h1, h2, _⟩ := h.own x 0 g (hT k g ht).1
      exact ⟨h1, h2, fun hx => (hM3 k g ht).1 (by have hx' : (upd S.h x B x).isTree = false := hx; rw [heq] at hx'; exact hx')⟩
    · rw [if_neg e1] at ht
      obtain ⟨h1, h2, h3⟩ := h.own x k g ht
      exact ⟨h1, h2, fun hx hm => h3 (by have hx' : (upd S.h b B x).isTree = false := hx; rw [hne e1] at hx'; exact hx') (hM' g hm)⟩
  · by_cases e1 : x = b
    · subst e1
      rw [if_pos rfl] at ht
      have hx' : (upd S.h x B x).isTree = true := hx
      rw [heq] at hx'
      obtain ⟨ht0, hno⟩ := hT k g ht
      refine ⟨(hM3 k g ht).2 hx', fun b' hb' e => ?_⟩
      by_cases e2 : b' = x
      · subst e2; rw [blk_own _ hsl] at e; exact hno e
      · exact hto (hlv e2 hb') e ht0
    · rw [if_neg e1] at ht
      have hx' : (upd S.h b B x).isTree = true := hx
      rw [hne e1] at hx'
      obtain ⟨h1, h2⟩ := h.tree x k g ht hx'
      refine ⟨hM1 g h1 (fun ht0 => e1 (h.apart x k b 0 g ht ht0).1), fun b' hb' e => ?_⟩
      by_cases e2 : b' = b
      · subst e2; exact e1 (h.apart x k b' 0 g ht (hown g e)).1
      · exact h2 b' (hlv e2 hb') e
  · by_cases e1 : x = b
    · by_cases e2 : y = b
      · subst e1; subst e2
        rw [if_pos rfl] at ht ht'
        exact ⟨rfl, hd k k' g ht ht'⟩
      · subst e1
        rw [if_pos rfl] at ht
        rw [if_neg e2] at ht'
        exact absurd (h.apart x 0 y k' g (hT k g ht).1 ht').1.symm e2
    · by_cases e2 : y = b
      · subst e2
        rw [if_pos rfl] at ht'
        rw [if_neg e1] at ht
        exact absurd (h.apart x k y 0 g ht (hT k' g ht').1).1 e1
      · rw [if_neg e1] at ht
        rw [if_neg e2] at ht'
        exact h.apart x k y k' g ht ht'
/-- a block is told of another way -/
theorem Rel.reblk (h : Rel P w0 N S φ T M a w) {b : Nat} {B : Blk} (hl : B.live = (S.h b).live) (ht : B.isTree = (S.h b).isTree) (hk : B.known = true) (hok : BlkOk P w0 w M φ (fun x => (upd S.h b B x).known = true) (φ b) (T b) B) : Rel P w0 N ⟨S.t, upd S.h b B⟩ φ T M a w := by
  have hlv : ∀ x, (upd S.h b B x).live = (S.h x).live := fun x => by
    by_cases e : x = b
    · rw [e, ← hl]; simp [upd]
    · simp [upd, e]
  have htr : ∀ x, (upd S.h b B x).isTree = (S.h x).isTree := fun x => by
    by_cases e : x = b
    · rw [e, ← ht]; simp [upd]
    · simp [upd, e]
  have hL : ∀ x, (S.h x).known = true → ((upd S.h b B x).known = true) ∧ φ x = φ x := fun x hx => by
    unfold upd; split
    · exact ⟨hk, rfl⟩
    · exact ⟨hx, rfl⟩
  refine ⟨h.below, h.defers, h.size, fun t => (h.slots t).keep (fun _ _ h => h) hL, fun x => ?_, fun x g hx => h.mutb x g ((hlv x).symm.trans hx), h.mlt, h.amb, fun x y g hx hy => h.disj x y g ((hlv x).symm.trans hx) ((hlv y).symm.trans hy), fun x k g hx => ⟨(h.own x k g hx).1, (h.own x k g hx).2.1, fun e => (h.own x k g hx).2.2 ((htr x).symm.trans e)⟩, fun x k g hx e => ⟨(h.tree x k g hx ((htr x).symm.trans e)).1, fun b' hb' => (h.tree x k g hx ((htr x).symm.trans e)).2 b' ((hlv b').symm.trans hb')⟩, h.apart⟩
  show BlkOk _ _ _ _ _ _ _ _ (upd S.h b B x)
  by_cases e : x = b
  · subst e; rw [show upd S.h x B x = B by simp [upd]]; exact hok
  · rw [show upd S.h b B x = S.h x by simp [upd, e]]
    exact (h.blks x).keep (fun _ _ h => h) (fun _ _ _ h => h) hL (fun _ _ _ => rfl)
end

/-- memory that is as one machine tells is as another one tells -/
def Gh (P : Program) (S S' : ASt) : Prop := ∀ (w0 : W0) (N : Nat) (φ : Nat → Value) (T : Nat → Nat → Nat → Prop) (M : Nat → Prop) (a : Act) (w : World), Rel P w0 N S φ T M a w → ∃ φ' T' M', Rel P w0 N S' φ' T' M' a w
theorem Gh.refl {P : Program} {S : ASt} : Gh P S S := fun _ _ φ T M _ _ h => ⟨φ, T, M, h⟩
theorem Gh.trans {P : Program} {S S1 S2 : ASt} (h : Gh P S S1) (h' : Gh P S1 S2) : Gh P S S2 := fun w0 N φ T M a w hr => let ⟨_, _, _, h1⟩ := h w0 N φ T M a w hr; h' _ _ _ _ _ _ _ h1
/-- a tree is a row of the call's own -/
theorem gh_row {P : Program} {S : ASt} {b : Nat} {e : TypeId} {rows : List (List PV)} (hB : S.h b = .tree e rows) : Gh P S ⟨S.t, upd S.h b (.row true e rows)⟩ := fun w0 N φ T M a w h => by
  have hO : Ow P w (T b 0) (.lst e rows) (φ b) := by have := h.blks b; rw [hB] at this; exact this
  have hbo := blk_own _ (ow_slice hO)
  obtain ⟨xs, f, T2, ho, hs, hS, hT, hd, hf, hr⟩ := ow_lst_elim hO
  refine ⟨_, _, _, h.untree hB (B := .row true e rows) (M' := fun g => M g ∧ (T b 0 g → blk (φ b) = some g)) hT hd (ow_slice hO) (fun g e => hS g (by rw [← hbo]; exact e)) rfl (fun g hg => hg.1) (fun g hg hn => ⟨hg, fun ht => absurd ht hn⟩) (fun g e => ⟨(h.tree b 0 g (hS g (by rw [← hbo]; exact e)) (by rw [hB]; rfl)).1, fun _ => e⟩)
    (fun k g ht => ⟨fun _ hm => (hT k g ht).2 (by rw [← hbo]; exact hm.2 (hT k g ht).1), (fun e => by cases e)⟩) ⟨xs, f, owns_up ho (fun g e => (h.own b 0 g (hS g e)).1), hs, hf, hr⟩⟩
/-- an element of a tree is told of cell by cell -/
theorem gh_open {P : Program} {S : ASt} {b i n : Nat} {e : TypeId} {rows : List (List PV)} (hB : S.h b = .tree e rows) (hi : i < rows.length) (hn : P.cellsOf e = n) : Gh P S ⟨S.t, upd S.h b (.opn e rows i (List.replicate n .out))⟩ := fun w0 N φ T M a w h => by
  have hO : Ow P w (T b 0) (.lst e rows) (φ b) := by have := h.blks b; rw [hB] at this; exact this
  have hbo := blk_own _ (ow_slice hO)
  obtain ⟨xs, f, T2, ho, hs, hS, hT, hd, hf, hr⟩ := ow_lst_elim hO
  refine ⟨_, _, _, h.untree hB (B := .opn e rows i (List.replicate n .out)) (M' := M) hT hd (ow_slice hO) (fun g e => hS g (by rw [← hbo]; exact e)) rfl (fun g hg => hg) (fun g hg hn => hg) (fun g e => (h.tree b 0 g (hS g (by rw [← hbo]; exact e)) (by rw [hB]; rfl)).1)
    (fun k g ht => ⟨(fun e => by cases e), fun _ => (h.tree b 0 g (hT k g ht).1 (by rw [hB]; rfl)).1⟩) ⟨xs, f, owns_up ho (fun g e => (h.own b 0 g (hS g e)).1), hs, hf, hi, by rw [List.length_replicate, hn], fun i' hi' j hj _ => hr i' hi' j hj, fun j hj hne => absurd (by simp) hne⟩⟩
/-- a cell that is plain -/
theorem gh_plain {P : Program} {S : ASt} {b i j : Nat} {e : TypeId} {rows : List (List PV)} {cs : List AV} {r : List PV} {p : PV} (hB : S.h b = .opn e rows i cs) (hc : cs[j]? = some .out) (hr : rows[i]? = some r) (hp : r[j]? = some p) (hf : p.flat = true) :
    Gh P S ⟨S.t, upd S.h b (.opn e rows i (cs.set j (.pv p)))⟩ := fun w0 N φ T M a w h => by
  refine ⟨φ, T, M, h.reblk (by rw [hB]; rfl) (by rw [hB]; rfl) rfl ?_⟩
  have hb := h.blks b
  rw [hB] at hb
  obtain ⟨xs, f, ho, hs, hxf, hi, hcl, hcr, hcs⟩ := hb
  obtain ⟨hil, rfl⟩ := List.getElem?_eq_some_iff.1 hr
  obtain ⟨hjl, rfl⟩ := List.getElem?_eq_some_iff.1 hp
  have hL : ∀ x, (S.h x).known = true → ((upd S.h b (.opn e rows i (cs.set j (.pv rows[i][j]))) x).known = true) ∧ φ x = φ x := fun x hx => by
    unfold upd; split
    · exact ⟨rfl, rfl⟩
    · exact ⟨hx, rfl⟩
  refine ⟨xs, f, ho, hs, hxf, hi, by rw [List.length_set]; exact hcl, fun i' hi' j' hj' hx => hcr i' hi' j' hj' (fun e0 => ?_), fun j' hj' hne => ?_⟩
  · have h1 := hx e0
    rw [List.getElem?_set] at h1
    split at h1
    · split at h1 <;> cases h1
    · exact h1
  · rw [List.length_set] at hj'
    by_cases e1 : j = j'
    · subst e1
      rw [List.getElem_set_self]
      exact .pv _ _ (ow_flat_rd (hcr i hil j hjl (fun _ => hc)) hf)
    · rw [List.getElem_set_ne e1] at hne ⊢
      exact (hcs j' hj' hne).keep (fun _ _ h => h) hL
/-- a cell that is a row of its own -/
theorem gh_cell {P : Program} {S : ASt} {b i j m : Nat} {e e' : TypeId} {rows rows' : List (List PV)} {cs : List AV} {r : List PV} (hB : S.h b = .opn e rows i cs) (hc : cs[j]? = some .out) (hr : rows[i]? = some r) (hp : r[j]? = some (.lst e' rows')) (hf : flatRows rows' = true) (hm : S.h m = .none) :
    Gh P S ⟨S.t, upd (upd S.h b (.opn e rows i (cs.set j (.sl m)))) m (.row true e' rows')⟩ := fun w0 N φ T M a w h => by
  have hbm : b ≠ m := fun e1 => by rw [e1, hm] at hB; cases hB
  have hbt : (S.h b).isTree = true := by rw [hB]; rfl
  have hbl : (S.h b).live = true := by rw [hB]; rfl
  have hb := h.blks b
  rw [hB] at hb
  obtain ⟨xs, f, ho, hs, hxf, hi, hcl, hcr, hcs⟩ := hb
  obtain ⟨hil, rfl⟩ := List.getElem?_eq_some_iff.1 hr
  obtain ⟨hjl, hpe⟩ := List.getElem?_eq_some_iff.1 hp
  have hO := hcr i hil j hjl (fun _ => hc)
  rw [hpe] at hO
  have hrl : rows[i].length = P.cellsOf e := hs _ (List.getElem_mem hil)
  generalize hK : i * P.cellsOf e + j = K at hO
  generalize hv : f K = v at hO
  have hbo := blk_own _ (ow_slice hO)
  obtain ⟨ys, f2, T2, ho2, hs2, hS2, hT2, hd2, hf2, hr2⟩ := ow_lst_elim hO
  have hin : ∀ g, blk v = some g → T b K g := fun g e1 => hS2 g (by rw [← hbo]; exact e1)
  let B1 : Blk := .opn e rows i (cs.set j (.sl m))
  have n1 : ∀ {x : Nat}, x ≠ m → upd (upd S.h b B1) m (.row true e' rows') x = upd S.h b B1 x := fun hx => by simp [upd, hx]
  have n2 : ∀ {x : Nat}, x ≠ b → upd S.h b B1 x = S.h x := fun hx => by simp [upd, hx]
  have n3 : upd (upd S.h b B1) m (.row true e' rows') m = .row true e' rows' := by simp [upd]
  have n4 : upd (upd S.h b B1) m (.row true e' rows') b = B1 := by simp [upd, hbm]
  have hL : ∀ x, (S.h x).known = true → ((upd (upd S.h b B1) m (.row true e' rows') x).known = true) ∧ upd φ m v x = φ x := fun x hx => by
    have hxm : x ≠ m := fun e1 => by rw [e1, hm] at hx; cases hx
    refine ⟨?_, by simp [upd, hxm]⟩
    rw [n1 hxm]
    by_cases e1 : x = b
    · subst e1; simp [upd]; rfl
    · rw [n2 e1]; exact hx
  have hlv : ∀ {x : Nat}, x ≠ m → (upd (upd S.h b B1) m (.row true e' rows') x).live = true → (S.h x).live = true := fun {x} hx hl => by
    rw [n1 hx] at hl
    by_cases e1 : x = b
    · subst e1; exact hbl
    · rw [n2 e1] at hl; exact hl
  have htr : ∀ {x : Nat}, x ≠ m → (upd (upd S.h b B1) m (.row true e' rows') x).isTree = (S.h x).isTree := fun {x} hx => by
    rw [n1 hx]
    by_cases e1 : x = b
    · subst e1; rw [hbt]; simp [upd]; rfl
    · rw [n2 e1]
  have hpm : ∀ {x : Nat}, x ≠ m → upd φ m v x = φ x := fun hx => by simp [upd, hx]
  refine ⟨upd φ m v, fun x k g => x ≠ m ∧ ¬ (x = b ∧ k = K) ∧ T x k g, M, h.below, h.defers, h.size, fun t => (h.slots t).keep (fun _ _ h => h) hL, fun x => ?_, fun x g hx e1 => ?_, h.mlt, h.amb, fun x y g hx hy e1 e2 => ?_, fun x k g ht => ?_, fun x k g ht hx => ?_, fun x k y k' g ht ht' => h.apart x k y k' g ht.2.2 ht'.2.2⟩
  · by_cases exm : x = m
    · subst exm
      show BlkOk _ _ _ _ _ _ (upd φ x v x) _ (upd (upd S.h b B1) x (.row true e' rows') x)
      rw [n3, show upd φ x v x = v by simp [upd]]
      refine ⟨ys, f2, owns_up ho2 (fun g e1 => (h.own b K g (hS2 g e1)).1), hs2, hf2, fun i' hi' j' hj' => ?_⟩
      simp only [if_true]
      refine ow_flat_any (hr2 i' hi' j' hj') ?_
      have h1 := List.all_eq_true.1 hf _ (List.getElem_mem hi')
      exact List.all_eq_true.1 h1 _ (List.getElem_mem hj')
    · by_cases exb : x = b
      · subst exb
        show BlkOk _ _ _ _ _ _ (upd φ m v x) _ (upd (upd S.h x B1) m (.row true e' rows') x)
        rw [n4, hpm exm]
        refine ⟨xs, f, ho, hs, hxf, hi, by rw [List.length_set]; exact hcl, fun i' hi' j' hj' hx => ?_, fun j' hj' hne => ?_⟩
        · have hcl' : i' = i → cs[j']? = some .out ∧ j' ≠ j := fun e0 => by
            have h1 := hx e0
            rw [List.getElem?_set] at h1
            split at h1
            · split at h1 <;> cases h1
            · rename_i hh; exact ⟨h1, fun e1 => hh e1.symm⟩
          refine (hcr i' hi' j' hj' (fun e0 => (hcl' e0).1)).mono (fun g hg => ⟨hbm, fun hh => ?_, hg⟩)
          have hj'l : j' < P.cellsOf e := by rw [← hs _ (List.getElem_mem hi')]; exact hj'
          obtain ⟨e1, e2⟩ := row_place hj'l (by omega) (hh.2.trans hK.symm)
          exact (hcl' e1).2 e2
        · rw [List.length_set] at hj'
          by_cases e1 : j = j'
          · subst e1
            rw [List.getElem_set_self, hK, hv]
            have := Ra.sl (P := P) (w := w) (M := M) (φ := upd φ m v) (L := fun x' => (upd (upd S.h x B1) m (.row true e' rows') x').known = true) m (by rw [n3]; rfl)
            rw [show upd φ m v m = v by simp [upd]] at this
            exact this
          · rw [List.getElem_set_ne e1] at hne ⊢
            exact (hcs j' hj' hne).keep (fun _ _ h => h) hL
      · show BlkOk _ _ _ _ _ _ (upd φ m v x) _ (upd (upd S.h b B1) m (.row true e' rows') x)
        rw [n1 exm, n2 exb, hpm exm]
        have : (fun k g => x ≠ m ∧ ¬ (x = b ∧ k = K) ∧ T x k g) = T x := by funext k g; simp [exm, exb]
        rw [this]
        exact (h.blks x).keep (fun _ _ h => h) (fun _ _ _ h => h) hL (fun _ _ _ => rfl)
  · by_cases exm : x = m
    · subst exm
      rw [show upd φ x v x = v by simp [upd]] at e1
      exact (h.tree b K g (hin g e1) hbt).1
    · rw [hpm exm] at e1
      exact h.mutb x g (hlv exm hx) e1
  · by_cases exm : x = m
    · by_cases eym : y = m
      · rw [exm, eym]
      · subst exm
        rw [show upd φ x v x = v by simp [upd]] at e1
        rw [hpm eym] at e2
        exact absurd e2 ((h.tree b K g (hin g e1) hbt).2 y (hlv eym hy))
    · by_cases eym : y = m
      · subst eym
        rw [show upd φ y v y = v by simp [upd]] at e2
        rw [hpm exm] at e1
        exact absurd e1 ((h.tree b K g (hin g e2) hbt).2 x (hlv exm hx))
      · rw [hpm exm] at e1
        rw [hpm eym] at e2
        exact h.disj x y g (hlv exm hx) (hlv eym hy) e1 e2
  · obtain ⟨h1, h2, h3⟩ := h.own x k g ht.2.2
    exact ⟨h1, h2, fun hx => h3 (by rw [← htr ht.1]; exact hx)⟩
  · have hx' : (S.h x).isTree = true := by rw [← htr ht.1]; exact hx
    obtain ⟨h1, h2⟩ := h.tree x k g ht.2.2 hx'
    refine ⟨h1, fun b' hb' e1 => ?_⟩
    by_cases ebm : b' = m
    · subst ebm
      rw [show upd φ b' v b' = v by simp [upd]] at e1
      exact ht.2.1 (h.apart x k b K g ht.2.2 (hin g e1))
    · rw [hpm ebm] at e1
      exact h2 b' (hlv ebm hb') e1
/-- a row is handed on, and is not written any more -/
theorem gh_frz {P : Program} {S : ASt} {b : Nat} {own : Bool} {e : TypeId} {rows : List (List PV)} (hB : S.h b = .row own e rows) : Gh P S ⟨S.t, upd S.h b (.frz e rows)⟩ := fun w0 N φ T M a w h => ⟨_, _, _, h.freeze hB⟩
/-- what a cell reads as -/
def ClR (S : ASt) (x : AV) (p : PV) : Prop := x = .pv p ∨ (∃ e, x = .nil e ∧ p = .lst e []) ∨ ∃ b e rows, x = .sl b ∧ p = .lst e rows ∧ S.h b = .frz e rows
def ClRs (S : ASt) : List AV → List PV → Prop
  | [], [] => True
  | x :: l, p :: q => ClR S x p ∧ ClRs S l q
  | _, _ => False
theorem clRs_at {S : ASt} : ∀ {cs : List AV} {ps : List PV}, ClRs S cs ps → ps.length = cs.length ∧ ∀ j (hj : j < cs.length) (hj' : j < ps.length), ClR S cs[j] ps[j]
  | [], [], _ => ⟨rfl, fun j hj => absurd hj (by simp)⟩
  | x :: l, p :: q, h => by
    obtain ⟨h1, h2⟩ := h
    obtain ⟨h3, h4⟩ := clRs_at h2
    refine ⟨by simp [h3], fun j hj hj' => ?_⟩
    cases j with
    | zero => exact h1
    | succ j => exact h4 j (by simpa using hj) (by simpa using hj')
  | [], _ :: _, h => h.elim
  | _ :: _, [], h => h.elim
/-- what was told of cell by cell is told of as a row again, which is not written any more -/
theorem gh_close {P : Program} {S : ASt} {b i : Nat} {e : TypeId} {rows : List (List PV)} {cs : List AV} {ps : List PV} (hB : S.h b = .opn e rows i cs) (hc : ClRs S cs ps) : Gh P S ⟨S.t, upd S.h b (.frz e (rows.set i ps))⟩ := fun w0 N φ T M a w h => by
  have hbt : (S.h b).isTree = true := by rw [hB]; rfl
  have hbl : (S.h b).live = true := by rw [hB]; rfl
  have hb := h.blks b
  rw [hB] at hb
  obtain ⟨xs, f, ho, hs, hxf, hi, hcl, hcr, hcs⟩ := hb
  obtain ⟨hpl, hps⟩ := clRs_at hc
  let M' : Nat → Prop := fun g => M g ∧ (∀ k, ¬ T b k g) ∧ blk (φ b) ≠ some g
  have hne : ∀ {x : Nat}, x ≠ b → upd S.h b (.frz e (rows.set i ps)) x = S.h x := fun hx => by simp [upd, hx]
  have heq : upd S.h b (.frz e (rows.set i ps)) b = .frz e (rows.set i ps) := by simp [upd]
  have hL : ∀ x, (S.h x).known = true → ((upd S.h b (.frz e (rows.set i ps)) x).known = true) ∧ φ x = φ x := fun x hx => by
    unfold upd; split
    · exact ⟨rfl, rfl⟩
    · exact ⟨hx, rfl⟩
  have hR : ∀ p v, Rd P w M p v → Rd P w M' p v := fun p v hr => hr.weak (fun g hg => hg.1)
  have hnl : ∀ {x : Nat}, (upd S.h b (.frz e (rows.set i ps)) x).live = true → x ≠ b ∧ (S.h x).live = true := fun {x} hx => by
    by_cases e1 : x = b
    · subst e1; rw [heq] at hx; cases hx
    · rw [hne e1] at hx; exact ⟨e1, hx⟩
  refine ⟨φ, noT T b, M', h.below, h.defers, h.size, fun t => (h.slots t).keep hR hL, fun x => ?_, fun x g hx e1 => ?_, fun g hg => h.mlt g hg.1, fun g hA hg => ⟨h.amb g hA hg, fun k ht => by have := (h.own b k g ht).1; omega, fun e1 => by have := h.low b g hbl e1; omega⟩, fun x y g hx hy => h.disj x y g (hnl hx).2 (hnl hy).2, fun x k g ht => ?_, fun x k g ht hx => ?_, fun x k y k' g ht ht' => h.apart x k y k' g ht.2 ht'.2⟩
  · show BlkOk _ _ _ _ _ _ _ _ (upd S.h b (.frz e (rows.set i ps)) x)
    by_cases e1 : x = b
    · subst e1
      rw [heq]
      show Rd _ _ _ _ _
      rcases row_cells ho hxf with ⟨_, h0⟩ | ⟨g, cap, hv, _, hlt, hn, hcell⟩
      · omega
      · rw [hv]
        have hlen : rows.length = (rows.set i ps).length := by simp
        rw [hlen]
        refine .lst e (rows.set i ps) g 0 cap f hlt (by simpa using hn) (fun hm => hm.2.2 (by rw [hv]; rfl)) (fun r hr => ?_) (fun k hk => by rw [Nat.zero_add]; exact hcell k (by simpa using hk)) (fun i' hi' j hj => ?_)
        · rcases List.mem_or_eq_of_mem_set hr with hr | rfl
          · exact hs r hr
          · rw [hpl]; exact hcl
        · rw [List.length_set] at hi'
          by_cases e2 : i = i'
          · subst e2
            simp only [List.getElem_set_self] at hj ⊢
            have hjc : j < cs.length := by omega
            have hcj := hps j hjc hj
            have hne' : cs[j] ≠ .out := fun e3 => by
              rw [e3] at hcj
              rcases hcj with e4 | ⟨_, e4, _⟩ | ⟨_, _, _, e4, _⟩ <;> cases e4
            have hra := hcs j hjc hne'
            generalize f (i * P.cellsOf e + j) = u at hra
            rcases hcj with e4 | ⟨e', e4, e5⟩ | ⟨b', e', rows', e4, e5, hb'⟩
            · rw [e4] at hra
              cases hra with
              | pv _ _ hr => exact hR _ _ hr
            · rw [e4] at hra
              rw [e5]
              cases hra with
              | nil => exact .nil _ _ _
            · rw [e4] at hra
              rw [e5]
              have h6 := h.blks b'
              rw [hb'] at h6
              cases hra with
              | sl _ _ => exact hR _ _ h6
          · simp only [List.getElem_set_ne e2] at hj ⊢
            exact Ow.rd (hcr i' hi' j hj (fun e3 => absurd e3.symm e2)) (fun g' hg' hm => hm.2.1 _ hg')
    · rw [hne e1, noT_ne e1]
      exact (h.blks x).keep hR (fun _ _ _ h => h) hL (fun _ _ _ => rfl)
  · obtain ⟨h1, h2⟩ := hnl hx
    exact ⟨h.mutb x g h2 e1, fun k ht => (h.tree b k g ht hbt).2 x h2 e1, fun e2 => h1 (h.disj x b g h2 hbl e1 e2)⟩
  · obtain ⟨h1, h2, h3⟩ := h.own x k g ht.2
    exact ⟨h1, h2, fun hx hm => h3 (by have hx' : (upd S.h b (.frz e (rows.set i ps)) x).isTree = false := hx; rw [hne ht.1] at hx'; exact hx') hm.1⟩
  · have hx' : (upd S.h b (.frz e (rows.set i ps)) x).isTree = true := hx
    rw [hne ht.1] at hx'
    obtain ⟨h1, h2⟩ := h.tree x k g ht.2 hx'
    exact ⟨⟨h1, fun k' ht' => ht.1 (h.apart x k b k' g ht.2 ht').1, h2 b hbl⟩, fun b' hb' => h2 b' (hnl hb').2⟩

/-- what a text does, whatever is said of it on the way -/
def awpS (P : Program) (w0 : W0) (N : Nat) (c : Code) (Q : Post) (S : ASt) (m : Nat) : Prop := ∀ (a : Act) (w : World), dstAll N c = true → Mem P w0 N S m a w → c.wp P (fun e a' w' => ∃ S' m', Q e S' m' ∧ Mem P w0 N S' m' a' w') a w
section
variable {E : Tab} {w0 : W0} {N : Nat} {S S' : ASt} {m m' : Nat} {Q : Post} {x y c : Code}
theorem awpS_of (hmix : E.P.follows .mixedOrders = true) (h : awp E c Q S m) : awpS E.P w0 N c Q S m := fun a w hd hM => awp_sound hmix c Q S m a w hd h hM
theorem awpS_seq (hmix : E.P.follows .mixedOrders = true) (h : awp E x (seqQ (awpS E.P w0 N y) Q) S m) : awpS E.P w0 N (.seq x y) Q S m := fun a w hd hM => by
  simp only [dstAll, Bool.and_eq_true] at hd
  refine wp_seq (wp_mono (awp_sound hmix x _ S m a w hd.1 h hM) (fun e a' w' he => ?_))
  obtain ⟨S', m', h1, h2⟩ := he
  cases e with
  | normal => exact h1 a' w' hd.2 h2
  | exit | goto | ret | panic | outgrown => exact ⟨S', m', h1, h2⟩
theorem awpS_gh {P : Program} (hg : Gh P S S') (hf : ∀ b, m' ≤ b → S'.h b = .none) (h : awpS P w0 N c Q S' m') : awpS P w0 N c Q S m := fun a w hd hM => by
  obtain ⟨⟨φ, T, M, hrel⟩, _⟩ := hM
  obtain ⟨φ', T', M', h'⟩ := hg w0 N φ T M a w hrel
  exact h a w hd ⟨⟨φ', T', M', h'⟩, hf⟩
/-- what is handed back, when all is closed -/
def FinG (E : Tab) (own : Bool) (rs : List ResultVar) (r : PV) : Post := fun e S _ => (e = .normal ∨ e = .ret) ∧ ∃ S2, Gh E.P S S2 ∧ Fin own S2 (rs.map (resAV E S2)) r
theorem fn_okS (hmix : E.P.follows .mixedOrders = true) {f : FuncId} {fn : Func} {c : Code} {ps : List PV} {r : PV} {own : Bool} (hf : E.P.funcs[f]? = some fn) (hb : fn.body = some c) (hn : (fn.name == "runtime.NumGoroutine") = false) (rs : List ResultVar) (hrs : fn.results = rs.toArray) (N : Nat) (hN : fn.ntmps = N)
    (hnt : ps.length ≤ N) (hd : dstAll N c = true) (h : ∀ w0, awpS E.P w0 N c (FinG E own rs r) (begin_ ps) 0) : FnOk E.P f ps r own := by
  subst hN
  refine ⟨⟨fn, hf, hn, by rw [hb]; rfl⟩, fun w M vs hl hv => calls_of_wp hf hb ?_⟩
  have hmem : Mem E.P ⟨w, M⟩ fn.ntmps (begin_ ps) 0 { tmps := vs.toArray ++ Array.replicate (fn.ntmps - vs.toArray.size) undef, defers := [] } w := by
    refine ⟨⟨fun _ => undef, fun _ _ _ => False, fun g => M g ∧ g < w.heap.size, ⟨Below.refl _ _, rfl, by simp; omega, fun t => ?_, fun b => trivial, fun b g hb => (by cases hb), fun g hg => hg.2, fun g h1 h2 => ⟨h1, h2⟩, fun b b' g hb => (by cases hb), fun b k g ht => ht.elim, fun b k g ht => ht.elim, fun b k b' k' g ht => ht.elim⟩⟩, fun b _ => rfl⟩
    show Ra _ _ _ _ _ (match ps[t]? with | some p => plain1 p | none => .und) _
    split
    · rename_i p hp
      obtain ⟨ht, rfl⟩ := List.getElem?_eq_some_iff.1 hp
      have h1 := hv t ht (by omega)
      have e1 : sl1 { tmps := vs.toArray ++ Array.replicate (fn.ntmps - vs.toArray.size) undef, defers := [] } t = vs[t]'(by omega) := by
        have : t < vs.length := by omega
        unfold sl1
        rw [Array.getD_eq_getD_getElem?, Array.getElem?_append_left (by simpa using this), List.getElem?_toArray, List.getElem?_eq_getElem this]
        rfl
      rw [e1]
      exact plain1_ra (h1.weak (fun g hg => hg.1))
    · exact .und _
  refine wp_mono (h ⟨w, M⟩ _ w hd hmem) (fun e a' w' ⟨S', m', ⟨he, S2, hg, hfin⟩, hM'⟩ => ?_)
  obtain ⟨⟨φ, T, M', hrel0⟩, hfr⟩ := hM'
  obtain ⟨φ, T, M', hrel⟩ := hg _ _ φ T M' a' w' hrel0
  have hne : ∀ rv ∈ rs, resAV E S2 rv ≠ .und := by
    intro rv hrv e
    unfold Fin at hfin
    obtain ⟨ps', s1, _, hpl, hsn⟩ := snapAs_sn hfin
    obtain ⟨i, hi, rfl⟩ := List.getElem_of_mem hrv
    have := hsn i (by simpa using hi)
    rw [List.getElem_map, e] at this
    rcases this with ⟨_, _, e1, _⟩ | e1 | ⟨_, e1, _⟩ | ⟨_, _, _, e1, _⟩ <;> cases e1
  obtain ⟨us, hres, hul, hura⟩ := run_results hrel hrs hne
  have hend := fin_sound hrel hul hura hfin
  have fin : a'.defers = [] ∧ ∃ v, (results fn a'.tmps).run E.P w' = .ok v w' ∧ ∃ u, Ending.returned v = .returned u ∧ Below w.heap.size w w' ∧ if own then Ow E.P w' (fun g => w.heap.size ≤ g ∧ g < w'.heap.size) r u else Rd E.P w' (fun g => M g ∧ g < w.heap.size) r u :=
    ⟨hrel.defers, _, hres, _, rfl, hrel.below, hend⟩
  rcases he with rfl | rfl
  · exact fin
  · exact fin
end
end Av
end Go.Proofs.Ytbkbppllcjcmhaa
