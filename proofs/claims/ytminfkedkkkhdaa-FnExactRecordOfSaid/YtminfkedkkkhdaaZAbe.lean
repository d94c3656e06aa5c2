/-
  Part of a proof: BrC. No condition.
-/
import Derived.Test.YtminfkedkkkhdaaZAbd
set_option linter.unusedSimpArgs false
set_option linter.unusedVariables false
namespace Go.Proofs.Ytminfkedkkkhdaa
open Go.RowKit
namespace Av
def pInts (xs : List Int) : PV := .lst 3 (xs.map fun x => [pI x])
def pCode (c : Bt.C4) : List PV := [pI c.op, pI c.a, pI c.b, pI c.c]
def pProg (rs : List Bt.C4) (h : Int) : PV := .agg [.lst 96 (rs.map pCode), pI h]
def pTh (t : Bt.Th) : List PV := [pI t.pl, pInts t.regs, pInts t.stack, pI t.st]
def pMc (m : Bt.Mc) : List PV := [.lst 123 (m.ths.map pTh), pInts m.cells, pInts m.locks, pInts m.told]
def pCh (c : Bt.Ch) : List PV := [pI c.who, pI c.kind, pI c.reply]
theorem cells_int : Try.prog.cellsOf 3 = 1 := by kernel_rfl
theorem cells_code : Try.prog.cellsOf 96 = 4 := by kernel_rfl
theorem cells_th : Try.prog.cellsOf 123 = 4 := by kernel_rfl
section
variable {w w' : World} {M : Nat → Prop}
theorem rd_row {P : Program} {e : TypeId} {rows : List (List PV)} {v : Value} (h : Rd P w M (.lst e rows) v) : ∃ A cap, v = .slice A rows.length cap ∧ rows.length ≤ cap ∧ (rows ≠ [] → ∃ (b o : Nat) (f : Nat → Value), A = some ⟨b, o, none⟩ ∧ (∀ r ∈ rows, r.length = P.cellsOf e) ∧ (∀ k, k < rows.length * P.cellsOf e → w.cell? ⟨b, o + k, none⟩ = some (f k)) ∧ ∀ i (hi : i < rows.length) j (hj : j < rows[i].length), Rd P w M rows[i][j] (f (i * P.cellsOf e + j))) := by
 cases h with
 | nil => exact ⟨_, _, rfl, by simp, fun h => absurd rfl h⟩
 | lst _ _ b o cap f hb hc hM hs hcell hr => exact ⟨_, _, rfl, hc, fun _ => ⟨b, o, f, rfl, hs, hcell, hr⟩⟩
theorem rd_ints {xs : List Int} {v : Value} (h : Rd Try.prog w M (pInts xs) v) : ArgInts w v xs := by
 obtain ⟨A, cap, hv, hc, hr⟩ := rd_row h
 rw [List.length_map] at hv hc
 refine ⟨A, cap, hv, hc, fun hne => ?_⟩
 obtain ⟨b, o, f, hA, _, hcell, hr⟩ := hr (by simpa using hne)
 refine ⟨b, o, hA, fun i hi => ?_⟩
 have h1 := hcell i (by rw [List.length_map, cells_int]; omega)
 have h2 := hr i (by simpa using hi) 0 (by simp)
 rw [cells_int] at h2
 have h3 := rd_int (by simpa [pI] using h2)
 rw [h1]
 simpa using h3
theorem rd_agg {P : Program} {cs : List PV} {v : Value} (h : Rd P w M (.agg cs) v) : ∃ vs : List Value, v = .agg vs.toArray ∧ ∃ hl : vs.length = cs.length, ∀ i (hi : i < cs.length), Rd P w M cs[i] (vs[i]'(by omega)) := by
 cases h with
 | agg _ vs hl h => exact ⟨vs, rfl, hl, h⟩
theorem rd_prog {rs : List Bt.C4} {h : Int} {v : Value} (hr : Rd Try.prog w M (pProg rs h) v) (hne : rs ≠ []) (hn : rs.length ≤ 1048576) : ∃ b o cap, v = .agg #[.slice (some ⟨b, o, none⟩) rs.length cap, .int .i64 h] ∧ ArgPr w b o rs.length cap rs := by
 obtain ⟨vs, rfl, hl, hr⟩ := rd_agg hr
 match vs, hl with
 | [v0, v1], _ =>
  have h0 := hr 0 (by simp)
  have h1 := rd_int (hr 1 (by simp))
  obtain ⟨A, cap, hv, hc, hq⟩ := rd_row h0
  rw [List.length_map] at hv hc
  obtain ⟨b, o, f, rfl, _, hcell, hq⟩ := hq (by simpa using hne)
  simp only [List.getElem_cons_zero, List.getElem_cons_succ] at hv h1
  subst hv
  subst h1
  refine ⟨b, o, cap, rfl, rfl, hn, hc, fun i hi => ?_⟩
  have hr' := fun j (hj : j < 4) => hq i (by simpa using hi) j (by simpa [pCode] using hj)
  rw [List.length_map, cells_code] at hcell
  rw [cells_code] at hr'
  have g := fun j (hj : j < 4) => hcell (i * 4 + j) (by omega)
  have e0 := rd_int (by simpa [pCode, pI] using hr' 0 (by omega))
  have e1 := rd_int (by simpa [pCode, pI] using hr' 1 (by omega))
  have e2 := rd_int (by simpa [pCode, pI] using hr' 2 (by omega))
  have e3 := rd_int (by simpa [pCode, pI] using hr' 3 (by omega))
  refine ⟨?_, ?_, ?_, ?_⟩
  ·simpa using (g 0 (by omega)).trans (congrArg some e0)
  ·simpa [Nat.add_assoc] using (g 1 (by omega)).trans (congrArg some e1)
  ·simpa [Nat.add_assoc] using (g 2 (by omega)).trans (congrArg some e2)
  ·simpa [Nat.add_assoc] using (g 3 (by omega)).trans (congrArg some e3)
theorem ints_slice {v : Value} {xs : List Int} (h : ArgInts w v xs) : ∃ A c, v = .slice A xs.length c := by
 obtain ⟨A, c, hv, _⟩ := h
 exact ⟨A, c, hv⟩
theorem rd_mc {m : Bt.Mc} {v : Value} (hr : Rd Try.prog w M (.agg (pMc m)) v) : ∃ AT ct AC cc AL cl AD cd, v = .agg #[.slice AT m.ths.length ct, .slice AC m.cells.length cc, .slice AL m.locks.length cl, .slice AD m.told.length cd] ∧ ArgMc w AT m.ths.length ct AC m.cells.length cc AL m.locks.length cl AD m.told.length cd m := by
 obtain ⟨vs, rfl, hl, hr⟩ := rd_agg hr
 match vs, hl with
 | [v0, v1, v2, v3], _ =>
  have h0 := hr 0 (by simp [pMc])
  have h1 := rd_ints (hr 1 (by simp [pMc]))
  have h2 := rd_ints (hr 2 (by simp [pMc]))
  have h3 := rd_ints (hr 3 (by simp [pMc]))
  simp only [List.getElem_cons_zero, List.getElem_cons_succ] at h1 h2 h3
  obtain ⟨AC, cc, rfl⟩ := ints_slice h1
  obtain ⟨AL, cl, rfl⟩ := ints_slice h2
  obtain ⟨AD, cd, rfl⟩ := ints_slice h3
  obtain ⟨A, cap, hv, hc, hq⟩ := rd_row h0
  rw [List.length_map] at hv hc
  simp only [List.getElem_cons_zero] at hv
  subst hv
  refine ⟨A, cap, AC, cc, AL, cl, AD, cd, rfl, ⟨rfl, hc, fun i hi => ?_⟩, h1, h2, h3, rfl, rfl, rfl⟩
  obtain ⟨b, o, f, rfl, _, hcell, hq⟩ := hq (by intro e; simp at e; rw [e] at hi; simp at hi)
  refine ⟨b, o, rfl, ?_⟩
  have hr' := fun j (hj : j < 4) => hq i (by simpa using hi) j (by simpa [pTh] using hj)
  rw [List.length_map, cells_th] at hcell
  rw [cells_th] at hr'
  have g := fun j (hj : j < 4) => hcell (i * 4 + j) (by omega)
  have e0 := rd_int (by simpa [pTh, pI] using hr' 0 (by omega))
  have e1 := rd_ints (by simpa [pTh] using hr' 1 (by omega))
  have e2 := rd_ints (by simpa [pTh] using hr' 2 (by omega))
  have e3 := rd_int (by simpa [pTh, pI] using hr' 3 (by omega))
  obtain ⟨A1, c1, hA1⟩ := ints_slice e1
  obtain ⟨A2, c2, hA2⟩ := ints_slice e2
  rw [hA1] at e1
  rw [hA2] at e2
  refine ⟨?_, ⟨A1, c1, ?_, e1⟩, ⟨A2, c2, ?_, e2⟩, ?_⟩
  ·simpa using (g 0 (by omega)).trans (congrArg some e0)
  ·simpa [Nat.add_assoc] using (g 1 (by omega)).trans (congrArg some hA1)
  ·simpa [Nat.add_assoc] using (g 2 (by omega)).trans (congrArg some hA2)
  ·simpa [Nat.add_assoc] using (g 3 (by omega)).trans (congrArg some e3)
theorem rd_ch {c : Bt.Ch} {v : Value} (hr : Rd Try.prog w M (.agg (pCh c)) v) : v = .agg #[.int .i64 c.who, .int .i64 c.kind, .int .i64 c.reply] := by
 obtain ⟨vs, rfl, hl, hr⟩ := rd_agg hr
 match vs, hl with
 | [v0, v1, v2], _ =>
  have h0 := rd_int (hr 0 (by simp [pCh]))
  have h1 := rd_int (hr 1 (by simp [pCh]))
  have h2 := rd_int (hr 2 (by simp [pCh]))
  simp only [List.getElem_cons_zero, List.getElem_cons_succ] at h0 h1 h2
  subst h0; subst h1; subst h2
  rfl
end
end Av
end Go.Proofs.Ytminfkedkkkhdaa
namespace Go.Proofs.Ytminfkedkkkhdaa
open Go.RowKit
namespace Av
section
variable {w w' : World} {B : Nat} {S : Nat → Prop}
theorem ow_ints {v : Value} {xs : List Int} (h : IntRow w B v xs) (hS : ∀ g, v.ownBlock = some g → S g) : Ow Try.prog w S (pInts xs) v := by
 refine Ow.lst S _ _ v (xs.map (Value.int .i64)) (fun k => .int .i64 (xs.getD k 0)) (fun _ _ => False) ?_ (fun r hr => ?_) hS (fun _ _ h => h.elim) (fun _ _ _ h => h.elim) (fun k hk => ?_) (fun i hi j hj => ?_)
 ·rw [List.length_map, cells_int]
  exact Joins.ownsRow_le h (Nat.zero_le _)
 ·obtain ⟨x, _, rfl⟩ := List.mem_map.1 hr
  rw [cells_int]; rfl
 ·rw [List.length_map, cells_int, Nat.mul_one] at hk
  simp [hk]
 ·rw [List.length_map] at hi
  have hj' : j = 0 := by simpa using hj
  subst hj'
  rw [cells_int]
  simp only [List.getElem_map, pI, Nat.mul_one, Nat.add_zero, List.getElem_cons_zero]
  rw [List.getD_eq_getElem?_getD, List.getElem?_eq_getElem hi]
  exact .int _ _ _
theorem types_apart {e e' : TypeId} {s s' n n' : Nat} {u v : Value} {xs ys : List Value} {B B' : Nat} (hu : w.ownsRow B e s u n xs) (hv : w.ownsRow B' e' s' v n' ys) (he : e ≠ e') : ∀ g, u.ownBlock = some g → v.ownBlock ≠ some g := fun g h1 h2 => by
 rcases hu.2 with ⟨rfl, _⟩ | ⟨a, c, cur, rfl, _, ha, _⟩
 ·cases h1
 ·rcases hv.2 with ⟨rfl, _⟩ | ⟨a', c', cur', rfl, _, ha', _⟩
  ·cases h2
  ·simp only [Value.ownBlock, Option.some.injEq] at h1 h2
   subst h1
   subst h2
   rw [ha] at ha'
   injection ha' with e1
   injection e1 with _ e2
   exact he e2
def thT (xs : List (Value × Value)) (k g : Nat) : Prop := ∃ i, ∃ h : i < xs.length, (k = i * 4 + 1 ∧ xs[i].1.ownBlock = some g) ∨ (k = i * 4 + 2 ∧ xs[i].2.ownBlock = some g)
theorem apart_at {xs : List (Value × Value)} (ha : (rowsOf xs).Pairwise Apart) {a b : Nat} {u v : Value} (hu : (rowsOf xs)[a]? = some u) (hv : (rowsOf xs)[b]? = some v) {g : Nat} (h1 : u.ownBlock = some g) (h2 : v.ownBlock = some g) : a = b := by
 rw [List.pairwise_iff_getElem] at ha
 obtain ⟨ha1, rfl⟩ := List.getElem?_eq_some_iff.1 hu
 obtain ⟨hb1, rfl⟩ := List.getElem?_eq_some_iff.1 hv
 rcases Nat.lt_trichotomy a b with h | h | h
 ·exact absurd h2 (ha a b ha1 hb1 h g h1)
 ·exact h
 ·exact absurd h1 (ha b a hb1 ha1 h g h2)
theorem thT_one {xs : List (Value × Value)} (ha : (rowsOf xs).Pairwise Apart) (k k' g : Nat) (h : thT xs k g) (h' : thT xs k' g) : k = k' := by
 obtain ⟨i, hi, h⟩ := h
 obtain ⟨j, hj, h'⟩ := h'
 have hi' := rowsOf_at hi
 have hj' := rowsOf_at hj
 rcases h with ⟨rfl, h⟩ | ⟨rfl, h⟩ <;> rcases h' with ⟨rfl, h'⟩ | ⟨rfl, h'⟩
 ·have := apart_at ha hi'.1 hj'.1 h h'; omega
 ·have := apart_at ha hi'.1 hj'.2 h h'; omega
 ·have := apart_at ha hi'.2 hj'.1 h h'; omega
 ·have := apart_at ha hi'.2 hj'.2 h h'; omega
theorem ow_ths {v : Value} {ts : List Bt.Th} {xs : List (Value × Value)} (h : OwnThs w B v ts xs) (ha : (rowsOf xs).Pairwise Apart) (hS : ∀ g, v.ownBlock = some g → S g) (hS' : ∀ k g, thT xs k g → S g) : Ow Try.prog w S (.lst 123 (ts.map pTh)) v := by
 obtain ⟨L, hL, h4⟩ := h.row
 have hlen := h.len
 refine Ow.lst S _ _ v L (fun k => L.getD k default) (thT xs) ?_ (fun r hr => ?_) hS (fun k g hk => ⟨hS' k g hk, fun e => ?_⟩) (thT_one ha) (fun k hk => ?_) (fun i hi j hj => ?_)
 ·rw [List.length_map, cells_th]
  exact Joins.ownsRow_le hL (Nat.zero_le _)
 ·obtain ⟨x, _, rfl⟩ := List.mem_map.1 hr
  rw [cells_th]; rfl
 ·obtain ⟨i, hi, hk⟩ := hk
  obtain ⟨h1, h2⟩ := h.ints i (by omega) hi
  rcases hk with ⟨_, hk⟩ | ⟨_, hk⟩
  ·exact types_apart hL h1 (by decide) g e hk
  ·exact types_apart hL h2 (by decide) g e hk
 ·rw [List.length_map, cells_th] at hk
  have := hL.1
  rw [List.getD_eq_getElem?_getD, List.getElem?_eq_getElem (by omega)]
  rfl
 ·rw [List.length_map] at hi
  have hi' : i < xs.length := by omega
  obtain ⟨e0, e1, e2, e3⟩ := h4 i hi hi'
  obtain ⟨h1, h2⟩ := h.ints i hi hi'
  rw [cells_th]
  have hj' : j < 4 := by simpa [pTh] using hj
  obtain rfl | rfl | rfl | rfl : j = 0 ∨ j = 1 ∨ j = 2 ∨ j = 3 := by omega
  ·simp only [List.getElem_map, pTh, pI, List.getElem_cons_zero, Nat.add_zero]
   rw [List.getD_eq_getElem?_getD, e0]
   exact .int _ _ _
  ·simp only [List.getElem_map, pTh, pI, List.getElem_cons_zero, List.getElem_cons_succ]
   rw [List.getD_eq_getElem?_getD, e1]
   exact ow_ints h1 (fun g hg => ⟨i, hi', .inl ⟨rfl, hg⟩⟩)
  ·simp only [List.getElem_map, pTh, pI, List.getElem_cons_zero, List.getElem_cons_succ]
   rw [List.getD_eq_getElem?_getD, e2]
   exact ow_ints h2 (fun g hg => ⟨i, hi', .inr ⟨rfl, hg⟩⟩)
  ·simp only [List.getElem_map, pTh, pI, List.getElem_cons_zero, List.getElem_cons_succ]
   rw [List.getD_eq_getElem?_getD, e3]
   exact .int _ _ _
def mcT (vt vc vl vd : Value) (xs : List (Value × Value)) (k g : Nat) : Prop := (k = 0 ∧ (vt.ownBlock = some g ∨ ∃ j, thT xs j g)) ∨ (k = 1 ∧ vc.ownBlock = some g) ∨ (k = 2 ∧ vl.ownBlock = some g) ∨ (k = 3 ∧ vd.ownBlock = some g)
theorem ow_mc {vt vc vl vd : Value} {xs : List (Value × Value)} {m : Bt.Mc} (h : OwnMc w B vt vc vl vd xs m) (hS : ∀ k g, mcT vt vc vl vd xs k g → S g) : Ow Try.prog w S (.agg (pMc m)) (.agg #[vt, vc, vl, vd]) := by
 obtain ⟨ha, hr, hcl, hcd, hld⟩ := h.rows
 obtain ⟨L, hL, _⟩ := h.ths.row
 have hnest : ∀ j g, thT xs j g → vc.ownBlock ≠ some g ∧ vl.ownBlock ≠ some g ∧ vd.ownBlock ≠ some g := fun j g ⟨i, hi, hk⟩ => by
  rcases hk with ⟨_, hk⟩ | ⟨_, hk⟩
  ·obtain ⟨a1, a2, a3⟩ := hr xs[i].1 (List.mem_of_getElem? (rowsOf_at hi).1)
   exact ⟨a1 g hk, a2 g hk, a3 g hk⟩
  ·obtain ⟨a1, a2, a3⟩ := hr xs[i].2 (List.mem_of_getElem? (rowsOf_at hi).2)
   exact ⟨a1 g hk, a2 g hk, a3 g hk⟩
 have htop : ∀ g, vt.ownBlock = some g → vc.ownBlock ≠ some g ∧ vl.ownBlock ≠ some g ∧ vd.ownBlock ≠ some g := fun g hg =>
  ⟨types_apart hL h.cells (by decide) g hg, types_apart hL h.locks (by decide) g hg, types_apart hL h.told (by decide) g hg⟩
 refine Ow.agg S (pMc m) [vt, vc, vl, vd] (mcT vt vc vl vd xs) rfl hS (fun k k' g hk hk' => ?_) (fun i hi => ?_)
 ·rcases hk with ⟨rfl, hk⟩ | ⟨rfl, hk⟩ | ⟨rfl, hk⟩ | ⟨rfl, hk⟩ <;> rcases hk' with ⟨rfl, hk'⟩ | ⟨rfl, hk'⟩ | ⟨rfl, hk'⟩ | ⟨rfl, hk'⟩ <;> first | rfl | skip
  ·rcases hk with hk | ⟨j, hk⟩
   ·exact absurd hk' (htop g hk).1
   ·exact absurd hk' (hnest j g hk).1
  ·rcases hk with hk | ⟨j, hk⟩
   ·exact absurd hk' (htop g hk).2.1
   ·exact absurd hk' (hnest j g hk).2.1
  ·rcases hk with hk | ⟨j, hk⟩
   ·exact absurd hk' (htop g hk).2.2
   ·exact absurd hk' (hnest j g hk).2.2
  ·rcases hk' with hk' | ⟨j, hk'⟩
   ·exact absurd hk (htop g hk').1
   ·exact absurd hk (hnest j g hk').1
  ·exact absurd hk' (hcl g hk)
  ·exact absurd hk' (hcd g hk)
  ·rcases hk' with hk' | ⟨j, hk'⟩
   ·exact absurd hk (htop g hk').2.1
   ·exact absurd hk (hnest j g hk').2.1
  ·exact absurd hk (hcl g hk')
  ·exact absurd hk' (hld g hk)
  ·rcases hk' with hk' | ⟨j, hk'⟩
   ·exact absurd hk (htop g hk').2.2
   ·exact absurd hk (hnest j g hk').2.2
  ·exact absurd hk (hcd g hk')
  ·exact absurd hk (hld g hk')
 ·have hi' : i < 4 := hi
  obtain rfl | rfl | rfl | rfl : i = 0 ∨ i = 1 ∨ i = 2 ∨ i = 3 := by omega
  ·exact ow_ths h.ths ha (fun g hg => .inl ⟨rfl, .inl hg⟩) (fun k g hk => .inl ⟨rfl, .inr ⟨k, hk⟩⟩)
  ·exact ow_ints h.cells (fun g hg => .inr (.inl ⟨rfl, hg⟩))
  ·exact ow_ints h.locks (fun g hg => .inr (.inr (.inl ⟨rfl, hg⟩)))
  ·exact ow_ints h.told (fun g hg => .inr (.inr (.inr ⟨rfl, hg⟩)))
theorem rd_ints_of {v : Value} {xs : List Int} {M : Nat → Prop} (h : IntRow w B v xs) (hM : ∀ g, B ≤ g → ¬ M g) : Rd Try.prog w M (pInts xs) v := Ow.rd (ow_ints (S := fun g => v.ownBlock = some g) h (fun g hg => hg)) (fun g hg => hM g (h.bd g hg).1)
theorem rd_ths_of {v : Value} {ts : List Bt.Th} {xs : List (Value × Value)} {M : Nat → Prop} (h : OwnThs w B v ts xs) (hM : ∀ g, B ≤ g → ¬ M g) : Rd Try.prog w M (.lst 123 (ts.map pTh)) v := by
 obtain ⟨L, hL, h4⟩ := h.row
 have hlen := h.len
 rcases row_cells (B := B) (xs := L) hL (f := fun k => L.getD k default) (fun k hk => by
  have := hL.1
  rw [List.getD_eq_getElem?_getD, List.getElem?_eq_getElem (by omega)]
  rfl) with ⟨rfl, h0⟩ | ⟨g, cap, rfl, hB, hlt, hn, hcell⟩
 ·have : ts = [] := List.eq_nil_of_length_eq_zero h0
  subst this
  exact .nil _ _ _
 ·have := Rd.lst (P := Try.prog) (w := w) (M := M) 123 (ts.map pTh) g 0 cap (fun k => L.getD k default) hlt (by simpa using hn) (hM g hB) (fun r hr => by
   obtain ⟨x, _, rfl⟩ := List.mem_map.1 hr
   rw [cells_th]; rfl) (fun k hk => by
   rw [List.length_map, cells_th] at hk
   rw [Nat.zero_add]
   exact hcell k hk) (fun i hi j hj => ?_)
  ·simpa using this
  ·rw [List.length_map] at hi
   have hi' : i < xs.length := by omega
   obtain ⟨e0, e1, e2, e3⟩ := h4 i hi hi'
   obtain ⟨h1, h2⟩ := h.ints i hi hi'
   rw [cells_th]
   have hj' : j < 4 := by simpa [pTh] using hj
   obtain rfl | rfl | rfl | rfl : j = 0 ∨ j = 1 ∨ j = 2 ∨ j = 3 := by omega
   ·simp only [List.getElem_map, pTh, pI, List.getElem_cons_zero, Nat.add_zero]
    rw [List.getD_eq_getElem?_getD, e0]
    exact .int _ _
   ·simp only [List.getElem_map, pTh, pI, List.getElem_cons_zero, List.getElem_cons_succ]
    rw [List.getD_eq_getElem?_getD, e1]
    exact rd_ints_of h1 hM
   ·simp only [List.getElem_map, pTh, pI, List.getElem_cons_zero, List.getElem_cons_succ]
    rw [List.getD_eq_getElem?_getD, e2]
    exact rd_ints_of h2 hM
   ·simp only [List.getElem_map, pTh, pI, List.getElem_cons_zero, List.getElem_cons_succ]
    rw [List.getD_eq_getElem?_getD, e3]
    exact .int _ _
theorem rd_mc_of {vt vc vl vd : Value} {xs : List (Value × Value)} {m : Bt.Mc} {M : Nat → Prop} (h : McOwn w B vt vc vl vd xs m) (hM : ∀ g, B ≤ g → ¬ M g) : Rd Try.prog w M (.agg (pMc m)) (.agg #[vt, vc, vl, vd]) := by
 refine Rd.agg (pMc m) [vt, vc, vl, vd] rfl (fun i hi => ?_)
 have hi' : i < 4 := hi
 obtain rfl | rfl | rfl | rfl : i = 0 ∨ i = 1 ∨ i = 2 ∨ i = 3 := by omega
 ·exact rd_ths_of h.ths hM
 ·exact rd_ints_of h.cells hM
 ·exact rd_ints_of h.locks hM
 ·exact rd_ints_of h.told hM
theorem mc_new {vt vc vl vd : Value} {xs : List (Value × Value)} {m : Bt.Mc} (h : OwnMc w B vt vc vl vd xs m) (k g : Nat) (hk : mcT vt vc vl vd xs k g) : B ≤ g ∧ g < w.heap.size := by
 obtain ⟨L, hL, _⟩ := h.ths.row
 rcases hk with ⟨_, hk | ⟨j, i, hi, hk⟩⟩ | ⟨_, hk⟩ | ⟨_, hk⟩ | ⟨_, hk⟩
 ·exact World.ownsRow.lt hL g hk
 ·obtain ⟨h1, h2⟩ := h.ths.ints i (by have := h.ths.len; omega) hi
  rcases hk with ⟨_, hk⟩ | ⟨_, hk⟩
  ·exact h1.bd g hk
  ·exact h2.bd g hk
 ·exact h.cells.bd g hk
 ·exact h.locks.bd g hk
 ·exact h.told.bd g hk
end
end Av
end Go.Proofs.Ytminfkedkkkhdaa
namespace Go.Proofs.Ytminfkedkkkhdaa
open Go.RowKit
namespace Av
theorem new_ok : FnOk E.P 72 [] (.agg (pMc Bt.mcNew)) true := ⟨⟨_, Try.func72, by kernel_rfl, by kernel_rfl⟩, fun w M vs hl hr => by
 obtain rfl : vs = [] := List.eq_nil_of_length_eq_zero hl
 exact (implNew_any w).mono fun e w' ⟨vt, vc, vl, vd, xs, he, hb, ho⟩ => ⟨_, he, hb, ow_mc ho (fun k g hk => mc_new ho k g hk)⟩⟩
theorem progN_ok {rs : List Bt.C4} {h : Int} (hne : rs ≠ []) (hn : rs.length ≤ 1048576) : FnOk E.P 71 [pProg rs h] (.bool (Bt.progOk rs h)) true := ⟨⟨_, Try.func71, by kernel_rfl, by kernel_rfl⟩, fun w M vs hl hr => by
 match vs, hl, hr with
 | [v0], _, hr =>
  obtain ⟨b, o, cap, hv, P⟩ := rd_prog (hr 0 (by simp) (by simp)) hne hn
  simp only [List.getElem_cons_zero] at hv
  subst hv
  exact (implProg_any P h).mono fun e w' ⟨he, hb⟩ => ⟨_, he, hb, Ow.bool _ _⟩⟩
set_option maxRecDepth 10000 in
set_option maxHeartbeats 4000000 in
theorem prog0_ok {h : Int} : FnOk E.P 71 [pProg [] h] (.bool false) true := by
 refine fn_ok mixed Try.func71 rfl (by kernel_rfl) _ Try.results71 _ Try.ntmps71 (by simp) (by kernel_rfl) ?_
 simp (config := { maxSteps := 2000000 }) only [pProg, pI, List.map_nil, condGo_bool, vcs, reduceIte, reduceCtorEq, Nat.reduceEqDiff, Nat.reduceAdd, Nat.reduceMul, Nat.reduceLeDiff, Nat.reduceLT, Int.reduceEq, Int.reduceLT, Int.reduceLE, Int.reduceAdd, Int.reduceSub, Int.reduceMul, Int.reduceNeg, Int.reduceToNat, Int.reduceNe, Nat.reduceBEq, tbs]
 exact ⟨by kernel_rfl, by kernel_rfl, by kernel_rfl, by kernel_rfl⟩
theorem can_ok {rs : List Bt.C4} {h : Int} {m : Bt.Mc} {c : Bt.Ch} (hne : rs ≠ []) (hn : rs.length ≤ 1048576) (hm : Small m) : FnOk E.P 102 [pProg rs h, .agg (pMc m), .agg (pCh c)] (.bool (Bt.canDo rs h m c)) true := ⟨⟨_, Try.func102, by kernel_rfl, by kernel_rfl⟩, fun w M vs hl hr => by
 match vs, hl, hr with
 | [v0, v1, v2], _, hr =>
  obtain ⟨b, o, cap, hv, P⟩ := rd_prog (hr 0 (by simp) (by simp)) hne hn
  obtain ⟨AT, ct, AC, cc, AL, cl, AD, cd, hv', H⟩ := rd_mc (hr 1 (by simp) (by simp))
  have hv'' := rd_ch (hr 2 (by simp) (by simp))
  simp only [List.getElem_cons_zero, List.getElem_cons_succ] at hv hv' hv''
  subst hv
  subst hv'
  subst hv''
  exact (implCanDo_any h c w P H hm).mono fun e w' ⟨he, hb⟩ => ⟨_, he, hb, Ow.bool _ _⟩⟩
theorem do_ok {rs : List Bt.C4} {h : Int} {m : Bt.Mc} {c : Bt.Ch} (hne : rs ≠ []) (hn : rs.length ≤ 1048576) (hm : Small m) : FnOk E.P 75 [pProg rs h, .agg (pMc m), .agg (pCh c)] (.tup [.agg (pMc ((Bt.doM rs h m c).getD Bt.mcNil)), .bool (Bt.doM rs h m c).isSome]) true := ⟨⟨_, Try.func75, by kernel_rfl, by kernel_rfl⟩, fun w M vs hl hr => by
 match vs, hl, hr with
 | [v0, v1, v2], _, hr =>
  obtain ⟨b, o, cap, hv, P⟩ := rd_prog (hr 0 (by simp) (by simp)) hne hn
  obtain ⟨AT, ct, AC, cc, AL, cl, AD, cd, hv', H⟩ := rd_mc (hr 1 (by simp) (by simp))
  have hv'' := rd_ch (hr 2 (by simp) (by simp))
  simp only [List.getElem_cons_zero, List.getElem_cons_succ] at hv hv' hv''
  subst hv
  subst hv'
  subst hv''
  exact (implDo_all h c w P H hm).mono fun e w' ⟨AT, ct, AC, cc, AL, cl, AD, cd, xs, he, hb, ho⟩ => ⟨_, he, hb, Ow.tup _ [_, _] [_, _] (fun i g => i = 0 ∧ ∃ k, mcT _ _ _ _ xs k g) rfl (fun i g ⟨_, k, hk⟩ => mc_new ho k g hk) (fun i j g hi hj => hi.1.trans hj.1.symm) (fun i hi => by
   have hi' : i < 2 := hi
   obtain rfl | rfl : i = 0 ∨ i = 1 := by omega
   ·exact ow_mc ho (fun k g hk => ⟨rfl, k, hk⟩)
   ·exact Ow.bool _ _)⟩⟩
theorem instr_ok {rs : List Bt.C4} {h who : Int} {m : Bt.Mc} (hne : rs ≠ []) (hn : rs.length ≤ 1048576) (hm : Small m) : FnOk E.P 109 [pProg rs h, .agg (pMc m), pI who] (.tup [.agg (pCode ((Bt.instrOf rs h m who).getD ⟨0, 0, 0, 0⟩)), .bool (Bt.instrOf rs h m who).isSome]) true := ⟨⟨_, Try.func109, by kernel_rfl, by kernel_rfl⟩, fun w M vs hl hr => by
 match vs, hl, hr with
 | [v0, v1, v2], _, hr =>
  obtain ⟨b, o, cap, hv, P⟩ := rd_prog (hr 0 (by simp) (by simp)) hne hn
  obtain ⟨AT, ct, AC, cc, AL, cl, AD, cd, hv', H⟩ := rd_mc (hr 1 (by simp) (by simp))
  have hv'' := rd_int (hr 2 (by simp) (by simp))
  simp only [List.getElem_cons_zero, List.getElem_cons_succ] at hv hv' hv''
  subst hv
  subst hv'
  subst hv''
  refine (implInstrOf_any h who w P H hm).mono fun e w' ⟨he, hb⟩ => ⟨_, he, hb, ?_⟩
  have key : ∀ (o : Option Bt.C4), Ow E.P w' (fun g => w.heap.size ≤ g ∧ g < w'.heap.size) (.tup [.agg (pCode (o.getD ⟨0, 0, 0, 0⟩)), .bool o.isSome]) (codeVal o) := fun o => by
   have agg4 : ∀ (a b c d : Int), Ow E.P w' (fun _ => False) (.agg [.int .i64 a, .int .i64 b, .int .i64 c, .int .i64 d]) (.agg #[.int .i64 a, .int .i64 b, .int .i64 c, .int .i64 d]) := fun a b c d => Ow.agg _ _ [_, _, _, _] (fun _ _ => False) rfl (fun _ _ h => h) (fun _ _ _ h => h.elim) (fun i hi => by
    have hi' : i < 4 := hi
    obtain rfl | rfl | rfl | rfl : i = 0 ∨ i = 1 ∨ i = 2 ∨ i = 3 := by omega
    all_goals exact Ow.int _ _ _)
   have tup2 : ∀ (p : PV) (v : Value) (b : Bool), Ow E.P w' (fun _ => False) p v → Ow E.P w' (fun g => w.heap.size ≤ g ∧ g < w'.heap.size) (.tup [p, .bool b]) (.tuple #[v, .bool b]) := fun p v b hp => Ow.tup _ _ [_, _] (fun _ _ => False) rfl (fun _ _ h => h.elim) (fun _ _ _ h => h.elim) (fun i hi => by
    have hi' : i < 2 := hi
    obtain rfl | rfl : i = 0 ∨ i = 1 := by omega
    ·exact hp
    ·exact Ow.bool _ _)
   cases o with
   | none => exact tup2 _ _ _ (agg4 0 0 0 0)
   | some x => exact tup2 _ _ _ (agg4 x.op x.a x.b x.c)
  exact key _⟩
end Av
end Go.Proofs.Ytminfkedkkkhdaa
