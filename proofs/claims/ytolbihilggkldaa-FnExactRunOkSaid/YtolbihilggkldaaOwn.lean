/-
  Threads and machines of a call's own: what a store leaves of them.
-/
import Derived.Test.YtolbihilggkldaaThLawE
namespace Go.Proofs.Ytolbihilggkldaa
open Go.RowKit

/-- the block of the threads is none of a row of numbers -/
theorem OwnThs.ne {w : World} {B base g n cap : Nat} {ts : List Bt.Th} {xs : List (Value × Value)} {u : Value} {ys : List Int} (h : OwnThs w B (.slice (some ⟨g, 0, none⟩) n cap) ts xs) (hu : IntRow w base u ys) : u.ownBlock ≠ some g := by
  obtain ⟨L, hL, _⟩ := h.row
  rcases hL.2 with ⟨e, _⟩ | ⟨g', cap', cur, e, _, hg, _⟩
  · cases e
  · injection e with e1 _ _
    injection e1 with e1
    injection e1 with e1
    subst e1
    have hu' : w.ownsRow base 3 1 u ys.length (ys.map (Value.int .i64)) := hu
    rcases hu'.2 with ⟨rfl, _⟩ | ⟨g2, cap2, cur2, rfl, _, hg2, _⟩
    · simp [Value.ownBlock]
    · intro e
      simp only [Value.ownBlock, Option.some.injEq] at e
      subst e
      rw [hg] at hg2
      injection hg2 with e2
      injection e2 with _ e3 _
      exact absurd e3 (by decide)
theorem OwnThs.len_xs {w : World} {B : Nat} {v : Value} {ts : List Bt.Th} {xs : List (Value × Value)} (h : OwnThs w B v ts xs) : xs.length = ts.length := h.len
/-- the block of the threads, if there are any -/
theorem OwnThs.form {w : World} {B : Nat} {v : Value} {ts : List Bt.Th} {xs : List (Value × Value)} (h : OwnThs w B v ts xs) (hne : 0 < ts.length) : ∃ g cap, v = .slice (some ⟨g, 0, none⟩) ts.length cap ∧ B ≤ g ∧ g < w.heap.size ∧ ts.length ≤ cap := by
  rcases h.forms with ⟨_, rfl⟩ | ⟨g, cap, e, hb, hl, hc, _⟩
  · simp at hne
  · exact ⟨g, cap, e, hb, hl, hc⟩
/-- the cells of a thread of the call's own -/
theorem OwnThs.cells {w : World} {B g n cap : Nat} {ts : List Bt.Th} {xs : List (Value × Value)} (h : OwnThs w B (.slice (some ⟨g, 0, none⟩) n cap) ts xs) {i : Nat} (hi : i < ts.length) (hi' : i < xs.length) :
    w.cell? ⟨g, i * 4, none⟩ = some (.int .i64 ts[i].pl) ∧ w.cell? ⟨g, i * 4 + 1, none⟩ = some xs[i].1 ∧ w.cell? ⟨g, i * 4 + 2, none⟩ = some xs[i].2 ∧ w.cell? ⟨g, i * 4 + 3, none⟩ = some (.int .i64 ts[i].st) := by
  obtain ⟨L, hL, h1⟩ := h.row
  have hn : n = ts.length := by
    rcases h.forms with ⟨e, _⟩ | ⟨g', cap', e, _⟩
    · cases e
    · injection e with _ e2 _
  subst hn
  have hl := hL.1
  obtain ⟨a0, a1, a2, a3⟩ := h1 i hi hi'
  refine ⟨?_, ?_, ?_, ?_⟩
  · rw [World.ownsRow.cellAt hL _ (by omega)]; exact a0
  · rw [World.ownsRow.cellAt hL _ (by omega)]; exact a1
  · rw [World.ownsRow.cellAt hL _ (by omega)]; exact a2
  · rw [World.ownsRow.cellAt hL _ (by omega)]; exact a3
theorem OwnThs.frozen {w : World} {B g n cap : Nat} {ts : List Bt.Th} {xs : List (Value × Value)} (h : OwnThs w B (.slice (some ⟨g, 0, none⟩) n cap) ts xs) (j : Nat) : w.frozen? ⟨g, j, none⟩ = false := by
  obtain ⟨L, hL, h1⟩ := h.row
  have hn : n = ts.length := by
    rcases h.forms with ⟨e, _⟩ | ⟨g', cap', e, _⟩
    · cases e
    · injection e with _ e2 _
  subst hn
  exact World.ownsRow.frozenAt hL j

/-- one cell of a thread is set, and the thread is another one -/
theorem OwnThs.set {w : World} {B g n cap : Nat} {ts : List Bt.Th} {xs : List (Value × Value)} (h : OwnThs w B (.slice (some ⟨g, 0, none⟩) n cap) ts xs) {i j : Nat} (hi : i < ts.length) (hi' : i < xs.length) (hj : j < 4) (u : Value) (t : Bt.Th) (x : Value × Value)
    (hth : ∀ L : List Value, i * 4 + 4 ≤ L.length → Th4 L (i * 4) ts[i] xs[i] → Th4 (L.set (i * 4 + j) u) (i * 4) t x)
    (hr : IntRow w B x.1 t.regs) (hs : IntRow w B x.2 t.stack) :
    OwnThs (w.setCell ⟨g, i * 4 + j, none⟩ u) B (.slice (some ⟨g, 0, none⟩) n cap) (ts.set i t) (xs.set i x) := by
  have hn : n = ts.length := by
    rcases h.forms with ⟨e, _⟩ | ⟨g', cap', e, _⟩
    · cases e
    · injection e with _ e2 _
  subst hn
  have hne : ∀ {u' : Value} {ys : List Int}, IntRow w B u' ys → IntRow (w.setCell ⟨g, i * 4 + j, none⟩ u) B u' ys := fun hu => hu.setOther u (fun b e => fun e' => h.ne hu (by rw [e, e']))
  obtain ⟨h0, ⟨L, hL, h1⟩, h2⟩ := h
  have hl := hL.1
  refine ⟨by simp [h0], ⟨L.set (i * 4 + j) u, by rw [List.length_set]; exact (hL.stored (i * 4 + j) u).1, fun k hk hk' => ?_⟩, fun k hk hk' => ?_⟩
  · simp only [List.length_set] at hk hk'
    by_cases e : i = k
    · subst e
      rw [List.getElem_set_self, List.getElem_set_self]
      exact hth L (by omega) (h1 i hi hi')
    · rw [List.getElem_set_ne e, List.getElem_set_ne e]
      obtain ⟨a0, a1, a2, a3⟩ := h1 k hk hk'
      refine ⟨?_, ?_, ?_, ?_⟩
      all_goals rw [List.getElem?_set_ne (by omega)]
      · exact a0
      · exact a1
      · exact a2
      · exact a3
  · simp only [List.length_set] at hk hk'
    by_cases e : i = k
    · subst e
      rw [List.getElem_set_self, List.getElem_set_self]
      exact ⟨hne hr, hne hs⟩
    · rw [List.getElem_set_ne e, List.getElem_set_ne e]
      exact ⟨hne (h2 k hk hk').1, hne (h2 k hk hk').2⟩
theorem OwnThs.setPl {w : World} {B g n cap : Nat} {ts : List Bt.Th} {xs : List (Value × Value)} (h : OwnThs w B (.slice (some ⟨g, 0, none⟩) n cap) ts xs) {i : Nat} (hi : i < ts.length) (q : Int) :
    OwnThs (w.setCell ⟨g, i * 4, none⟩ (.int .i64 q)) B (.slice (some ⟨g, 0, none⟩) n cap) (ts.set i ⟨q, ts[i].regs, ts[i].stack, ts[i].st⟩) xs := by
  have hi' : i < xs.length := by rw [h.len]; exact hi
  have := h.set hi hi' (j := 0) (by omega) (.int .i64 q) ⟨q, ts[i].regs, ts[i].stack, ts[i].st⟩ xs[i] (fun L hl ⟨a0, a1, a2, a3⟩ => by
    refine ⟨?_, ?_, ?_, ?_⟩
    · rw [Nat.add_zero, List.getElem?_set_self (by omega)]
    · rw [List.getElem?_set_ne (by omega)]; exact a1
    · rw [List.getElem?_set_ne (by omega)]; exact a2
    · rw [List.getElem?_set_ne (by omega)]; exact a3) (h.ints i hi hi').1 (h.ints i hi hi').2
  rw [List.set_getElem_self] at this
  exact this
theorem OwnThs.setSt {w : World} {B g n cap : Nat} {ts : List Bt.Th} {xs : List (Value × Value)} (h : OwnThs w B (.slice (some ⟨g, 0, none⟩) n cap) ts xs) {i : Nat} (hi : i < ts.length) (q : Int) :
    OwnThs (w.setCell ⟨g, i * 4 + 3, none⟩ (.int .i64 q)) B (.slice (some ⟨g, 0, none⟩) n cap) (ts.set i ⟨ts[i].pl, ts[i].regs, ts[i].stack, q⟩) xs := by
  have hi' : i < xs.length := by rw [h.len]; exact hi
  have := h.set hi hi' (j := 3) (by omega) (.int .i64 q) ⟨ts[i].pl, ts[i].regs, ts[i].stack, q⟩ xs[i] (fun L hl ⟨a0, a1, a2, a3⟩ => by
    refine ⟨?_, ?_, ?_, ?_⟩
    · rw [List.getElem?_set_ne (by omega)]; exact a0
    · rw [List.getElem?_set_ne (by omega)]; exact a1
    · rw [List.getElem?_set_ne (by omega)]; exact a2
    · rw [List.getElem?_set_self (by omega)]) (h.ints i hi hi').1 (h.ints i hi hi').2
  rw [List.set_getElem_self] at this
  exact this
theorem OwnThs.setStack {w : World} {B g n cap : Nat} {ts : List Bt.Th} {xs : List (Value × Value)} (h : OwnThs w B (.slice (some ⟨g, 0, none⟩) n cap) ts xs) {i : Nat} (hi : i < ts.length) (hi' : i < xs.length) (v : Value) (ys : List Int) (hv : IntRow w B v ys) :
    OwnThs (w.setCell ⟨g, i * 4 + 2, none⟩ v) B (.slice (some ⟨g, 0, none⟩) n cap) (ts.set i ⟨ts[i].pl, ts[i].regs, ys, ts[i].st⟩) (xs.set i (xs[i].1, v)) :=
  h.set hi hi' (j := 2) (by omega) v ⟨ts[i].pl, ts[i].regs, ys, ts[i].st⟩ (xs[i].1, v) (fun L hl ⟨a0, a1, a2, a3⟩ => by
    refine ⟨?_, ?_, ?_, ?_⟩
    · rw [List.getElem?_set_ne (by omega)]; exact a0
    · rw [List.getElem?_set_ne (by omega)]; exact a1
    · rw [List.getElem?_set_self (by omega)]
    · rw [List.getElem?_set_ne (by omega)]; exact a3) (h.ints i hi hi').1 hv
/-- the rows of numbers, that each of them is another one's -/
theorem rowsOf_length (xs : List (Value × Value)) : (rowsOf xs).length = 2 * xs.length := by
  induction xs with
  | nil => rfl
  | cons x l ih => simp only [rowsOf, List.flatMap_cons, List.length_append] at ih ⊢; simp only [List.length_cons, List.length_nil]; omega
theorem rowsOf_at {xs : List (Value × Value)} : ∀ {i : Nat} (h : i < xs.length), (rowsOf xs)[2 * i]? = some xs[i].1 ∧ (rowsOf xs)[2 * i + 1]? = some xs[i].2 := by
  induction xs with
  | nil => intro i h; simp at h
  | cons x l ih =>
    intro i h
    cases i with
    | zero => exact ⟨rfl, rfl⟩
    | succ i =>
      have := ih (i := i) (by simpa using h)
      have e : rowsOf (x :: l) = x.1 :: x.2 :: rowsOf l := rfl
      rw [e, show 2 * (i + 1) = 2 * i + 1 + 1 by omega]
      simpa using this
/-- two rows at other places share no block -/
theorem apart_at {l : List Value} (h : l.Pairwise Apart) {i j : Nat} {u v : Value} (hi : l[i]? = some u) (hj : l[j]? = some v) (hij : i ≠ j) : Apart u v := by
  obtain ⟨h1, rfl⟩ := List.getElem?_eq_some_iff.1 hi
  obtain ⟨h2, rfl⟩ := List.getElem?_eq_some_iff.1 hj
  rw [List.pairwise_iff_getElem] at h
  rcases Nat.lt_or_ge i j with h' | h'
  · exact h i j h1 h2 h'
  · exact (h j i h2 h1 (by omega)).symm
theorem Apart.keep {u v : Value} (h : Apart u v) : v.ownBlock = none ∨ v.ownBlock ≠ u.ownBlock := by
  rcases h.symm.or with e | e
  · exact .inl e
  · exact .inr e
/-- the row of a thread's registers holds other numbers -/
theorem OwnThs.regs {w w' : World} {B g n cap : Nat} {ts : List Bt.Th} {xs : List (Value × Value)} (h : OwnThs w B (.slice (some ⟨g, 0, none⟩) n cap) ts xs) (ha : (rowsOf xs).Pairwise Apart) {i : Nat} (hi : i < ts.length) (hi' : i < xs.length) (ys : List Int)
    (hg : w.grownBy w' xs[i].1.ownBlock) (hr : IntRow w' B xs[i].1 ys) :
    OwnThs w' B (.slice (some ⟨g, 0, none⟩) n cap) (ts.set i ⟨ts[i].pl, ys, ts[i].stack, ts[i].st⟩) xs := by
  have hn : n = ts.length := by
    rcases h.forms with ⟨e, _⟩ | ⟨g', cap', e, _⟩
    · cases e
    · injection e with _ e2 _
  subst hn
  have hgne := h.ne (h.ints i hi hi').1
  obtain ⟨h0, ⟨L, hL, h1⟩, h2⟩ := h
  refine ⟨by simp [h0], ⟨L, by rw [List.length_set]; exact World.ownsRow.kept hL hg (.inr (by simp only [Value.ownBlock]; exact fun e => hgne e.symm)), fun k hk hk' => ?_⟩, fun k hk hk' => ?_⟩
  · simp only [List.length_set] at hk
    by_cases e : i = k
    · subst e
      rw [List.getElem_set_self]
      exact h1 i hi hi'
    · rw [List.getElem_set_ne e]
      exact h1 k hk hk'
  · simp only [List.length_set] at hk
    obtain ⟨r0, r1⟩ := rowsOf_at hi'
    obtain ⟨q0, q1⟩ := rowsOf_at hk'
    by_cases e : i = k
    · subst e
      rw [List.getElem_set_self]
      exact ⟨hr, (h2 i hi hi').2.grown hg (apart_at ha r0 r1 (by omega)).keep⟩
    · rw [List.getElem_set_ne e]
      exact ⟨(h2 k hk hk').1.grown hg (apart_at ha r0 q0 (by omega)).keep, (h2 k hk hk').2.grown hg (apart_at ha r0 q1 (by omega)).keep⟩
/-- the row of a thread's stack holds other numbers -/
theorem OwnThs.stack {w w' : World} {B g n cap : Nat} {ts : List Bt.Th} {xs : List (Value × Value)} (h : OwnThs w B (.slice (some ⟨g, 0, none⟩) n cap) ts xs) (ha : (rowsOf xs).Pairwise Apart) {i : Nat} (hi : i < ts.length) (hi' : i < xs.length) (ys : List Int)
    (hg : w.grownBy w' xs[i].2.ownBlock) (hr : IntRow w' B xs[i].2 ys) :
    OwnThs w' B (.slice (some ⟨g, 0, none⟩) n cap) (ts.set i ⟨ts[i].pl, ts[i].regs, ys, ts[i].st⟩) xs := by
  have hn : n = ts.length := by
    rcases h.forms with ⟨e, _⟩ | ⟨g', cap', e, _⟩
    · cases e
    · injection e with _ e2 _
  subst hn
  have hgne := h.ne (h.ints i hi hi').2
  obtain ⟨h0, ⟨L, hL, h1⟩, h2⟩ := h
  refine ⟨by simp [h0], ⟨L, by rw [List.length_set]; exact World.ownsRow.kept hL hg (.inr (by simp only [Value.ownBlock]; exact fun e => hgne e.symm)), fun k hk hk' => ?_⟩, fun k hk hk' => ?_⟩
  · simp only [List.length_set] at hk
    by_cases e : i = k
    · subst e
      rw [List.getElem_set_self]
      exact h1 i hi hi'
    · rw [List.getElem_set_ne e]
      exact h1 k hk hk'
  · simp only [List.length_set] at hk
    obtain ⟨r0, r1⟩ := rowsOf_at hi'
    obtain ⟨q0, q1⟩ := rowsOf_at hk'
    by_cases e : i = k
    · subst e
      rw [List.getElem_set_self]
      exact ⟨(h2 i hi hi').1.grown hg (apart_at ha r1 r0 (by omega)).keep, hr⟩
    · rw [List.getElem_set_ne e]
      exact ⟨(h2 k hk hk').1.grown hg (apart_at ha r1 q0 (by omega)).keep, (h2 k hk hk').2.grown hg (apart_at ha r1 q1 (by omega)).keep⟩

/-- between two worlds only blocks from lo on and below hi have turned -/
structure Within (lo hi : Nat) (w w' : World) : Prop where
  os : w'.os = w.os
  tape : w'.tape = w.tape
  output : w'.output = w.output
  size : w.heap.size ≤ w'.heap.size
  block : ∀ k, k < w.heap.size → (k < lo ∨ hi ≤ k) → w'.heap[k]? = w.heap[k]?
theorem Within.refl (lo hi : Nat) (w : World) : Within lo hi w w := ⟨rfl, rfl, rfl, Nat.le_refl _, fun _ _ _ => rfl⟩
theorem Within.trans {lo hi : Nat} {a b c : World} (h : Within lo hi a b) (k : Within lo hi b c) : Within lo hi a c :=
  ⟨k.os.trans h.os, k.tape.trans h.tape, k.output.trans h.output, Nat.le_trans h.size k.size, fun i hi' hr => (k.block i (Nat.lt_of_lt_of_le hi' h.size) hr).trans (h.block i hi' hr)⟩
theorem Within.of_grown {lo hi : Nat} {w w' : World} {row : Option Nat} (h : w.grownBy w' row) (hr : ∀ k, row = some k → lo ≤ k ∧ k < hi) : Within lo hi w w' :=
  ⟨h.os, h.tape, h.output, h.size, fun k hk hrk => h.block k hk (fun e => by have := hr k e.symm; omega)⟩
theorem Within.of_below {lo hi : Nat} {w w' : World} (h : Below w.heap.size w w') : Within lo hi w w' := ⟨h.os, h.tape, h.output, h.size, fun k hk _ => h.block k hk⟩
theorem Within.set {lo hi : Nat} {w w' : World} (h : Within lo hi w w') {p : Addr} (h1 : lo ≤ p.block) (h2 : p.block < hi) (u : Value) : Within lo hi w (w'.setCell p u) :=
  ⟨h.os, h.tape, h.output, by simpa [World.setCell] using h.size, fun k hk hr => (Below.heap_setCell w' p u k (by omega)).trans (h.block k hk hr)⟩
theorem Within.below {lo hi : Nat} {w w' : World} (h : Within lo hi w w') : Below lo w w' ∨ w.heap.size < lo := by
  by_cases hl : w.heap.size < lo
  · exact .inr hl
  · exact .inl ⟨h.os, h.tape, h.output, h.size, fun k hk => h.block k (by omega) (.inl hk)⟩
theorem IntRow.within {w w' : World} {lo hi base : Nat} {v : Value} {xs : List Int} (h : IntRow w base v xs) (hw : Within lo hi w w') (hv : ∀ k, v.ownBlock = some k → k < lo ∨ hi ≤ k) : IntRow w' base v xs := by
  have h' : w.ownsRow base 3 1 v xs.length (xs.map (Value.int .i64)) := h
  refine ⟨h'.1, ?_⟩
  rcases h'.2 with ⟨rfl, h0⟩ | ⟨g, cap, cur, rfl, hb, hg, hn, hm, hs, ht⟩
  · exact .inl ⟨rfl, h0⟩
  · refine .inr ⟨g, cap, cur, rfl, hb, ?_, hn, hm, hs, ht⟩
    rw [hw.block g (Array.getElem?_eq_some_iff.1 hg).1 (hv g rfl)]
    exact hg
/-- between two worlds only blocks of these values have turned -/
structure Only (S : List Value) (w w' : World) : Prop where
  os : w'.os = w.os
  tape : w'.tape = w.tape
  output : w'.output = w.output
  size : w.heap.size ≤ w'.heap.size
  block : ∀ k, k < w.heap.size → (∀ u ∈ S, u.ownBlock ≠ some k) → w'.heap[k]? = w.heap[k]?
theorem Only.refl (S : List Value) (w : World) : Only S w w := ⟨rfl, rfl, rfl, Nat.le_refl _, fun _ _ _ => rfl⟩
theorem Only.trans {S : List Value} {a b c : World} (h : Only S a b) (k : Only S b c) : Only S a c :=
  ⟨k.os.trans h.os, k.tape.trans h.tape, k.output.trans h.output, Nat.le_trans h.size k.size, fun i hi' hr => (k.block i (Nat.lt_of_lt_of_le hi' h.size) hr).trans (h.block i hi' hr)⟩
theorem Only.of_grown {S : List Value} {w w' : World} {u : Value} (h : w.grownBy w' u.ownBlock) (hu : u ∈ S) : Only S w w' :=
  ⟨h.os, h.tape, h.output, h.size, fun k hk hrk => h.block k hk (fun e => hrk u hu e.symm)⟩
theorem Only.of_below {S : List Value} {w w' : World} (h : Below w.heap.size w w') : Only S w w' := ⟨h.os, h.tape, h.output, h.size, fun k hk _ => h.block k hk⟩
theorem Only.mono {S S' : List Value} {w w' : World} (h : Only S w w') (hs : ∀ u ∈ S, u ∈ S') : Only S' w w' := ⟨h.os, h.tape, h.output, h.size, fun k hk hr => h.block k hk (fun u hu => hr u (hs u hu))⟩
theorem Only.set {S : List Value} {w w' : World} (h : Only S w w') {p : Addr} {v : Value} (hv : v ∈ S) (hp : v.ownBlock = some p.block) (u : Value) : Only S w (w'.setCell p u) :=
  ⟨h.os, h.tape, h.output, by simpa [World.setCell] using h.size, fun k hk hr => (Below.heap_setCell w' p u k (fun e => hr v hv (by rw [hp, e]))).trans (h.block k hk hr)⟩
theorem Only.within {S : List Value} {lo hi : Nat} {w w' : World} (h : Only S w w') (hs : ∀ u ∈ S, ∀ k, u.ownBlock = some k → lo ≤ k ∧ k < hi) : Within lo hi w w' :=
  ⟨h.os, h.tape, h.output, h.size, fun k hk hr => h.block k hk (fun u hu e => by have := hs u hu k e; omega)⟩
theorem Only.below {S : List Value} {lo : Nat} {w w' : World} (h : Only S w w') (hs : ∀ u ∈ S, ∀ k, u.ownBlock = some k → lo ≤ k) (hl : lo ≤ w.heap.size) : Below lo w w' :=
  ⟨h.os, h.tape, h.output, h.size, fun k hk => h.block k (by omega) (fun u hu e => by have := hs u hu k e; omega)⟩
theorem IntRow.only {w w' : World} {S : List Value} {base : Nat} {v : Value} {xs : List Int} (h : IntRow w base v xs) (hw : Only S w w') (hv : ∀ u ∈ S, Apart u v) : IntRow w' base v xs := by
  have h' : w.ownsRow base 3 1 v xs.length (xs.map (Value.int .i64)) := h
  refine ⟨h'.1, ?_⟩
  rcases h'.2 with ⟨rfl, h0⟩ | ⟨g, cap, cur, rfl, hb, hg, hn, hm, hs, ht⟩
  · exact .inl ⟨rfl, h0⟩
  · refine .inr ⟨g, cap, cur, rfl, hb, ?_, hn, hm, hs, ht⟩
    rw [hw.block g (Array.getElem?_eq_some_iff.1 hg).1 (fun u hu e => hv u hu g e rfl)]
    exact hg
theorem OwnThs.only {w w' : World} {S : List Value} {B : Nat} {v : Value} {ts : List Bt.Th} {xs : List (Value × Value)} (h : OwnThs w B v ts xs) (hw : Only S w w') (hv : ∀ u ∈ S, Apart u v) (hx : ∀ u ∈ S, ∀ x ∈ rowsOf xs, Apart u x) : OwnThs w' B v ts xs := by
  obtain ⟨h0, ⟨L, hL, h1⟩, h2⟩ := h
  refine ⟨h0, ⟨L, ⟨hL.1, ?_⟩, h1⟩, fun i hi hi' => ?_⟩
  · rcases hL.2 with ⟨rfl, h0⟩ | ⟨g, cap, cur, rfl, hb, hg, hn, hm, hs, ht⟩
    · exact .inl ⟨rfl, h0⟩
    · refine .inr ⟨g, cap, cur, rfl, hb, ?_, hn, hm, hs, ht⟩
      rw [hw.block g (Array.getElem?_eq_some_iff.1 hg).1 (fun u hu e => hv u hu g e rfl)]
      exact hg
  · obtain ⟨r0, r1⟩ := rowsOf_at hi'
    exact ⟨(h2 i hi hi').1.only hw (fun u hu => hx u hu _ (List.mem_of_getElem? r0)), (h2 i hi hi').2.only hw (fun u hu => hx u hu _ (List.mem_of_getElem? r1))⟩
/-- the threads' block is apart from each row of numbers -/
theorem OwnThs.apart {w : World} {B base : Nat} {v : Value} {ts : List Bt.Th} {xs : List (Value × Value)} {u : Value} {ys : List Int} (h : OwnThs w B v ts xs) (hu : IntRow w base u ys) : Apart v u := by
  rcases h.forms with ⟨rfl, _⟩ | ⟨g, cap, rfl, _⟩
  · intro b e; simp [Value.ownBlock] at e
  · intro b e e'
    simp only [Value.ownBlock, Option.some.injEq] at e
    subst e
    exact h.ne hu e'
end Go.Proofs.Ytolbihilggkldaa
