/-
  Machines of a row that the call made are moved into marks: what is known on the way, one mark more, and what is handed back.
-/
import Derived.Test.YtbkbppllcjcmhaaAvD
import Derived.Test.YtbkbppllcjcmhaaTy
import Derived.Test.YtbkbppllcjcmhaaTab
set_option linter.unusedSimpArgs false
set_option linter.unusedVariables false
namespace Go.Proofs.Ytbkbppllcjcmhaa
open Go.RowKit
namespace Av
theorem infoMk : (Try.prog.info? 118).map (fun i => (i.zero, i.size, i.bytes)) = some (some (.agg #[.int .i64 0, .slice none 0 0, .slice none 0 0, .slice none 0 0, .slice none 0 0] : Value), 5, 104) := by kernel_rfl
theorem cells5 : Try.prog.cellsOf 118 = 5 := by kernel_rfl
theorem cells4 : Try.prog.cellsOf 41 = 4 := by kernel_rfl
/-- the cells of a mark at a place, with the machine's cells out of a row -/
def mvCells (f : Nat → Value) (j : Nat) : List Value := [.int .i64 j, f (j * 4), f (j * 4 + 1), f (j * 4 + 2), f (j * 4 + 3)]
/-- marks under way: the row, its cells, and what is as it was -/
structure MvAcc (w0 : World) (nc n1 : Nat) (w1 wr : World) (o : Value) (f : Nat → Value) (js : List Nat) : Prop where
  row : wr.ownsRow w0.heap.size 118 5 o js.length (js.flatMap (mvCells f))
  apart : ∀ g, o.ownBlock = some g → g < nc ∨ n1 ≤ g
  size : n1 ≤ wr.heap.size
  same : ∀ g, nc ≤ g → g < n1 → wr.heap[g]? = w1.heap[g]?
  below : Below w0.heap.size w0 wr
section
variable {w0 w1 wr w' : World} {nc n1 : Nat} {o o' : Value} {f : Nat → Value} {js : List Nat}
theorem MvAcc.keep (h : MvAcc w0 nc n1 w1 wr o f js) (hb : Below wr.heap.size wr w') : MvAcc w0 nc n1 w1 w' o f js := by
  refine ⟨h.row.kept (row := none) ⟨hb.os, hb.tape, hb.output, hb.size, fun k hk _ => hb.block k hk⟩ (by cases o.ownBlock <;> simp), h.apart, Nat.le_trans h.size hb.size, fun g h1 h2 => ?_, h.below.trans (hb.mono h.below.size)⟩
  rw [hb.block g (Nat.lt_of_lt_of_le h2 h.size)]
  exact h.same g h1 h2
theorem MvAcc.cell (h : MvAcc w0 nc n1 w1 wr o f js) {g k : Nat} {u : Value} (h1 : nc ≤ g) (h2 : g < n1) (hc : w1.cell? ⟨g, k, none⟩ = some u) : wr.cell? ⟨g, k, none⟩ = some u :=
  (World.cell?_of_block (a := ⟨g, k, none⟩) (h.same g h1 h2)).trans hc
theorem MvAcc.more {j : Nat} (h : MvAcc w0 nc n1 w1 wr o f js) (hr : w'.ownsRow w0.heap.size 118 5 o' (js.length + 1) (js.flatMap (mvCells f) ++ mvCells f j)) (hg : wr.grownBy w' o.ownBlock) (ho : o'.ownBlock = o.ownBlock ∨ ∃ g, o'.ownBlock = some g ∧ wr.heap.size ≤ g ∧ g < w'.heap.size) : MvAcc w0 nc n1 w1 w' o' f (js ++ [j]) := by
  have hw0 : ∀ g, o.ownBlock = some g → w0.heap.size ≤ g := fun g e => (h.row.lt g e).1
  have hs := h.size
  refine ⟨by simpa using hr, fun g e => ?_, Nat.le_trans h.size hg.size, fun g h2 h3 => ?_, ?_⟩
  · rcases ho with ho | ⟨g', ho, h4, _⟩
    · exact h.apart g (by rw [← ho]; exact e)
    · rw [ho] at e; injection e with e; right; omega
  · rw [hg.block g (by omega) (fun e => by have := h.apart g e.symm; omega)]
    exact h.same g h2 h3
  · exact h.below.trans ⟨hg.os, hg.tape, hg.output, hg.size, fun b hb1 => hg.block b (by have := h.below.size; omega) (fun e => by have := hw0 b e.symm; omega)⟩
theorem MvAcc.form (h : MvAcc w0 nc n1 w1 wr o f js) : ∃ A c, o = .slice A js.length c := by
  rcases h.row.2 with ⟨e, h0⟩ | ⟨g', cap, _, e, _⟩
  · exact ⟨none, 0, by rw [e, h0]⟩
  · exact ⟨_, _, e⟩
theorem mv_at (f : Nat → Value) : ∀ (js : List Nat) (i c : Nat) (hi : i < js.length) (_ : c < 5), (js.flatMap (mvCells f))[i * 5 + c]? = (mvCells f js[i])[c]?
  | [], i, c, hi, _ => absurd hi (Nat.not_lt_zero _)
  | j :: js, 0, c, hi, hc => by
    rw [List.flatMap_cons, List.getElem?_append_left (by simp [mvCells]; omega)]
    simp
  | j :: js, i + 1, c, hi, hc => by
    rw [List.flatMap_cons, List.getElem?_append_right (by simp [mvCells]; omega)]
    have e : (i + 1) * 5 + c - (mvCells f j).length = i * 5 + c := by simp [mvCells]; omega
    rw [e, mv_at f js i c (by simpa using hi) hc]
    rfl
/-- what is handed back: each machine is in one mark only -/
theorem MvAcc.ow {rows : List (List PV)} (h : MvAcc w0 nc n1 w1 wr o f js) (hw : n1 = w1.heap.size) (hn0 : w0.heap.size ≤ nc) {T2 : Nat → Nat → Prop} (hs : ∀ r ∈ rows, r.length = 4) (hT : ∀ k g, T2 k g → nc ≤ g ∧ g < n1)
    (hd : ∀ k k' g, T2 k g → T2 k' g → k = k') (hr : ∀ i (hi : i < rows.length) j (hj : j < rows[i].length), Ow Try.prog w1 (T2 (i * 4 + j)) rows[i][j] (f (i * 4 + j))) (hjs : js.Nodup) (hlt : ∀ j ∈ js, j < rows.length) :
    Ow Try.prog wr (fun g => w0.heap.size ≤ g ∧ g < wr.heap.size) (.lst 118 (js.map fun (j : Nat) => pI (j : Int) :: (rows[j]?).getD [])) o := by
  have hjl : ∀ i (hi : i < js.length), js[i] < rows.length := fun i hi => hlt _ (List.getElem_mem hi)
  have hrow : ∀ i (hi : i < js.length), (rows[js[i]]?).getD [] = rows[js[i]]'(hjl i hi) := fun i hi => by rw [List.getElem?_eq_getElem (hjl i hi)]; rfl
  have hlen : ∀ i (hi : i < js.length), (rows[js[i]]'(hjl i hi)).length = 4 := fun i hi => hs _ (List.getElem_mem _)
  refine Ow.lst _ _ _ _ (js.flatMap (mvCells f)) (fun k => ((js.flatMap (mvCells f))[k]?).getD default) (fun k g => k % 5 ≠ 0 ∧ ∃ hk : k / 5 < js.length, T2 (js[k / 5] * 4 + (k % 5 - 1)) g) ?_ ?_ ?_ ?_ ?_ ?_ ?_
  · rw [cells5, List.length_map]
    exact ⟨h.row.1, by
      rcases h.row.2 with h0 | ⟨g, cap, cur, hv, hbb, rest⟩
      · exact .inl h0
      · exact .inr ⟨g, cap, cur, hv, Nat.zero_le _, rest⟩⟩
  · intro r hr
    obtain ⟨j, hj, rfl⟩ := List.mem_map.1 hr
    rw [cells5, List.length_cons, List.getElem?_eq_getElem (hlt j hj)]
    show (rows[j]'(hlt j hj)).length + 1 = 5
    rw [hs _ (List.getElem_mem _)]
  · exact fun g e => h.row.lt g e
  · rintro k g ⟨_, hk, ht⟩
    have h1 := hT _ _ ht
    have h2 := h.size
    exact ⟨⟨by omega, by omega⟩, fun e => by have := h.apart g e; omega⟩
  · rintro k k' g ⟨a1, hk, ht⟩ ⟨a2, hk', ht'⟩
    have e := hd _ _ _ ht ht'
    have e1 : js[k / 5] = js[k' / 5] := by omega
    have e2 : k / 5 = k' / 5 := (List.getElem_inj hjs).1 e1
    omega
  · intro k hk
    rw [cells5, List.length_map] at hk
    have : k < (js.flatMap (mvCells f)).length := by rw [h.row.1]; exact hk
    rw [List.getElem?_eq_getElem this]
    rfl
  · intro i hi j hj
    rw [List.length_map] at hi
    simp only [List.getElem_map] at hj ⊢
    have hj5 : j < 5 := by
      rw [List.length_cons, hrow i hi, hlen i hi] at hj
      omega
    have hv := mv_at f js i j hi hj5
    rw [cells5]
    have hx : ((js.flatMap (mvCells f))[i * 5 + j]?).getD default = ((mvCells f js[i])[j]?).getD default := by rw [hv]
    simp only [hx]
    match j, hj, hj5 with
    | 0, _, _ => exact .int _ _ _
    | j + 1, hj, hj5 =>
      have hj4 : j < (rows[js[i]]'(hjl i hi)).length := by rw [hlen i hi]; omega
      have key := hr js[i] (hjl i hi) j hj4
      have hfv : ((mvCells f js[i])[j + 1]?).getD default = f (js[i] * 4 + j) := by
        match j, hj5 with
        | 0, _ => rfl
        | 1, _ => rfl
        | 2, _ => rfl
        | 3, _ => rfl
      rw [hfv]
      have hp : (pI (js[i] : Int) :: (rows[js[i]]?).getD [])[j + 1]'hj = (rows[js[i]]'(hjl i hi))[j] := by
        simp only [List.getElem_cons_succ]
        congr 1
        exact hrow i hi
      rw [hp]
      refine (key.keep (fun g hg hlt => h.same g (hT _ _ hg).1 (hT _ _ hg).2)).mono (fun g hg => ⟨by omega, ?_⟩)
      have e5 : (i * 5 + (j + 1)) / 5 = i := by omega
      have e6 : (i * 5 + (j + 1)) % 5 - 1 = j := by omega
      refine ⟨by rw [e5]; exact hi, ?_⟩
      simp only [e5, e6]
      exact hg
end
/-- one mark more -/
theorem wp_app_mk {ops : Array Oper} {rest : List Oper} {o : Oper} {a : Act} {Q : Exit → Act → World → Prop} {w : World} (hgd : o.guard = none) (s x : Operand)
    (ho : o.op = .call { callee := .builtin .append, args := #[s, x], argTypes := #[71, 71] }) (B : Nat) (v : Value) (n : Nat) (xs : List Value) (hs : a.eval s = v) (hown : w.ownsRow B 118 5 v n xs)
    (g c : Nat) (u0 u1 u2 u3 u4 : Value) (hx : a.eval x = .slice (some ⟨g, 0, none⟩) 1 c) (h0 : w.cell? ⟨g, 0, none⟩ = some u0) (h1 : w.cell? ⟨g, 1, none⟩ = some u1) (h2 : w.cell? ⟨g, 2, none⟩ = some u2) (h3 : w.cell? ⟨g, 3, none⟩ = some u3) (h4 : w.cell? ⟨g, 4, none⟩ = some u4)
    (hone : ∀ u ∈ [u0, u1, u2, u3, u4], u.oneCell' = true) (hlen : n ≤ 1048576) (hB : B ≤ w.heap.size)
    (h : ∀ v' w', w'.ownsRow B 118 5 v' (n + 1) (xs ++ [u0, u1, u2, u3, u4]) → w.grownBy w' v.ownBlock → (v'.ownBlock = v.ownBlock ∨ ∃ g, v'.ownBlock = some g ∧ w.heap.size ≤ g ∧ g < w'.heap.size) → wpList Try.prog ops Q rest (a.put o.dst v') w') : wpList Try.prog ops Q (o :: rest) a w := by
  obtain ⟨i, hi, hz⟩ := Option.map_eq_some_iff.1 infoMk
  simp only [Prod.mk.injEq] at hz
  obtain ⟨hz, hsz, hby⟩ := hz
  refine wpList_plain hgd fun K hK => ?_
  obtain ⟨v', w', hr, r1, r2, r3⟩ := run_app (P := Try.prog) (w := w) (base := B) (t := 71) (ty := o.type) (e := 118) (i := i) (by kernel_rfl) hi hz (by rw [hsz]; rfl) (by rw [hsz]; decide) (v := v) (n := n) (xs := xs) (by rw [hsz]; exact hown) ⟨g, 0, none⟩ 1 c [u0, u1, u2, u3, u4] (by rw [hsz]; rfl) (fun j u hu => by
    rw [add_plain, Nat.zero_add]
    match j, hu with
    | 0, hu => simp at hu; subst hu; exact h0
    | 1, hu => simp at hu; subst hu; exact h1
    | 2, hu => simp at hu; subst hu; exact h2
    | 3, hu => simp at hu; subst hu; exact h3
    | 4, hu => simp at hu; subst hu; exact h4
    | j + 5, hu => simp at hu) hone (by unfold maxLen; omega) (by rw [hby]; omega) hB
  rw [hsz] at r1
  unfold Oper.wp execOp
  simp only [ho, resolve, invoke, builtin, Sem.run_bind, Sem.run_pure, Result.andThen_ok, List.map_toArray, List.map_cons, List.map_nil, hs, hx, hr]
  exact hK _ _ (h v' w' r1 r2 r3)
end Av
end Go.Proofs.Ytbkbppllcjcmhaa
