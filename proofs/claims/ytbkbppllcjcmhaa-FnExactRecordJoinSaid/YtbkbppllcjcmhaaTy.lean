/-
  What a law's own helpers do with values told plainly: marks, and the memory that they are written to. No function of the program is named here.
-/
import Derived.Test.YtbkbppllcjcmhaaTab
import Derived.Deep.Heap
set_option linter.unusedSimpArgs false
set_option linter.unusedVariables false
namespace Go.Proofs.Ytbkbppllcjcmhaa
open Go.RowKit
namespace Av

/-- the machine that laws run on -/
noncomputable def EL : Tab := ⟨Try.prog, tb, tb_fits, true, false⟩
theorem el_tb : (∀ t : TypeId, EL.tb t = E.tb t) ∧ EL.wr = false := ⟨fun _ => rfl, rfl⟩
/-- a function's machine, that tells sums wrapped -/
noncomputable def EW : Tab := ⟨Try.prog, tb, tb_fits, false, true⟩
theorem ew_tb : (∀ t : TypeId, EW.tb t = E.tb t) ∧ EW.wr = true := ⟨fun _ => rfl, rfl⟩
theorem mixedW : EW.P.follows .mixedOrders = true := by kernel_rfl
theorem mixedL : EL.P.follows .mixedOrders = true := by kernel_rfl
def pI (n : Int) : PV := .int .i64 n
mutual
/-- marks, from a number on, and the number behind them -/
def mkP : PV → Int → PV × Int
  | .int k' _, k => (.int k' k, k + 1)
  | .bool _, k => (.bool (k.tmod 3 == 0), k + 1)
  | .lst e rows, k => (.lst e (mkR rows k).1, (mkR rows k).2)
  | p, k => (p, k)
def mkL : List PV → Int → List PV × Int
  | [], k => ([], k)
  | p :: l, k => ((mkP p k).1 :: (mkL l (mkP p k).2).1, (mkL l (mkP p k).2).2)
def mkR : List (List PV) → Int → List (List PV) × Int
  | [], k => ([], k)
  | r :: l, k => ((mkL r k).1 :: (mkR l (mkL r k).2).1, (mkR l (mkL r k).2).2)
end
theorem mkR_snoc (r : List PV) : ∀ (l : List (List PV)) (k : Int), mkR (l ++ [r]) k = ((mkR l k).1 ++ [(mkL r (mkR l k).2).1], (mkL r (mkR l k).2).2)
  | [], k => by simp [mkR]
  | x :: l, k => by simp [mkR, mkR_snoc r l]
theorem mkR_len : ∀ (l : List (List PV)) (k : Int), (mkR l k).1.length = l.length
  | [], _ => rfl
  | r :: l, k => by simp [mkR, mkR_len l]
theorem mkR_take {l : List (List PV)} {m : Nat} {r : List PV} {k : Int} (h : l[m]? = some r) : mkR (l.take (m + 1)) k = ((mkR (l.take m) k).1 ++ [(mkL r (mkR (l.take m) k).2).1], (mkL r (mkR (l.take m) k).2).2) := by
  obtain ⟨hm, rfl⟩ := List.getElem?_eq_some_iff.1 h
  rw [List.take_succ_eq_append_getElem hm, mkR_snoc]
/-- marks lie one behind the other -/
theorem mkR_at : ∀ {l : List (List PV)} {m : Nat} {r : List PV} {k : Int}, l[m]? = some r → (mkR l k).1[m]? = some (mkL r (mkR (l.take m) k).2).1
  | [], _, _, _, h => by simp at h
  | x :: l, 0, r, k, h => by
    obtain rfl : x = r := by simpa using h
    simp [mkR]
  | x :: l, m + 1, r, k, h => by
    have := mkR_at (l := l) (m := m) (r := r) (k := (mkL x k).2) (by simpa using h)
    simpa [mkR] using this
theorem drop_at {l : List (List PV)} {m : Nat} {r : List PV} (h : l[m]? = some r) : l.drop m = r :: l.drop (m + 1) := by
  obtain ⟨hm, rfl⟩ := List.getElem?_eq_some_iff.1 h
  exact List.drop_eq_getElem_cons hm
mutual
theorem mkP_le : ∀ (p : PV) (k : Int), k ≤ (mkP p k).2
  | .int _ _, k => by simp [mkP]; omega
  | .bool _, k => by simp [mkP]; omega
  | .lst e rows, k => mkR_le rows k
  | .str _, k => Int.le_refl _
  | .agg _, k => Int.le_refl _
  | .tup _, k => Int.le_refl _
theorem mkL_le : ∀ (l : List PV) (k : Int), k ≤ (mkL l k).2
  | [], k => Int.le_refl _
  | p :: l, k => Int.le_trans (mkP_le p k) (mkL_le l _)
theorem mkR_le : ∀ (l : List (List PV)) (k : Int), k ≤ (mkR l k).2
  | [], k => Int.le_refl _
  | r :: l, k => Int.le_trans (mkL_le r k) (mkR_le l _)
end
theorem mkR_append : ∀ (a b : List (List PV)) (k : Int), (mkR (a ++ b) k).2 = (mkR b (mkR a k).2).2
  | [], b, k => rfl
  | r :: a, b, k => by simp [mkR, mkR_append a b]
theorem mkR_mono (l : List (List PV)) (m : Nat) (k : Int) : (mkR (l.take m) k).2 ≤ (mkR l k).2 := by
  have h := mkR_append (l.take m) (l.drop m) k
  rw [List.take_append_drop] at h
  rw [h]
  exact mkR_le _ _

mutual
/-- how many marks are in a value -/
def cntP : PV → Nat
  | .int _ _ => 1
  | .bool _ => 1
  | .lst _ rows => cntR rows
  | _ => 0
def cntL : List PV → Nat
  | [] => 0
  | p :: l => cntP p + cntL l
def cntR : List (List PV) → Nat
  | [] => 0
  | r :: l => cntL r + cntR l
end
mutual
theorem mkP_cnt : ∀ (p : PV) (k : Int), (mkP p k).2 = k + cntP p
  | .int _ _, k => by simp [mkP, cntP]
  | .bool _, k => by simp [mkP, cntP]
  | .lst e rows, k => by simp [mkP, cntP, mkR_cnt rows]
  | .str _, k => by simp [mkP, cntP]
  | .agg _, k => by simp [mkP, cntP]
  | .tup _, k => by simp [mkP, cntP]
theorem mkL_cnt : ∀ (l : List PV) (k : Int), (mkL l k).2 = k + cntL l
  | [], k => by simp [mkL, cntL]
  | p :: l, k => by simp [mkL, cntL, mkL_cnt l, mkP_cnt p]; omega
theorem mkR_cnt : ∀ (l : List (List PV)) (k : Int), (mkR l k).2 = k + cntR l
  | [], k => by simp [mkR, cntR]
  | r :: l, k => by simp [mkR, cntR, mkR_cnt l, mkL_cnt r]; omega
end
theorem cntR_le {B : Nat} : ∀ (l : List (List PV)) (_ : ∀ r ∈ l, cntL r ≤ B), cntR l ≤ l.length * B
  | [], _ => by simp [cntR]
  | r :: l, h => by
    have h1 := h r (List.mem_cons_self ..)
    have h2 := cntR_le l (fun x hx => h x (List.mem_cons_of_mem _ hx))
    simp only [cntR, List.length_cons, Nat.add_mul, Nat.one_mul]
    omega
theorem Turned.refl (Q : Nat → Prop) (w : World) : Turned Q w w := ⟨rfl, rfl, rfl, Nat.le_refl _, fun _ _ _ => rfl⟩
theorem Turned.trans {Q : Nat → Prop} {w w1 w2 : World} (h : Turned Q w w1) (h' : Turned Q w1 w2) : Turned Q w w2 :=
  ⟨h'.os.trans h.os, h'.tape.trans h.tape, h'.output.trans h.output, Nat.le_trans h.size h'.size, fun b hb hq => (h'.block b (Nat.lt_of_lt_of_le hb h.size) hq).trans (h.block b hb hq)⟩
theorem Turned.mono {Q Q' : Nat → Prop} {w w' : World} (h : Turned Q w w') (hq : ∀ g, Q g → g < w.heap.size → Q' g) : Turned Q' w w' := ⟨h.os, h.tape, h.output, h.size, fun b hb hn => h.block b hb (fun hh => hn (hq b hh hb))⟩
theorem Turned.set {Q : Nat → Prop} {w : World} {a : Addr} (hq : Q a.block) (u : Value) : Turned Q w (w.setCell a u) :=
  ⟨rfl, rfl, rfl, by simp [World.setCell], fun b hb hn => Below.heap_setCell w a u b (fun e => hn (e ▸ hq))⟩
theorem Turned.cell {Q : Nat → Prop} {w w' : World} (h : Turned Q w w') {a : Addr} {x : Value} (ha : a.block < w.heap.size) (hq : ¬ Q a.block) (hc : w.cell? a = some x) : w'.cell? a = some x := by
  rw [World.cell?_of_block (h.block _ ha hq)]
  exact hc
theorem cell_set_far {w : World} {g i j : Nat} (u : Value) (h : i ≠ j) : (w.setCell ⟨g, i, none⟩ u).cell? ⟨g, j, none⟩ = w.cell? ⟨g, j, none⟩ := by
  go_simp
theorem Turned.ow {Q S : Nat → Prop} {w w' : World} {P : Program} {p : PV} {v : Value} (h : Turned Q w w') (ho : Ow P w S p v) (hd : ∀ g, S g → ¬ Q g) : Ow P w' S p v := ho.keep (fun g hg hlt => h.block g hlt (hd g hg))
section
variable {P : Program} {w w' : World} {S : Nat → Prop}
theorem Ow.lt {p : PV} {v : Value} (h : Ow P w S p v) : Ow P w (fun g => S g ∧ g < w.heap.size) p v := by
  induction h with
  | int S k n => exact .int _ k n
  | bool S b => exact .bool _ b
  | str S s => exact .str _ s
  | lst S e rows v xs f T ho hs hS hT hd hf hr ih =>
    refine .lst _ e rows v xs f (fun k g => T k g ∧ g < w.heap.size) ho hs (fun g hg => ⟨hS g hg, ?_⟩) (fun k g hg => ⟨⟨(hT k g hg.1).1, hg.2⟩, (hT k g hg.1).2⟩) (fun k k' g h1 h2 => hd k k' g h1.1 h2.1) hf ih
    exact (World.ownsRow.lt ho g hg).2
  | agg S cs vs T hl hT hd h ih => exact .agg _ cs vs _ hl (fun k g hg => ⟨hT k g hg.1, hg.2⟩) (fun k k' g h1 h2 => hd k k' g h1.1 h2.1) ih
  | tup S cs vs T hl hT hd h ih => exact .tup _ cs vs _ hl (fun k g hg => ⟨hT k g hg.1, hg.2⟩) (fun k k' g h1 h2 => hd k k' g h1.1 h2.1) ih
theorem Ow.forms {e : TypeId} {rows : List (List PV)} {v : Value} (h : Ow P w S (.lst e rows) v) : (v = .slice none 0 0 ∧ rows = []) ∨ ∃ g cap, v = .slice (some ⟨g, 0, none⟩) rows.length cap ∧ rows.length ≤ cap ∧ S g ∧ g < w.heap.size ∧ (∀ i, w.frozen? ⟨g, i, none⟩ = false) ∧ ∀ r ∈ rows, r.length = P.cellsOf e := by
  cases h with
  | lst _ _ _ _ xs f T ho hs hS hT hd hf hr =>
    have ho' := ho
    rcases ho.2 with ⟨h1, h2⟩ | ⟨g, cap, cur, hv, hb, hg, hn, _⟩
    · exact .inl ⟨h1, List.eq_nil_of_length_eq_zero h2⟩
    · subst hv
      exact .inr ⟨g, cap, rfl, hn, hS g rfl, (Array.getElem?_eq_some_iff.1 hg).1, fun i => World.ownsRow.frozenAt ho' i, hs⟩
/-- a cell of a row, and what becomes of the row when the cell's own memory turns -/
theorem Ow.cellAt {e : TypeId} {A l : List (List PV)} {r : List PV} {g n cap m j : Nat} (h : Ow P w S (.lst e (A ++ r :: l)) (.slice (some ⟨g, 0, none⟩) n cap)) (hA : A.length = m) {p : PV} (hj : r[j]? = some p) :
    ∃ x, w.cell? ⟨g, m * P.cellsOf e + j, none⟩ = some x ∧ ∃ T, Ow P w T p x ∧ (∀ b, T b → S b ∧ b ≠ g ∧ b < w.heap.size) ∧ ∀ (w' : World) (p' : PV), Turned T w w' → Ow P w' T p' x → Ow P w' S (.lst e (A ++ r.set j p' :: l)) (.slice (some ⟨g, 0, none⟩) n cap) := by
  cases h with
  | lst _ _ _ _ xs f T ho hs hS hT hd hf hr =>
    have hlen : (A ++ r :: l).length = m + 1 + l.length := by simp; omega
    have hi : m < (A ++ r :: l).length := by omega
    have hrow : (A ++ r :: l)[m] = r := by simp [← hA]
    obtain ⟨hjl, hjp⟩ := List.getElem?_eq_some_iff.1 hj
    have hrl : r.length = P.cellsOf e := hs r (by simp)
    have idx : ∀ i j : Nat, i < (A ++ r :: l).length → j < P.cellsOf e → i * P.cellsOf e + j < (A ++ r :: l).length * P.cellsOf e := fun i j h1 h2 => by
      have := Nat.mul_le_mul_right (P.cellsOf e) (show i + 1 ≤ (A ++ r :: l).length by omega)
      rw [Nat.add_mul, Nat.one_mul] at this
      omega
    have hk := idx m j hi (by omega)
    rcases row_cells ho hf with ⟨h1, h2⟩ | ⟨g', cap', hv, _, hlt, hn, hcell⟩
    · rw [h2] at hi; omega
    injection hv with e1 e2 e3
    injection e1 with e1
    injection e1 with e1
    subst e1; subst e3
    have hx := hr m hi j (by rw [hrow]; exact hjl)
    have hp : (A ++ r :: l)[m][j]'(by rw [hrow]; exact hjl) = p := by
      have : ∀ (q : List PV) (hq : j < q.length), q = r → q[j] = p := fun q hq e => by subst e; exact hjp
      exact this _ _ hrow
    rw [hp] at hx
    refine ⟨_, hcell _ hk, fun b => T (m * P.cellsOf e + j) b ∧ b < w.heap.size, Ow.lt hx, fun b hb => ⟨(hT _ b hb.1).1, fun e4 => (hT _ b hb.1).2 (by rw [e4]; rfl), hb.2⟩, fun w' p' ht ho2 => ?_⟩
    have hl' : (A ++ r.set j p' :: l).length = (A ++ r :: l).length := by simp
    refine .lst S e _ _ xs f T ?_ (fun r' hr' => ?_) hS hT hd (fun k hk => hf k (by rw [← hl']; exact hk)) (fun i' hi' j' hj' => ?_)
    · rw [hl']
      refine ⟨ho.1, ?_⟩
      rcases ho.2 with h0 | ⟨g2, cap2, cur, hv2, hb2, hg2, rest⟩
      · exact .inl h0
      · injection hv2 with e5 e6 e7
        injection e5 with e5
        injection e5 with e5
        subst e5
        refine .inr ⟨g, cap2, cur, by rw [e7]; rw [e6], hb2, ?_, rest⟩
        rw [ht.block g hlt (fun hh => (hT _ g hh.1).2 rfl)]
        exact hg2
    · rcases List.mem_append.1 hr' with h3 | h3
      · exact hs r' (by simp [h3])
      · rcases List.mem_cons.1 h3 with rfl | h3
        · rw [List.length_set]; exact hrl
        · exact hs r' (by simp [h3])
    · have hi2 : i' < (A ++ r :: l).length := by rw [← hl']; exact hi'
      have keep : ∀ (q : List PV) (hq : j' < q.length), (A ++ r :: l)[i'] = q → (i' ≠ m ∨ j' ≠ j) → Ow P w' (T (i' * P.cellsOf e + j')) q[j'] (f (i' * P.cellsOf e + j')) := fun q hq e4 hne => by
        subst e4
        refine ht.ow (hr i' hi2 j' hq) (fun b hb hb' => ?_)
        have e5 := hd _ _ b hb hb'.1
        have hj2 : j' < P.cellsOf e := by have := hs _ (List.getElem_mem hi2); omega
        have hj3 : j < P.cellsOf e := by omega
        have h6 : (i' * P.cellsOf e + j') % P.cellsOf e = j' := div_mod_row hj2
        have h7 : (m * P.cellsOf e + j) % P.cellsOf e = j := div_mod_row hj3
        have h8 : j' = j := by rw [← h6, e5, h7]
        subst h8
        have h9 : i' * P.cellsOf e = m * P.cellsOf e := by omega
        have h10 := Nat.eq_of_mul_eq_mul_right (by omega) h9
        rcases hne with hne | hne
        · exact hne h10
        · exact hne rfl
      have key : ∀ (q : List PV) (hq : j' < q.length), (A ++ r.set j p' :: l)[i'] = q → Ow P w' (T (i' * P.cellsOf e + j')) q[j'] (f (i' * P.cellsOf e + j')) := fun q hq e4 => by
        by_cases him : i' = m
        · subst him
          have e5 : (A ++ r.set j p' :: l)[i'] = r.set j p' := by simp [← hA]
          rw [e5] at e4
          subst e4
          by_cases hjj : j' = j
          · subst hjj
            rw [List.getElem_set_self]
            exact Ow.mono ho2 (fun b hb => hb.1)
          · rw [List.getElem_set_ne (fun e => hjj e.symm)]
            exact keep r (by simpa using hq) hrow (.inr hjj)
        · refine keep q hq ?_ (.inl him)
          rw [← e4]
          simp only [List.getElem_append]
          split
          · rfl
          · rename_i h5
            obtain ⟨c, hc⟩ : ∃ c, i' - A.length = c + 1 := ⟨i' - A.length - 1, by omega⟩
            simp [hc]
      exact key _ hj' rfl
/-- a number in a cell of a row is set -/
theorem Ow.setAt {e : TypeId} {A l : List (List PV)} {r : List PV} {g n cap m j : Nat} (h : Ow P w S (.lst e (A ++ r :: l)) (.slice (some ⟨g, 0, none⟩) n cap)) (hA : A.length = m) {p : PV} (hj : r[j]? = some p) {q : PV} {u : Value} (hq : ∀ w' T, Ow P w' T q u) :
    Ow P (w.setCell ⟨g, m * P.cellsOf e + j, none⟩ u) S (.lst e (A ++ r.set j q :: l)) (.slice (some ⟨g, 0, none⟩) n cap) := by
  cases h with
  | lst _ _ _ _ xs f T ho hs hS hT hd hf hr =>
    have hlen : (A ++ r :: l).length = m + 1 + l.length := by simp; omega
    have hi : m < (A ++ r :: l).length := by omega
    obtain ⟨hjl, hjp⟩ := List.getElem?_eq_some_iff.1 hj
    have hrl : r.length = P.cellsOf e := hs r (by simp)
    have hl' : (A ++ r.set j q :: l).length = (A ++ r :: l).length := by simp
    have hrow : (A ++ r :: l)[m] = r := by simp [← hA]
    have idx : ∀ i j : Nat, i < (A ++ r :: l).length → j < P.cellsOf e → i * P.cellsOf e + j < (A ++ r :: l).length * P.cellsOf e := fun i j h1 h2 => by
      have := Nat.mul_le_mul_right (P.cellsOf e) (show i + 1 ≤ (A ++ r :: l).length by omega)
      rw [Nat.add_mul, Nat.one_mul] at this
      omega
    have hk := idx m j hi (by omega)
    rcases row_cells ho hf with ⟨h1, h2⟩ | ⟨g', cap', hv, _, hlt, hn, hcell⟩
    · rw [h2] at hi; omega
    injection hv with e1 e2 e3
    injection e1 with e1
    injection e1 with e1
    subst e1; subst e3; subst e2
    have hst := (World.ownsRow.stored ho (m * P.cellsOf e + j) u).1
    refine .lst S e _ _ (xs.set (m * P.cellsOf e + j) u) (fun k => if k = m * P.cellsOf e + j then u else f k) T (by rw [hl']; exact hst) (fun r' hr' => ?_) hS hT hd (fun k hk' => ?_) (fun i' hi' j' hj' => ?_)
    · rcases List.mem_append.1 hr' with h3 | h3
      · exact hs r' (by simp [h3])
      · rcases List.mem_cons.1 h3 with rfl | h3
        · rw [List.length_set]; exact hrl
        · exact hs r' (by simp [h3])
    · rw [hl'] at hk'
      rw [List.getElem?_set]
      have hxl := ho.1
      by_cases e4 : m * P.cellsOf e + j = k
      · rw [if_pos e4, if_pos (by omega), if_pos e4.symm]
      · rw [if_neg e4, if_neg (fun e5 => e4 e5.symm)]
        exact hf k hk'
    · have hi2 : i' < (A ++ r :: l).length := by rw [← hl']; exact hi'
      have keep : ∀ (q : List PV) (hq : j' < q.length), (A ++ r :: l)[i'] = q → (i' ≠ m ∨ j' ≠ j) → Ow P (w.setCell ⟨g, m * P.cellsOf e + j, none⟩ u) (T (i' * P.cellsOf e + j')) q[j'] (if i' * P.cellsOf e + j' = m * P.cellsOf e + j then u else f (i' * P.cellsOf e + j')) := fun q hq e4 hne => by
        subst e4
        have hj2 : j' < P.cellsOf e := by have := hs _ (List.getElem_mem hi2); omega
        have hj3 : j < P.cellsOf e := by omega
        rw [if_neg (fun e5 => by
          have h6 : (i' * P.cellsOf e + j') % P.cellsOf e = j' := div_mod_row hj2
          have h7 : (m * P.cellsOf e + j) % P.cellsOf e = j := div_mod_row hj3
          have h8 : j' = j := by rw [← h6, e5, h7]
          subst h8
          have h9 : i' * P.cellsOf e = m * P.cellsOf e := by omega
          have h10 := Nat.eq_of_mul_eq_mul_right (by omega) h9
          rcases hne with hne | hne
          · exact hne h10
          · exact hne rfl)]
        exact (hr i' hi2 j' hq).keep (fun b hb _ => Below.heap_setCell w _ u b (fun e5 => (hT _ b hb).2 (by rw [e5]; rfl)))
      have key : ∀ (q' : List PV) (hq' : j' < q'.length), (A ++ r.set j q :: l)[i'] = q' → Ow P (w.setCell ⟨g, m * P.cellsOf e + j, none⟩ u) (T (i' * P.cellsOf e + j')) q'[j'] (if i' * P.cellsOf e + j' = m * P.cellsOf e + j then u else f (i' * P.cellsOf e + j')) := fun q' hq' e4 => by
        by_cases him : i' = m
        · subst him
          have e5 : (A ++ r.set j q :: l)[i'] = r.set j q := by simp [← hA]
          rw [e5] at e4
          subst e4
          by_cases hjj : j' = j
          · subst hjj
            rw [List.getElem_set_self, if_pos rfl]
            exact hq _ _
          · rw [List.getElem_set_ne (fun e => hjj e.symm)]
            exact keep r (by simpa using hq') hrow (.inr hjj)
        · refine keep q' hq' ?_ (.inl him)
          rw [← e4]
          simp only [List.getElem_append]
          split
          · rfl
          · rename_i h5
            obtain ⟨c, hc⟩ : ∃ c, i' - A.length = c + 1 := ⟨i' - A.length - 1, by omega⟩
            simp [hc]
      exact key _ hj' rfl
end
end Av
end Go.Proofs.Ytbkbppllcjcmhaa
