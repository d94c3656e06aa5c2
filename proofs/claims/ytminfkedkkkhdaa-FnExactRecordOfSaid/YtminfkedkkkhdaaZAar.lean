/-
  Part of a proof: ThLawE, Own. No condition.
-/
import Derived.Test.YtminfkedkkkhdaaZAam
section
namespace Go.Proofs.Ytminfkedkkkhdaa
open Go.RowKit
namespace Bt
def sumTh (ts : List Th) : Nat := (ts.map fun t => t.regs.length + t.stack.length).sum
theorem sumTh_succ {ts : List Th} {k : Nat} (h : k < ts.length) : sumTh (ts.take (k + 1)) = sumTh (ts.take k) + (ts[k].regs.length + ts[k].stack.length) := by
 unfold sumTh
 rw [List.take_succ_eq_append_getElem h, List.map_append, List.sum_append]
 simp
theorem sumTh_le (ts : List Th) (k : Nat) : sumTh (ts.take k) ≤ sumTh ts := by
 have h : sumTh ts = sumTh (ts.take k) + sumTh (ts.drop k) := by
  unfold sumTh
  rw [← List.sum_append, ← List.map_append, List.take_append_drop]
 omega
theorem sumTh_at {ts : List Th} {k : Nat} (h : k < ts.length) : ts[k].regs.length + ts[k].stack.length ≤ sumTh ts := by
 have h1 := sumTh_succ h
 have h2 := sumTh_le ts (k + 1)
 omega
def mcSz (m : Mc) : Nat := m.ths.length + sumTh m.ths + m.cells.length + m.locks.length + m.told.length
end Bt
theorem Small.of {m : Bt.Mc} (h : Bt.mcSz m ≤ 1048576) : Small m := by
 unfold Bt.mcSz at h
 refine ⟨by omega, by omega, by omega, by omega, fun i hi => ?_, fun i hi => ?_⟩
 ·have := Bt.sumTh_at hi; omega
 ·have := Bt.sumTh_at hi; omega
def rest (left : Int) (n : Nat) : Int := if left < n then -1 else left - n
end Go.Proofs.Ytminfkedkkkhdaa
namespace Go.Proofs.Ytminfkedkkkhdaa
open Go.RowKit
end Go.Proofs.Ytminfkedkkkhdaa
namespace Go.Proofs.Ytminfkedkkkhdaa
open Go.RowKit
def Apart (u v : Value) : Prop := ∀ b, u.ownBlock = some b → v.ownBlock ≠ some b
theorem Apart.of_lt {u v : Value} {n : Nat} (hu : ∀ k, u.ownBlock = some k → k < n) (hv : ∀ k, v.ownBlock = some k → n ≤ k) : Apart u v := fun b h1 h2 => by
 have := hu b h1; have := hv b h2; omega
theorem Apart.symm {u v : Value} (h : Apart u v) : Apart v u := fun b h1 h2 => h b h2 h1
theorem Apart.or {u v : Value} (h : Apart u v) : u.ownBlock = none ∨ u.ownBlock ≠ v.ownBlock := by
 cases hu : u.ownBlock with
 | none => exact .inl rfl
 | some b => exact .inr (fun e => h b hu e.symm)
theorem IntRow.bd {w : World} {base : Nat} {v : Value} {xs : List Int} (h : IntRow w base v xs) : ∀ k, v.ownBlock = some k → base ≤ k ∧ k < w.heap.size := World.ownsRow.lt h
theorem CopyInts.mk {xs : List Int} {n : Nat} {w : World} (h : xs.length = n) {v : Value} (C : Calls Try.prog 86 #[v] w (CopyInts xs w)) :
  Calls Try.prog 86 #[v] w fun e w' => e = .returned (.slice (some ⟨w.heap.size, 0, none⟩) n n) ∧ Below w.heap.size w w' ∧ IntRow w' w.heap.size (.slice (some ⟨w.heap.size, 0, none⟩) n n) xs := by
 subst h
 exact C
theorem IntRow.setOther {w : World} {base : Nat} {v : Value} {xs : List Int} (h : IntRow w base v xs) {p : Addr} (u : Value) (hp : ∀ b, v.ownBlock = some b → b ≠ p.block) : IntRow (w.setCell p u) base v xs := by
 refine h.grown (row := some p.block) ⟨rfl, rfl, rfl, by simp [World.setCell], fun k hk hne => Below.heap_setCell w p u k (fun e => hne (by rw [e]))⟩ ?_
 cases hv : v.ownBlock with
 | none => exact .inl rfl
 | some b => exact .inr (by simpa using hp b hv)
def Th4 (L : List Value) (i : Nat) (t : Bt.Th) (x : Value × Value) : Prop := L[i]? = some (.int .i64 t.pl) ∧ L[i + 1]? = some x.1 ∧ L[i + 2]? = some x.2 ∧ L[i + 3]? = some (.int .i64 t.st)
structure OwnThs (w : World) (B : Nat) (v : Value) (ts : List Bt.Th) (xs : List (Value × Value)) : Prop where
 len : xs.length = ts.length
 row : ∃ L, w.ownsRow B 123 4 v ts.length L ∧ ∀ i (h : i < ts.length) (h' : i < xs.length), Th4 L (i * 4) ts[i] xs[i]
 ints : ∀ i (h : i < ts.length) (h' : i < xs.length), IntRow w B xs[i].1 ts[i].regs ∧ IntRow w B xs[i].2 ts[i].stack
def rowsOf (xs : List (Value × Value)) : List Value := xs.flatMap fun x => [x.1, x.2]
theorem rowsOf_snoc (xs : List (Value × Value)) (x : Value × Value) : rowsOf (xs ++ [x]) = rowsOf xs ++ [x.1, x.2] := by simp [rowsOf]
theorem rowsOf_mem {xs : List (Value × Value)} {u : Value} (h : u ∈ rowsOf xs) : ∃ i, ∃ h : i < xs.length, u = xs[i].1 ∨ u = xs[i].2 := by
 unfold rowsOf at h
 rw [List.mem_flatMap] at h
 obtain ⟨x, hx, hu⟩ := h
 obtain ⟨i, hi, rfl⟩ := List.getElem_of_mem hx
 refine ⟨i, hi, ?_⟩
 simpa using hu
theorem apart_snoc {l : List Value} {a b : Value} {N : Nat} (hl : l.Pairwise Apart) (hN : ∀ u ∈ l, ∀ k, u.ownBlock = some k → k < N) (ha : ∀ k, a.ownBlock = some k → N ≤ k) (hb : ∀ k, b.ownBlock = some k → N ≤ k) (hab : Apart a b) :
  (l ++ [a, b]).Pairwise Apart := by
 rw [List.pairwise_append]
 refine ⟨hl, by simpa using hab, fun u hu v hv => ?_⟩
 simp only [List.mem_cons, List.not_mem_nil, or_false] at hv
 rcases hv with rfl | rfl
 ·exact Apart.of_lt (hN u hu) ha
 ·exact Apart.of_lt (hN u hu) hb
end Go.Proofs.Ytminfkedkkkhdaa
namespace Go.Proofs.Ytminfkedkkkhdaa
open Go.RowKit
def set4L (L : List Value) (i : Nat) (a b c d : Value) : List Value := (((L.set i a).set (i + 1) b).set (i + 2) c).set (i + 3) d
theorem set4L_ne {L : List Value} {i j : Nat} {a b c d : Value} (h : j < i ∨ i + 4 ≤ j) : (set4L L i a b c d)[j]? = L[j]? := by
 unfold set4L
 rw [List.getElem?_set_ne (by omega), List.getElem?_set_ne (by omega), List.getElem?_set_ne (by omega), List.getElem?_set_ne (by omega)]
theorem set4L_new {L : List Value} {i : Nat} {t : Bt.Th} {x : Value × Value} (h : i + 4 ≤ L.length) : Th4 (set4L L i (.int .i64 t.pl) x.1 x.2 (.int .i64 t.st)) i t x := by
 unfold Th4 set4L
 refine ⟨?_, ?_, ?_, ?_⟩
 ·rw [List.getElem?_set_ne (by omega), List.getElem?_set_ne (by omega), List.getElem?_set_ne (by omega), List.getElem?_set_self (by omega)]
 ·rw [List.getElem?_set_ne (by omega), List.getElem?_set_ne (by omega), List.getElem?_set_self (by simp; omega)]
 ·rw [List.getElem?_set_ne (by omega), List.getElem?_set_self (by simp; omega)]
 ·rw [List.getElem?_set_self (by simp; omega)]
theorem Th4.old {L : List Value} {i k : Nat} {t : Bt.Th} {x : Value × Value} {a b c d : Value} (h : Th4 L (i * 4) t x) (hik : i < k) : Th4 (set4L L (k * 4) a b c d) (i * 4) t x := by
 obtain ⟨h0, h1, h2, h3⟩ := h
 exact ⟨(set4L_ne (by omega)).trans h0, (set4L_ne (by omega)).trans h1, (set4L_ne (by omega)).trans h2, (set4L_ne (by omega)).trans h3⟩
structure ThsGo (w : World) (g n k : Nat) (ts : List Bt.Th) (xs : List (Value × Value)) : Prop where
 len : xs.length = k
 row : ∃ L, w.ownsRow g 123 4 (.slice (some ⟨g, 0, none⟩) n n) n L ∧ ∀ i (h : i < ts.length) (h' : i < xs.length), Th4 L (i * 4) ts[i] xs[i]
 ints : ∀ i (h : i < ts.length) (h' : i < xs.length), IntRow w (g + 1) xs[i].1 ts[i].regs ∧ IntRow w (g + 1) xs[i].2 ts[i].stack
 apart : (rowsOf xs).Pairwise Apart
theorem ThsGo.cells {w : World} {g n k : Nat} {ts : List Bt.Th} {xs : List (Value × Value)} (h : ThsGo w g n k ts xs) {j : Nat} (hj : j < n * 4) : (∃ c, w.cell? ⟨g, j, none⟩ = some c) ∧ w.frozen? ⟨g, j, none⟩ = false := by
 obtain ⟨L, hL, _⟩ := h.row
 have hl := hL.1
 refine ⟨⟨L[j]'(by omega), ?_⟩, World.ownsRow.frozenAt hL j⟩
 rw [World.ownsRow.cellAt hL j hj, List.getElem?_eq_getElem]
theorem ThsGo.keep {w w' : World} {g n k : Nat} {ts : List Bt.Th} {xs : List (Value × Value)} (h : ThsGo w g n k ts xs) (hb : Below w.heap.size w w') : ThsGo w' g n k ts xs := by
 obtain ⟨h0, ⟨L, hL, h1⟩, h2, h3⟩ := h
 have hg : g < w.heap.size := (World.ownsRow.lt hL g rfl).2
 refine ⟨h0, ⟨L, World.ownsRow.kept hL (grown_below hb) (.inr (by simp [Value.ownBlock])), h1⟩, fun i a b => ⟨(h2 i a b).1.keep hb, (h2 i a b).2.keep hb⟩, h3⟩
theorem ThsGo.next {w : World} {g n k N : Nat} {ts : List Bt.Th} {xs : List (Value × Value)} (h : ThsGo w g n k ts xs) (hk : k < ts.length) (hkn : k < n) (hnn : ts.length = n) {v u : Value}
  (hN : ∀ x ∈ rowsOf xs, ∀ j, x.ownBlock = some j → j < N) (hgN : g + 1 ≤ N)
  (hv : IntRow w N v ts[k].regs) (hu : IntRow w N u ts[k].stack) (hvu : Apart v u) :
  ThsGo ((((w.setCell ⟨g, k * 4, none⟩ (.int .i64 ts[k].pl)).setCell ⟨g, k * 4 + 1, none⟩ v).setCell ⟨g, k * 4 + 2, none⟩ u).setCell ⟨g, k * 4 + 3, none⟩ (.int .i64 ts[k].st)) g n (k + 1) ts (xs ++ [(v, u)]) := by
 obtain ⟨h0, ⟨L, hL, h1⟩, h2, h3⟩ := h
 have hlen := hL.1
 have hs := (World.ownsRow.stored (World.ownsRow.stored (World.ownsRow.stored (World.ownsRow.stored hL (k * 4) (.int .i64 ts[k].pl)).1 (k * 4 + 1) v).1 (k * 4 + 2) u).1 (k * 4 + 3) (.int .i64 ts[k].st)).1
 have hoth : ∀ {y : Value} {zs : List Int}, IntRow w (g + 1) y zs → IntRow ((((w.setCell ⟨g, k * 4, none⟩ (.int .i64 ts[k].pl)).setCell ⟨g, k * 4 + 1, none⟩ v).setCell ⟨g, k * 4 + 2, none⟩ u).setCell ⟨g, k * 4 + 3, none⟩ (.int .i64 ts[k].st)) (g + 1) y zs := by
  intro y zs hy
  have hb := hy.bd
  exact (((hy.setOther _ (fun b e => by have := hb b e; simp; omega)).setOther _ (fun b e => by have := hb b e; simp; omega)).setOther _ (fun b e => by have := hb b e; simp; omega)).setOther _ (fun b e => by have := hb b e; simp; omega)
 refine ⟨by simp [h0], ⟨_, hs, fun i hi hi' => ?_⟩, fun i hi hi' => ?_, ?_⟩
 ·by_cases hik : i < k
  ·rw [List.getElem_append_left (by omega)]
   exact (h1 i hi (by omega)).old hik
  ·have : i = k := by simp at hi'; omega
   subst this
   rw [List.getElem_append_right (by omega)]
   simp only [h0, Nat.sub_self, List.getElem_cons_zero]
   exact set4L_new (x := (v, u)) (by omega)
 ·by_cases hik : i < k
  ·rw [List.getElem_append_left (by omega)]
   exact ⟨hoth (h2 i hi (by omega)).1, hoth (h2 i hi (by omega)).2⟩
  ·have : i = k := by simp at hi'; omega
   subst this
   rw [List.getElem_append_right (by omega)]
   simp only [h0, Nat.sub_self, List.getElem_cons_zero]
   exact ⟨hoth (hv.mono hgN), hoth (hu.mono hgN)⟩
 ·rw [rowsOf_snoc]
  exact apart_snoc h3 hN (fun j e => (hv.bd j e).1) (fun j e => (hu.bd j e).1) hvu
theorem ThsGo.lt {w : World} {g n k : Nat} {ts : List Bt.Th} {xs : List (Value × Value)} (h : ThsGo w g n k ts xs) (hk : k ≤ ts.length) : ∀ x ∈ rowsOf xs, ∀ j, x.ownBlock = some j → j < w.heap.size := by
 intro x hx j hj
 obtain ⟨i, hi, he⟩ := rowsOf_mem hx
 have hi' : i < ts.length := by have := h.len; omega
 obtain ⟨a, b⟩ := h.ints i hi' hi
 rcases he with rfl | rfl
 ·exact (a.bd j hj).2
 ·exact (b.bd j hj).2
end Go.Proofs.Ytminfkedkkkhdaa
namespace Go.Proofs.Ytminfkedkkkhdaa
open Go.RowKit
structure OwnMc (w : World) (B : Nat) (vt vc vl vd : Value) (xs : List (Value × Value)) (m : Bt.Mc) : Prop where
 ths : OwnThs w B vt m.ths xs
 cells : IntRow w B vc m.cells
 locks : IntRow w B vl m.locks
 told : IntRow w B vd m.told
 apart : (rowsOf xs ++ [vc, vl, vd]).Pairwise Apart
theorem OwnThs.keep {w w' : World} {B : Nat} {v : Value} {ts : List Bt.Th} {xs : List (Value × Value)} (h : OwnThs w B v ts xs) (hb : Below w.heap.size w w') : OwnThs w' B v ts xs := by
 obtain ⟨h0, ⟨L, hL, h1⟩, h2⟩ := h
 refine ⟨h0, ⟨L, World.ownsRow.kept hL (grown_below hb) ?_, h1⟩, fun i a b => ⟨(h2 i a b).1.keep hb, (h2 i a b).2.keep hb⟩⟩
 cases h : v.ownBlock with
 | none => exact .inl rfl
 | some k => exact .inr (by simp)
theorem OwnMc.keep {w w' : World} {B : Nat} {vt vc vl vd : Value} {xs : List (Value × Value)} {m : Bt.Mc} (h : OwnMc w B vt vc vl vd xs m) (hb : Below w.heap.size w w') : OwnMc w' B vt vc vl vd xs m :=
 ⟨h.ths.keep hb, h.cells.keep hb, h.locks.keep hb, h.told.keep hb, h.apart⟩
theorem OwnThs.forms {w : World} {B : Nat} {v : Value} {ts : List Bt.Th} {xs : List (Value × Value)} (h : OwnThs w B v ts xs) :
  (v = .slice none 0 0 ∧ ts = []) ∨ ∃ g cap, v = .slice (some ⟨g, 0, none⟩) ts.length cap ∧ B ≤ g ∧ g < w.heap.size ∧ ts.length ≤ cap ∧ cap ≤ maxLen := by
 obtain ⟨L, hL, _⟩ := h.row
 rcases hL.2 with ⟨rfl, h0⟩ | ⟨g, cap, cur, rfl, hb, hg, hn, hm, _, _⟩
 ·exact .inl ⟨rfl, List.eq_nil_of_length_eq_zero h0⟩
 ·exact .inr ⟨g, cap, rfl, hb, (Array.getElem?_eq_some_iff.1 hg).1, hn, hm⟩
theorem ThsGo.own {w : World} {g n : Nat} {ts : List Bt.Th} {xs : List (Value × Value)} (h : ThsGo w g n n ts xs) (hT : ts.length = n) : OwnThs w g (.slice (some ⟨g, 0, none⟩) n n) ts xs := by
 subst hT
 exact ⟨h.len, h.row, fun i a b => ⟨(h.ints i a b).1.mono (by omega), (h.ints i a b).2.mono (by omega)⟩⟩
theorem OwnThs.mono {w : World} {B B' : Nat} {v : Value} {ts : List Bt.Th} {xs : List (Value × Value)} (h : OwnThs w B v ts xs) (hB : B' ≤ B) : OwnThs w B' v ts xs := by
 obtain ⟨h0, ⟨L, hL, h1⟩, h2⟩ := h
 exact ⟨h0, ⟨L, Joins.ownsRow_le hL hB, h1⟩, fun i a b => ⟨(h2 i a b).1.mono hB, (h2 i a b).2.mono hB⟩⟩
theorem OwnThs.setOther {w : World} {B : Nat} {v : Value} {ts : List Bt.Th} {xs : List (Value × Value)} (h : OwnThs w B v ts xs) {p : Addr} (u : Value) (hp : p.block < B) : OwnThs (w.setCell p u) B v ts xs := by
 obtain ⟨h0, ⟨L, hL, h1⟩, h2⟩ := h
 refine ⟨h0, ⟨L, World.ownsRow.kept hL (row := some p.block) ⟨rfl, rfl, rfl, by simp [World.setCell], fun k hk hne => Below.heap_setCell w p u k (fun e => hne (by rw [e]))⟩ ?_, h1⟩, fun i a b => ⟨(h2 i a b).1.setOther u (fun k e => by have := ((h2 i a b).1.bd k e).1; omega), (h2 i a b).2.setOther u (fun k e => by have := ((h2 i a b).2.bd k e).1; omega)⟩⟩
 cases hv : v.ownBlock with
 | none => exact .inl rfl
 | some k => exact .inr (by have := (World.ownsRow.lt hL k hv).1; simp; omega)
theorem apart3 {l : List Value} {a b c : Value} {N M K : Nat} (hl : l.Pairwise Apart) (hN : ∀ u ∈ l, ∀ k, u.ownBlock = some k → k < N) (ha : ∀ k, a.ownBlock = some k → N ≤ k ∧ k < M) (hb : ∀ k, b.ownBlock = some k → M ≤ k ∧ k < K) (hc : ∀ k, c.ownBlock = some k → K ≤ k) (hNM : N ≤ M) (hMK : M ≤ K) :
  (l ++ [a, b, c]).Pairwise Apart := by
 rw [List.pairwise_append]
 refine ⟨hl, ?_, fun u hu v hv => ?_⟩
 ·simp only [List.pairwise_cons, List.mem_cons, List.not_mem_nil, or_false, List.Pairwise.nil, and_true, forall_eq_or_imp, forall_eq, false_implies, implies_true]
  exact ⟨⟨Apart.of_lt (fun k e => (ha k e).2) (fun k e => (hb k e).1), Apart.of_lt (n := K) (fun k e => by have := (ha k e).2; omega) hc⟩, Apart.of_lt (fun k e => (hb k e).2) hc⟩
 ·simp only [List.mem_cons, List.not_mem_nil, or_false] at hv
  rcases hv with rfl | rfl | rfl
  ·exact Apart.of_lt (hN u hu) (fun k e => (ha k e).1)
  ·exact Apart.of_lt (n := N) (hN u hu) (fun k e => by have := (hb k e).1; omega)
  ·exact Apart.of_lt (n := N) (hN u hu) (fun k e => by have := hc k e; omega)
end Go.Proofs.Ytminfkedkkkhdaa
end
section
namespace Go.Proofs.Ytminfkedkkkhdaa
open Go.RowKit
theorem OwnThs.ne {w : World} {B base g n cap : Nat} {ts : List Bt.Th} {xs : List (Value × Value)} {u : Value} {ys : List Int} (h : OwnThs w B (.slice (some ⟨g, 0, none⟩) n cap) ts xs) (hu : IntRow w base u ys) : u.ownBlock ≠ some g := by
 obtain ⟨L, hL, _⟩ := h.row
 rcases hL.2 with ⟨e, _⟩ | ⟨g', cap', cur, e, _, hg, _⟩
 ·cases e
 ·injection e with e1 _ _
  injection e1 with e1
  injection e1 with e1
  subst e1
  have hu' : w.ownsRow base 3 1 u ys.length (ys.map (Value.int .i64)) := hu
  rcases hu'.2 with ⟨rfl, _⟩ | ⟨g2, cap2, cur2, rfl, _, hg2, _⟩
  ·simp [Value.ownBlock]
  ·intro e
   simp only [Value.ownBlock, Option.some.injEq] at e
   subst e
   rw [hg] at hg2
   injection hg2 with e2
   injection e2 with _ e3 _
   exact absurd e3 (by decide)
theorem OwnThs.form {w : World} {B : Nat} {v : Value} {ts : List Bt.Th} {xs : List (Value × Value)} (h : OwnThs w B v ts xs) (hne : 0 < ts.length) : ∃ g cap, v = .slice (some ⟨g, 0, none⟩) ts.length cap ∧ B ≤ g ∧ g < w.heap.size ∧ ts.length ≤ cap := by
 rcases h.forms with ⟨_, rfl⟩ | ⟨g, cap, e, hb, hl, hc, _⟩
 ·simp at hne
 ·exact ⟨g, cap, e, hb, hl, hc⟩
theorem OwnThs.cells {w : World} {B g n cap : Nat} {ts : List Bt.Th} {xs : List (Value × Value)} (h : OwnThs w B (.slice (some ⟨g, 0, none⟩) n cap) ts xs) {i : Nat} (hi : i < ts.length) (hi' : i < xs.length) :
  w.cell? ⟨g, i * 4, none⟩ = some (.int .i64 ts[i].pl) ∧ w.cell? ⟨g, i * 4 + 1, none⟩ = some xs[i].1 ∧ w.cell? ⟨g, i * 4 + 2, none⟩ = some xs[i].2 ∧ w.cell? ⟨g, i * 4 + 3, none⟩ = some (.int .i64 ts[i].st) := by
 obtain ⟨L, hL, h1⟩ := h.row
 have hn : n = ts.length := by
  rcases h.forms with ⟨e, _⟩ | ⟨g', cap', e, _⟩
  ·cases e
  ·injection e with _ e2 _
 subst hn
 have hl := hL.1
 obtain ⟨a0, a1, a2, a3⟩ := h1 i hi hi'
 refine ⟨?_, ?_, ?_, ?_⟩
 ·rw [World.ownsRow.cellAt hL _ (by omega)]; exact a0
 ·rw [World.ownsRow.cellAt hL _ (by omega)]; exact a1
 ·rw [World.ownsRow.cellAt hL _ (by omega)]; exact a2
 ·rw [World.ownsRow.cellAt hL _ (by omega)]; exact a3
theorem OwnThs.frozen {w : World} {B g n cap : Nat} {ts : List Bt.Th} {xs : List (Value × Value)} (h : OwnThs w B (.slice (some ⟨g, 0, none⟩) n cap) ts xs) (j : Nat) : w.frozen? ⟨g, j, none⟩ = false := by
 obtain ⟨L, hL, h1⟩ := h.row
 have hn : n = ts.length := by
  rcases h.forms with ⟨e, _⟩ | ⟨g', cap', e, _⟩
  ·cases e
  ·injection e with _ e2 _
 subst hn
 exact World.ownsRow.frozenAt hL j
theorem OwnThs.set {w : World} {B g n cap : Nat} {ts : List Bt.Th} {xs : List (Value × Value)} (h : OwnThs w B (.slice (some ⟨g, 0, none⟩) n cap) ts xs) {i j : Nat} (hi : i < ts.length) (hi' : i < xs.length) (hj : j < 4) (u : Value) (t : Bt.Th) (x : Value × Value)
  (hth : ∀ L : List Value, i * 4 + 4 ≤ L.length → Th4 L (i * 4) ts[i] xs[i] → Th4 (L.set (i * 4 + j) u) (i * 4) t x)
  (hr : IntRow w B x.1 t.regs) (hs : IntRow w B x.2 t.stack) :
  OwnThs (w.setCell ⟨g, i * 4 + j, none⟩ u) B (.slice (some ⟨g, 0, none⟩) n cap) (ts.set i t) (xs.set i x) := by
 have hn : n = ts.length := by
  rcases h.forms with ⟨e, _⟩ | ⟨g', cap', e, _⟩
  ·cases e
  ·injection e with _ e2 _
 subst hn
 have hne : ∀ {u' : Value} {ys : List Int}, IntRow w B u' ys → IntRow (w.setCell ⟨g, i * 4 + j, none⟩ u) B u' ys := fun hu => hu.setOther u (fun b e => fun e' => h.ne hu (by rw [e, e']))
 obtain ⟨h0, ⟨L, hL, h1⟩, h2⟩ := h
 have hl := hL.1
 refine ⟨by simp [h0], ⟨L.set (i * 4 + j) u, by rw [List.length_set]; exact (hL.stored (i * 4 + j) u).1, fun k hk hk' => ?_⟩, fun k hk hk' => ?_⟩
 ·simp only [List.length_set] at hk hk'
  by_cases e : i = k
  ·subst e
   rw [List.getElem_set_self, List.getElem_set_self]
   exact hth L (by omega) (h1 i hi hi')
  ·rw [List.getElem_set_ne e, List.getElem_set_ne e]
   obtain ⟨a0, a1, a2, a3⟩ := h1 k hk hk'
   refine ⟨?_, ?_, ?_, ?_⟩
   all_goals rw [List.getElem?_set_ne (by omega)]
   ·exact a0
   ·exact a1
   ·exact a2
   ·exact a3
 ·simp only [List.length_set] at hk hk'
  by_cases e : i = k
  ·subst e
   rw [List.getElem_set_self, List.getElem_set_self]
   exact ⟨hne hr, hne hs⟩
  ·rw [List.getElem_set_ne e, List.getElem_set_ne e]
   exact ⟨hne (h2 k hk hk').1, hne (h2 k hk hk').2⟩
theorem OwnThs.setPl {w : World} {B g n cap : Nat} {ts : List Bt.Th} {xs : List (Value × Value)} (h : OwnThs w B (.slice (some ⟨g, 0, none⟩) n cap) ts xs) {i : Nat} (hi : i < ts.length) (q : Int) :
  OwnThs (w.setCell ⟨g, i * 4, none⟩ (.int .i64 q)) B (.slice (some ⟨g, 0, none⟩) n cap) (ts.set i ⟨q, ts[i].regs, ts[i].stack, ts[i].st⟩) xs := by
 have hi' : i < xs.length := by rw [h.len]; exact hi
 have := h.set hi hi' (j := 0) (by omega) (.int .i64 q) ⟨q, ts[i].regs, ts[i].stack, ts[i].st⟩ xs[i] (fun L hl ⟨a0, a1, a2, a3⟩ => by
  refine ⟨?_, ?_, ?_, ?_⟩
  ·rw [Nat.add_zero, List.getElem?_set_self (by omega)]
  ·rw [List.getElem?_set_ne (by omega)]; exact a1
  ·rw [List.getElem?_set_ne (by omega)]; exact a2
  ·rw [List.getElem?_set_ne (by omega)]; exact a3) (h.ints i hi hi').1 (h.ints i hi hi').2
 rw [List.set_getElem_self] at this
 exact this
theorem OwnThs.setSt {w : World} {B g n cap : Nat} {ts : List Bt.Th} {xs : List (Value × Value)} (h : OwnThs w B (.slice (some ⟨g, 0, none⟩) n cap) ts xs) {i : Nat} (hi : i < ts.length) (q : Int) :
  OwnThs (w.setCell ⟨g, i * 4 + 3, none⟩ (.int .i64 q)) B (.slice (some ⟨g, 0, none⟩) n cap) (ts.set i ⟨ts[i].pl, ts[i].regs, ts[i].stack, q⟩) xs := by
 have hi' : i < xs.length := by rw [h.len]; exact hi
 have := h.set hi hi' (j := 3) (by omega) (.int .i64 q) ⟨ts[i].pl, ts[i].regs, ts[i].stack, q⟩ xs[i] (fun L hl ⟨a0, a1, a2, a3⟩ => by
  refine ⟨?_, ?_, ?_, ?_⟩
  ·rw [List.getElem?_set_ne (by omega)]; exact a0
  ·rw [List.getElem?_set_ne (by omega)]; exact a1
  ·rw [List.getElem?_set_ne (by omega)]; exact a2
  ·rw [List.getElem?_set_self (by omega)]) (h.ints i hi hi').1 (h.ints i hi hi').2
 rw [List.set_getElem_self] at this
 exact this
theorem OwnThs.setStack {w : World} {B g n cap : Nat} {ts : List Bt.Th} {xs : List (Value × Value)} (h : OwnThs w B (.slice (some ⟨g, 0, none⟩) n cap) ts xs) {i : Nat} (hi : i < ts.length) (hi' : i < xs.length) (v : Value) (ys : List Int) (hv : IntRow w B v ys) :
  OwnThs (w.setCell ⟨g, i * 4 + 2, none⟩ v) B (.slice (some ⟨g, 0, none⟩) n cap) (ts.set i ⟨ts[i].pl, ts[i].regs, ys, ts[i].st⟩) (xs.set i (xs[i].1, v)) :=
 h.set hi hi' (j := 2) (by omega) v ⟨ts[i].pl, ts[i].regs, ys, ts[i].st⟩ (xs[i].1, v) (fun L hl ⟨a0, a1, a2, a3⟩ => by
  refine ⟨?_, ?_, ?_, ?_⟩
  ·rw [List.getElem?_set_ne (by omega)]; exact a0
  ·rw [List.getElem?_set_ne (by omega)]; exact a1
  ·rw [List.getElem?_set_self (by omega)]
  ·rw [List.getElem?_set_ne (by omega)]; exact a3) (h.ints i hi hi').1 hv
theorem rowsOf_at {xs : List (Value × Value)} : ∀ {i : Nat} (h : i < xs.length), (rowsOf xs)[2 * i]? = some xs[i].1 ∧ (rowsOf xs)[2 * i + 1]? = some xs[i].2 := by
 induction xs with
 | nil => intro i h; simp at h
 | cons x l ih =>
  intro i h
  cases i with
  | zero => exact ⟨rfl, rfl⟩
  | succ i =>
   have := ih (i := i) (by simpa using h)
   have e : rowsOf (x :: l) = x.1 :: x.2 :: rowsOf l := rfl
   rw [e, show 2 * (i + 1) = 2 * i + 1 + 1 by omega]
   simpa using this
theorem apart_at {l : List Value} (h : l.Pairwise Apart) {i j : Nat} {u v : Value} (hi : l[i]? = some u) (hj : l[j]? = some v) (hij : i ≠ j) : Apart u v := by
 obtain ⟨h1, rfl⟩ := List.getElem?_eq_some_iff.1 hi
 obtain ⟨h2, rfl⟩ := List.getElem?_eq_some_iff.1 hj
 rw [List.pairwise_iff_getElem] at h
 rcases Nat.lt_or_ge i j with h' | h'
 ·exact h i j h1 h2 h'
 ·exact (h j i h2 h1 (by omega)).symm
theorem Apart.keep {u v : Value} (h : Apart u v) : v.ownBlock = none ∨ v.ownBlock ≠ u.ownBlock := by
 rcases h.symm.or with e | e
 ·exact .inl e
 ·exact .inr e
theorem OwnThs.regs {w w' : World} {B g n cap : Nat} {ts : List Bt.Th} {xs : List (Value × Value)} (h : OwnThs w B (.slice (some ⟨g, 0, none⟩) n cap) ts xs) (ha : (rowsOf xs).Pairwise Apart) {i : Nat} (hi : i < ts.length) (hi' : i < xs.length) (ys : List Int)
  (hg : w.grownBy w' xs[i].1.ownBlock) (hr : IntRow w' B xs[i].1 ys) :
  OwnThs w' B (.slice (some ⟨g, 0, none⟩) n cap) (ts.set i ⟨ts[i].pl, ys, ts[i].stack, ts[i].st⟩) xs := by
 have hn : n = ts.length := by
  rcases h.forms with ⟨e, _⟩ | ⟨g', cap', e, _⟩
  ·cases e
  ·injection e with _ e2 _
 subst hn
 have hgne := h.ne (h.ints i hi hi').1
 obtain ⟨h0, ⟨L, hL, h1⟩, h2⟩ := h
 refine ⟨by simp [h0], ⟨L, by rw [List.length_set]; exact World.ownsRow.kept hL hg (.inr (by simp only [Value.ownBlock]; exact fun e => hgne e.symm)), fun k hk hk' => ?_⟩, fun k hk hk' => ?_⟩
 ·simp only [List.length_set] at hk
  by_cases e : i = k
  ·subst e
   rw [List.getElem_set_self]
   exact h1 i hi hi'
  ·rw [List.getElem_set_ne e]
   exact h1 k hk hk'
 ·simp only [List.length_set] at hk
  obtain ⟨r0, r1⟩ := rowsOf_at hi'
  obtain ⟨q0, q1⟩ := rowsOf_at hk'
  by_cases e : i = k
  ·subst e
   rw [List.getElem_set_self]
   exact ⟨hr, (h2 i hi hi').2.grown hg (apart_at ha r0 r1 (by omega)).keep⟩
  ·rw [List.getElem_set_ne e]
   exact ⟨(h2 k hk hk').1.grown hg (apart_at ha r0 q0 (by omega)).keep, (h2 k hk hk').2.grown hg (apart_at ha r0 q1 (by omega)).keep⟩
theorem OwnThs.stack {w w' : World} {B g n cap : Nat} {ts : List Bt.Th} {xs : List (Value × Value)} (h : OwnThs w B (.slice (some ⟨g, 0, none⟩) n cap) ts xs) (ha : (rowsOf xs).Pairwise Apart) {i : Nat} (hi : i < ts.length) (hi' : i < xs.length) (ys : List Int)
  (hg : w.grownBy w' xs[i].2.ownBlock) (hr : IntRow w' B xs[i].2 ys) :
  OwnThs w' B (.slice (some ⟨g, 0, none⟩) n cap) (ts.set i ⟨ts[i].pl, ts[i].regs, ys, ts[i].st⟩) xs := by
 have hn : n = ts.length := by
  rcases h.forms with ⟨e, _⟩ | ⟨g', cap', e, _⟩
  ·cases e
  ·injection e with _ e2 _
 subst hn
 have hgne := h.ne (h.ints i hi hi').2
 obtain ⟨h0, ⟨L, hL, h1⟩, h2⟩ := h
 refine ⟨by simp [h0], ⟨L, by rw [List.length_set]; exact World.ownsRow.kept hL hg (.inr (by simp only [Value.ownBlock]; exact fun e => hgne e.symm)), fun k hk hk' => ?_⟩, fun k hk hk' => ?_⟩
 ·simp only [List.length_set] at hk
  by_cases e : i = k
  ·subst e
   rw [List.getElem_set_self]
   exact h1 i hi hi'
  ·rw [List.getElem_set_ne e]
   exact h1 k hk hk'
 ·simp only [List.length_set] at hk
  obtain ⟨r0, r1⟩ := rowsOf_at hi'
  obtain ⟨q0, q1⟩ := rowsOf_at hk'
  by_cases e : i = k
  ·subst e
   rw [List.getElem_set_self]
   exact ⟨(h2 i hi hi').1.grown hg (apart_at ha r1 r0 (by omega)).keep, hr⟩
  ·rw [List.getElem_set_ne e]
   exact ⟨(h2 k hk hk').1.grown hg (apart_at ha r1 q0 (by omega)).keep, (h2 k hk hk').2.grown hg (apart_at ha r1 q1 (by omega)).keep⟩
structure Within (lo hi : Nat) (w w' : World) : Prop where
 os : w'.os = w.os
 tape : w'.tape = w.tape
 output : w'.output = w.output
 size : w.heap.size ≤ w'.heap.size
 block : ∀ k, k < w.heap.size → (k < lo ∨ hi ≤ k) → w'.heap[k]? = w.heap[k]?
theorem Within.below {lo hi : Nat} {w w' : World} (h : Within lo hi w w') : Below lo w w' ∨ w.heap.size < lo := by
 by_cases hl : w.heap.size < lo
 ·exact .inr hl
 ·exact .inl ⟨h.os, h.tape, h.output, h.size, fun k hk => h.block k (by omega) (.inl hk)⟩
structure Only (S : List Value) (w w' : World) : Prop where
 os : w'.os = w.os
 tape : w'.tape = w.tape
 output : w'.output = w.output
 size : w.heap.size ≤ w'.heap.size
 block : ∀ k, k < w.heap.size → (∀ u ∈ S, u.ownBlock ≠ some k) → w'.heap[k]? = w.heap[k]?
theorem Only.refl (S : List Value) (w : World) : Only S w w := ⟨rfl, rfl, rfl, Nat.le_refl _, fun _ _ _ => rfl⟩
theorem Only.trans {S : List Value} {a b c : World} (h : Only S a b) (k : Only S b c) : Only S a c :=
 ⟨k.os.trans h.os, k.tape.trans h.tape, k.output.trans h.output, Nat.le_trans h.size k.size, fun i hi' hr => (k.block i (Nat.lt_of_lt_of_le hi' h.size) hr).trans (h.block i hi' hr)⟩
theorem Only.of_grown {S : List Value} {w w' : World} {u : Value} (h : w.grownBy w' u.ownBlock) (hu : u ∈ S) : Only S w w' :=
 ⟨h.os, h.tape, h.output, h.size, fun k hk hrk => h.block k hk (fun e => hrk u hu e.symm)⟩
theorem Only.of_below {S : List Value} {w w' : World} (h : Below w.heap.size w w') : Only S w w' := ⟨h.os, h.tape, h.output, h.size, fun k hk _ => h.block k hk⟩
theorem Only.mono {S S' : List Value} {w w' : World} (h : Only S w w') (hs : ∀ u ∈ S, u ∈ S') : Only S' w w' := ⟨h.os, h.tape, h.output, h.size, fun k hk hr => h.block k hk (fun u hu => hr u (hs u hu))⟩
theorem Only.set {S : List Value} {w w' : World} (h : Only S w w') {p : Addr} {v : Value} (hv : v ∈ S) (hp : v.ownBlock = some p.block) (u : Value) : Only S w (w'.setCell p u) :=
 ⟨h.os, h.tape, h.output, by simpa [World.setCell] using h.size, fun k hk hr => (Below.heap_setCell w' p u k (fun e => hr v hv (by rw [hp, e]))).trans (h.block k hk hr)⟩
theorem Only.below {S : List Value} {lo : Nat} {w w' : World} (h : Only S w w') (hs : ∀ u ∈ S, ∀ k, u.ownBlock = some k → lo ≤ k) (hl : lo ≤ w.heap.size) : Below lo w w' :=
 ⟨h.os, h.tape, h.output, h.size, fun k hk => h.block k (by omega) (fun u hu e => by have := hs u hu k e; omega)⟩
theorem IntRow.only {w w' : World} {S : List Value} {base : Nat} {v : Value} {xs : List Int} (h : IntRow w base v xs) (hw : Only S w w') (hv : ∀ u ∈ S, Apart u v) : IntRow w' base v xs := by
 have h' : w.ownsRow base 3 1 v xs.length (xs.map (Value.int .i64)) := h
 refine ⟨h'.1, ?_⟩
 rcases h'.2 with ⟨rfl, h0⟩ | ⟨g, cap, cur, rfl, hb, hg, hn, hm, hs, ht⟩
 ·exact .inl ⟨rfl, h0⟩
 ·refine .inr ⟨g, cap, cur, rfl, hb, ?_, hn, hm, hs, ht⟩
  rw [hw.block g (Array.getElem?_eq_some_iff.1 hg).1 (fun u hu e => hv u hu g e rfl)]
  exact hg
theorem OwnThs.only {w w' : World} {S : List Value} {B : Nat} {v : Value} {ts : List Bt.Th} {xs : List (Value × Value)} (h : OwnThs w B v ts xs) (hw : Only S w w') (hv : ∀ u ∈ S, Apart u v) (hx : ∀ u ∈ S, ∀ x ∈ rowsOf xs, Apart u x) : OwnThs w' B v ts xs := by
 obtain ⟨h0, ⟨L, hL, h1⟩, h2⟩ := h
 refine ⟨h0, ⟨L, ⟨hL.1, ?_⟩, h1⟩, fun i hi hi' => ?_⟩
 ·rcases hL.2 with ⟨rfl, h0⟩ | ⟨g, cap, cur, rfl, hb, hg, hn, hm, hs, ht⟩
  ·exact .inl ⟨rfl, h0⟩
  ·refine .inr ⟨g, cap, cur, rfl, hb, ?_, hn, hm, hs, ht⟩
   rw [hw.block g (Array.getElem?_eq_some_iff.1 hg).1 (fun u hu e => hv u hu g e rfl)]
   exact hg
 ·obtain ⟨r0, r1⟩ := rowsOf_at hi'
  exact ⟨(h2 i hi hi').1.only hw (fun u hu => hx u hu _ (List.mem_of_getElem? r0)), (h2 i hi hi').2.only hw (fun u hu => hx u hu _ (List.mem_of_getElem? r1))⟩
theorem OwnThs.apart {w : World} {B base : Nat} {v : Value} {ts : List Bt.Th} {xs : List (Value × Value)} {u : Value} {ys : List Int} (h : OwnThs w B v ts xs) (hu : IntRow w base u ys) : Apart v u := by
 rcases h.forms with ⟨rfl, _⟩ | ⟨g, cap, rfl, _⟩
 ·intro b e; simp [Value.ownBlock] at e
 ·intro b e e'
  simp only [Value.ownBlock, Option.some.injEq] at e
  subst e
  exact h.ne hu e'
end Go.Proofs.Ytminfkedkkkhdaa
end
