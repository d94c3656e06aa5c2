/-
  How the laws copy rows of threads, and machines: contracts.
-/
import Derived.Test.YtdhkaediffiplaaThLawC
namespace Go.Proofs.Ytdhkaediffiplaa
open Go.RowKit

/-- four stores into a list -/
def set4L (L : List Value) (i : Nat) (a b c d : Value) : List Value := (((L.set i a).set (i + 1) b).set (i + 2) c).set (i + 3) d
theorem set4L_length (L : List Value) (i : Nat) (a b c d : Value) : (set4L L i a b c d).length = L.length := by simp [set4L]
theorem set4L_ne {L : List Value} {i j : Nat} {a b c d : Value} (h : j < i ∨ i + 4 ≤ j) : (set4L L i a b c d)[j]? = L[j]? := by
  unfold set4L
  rw [List.getElem?_set_ne (by omega), List.getElem?_set_ne (by omega), List.getElem?_set_ne (by omega), List.getElem?_set_ne (by omega)]
theorem set4L_new {L : List Value} {i : Nat} {t : Bt.Th} {x : Value × Value} (h : i + 4 ≤ L.length) : Th4 (set4L L i (.int .i64 t.pl) x.1 x.2 (.int .i64 t.st)) i t x := by
  unfold Th4 set4L
  refine ⟨?_, ?_, ?_, ?_⟩
  · rw [List.getElem?_set_ne (by omega), List.getElem?_set_ne (by omega), List.getElem?_set_ne (by omega), List.getElem?_set_self (by omega)]
  · rw [List.getElem?_set_ne (by omega), List.getElem?_set_ne (by omega), List.getElem?_set_self (by simp; omega)]
  · rw [List.getElem?_set_ne (by omega), List.getElem?_set_self (by simp; omega)]
  · rw [List.getElem?_set_self (by simp; omega)]
theorem Th4.old {L : List Value} {i k : Nat} {t : Bt.Th} {x : Value × Value} {a b c d : Value} (h : Th4 L (i * 4) t x) (hik : i < k) : Th4 (set4L L (k * 4) a b c d) (i * 4) t x := by
  obtain ⟨h0, h1, h2, h3⟩ := h
  exact ⟨(set4L_ne (by omega)).trans h0, (set4L_ne (by omega)).trans h1, (set4L_ne (by omega)).trans h2, (set4L_ne (by omega)).trans h3⟩

/-- the copying of threads, on the way -/
structure ThsGo (w : World) (g n k : Nat) (ts : List Bt.Th) (xs : List (Value × Value)) : Prop where
  len : xs.length = k
  row : ∃ L, w.ownsRow g 71 4 (.slice (some ⟨g, 0, none⟩) n n) n L ∧ ∀ i (h : i < ts.length) (h' : i < xs.length), Th4 L (i * 4) ts[i] xs[i]
  ints : ∀ i (h : i < ts.length) (h' : i < xs.length), IntRow w (g + 1) xs[i].1 ts[i].regs ∧ IntRow w (g + 1) xs[i].2 ts[i].stack
  apart : (rowsOf xs).Pairwise Apart

theorem ThsGo.start (w : World) (n : Nat) (ts : List Bt.Th) (hn : n ≤ 1048576) :
    ThsGo (w.alloc (.cells (madeCells #[.int .i64 0, .slice none 0 0, .slice none 0 0, .int .i64 0] (n * 4)) 71)) w.heap.size n 0 ts [] := by
  refine ⟨rfl, ⟨_, World.ownsRow_lit (base := w.heap.size) (e := 71) (size := 4) w _ n (Nat.le_refl _) (by unfold maxLen; omega) (by rw [size_madeCells]), fun i _ h' => absurd h' (by simp)⟩, fun i _ h' => absurd h' (by simp), by simp [rowsOf]⟩

theorem ThsGo.cells {w : World} {g n k : Nat} {ts : List Bt.Th} {xs : List (Value × Value)} (h : ThsGo w g n k ts xs) {j : Nat} (hj : j < n * 4) : (∃ c, w.cell? ⟨g, j, none⟩ = some c) ∧ w.frozen? ⟨g, j, none⟩ = false := by
  obtain ⟨L, hL, _⟩ := h.row
  have hl := hL.1
  refine ⟨⟨L[j]'(by omega), ?_⟩, World.ownsRow.frozenAt hL j⟩
  rw [World.ownsRow.cellAt hL j hj, List.getElem?_eq_getElem]

theorem ThsGo.keep {w w' : World} {g n k : Nat} {ts : List Bt.Th} {xs : List (Value × Value)} (h : ThsGo w g n k ts xs) (hb : Below w.heap.size w w') : ThsGo w' g n k ts xs := by
  obtain ⟨h0, ⟨L, hL, h1⟩, h2, h3⟩ := h
  have hg : g < w.heap.size := (World.ownsRow.lt hL g rfl).2
  refine ⟨h0, ⟨L, World.ownsRow.kept hL (grown_below hb) (.inr (by simp [Value.ownBlock])), h1⟩, fun i a b => ⟨(h2 i a b).1.keep hb, (h2 i a b).2.keep hb⟩, h3⟩

theorem ThsGo.next {w : World} {g n k N : Nat} {ts : List Bt.Th} {xs : List (Value × Value)} (h : ThsGo w g n k ts xs) (hk : k < ts.length) (hkn : k < n) (hnn : ts.length = n) {v u : Value}
    (hN : ∀ x ∈ rowsOf xs, ∀ j, x.ownBlock = some j → j < N) (hgN : g + 1 ≤ N)
    (hv : IntRow w N v ts[k].regs) (hu : IntRow w N u ts[k].stack) (hvu : Apart v u) :
    ThsGo ((((w.setCell ⟨g, k * 4, none⟩ (.int .i64 ts[k].pl)).setCell ⟨g, k * 4 + 1, none⟩ v).setCell ⟨g, k * 4 + 2, none⟩ u).setCell ⟨g, k * 4 + 3, none⟩ (.int .i64 ts[k].st)) g n (k + 1) ts (xs ++ [(v, u)]) := by
  obtain ⟨h0, ⟨L, hL, h1⟩, h2, h3⟩ := h
  have hlen := hL.1
  have hs := (World.ownsRow.stored (World.ownsRow.stored (World.ownsRow.stored (World.ownsRow.stored hL (k * 4) (.int .i64 ts[k].pl)).1 (k * 4 + 1) v).1 (k * 4 + 2) u).1 (k * 4 + 3) (.int .i64 ts[k].st)).1
  have hoth : ∀ {y : Value} {zs : List Int}, IntRow w (g + 1) y zs → IntRow ((((w.setCell ⟨g, k * 4, none⟩ (.int .i64 ts[k].pl)).setCell ⟨g, k * 4 + 1, none⟩ v).setCell ⟨g, k * 4 + 2, none⟩ u).setCell ⟨g, k * 4 + 3, none⟩ (.int .i64 ts[k].st)) (g + 1) y zs := by
    intro y zs hy
    have hb := hy.bd
    exact (((hy.setOther _ (fun b e => by have := hb b e; simp; omega)).setOther _ (fun b e => by have := hb b e; simp; omega)).setOther _ (fun b e => by have := hb b e; simp; omega)).setOther _ (fun b e => by have := hb b e; simp; omega)
  refine ⟨by simp [h0], ⟨_, hs, fun i hi hi' => ?_⟩, fun i hi hi' => ?_, ?_⟩
  · by_cases hik : i < k
    · rw [List.getElem_append_left (by omega)]
      exact (h1 i hi (by omega)).old hik
    · have : i = k := by simp at hi'; omega
      subst this
      rw [List.getElem_append_right (by omega)]
      simp only [h0, Nat.sub_self, List.getElem_cons_zero]
      exact set4L_new (x := (v, u)) (by omega)
  · by_cases hik : i < k
    · rw [List.getElem_append_left (by omega)]
      exact ⟨hoth (h2 i hi (by omega)).1, hoth (h2 i hi (by omega)).2⟩
    · have : i = k := by simp at hi'; omega
      subst this
      rw [List.getElem_append_right (by omega)]
      simp only [h0, Nat.sub_self, List.getElem_cons_zero]
      exact ⟨hoth (hv.mono hgN), hoth (hu.mono hgN)⟩
  · rw [rowsOf_snoc]
    exact apart_snoc h3 hN (fun j e => (hv.bd j e).1) (fun j e => (hu.bd j e).1) hvu

theorem ThsGo.lt {w : World} {g n k : Nat} {ts : List Bt.Th} {xs : List (Value × Value)} (h : ThsGo w g n k ts xs) (hk : k ≤ ts.length) : ∀ x ∈ rowsOf xs, ∀ j, x.ownBlock = some j → j < w.heap.size := by
  intro x hx j hj
  obtain ⟨i, hi, he⟩ := rowsOf_mem hx
  have hi' : i < ts.length := by have := h.len; omega
  obtain ⟨a, b⟩ := h.ints i hi' hi
  rcases he with rfl | rfl
  · exact (a.bd j hj).2
  · exact (b.bd j hj).2

/-- what copied threads are -/
def ThsMade (ts : List Bt.Th) (n : Nat) (w : World) (e : Ending) (w' : World) : Prop :=
  ∃ xs, e = .returned (.slice (some ⟨w.heap.size, 0, none⟩) n n) ∧ Below w.heap.size w w' ∧ ThsGo w' w.heap.size n n ts xs

set_option maxHeartbeats 1000000 in
theorem toThreads_any {A : Option Addr} {n cap : Nat} {ts : List Bt.Th} {w : World} (H : ArgThs w A n cap ts) (hn : n ≤ 1048576) (hL : ∀ i (h : i < ts.length), ts[i].regs.length ≤ 1048576 ∧ ts[i].stack.length ≤ 1048576) :
    Calls Try.prog 53 #[.slice A n cap] w (ThsMade ts n w) := by
  have hT := Lib.hid H.1
  have hcap := H.2.1
  have HH := Lib.hid H; clear H
  have HL := Lib.hid hL; clear hL
  have hmk := run_make_threads n hn
  unfold ThsMade
  go_enter Try.func53, Try.ntmps53
  go_wp2
  clear hmk
  go_loopw [4] (fun i wr => ∃ k : Nat, k ≤ n ∧ i = .int .i64 k ∧ Below w.heap.size w wr ∧ ∃ xs, ThsGo wr w.heap.size n k ts xs) (fun i _ => n - (intOf i).toNat)
  case atStart => exact ⟨0, Nat.zero_le _, rfl, (Below.refl _ _).alloc (Nat.le_refl _) _, [], ThsGo.start w n ts hn⟩
  case round =>
    obtain ⟨k, hk, rfl, hb, xs, hgo⟩ := hrel
    have HG := Lib.hid hgo; clear hgo
    by_cases hlt : k < n
    · have hlt' : k < ts.length := by rw [hT.out]; exact hlt
      have hgs : w.heap.size < wr.heap.size := by
        obtain ⟨L, hL, _⟩ := HG.out.row
        exact (World.ownsRow.lt hL w.heap.size rfl).2
      obtain ⟨bt, ot, rfl, ht⟩ := (HH.out.keep hb).2.2 k hlt'
      obtain ⟨AR, cr, AS, cs, HT, f0, f1, f2, f3⟩ := ht.open
      obtain ⟨lr, ls⟩ := HL.out k hlt'
      have HNX := Lib.hid (fun (w2 : World) (v u : Value) (h : ThsGo w2 w.heap.size n k ts xs) => h.next (v := v) (u := u) hlt' hlt hT.out (N := wr.heap.size) (HG.out.lt (by omega)) (by omega))
      have G := Lib.hid (toThread_any HT lr ls)
      clear ht HT
      generalize ts[k] = th at *
      generalize th.regs.length = nr at *
      generalize th.stack.length = ns at *
      go_wp2_with fail
      refine G.out.mono ?_
      rintro e w2 ⟨g2, rfl, hg2, hb2, hr, hs⟩
      have HR := Lib.hid hr; have HS := Lib.hid hs; clear hr hs
      have HG2 := Lib.hid (HG.out.keep hb2)
      obtain ⟨⟨c0, r0⟩, z0⟩ := HG2.out.cells (j := k * 4) (by omega)
      obtain ⟨⟨c1, r1⟩, z1⟩ := HG2.out.cells (j := k * 4 + 1) (by omega)
      obtain ⟨⟨c2, r2⟩, z2⟩ := HG2.out.cells (j := k * 4 + 2) (by omega)
      obtain ⟨⟨c3, r3⟩, z3⟩ := HG2.out.cells (j := k * 4 + 3) (by omega)
      have HB := Lib.hid (hb.trans (hb2.mono hb.size))
      go_wp2
      go_roundw
      case rel =>
        refine ⟨k + 1, by omega, by go_num, ?_, _, HNX.out w2 _ _ HG2.out (HR.out.mono (by omega)) (HS.out.mono (by omega)) (fun b e1 e2 => ?_)⟩
        · exact ((((HB.out).setCell (Nat.le_refl _) _).setCell (Nat.le_refl _) _).setCell (Nat.le_refl _) _).setCell (Nat.le_refl _) _
        · simp [Value.ownBlock] at e1 e2; omega
      case measure => simp [intOf]; omega
    · obtain rfl : k = n := by omega
      go_wp2
      go_ret
      exact ⟨xs, rfl, hb, HG.out⟩
end Go.Proofs.Ytdhkaediffiplaa
