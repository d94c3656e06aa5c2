/-
  How the laws copy machines: a contract; and how what they copied is read.
-/
import Derived.Test.YtdhkaediffiplaaThLawD
namespace Go.Proofs.Ytdhkaediffiplaa
open Go.RowKit

/-- a machine of the call's own -/
structure OwnMc (w : World) (B : Nat) (vt vc vl vd : Value) (xs : List (Value × Value)) (m : Bt.Mc) : Prop where
  ths : OwnThs w B vt m.ths xs
  cells : IntRow w B vc m.cells
  locks : IntRow w B vl m.locks
  told : IntRow w B vd m.told
  apart : (rowsOf xs ++ [vc, vl, vd]).Pairwise Apart

theorem OwnThs.keep {w w' : World} {B : Nat} {v : Value} {ts : List Bt.Th} {xs : List (Value × Value)} (h : OwnThs w B v ts xs) (hb : Below w.heap.size w w') : OwnThs w' B v ts xs := by
  obtain ⟨h0, ⟨L, hL, h1⟩, h2⟩ := h
  refine ⟨h0, ⟨L, World.ownsRow.kept hL (grown_below hb) ?_, h1⟩, fun i a b => ⟨(h2 i a b).1.keep hb, (h2 i a b).2.keep hb⟩⟩
  cases h : v.ownBlock with
  | none => exact .inl rfl
  | some k => exact .inr (by simp)
theorem OwnMc.keep {w w' : World} {B : Nat} {vt vc vl vd : Value} {xs : List (Value × Value)} {m : Bt.Mc} (h : OwnMc w B vt vc vl vd xs m) (hb : Below w.heap.size w w') : OwnMc w' B vt vc vl vd xs m :=
  ⟨h.ths.keep hb, h.cells.keep hb, h.locks.keep hb, h.told.keep hb, h.apart⟩
theorem OwnThs.forms {w : World} {B : Nat} {v : Value} {ts : List Bt.Th} {xs : List (Value × Value)} (h : OwnThs w B v ts xs) :
    (v = .slice none 0 0 ∧ ts = []) ∨ ∃ g cap, v = .slice (some ⟨g, 0, none⟩) ts.length cap ∧ B ≤ g ∧ g < w.heap.size ∧ ts.length ≤ cap ∧ cap ≤ maxLen := by
  obtain ⟨L, hL, _⟩ := h.row
  rcases hL.2 with ⟨rfl, h0⟩ | ⟨g, cap, cur, rfl, hb, hg, hn, hm, _, _⟩
  · exact .inl ⟨rfl, List.eq_nil_of_length_eq_zero h0⟩
  · exact .inr ⟨g, cap, rfl, hb, (Array.getElem?_eq_some_iff.1 hg).1, hn, hm⟩
/-- threads of the call's own, read -/
theorem OwnThs.arg {w : World} {B : Nat} {A : Option Addr} {n cap : Nat} {ts : List Bt.Th} {xs : List (Value × Value)} (h : OwnThs w B (.slice A n cap) ts xs) (hN : ts.length = n) : ArgThs w A n cap ts := by
  subst hN
  rcases h.forms with ⟨e, rfl⟩ | ⟨g, cap', e, _, _, hc, _⟩
  · injection e with e1 e2 e3
    subst e1 e3
    exact ⟨rfl, Nat.le_refl _, fun i hi => absurd hi (by simp)⟩
  · injection e with e1 e2 e3
    subst e1 e3
    refine ⟨rfl, hc, fun i hi => ⟨g, 0, rfl, ?_⟩⟩
    obtain ⟨L, hL, h1⟩ := h.row
    have hi' : i < xs.length := by rw [h.len]; exact hi
    obtain ⟨a0, a1, a2, a3⟩ := h1 i hi hi'
    obtain ⟨b1, b2⟩ := h.ints i hi hi'
    obtain ⟨A1, c1, e1, p1⟩ := b1.arg.form
    obtain ⟨A2, c2, e2, p2⟩ := b2.arg.form
    have hl := hL.1
    rw [Nat.zero_add]
    refine ⟨?_, ⟨A1, c1, ?_, p1⟩, ⟨A2, c2, ?_, p2⟩, ?_⟩
    · rw [World.ownsRow.cellAt hL _ (by omega)]; exact a0
    · rw [World.ownsRow.cellAt hL _ (by omega), ← e1]; exact a1
    · rw [World.ownsRow.cellAt hL _ (by omega), ← e2]; exact a2
    · rw [World.ownsRow.cellAt hL _ (by omega)]; exact a3
/-- a machine of the call's own, read -/
theorem OwnMc.arg {w : World} {B : Nat} {AT AC AL AD : Option Addr} {nt ct nc cc nl cl nd cd : Nat} {xs : List (Value × Value)} {m : Bt.Mc} (h : OwnMc w B (.slice AT nt ct) (.slice AC nc cc) (.slice AL nl cl) (.slice AD nd cd) xs m)
    (nT : m.ths.length = nt) (nC : m.cells.length = nc) (nL : m.locks.length = nl) (nD : m.told.length = nd) : ArgMc w AT nt ct AC nc cc AL nl cl AD nd cd m :=
  ⟨h.ths.arg nT, h.cells.arg, h.locks.arg, h.told.arg, nC, nL, nD⟩
theorem ThsGo.own {w : World} {g n : Nat} {ts : List Bt.Th} {xs : List (Value × Value)} (h : ThsGo w g n n ts xs) (hT : ts.length = n) : OwnThs w g (.slice (some ⟨g, 0, none⟩) n n) ts xs := by
  subst hT
  exact ⟨h.len, h.row, fun i a b => ⟨(h.ints i a b).1.mono (by omega), (h.ints i a b).2.mono (by omega)⟩⟩
theorem OwnThs.mono {w : World} {B B' : Nat} {v : Value} {ts : List Bt.Th} {xs : List (Value × Value)} (h : OwnThs w B v ts xs) (hB : B' ≤ B) : OwnThs w B' v ts xs := by
  obtain ⟨h0, ⟨L, hL, h1⟩, h2⟩ := h
  exact ⟨h0, ⟨L, Joins.ownsRow_le hL hB, h1⟩, fun i a b => ⟨(h2 i a b).1.mono hB, (h2 i a b).2.mono hB⟩⟩
theorem OwnThs.setOther {w : World} {B : Nat} {v : Value} {ts : List Bt.Th} {xs : List (Value × Value)} (h : OwnThs w B v ts xs) {p : Addr} (u : Value) (hp : p.block < B) : OwnThs (w.setCell p u) B v ts xs := by
  obtain ⟨h0, ⟨L, hL, h1⟩, h2⟩ := h
  refine ⟨h0, ⟨L, World.ownsRow.kept hL (row := some p.block) ⟨rfl, rfl, rfl, by simp [World.setCell], fun k hk hne => Below.heap_setCell w p u k (fun e => hne (by rw [e]))⟩ ?_, h1⟩, fun i a b => ⟨(h2 i a b).1.setOther u (fun k e => by have := ((h2 i a b).1.bd k e).1; omega), (h2 i a b).2.setOther u (fun k e => by have := ((h2 i a b).2.bd k e).1; omega)⟩⟩
  cases hv : v.ownBlock with
  | none => exact .inl rfl
  | some k => exact .inr (by have := (World.ownsRow.lt hL k hv).1; simp; omega)

/-- what a copied machine is -/
def McMade (m : Bt.Mc) (nt nc nl nd : Nat) (w : World) (e : Ending) (w' : World) : Prop :=
  ∃ gT gC gL gD xs, e = .returned (.agg #[.slice (some ⟨gT, 0, none⟩) nt nt, .slice (some ⟨gC, 0, none⟩) nc nc, .slice (some ⟨gL, 0, none⟩) nl nl, .slice (some ⟨gD, 0, none⟩) nd nd]) ∧ Below w.heap.size w w' ∧
    OwnMc w' w.heap.size (.slice (some ⟨gT, 0, none⟩) nt nt) (.slice (some ⟨gC, 0, none⟩) nc nc) (.slice (some ⟨gL, 0, none⟩) nl nl) (.slice (some ⟨gD, 0, none⟩) nd nd) xs m

theorem apart3 {l : List Value} {a b c : Value} {N M K : Nat} (hl : l.Pairwise Apart) (hN : ∀ u ∈ l, ∀ k, u.ownBlock = some k → k < N) (ha : ∀ k, a.ownBlock = some k → N ≤ k ∧ k < M) (hb : ∀ k, b.ownBlock = some k → M ≤ k ∧ k < K) (hc : ∀ k, c.ownBlock = some k → K ≤ k) (hNM : N ≤ M) (hMK : M ≤ K) :
    (l ++ [a, b, c]).Pairwise Apart := by
  rw [List.pairwise_append]
  refine ⟨hl, ?_, fun u hu v hv => ?_⟩
  · simp only [List.pairwise_cons, List.mem_cons, List.not_mem_nil, or_false, List.Pairwise.nil, and_true, forall_eq_or_imp, forall_eq, false_implies, implies_true]
    exact ⟨⟨Apart.of_lt (fun k e => (ha k e).2) (fun k e => (hb k e).1), Apart.of_lt (n := K) (fun k e => by have := (ha k e).2; omega) hc⟩, Apart.of_lt (fun k e => (hb k e).2) hc⟩
  · simp only [List.mem_cons, List.not_mem_nil, or_false] at hv
    rcases hv with rfl | rfl | rfl
    · exact Apart.of_lt (hN u hu) (fun k e => (ha k e).1)
    · exact Apart.of_lt (n := N) (hN u hu) (fun k e => by have := (hb k e).1; omega)
    · exact Apart.of_lt (n := N) (hN u hu) (fun k e => by have := hc k e; omega)

set_option maxHeartbeats 2000000 in
theorem toMachine_any {AT AC AL AD : Option Addr} {nt ct nc cc nl cl nd cd : Nat} {m : Bt.Mc} {w : World} (H : ArgMc w AT nt ct AC nc cc AL nl cl AD nd cd m) (S : Small m) :
    Calls Try.prog 16 #[.agg #[.slice AT nt ct, .slice AC nc cc, .slice AL nl cl, .slice AD nd cd]] w (McMade m nt nc nl nd w) := by
  have sT : nt ≤ 1048576 := H.nT ▸ S.ths
  have sC : nc ≤ 1048576 := H.nC ▸ S.cells
  have sL : nl ≤ 1048576 := H.nL ▸ S.locks
  have sD : nd ≤ 1048576 := H.nD ▸ S.told
  have HS : Hid (∀ i (h : i < m.ths.length), m.ths[i].regs.length ≤ 1048576 ∧ m.ths[i].stack.length ≤ 1048576) := Lib.hid (fun i h => ⟨S.regs i h, S.stack i h⟩)
  have eT := Lib.hid H.nT; have eC := Lib.hid H.nC; have eL := Lib.hid H.nL; have eD := Lib.hid H.nD
  have HH := Lib.hid H; clear H S
  unfold McMade
  go_enter Try.func16, Try.ntmps16
  go_wp2_with fail
  refine (toThreads_any (HH.out.keep ((((Below.refl _ _).alloc (Nat.le_refl _) _).alloc (by simp) _).alloc (by simp <;> omega) _)).ths sT HS.out).mono ?_
  rintro e w1 ⟨xs, rfl, hb1, hg1⟩
  obtain ⟨hc1, hf1⟩ := bcell hb1
  have hz1 : w.heap.size + 2 < w1.heap.size := by have := hb1.size; simp at this; omega
  have T1 : Hid (OwnThs w1 (w.heap.size + 3) (.slice (some ⟨w.heap.size + 3, 0, none⟩) nt nt) m.ths xs) := Lib.hid (by have h := hg1.own eT.out; simpa using h)
  have P1 : Hid ((rowsOf xs).Pairwise Apart) := Lib.hid hg1.apart
  have Q1 : Hid (∀ x ∈ rowsOf xs, ∀ j, x.ownBlock = some j → j < w1.heap.size) := Lib.hid (hg1.lt (by have := eT.out; omega))
  clear hg1
  have W1 : Below w.heap.size w w1 := ((((Below.refl w.heap.size w).alloc (Nat.le_refl _) _).alloc (by simp) _).alloc (by simp; omega) _).trans (hb1.mono (by simp; omega))
  have hz1' : w.heap.size + 3 < w1.heap.size := by
    obtain ⟨L, hL, _⟩ := T1.out.row
    exact (World.ownsRow.lt hL _ rfl).2
  have x10 : w.heap.size < w1.heap.size := by omega
  have x11 : w.heap.size + 1 < w1.heap.size := by omega
  have k10 : w1.cell? ⟨w.heap.size + 1, 0, none⟩ = some (.slice none 0 0) := keeps hb1 (keeps ((Below.refl _ _).alloc (Nat.le_refl _) _) (by simp))
  have k11 : w1.cell? ⟨w.heap.size + 1, 1, none⟩ = some (.slice none 0 0) := keeps hb1 (keeps ((Below.refl _ _).alloc (Nat.le_refl _) _) (by simp))
  have k12 : w1.cell? ⟨w.heap.size + 1, 2, none⟩ = some (.slice none 0 0) := keeps hb1 (keeps ((Below.refl _ _).alloc (Nat.le_refl _) _) (by simp))
  have k13 : w1.cell? ⟨w.heap.size + 1, 3, none⟩ = some (.slice none 0 0) := keeps hb1 (keeps ((Below.refl _ _).alloc (Nat.le_refl _) _) (by simp))
  go_wp2_with fail
  refine (toInts_n eC.out sC (HH.out.keep (W1.setCell (by simp; try omega) _)).cells).mono ?_
  rintro e w2 ⟨rfl, hb2, hr2⟩
  obtain ⟨hc2, hf2⟩ := bcell hb2
  have hs2 : w1.heap.size ≤ w2.heap.size := by have := hb2.size; simpa using this
  have R2 : Hid (IntRow w2 w1.heap.size (.slice (some ⟨w1.heap.size, 0, none⟩) nc nc) m.cells) := Lib.hid (by simpa using hr2)
  clear hr2
  have W2 : Below w.heap.size w w2 := (W1.setCell (by simp; try omega) _).trans (hb2.mono (by simp; omega))
  have hz2 : w.heap.size + 2 < w2.heap.size := by omega
  have x20 : w.heap.size < w2.heap.size := by omega
  have x21 : w.heap.size + 1 < w2.heap.size := by omega
  have T2 := Lib.hid ((T1.out.setOther (p := ⟨w.heap.size + 1 + 1, 0, none⟩) (.slice (some ⟨w.heap.size + 1 + 1 + 1, 0, none⟩) nt nt) (by simp; try omega)).keep hb2)
  have k20 : w2.cell? ⟨w.heap.size + 1, 0, none⟩ = some (.slice none 0 0) := keeps hb2 (by go_simp)
  have k21 : w2.cell? ⟨w.heap.size + 1, 1, none⟩ = some (.slice none 0 0) := keeps hb2 (by go_simp)
  have k22 : w2.cell? ⟨w.heap.size + 1, 2, none⟩ = some (.slice none 0 0) := keeps hb2 (by go_simp)
  have k23 : w2.cell? ⟨w.heap.size + 1, 3, none⟩ = some (.slice none 0 0) := keeps hb2 (by go_simp)
  clear k10
  clear k11
  clear k12
  clear k13
  go_wp2_with fail
  refine (toInts_n eL.out sL (HH.out.keep (W2.setCell (by simp; try omega) _)).locks).mono ?_
  rintro e w3 ⟨rfl, hb3, hr3⟩
  obtain ⟨hc3, hf3⟩ := bcell hb3
  have hs3 : w2.heap.size ≤ w3.heap.size := by have := hb3.size; simpa using this
  have R3 : Hid (IntRow w3 w2.heap.size (.slice (some ⟨w2.heap.size, 0, none⟩) nl nl) m.locks) := Lib.hid (by simpa using hr3)
  clear hr3
  have W3 : Below w.heap.size w w3 := (W2.setCell (by simp; try omega) _).trans (hb3.mono (by simp; omega))
  have hz3 : w.heap.size + 2 < w3.heap.size := by omega
  have x30 : w.heap.size < w3.heap.size := by omega
  have x31 : w.heap.size + 1 < w3.heap.size := by omega
  have T3 := Lib.hid ((T2.out.setOther (p := ⟨w.heap.size + 1 + 1, 1, none⟩) (.slice (some ⟨w1.heap.size, 0, none⟩) nc nc) (by simp; try omega)).keep hb3)
  have k30 : w3.cell? ⟨w.heap.size + 1, 0, none⟩ = some (.slice none 0 0) := keeps hb3 (by go_simp)
  have k31 : w3.cell? ⟨w.heap.size + 1, 1, none⟩ = some (.slice none 0 0) := keeps hb3 (by go_simp)
  have k32 : w3.cell? ⟨w.heap.size + 1, 2, none⟩ = some (.slice none 0 0) := keeps hb3 (by go_simp)
  have k33 : w3.cell? ⟨w.heap.size + 1, 3, none⟩ = some (.slice none 0 0) := keeps hb3 (by go_simp)
  clear k20
  clear k21
  clear k22
  clear k23
  have R2_3 := Lib.hid ((R2.out.setOther (p := ⟨w.heap.size + 1 + 1, 1, none⟩) (.slice (some ⟨w1.heap.size, 0, none⟩) nc nc) (by intro b hb; simp [Value.ownBlock] at hb; simp; omega)).keep hb3)
  go_wp2_with fail
  refine (toInts_n eD.out sD (HH.out.keep (W3.setCell (by simp; try omega) _)).told).mono ?_
  rintro e w4 ⟨rfl, hb4, hr4⟩
  obtain ⟨hc4, hf4⟩ := bcell hb4
  have hs4 : w3.heap.size ≤ w4.heap.size := by have := hb4.size; simpa using this
  have R4 : Hid (IntRow w4 w3.heap.size (.slice (some ⟨w3.heap.size, 0, none⟩) nd nd) m.told) := Lib.hid (by simpa using hr4)
  clear hr4
  have W4 : Below w.heap.size w w4 := (W3.setCell (by simp; try omega) _).trans (hb4.mono (by simp; omega))
  have hz4 : w.heap.size + 2 < w4.heap.size := by omega
  have x40 : w.heap.size < w4.heap.size := by omega
  have x41 : w.heap.size + 1 < w4.heap.size := by omega
  have T4 := Lib.hid ((T3.out.setOther (p := ⟨w.heap.size + 1 + 1, 2, none⟩) (.slice (some ⟨w2.heap.size, 0, none⟩) nl nl) (by simp; try omega)).keep hb4)
  have k40 : w4.cell? ⟨w.heap.size + 1, 0, none⟩ = some (.slice none 0 0) := keeps hb4 (by go_simp)
  have k41 : w4.cell? ⟨w.heap.size + 1, 1, none⟩ = some (.slice none 0 0) := keeps hb4 (by go_simp)
  have k42 : w4.cell? ⟨w.heap.size + 1, 2, none⟩ = some (.slice none 0 0) := keeps hb4 (by go_simp)
  have k43 : w4.cell? ⟨w.heap.size + 1, 3, none⟩ = some (.slice none 0 0) := keeps hb4 (by go_simp)
  clear k30
  clear k31
  clear k32
  clear k33
  have R2_4 := Lib.hid ((R2_3.out.setOther (p := ⟨w.heap.size + 1 + 1, 2, none⟩) (.slice (some ⟨w2.heap.size, 0, none⟩) nl nl) (by intro b hb; simp [Value.ownBlock] at hb; simp; omega)).keep hb4)
  have R3_4 := Lib.hid ((R3.out.setOther (p := ⟨w.heap.size + 1 + 1, 2, none⟩) (.slice (some ⟨w2.heap.size, 0, none⟩) nl nl) (by intro b hb; simp [Value.ownBlock] at hb; simp; omega)).keep hb4)
  have b2 := Lib.hid (fun k e => (R2.out.bd k e)); have b3 := Lib.hid (fun k e => (R3.out.bd k e)); have b4 := Lib.hid (fun k e => (R4.out.bd k e))
  go_wp2
  refine bodyPost_ret (v := .agg #[.slice (some ⟨w.heap.size + 3, 0, none⟩) nt nt, .slice (some ⟨w1.heap.size, 0, none⟩) nc nc, .slice (some ⟨w2.heap.size, 0, none⟩) nl nl, .slice (some ⟨w3.heap.size, 0, none⟩) nd nd]) (by simp [results, Try.results16, go_sem, k40, k41, k42, k43]) rfl ⟨w.heap.size + 3, w1.heap.size, w2.heap.size, w3.heap.size, xs, rfl, ?_, ?_, ?_, ?_, ?_, ?_⟩
  · repeat (refine Below.setCell ?_ (by simp; try omega) _)
    exact W4
  · refine OwnThs.mono (B := w.heap.size + 3) ?_ (by omega)
    repeat (refine OwnThs.setOther ?_ _ (by simp; try omega))
    exact T4.out
  · repeat (refine IntRow.setOther ?_ _ (by intro b hb; simp [Value.ownBlock] at hb; simp; omega))
    exact R2_4.out.mono (by omega)
  · repeat (refine IntRow.setOther ?_ _ (by intro b hb; simp [Value.ownBlock] at hb; simp; omega))
    exact R3_4.out.mono (by omega)
  · repeat (refine IntRow.setOther ?_ _ (by intro b hb; simp [Value.ownBlock] at hb; simp; omega))
    exact R4.out.mono (by omega)
  · exact apart3 P1.out Q1.out b2.out b3.out (fun k e => (b4.out k e).1) hs2 hs3
end Go.Proofs.Ytdhkaediffiplaa
