/-
  Part of a proof: DoD. No condition.
-/
import Derived.Test.YtminfkedkkkhdaaZAay
namespace Go.Proofs.Ytminfkedkkkhdaa
open Go.RowKit
def Copying (W : World) (g : Nat) (m : Bt.Mc) (vc vl vd : Value) (j : Nat) (w : World) : Prop :=
 Below W.heap.size W w ∧ McBox w g ∧ W.heap.size ≤ g ∧ ∃ v xs, Four w g v vc vl vd ∧ OwnMc w W.heap.size v vc vl vd xs ⟨m.ths.take j, m.cells, m.locks, m.told⟩
theorem OwnThs.empty {w : World} {B g : Nat} (hB : B ≤ g) (h : w.heap[g]? = some (.cells #[] 123)) : OwnThs w B (.slice (some ⟨g, 0, none⟩) 0 0) [] [] :=
 ⟨rfl, ⟨[], ⟨by simp, .inr ⟨g, 0, #[], rfl, hB, h, Nat.le_refl _, by unfold maxLen; omega, rfl, rfl⟩⟩, fun i hi => absurd hi (by simp)⟩, fun i hi => absurd hi (by simp)⟩
theorem Four.only {S : List Value} {w w' : World} {g : Nat} {a b c d : Value} (h : Four w g a b c d) (hw : Only S w w') (hne : ∀ u ∈ S, u.ownBlock ≠ some g) : Four w' g a b c d := by
 obtain ⟨h0, h1, h2, h3, f0, f1, f2, f3⟩ := h
 exact ⟨hw.cell h0 hne, hw.cell h1 hne, hw.cell h2 hne, hw.cell h3 hne, hw.frozen h0 f0 hne, hw.frozen h1 f1 hne, hw.frozen h2 f2 hne, hw.frozen h3 f3 hne⟩
theorem Four.set0 {w : World} {g : Nat} {a b c d : Value} (h : Four w g a b c d) (u : Value) : Four (w.setCell ⟨g, 0, none⟩ u) g u b c d := by
 obtain ⟨h0, h1, h2, h3, f0, f1, f2, f3⟩ := h
 unfold Four
 go_simp
theorem OwnMc.snoc {w : World} {B : Nat} {v vc vl vd : Value} {xs : List (Value × Value)} {ts : List Bt.Th} {t : Bt.Th} {r k : Value} {C L D : List Int} (h : ThsAcc w B v (ts ++ [t]) (xs ++ [(r, k)])) (hc : IntRow w B vc C) (hl : IntRow w B vl L) (hd : IntRow w B vd D)
  (h0 : (rowsOf xs ++ [vc, vl, vd]).Pairwise Apart) (hn : ∀ u ∈ [vc, vl, vd], Apart u r ∧ Apart u k) : OwnMc w B v vc vl vd (xs ++ [(r, k)]) ⟨ts ++ [t], C, L, D⟩ := by
 refine ⟨h.own, hc, hl, hd, ?_⟩
 have h1 := h.apart
 rw [List.pairwise_append] at h0 ⊢
 refine ⟨h1, h0.2.1, fun u hu x hx => ?_⟩
 rw [rowsOf_snoc, List.mem_append] at hu
 rcases hu with hu | hu
 ·exact h0.2.2 u hu x hx
 ·simp only [List.mem_cons, List.not_mem_nil, or_false] at hu
  rcases hu with rfl | rfl
  ·exact (hn x hx).1.symm
  ·exact (hn x hx).2.symm
set_option maxRecDepth 100000 in
set_option maxHeartbeats 8000000 in
theorem l2Copy_any {AT AC AL AD : Option Addr} {nt ct nc cc nl cl nd cd : Nat} {m : Bt.Mc} {w : World} (H : ArgMc w AT nt ct AC nc cc AL nl cl AD nd cd m) (S : Small m) :
  Calls Try.prog 98 #[.agg #[.slice AT nt ct, .slice AC nc cc, .slice AL nl cl, .slice AD nd cd]] w (McNew m w) := by
 have HNE_nc := Lib.hid H.nC; have HNE_nl := Lib.hid H.nL; have HNE_nd := Lib.hid H.nD; have HT := Lib.hid H.nT
 have hle := H.ths.2.1
 have hn20 : nt ≤ 1048576 := by rw [← HT.out]; exact S.ths
 have HS := Lib.hid S; clear S
 obtain ⟨W0, hW0⟩ : ∃ W0 : World, W0 = (w.alloc (.cells #[.slice AT nt ct, .slice AC nc cc, .slice AL nl cl, .slice AD nd cd] 31)).alloc (.cells #[.slice none 0 0, .slice none 0 0, .slice none 0 0, .slice none 0 0] 31) := ⟨_, rfl⟩
 have B0 := Lib.hid (show Below w.heap.size w W0 by rw [hW0]; exact ((Below.refl _ _).alloc (Nat.le_refl _) _).alloc (by simp) _)
 have HH := Lib.hid (H.keep B0.out)
 have HH00 := Lib.hid H; clear H
 have hz0 : W0.heap.size = w.heap.size + 2 := by rw [hW0]; simp
 have p0 : W0.cell? ⟨w.heap.size, 0, none⟩ = some (.slice AT nt ct) := by rw [hW0]; go_simp
 have p1 : W0.cell? ⟨w.heap.size, 1, none⟩ = some (.slice AC nc cc) := by rw [hW0]; go_simp
 have p2 : W0.cell? ⟨w.heap.size, 2, none⟩ = some (.slice AL nl cl) := by rw [hW0]; go_simp
 have p3 : W0.cell? ⟨w.heap.size, 3, none⟩ = some (.slice AD nd cd) := by rw [hW0]; go_simp
 have f4 : Four W0 (w.heap.size + 1) (.slice none 0 0) (.slice none 0 0) (.slice none 0 0) (.slice none 0 0) := by rw [hW0]; unfold Four; go_simp
 have HW := Lib.hid hW0; clear hW0
 go_enter Try.func98, Try.ntmps98
 go_wp2_with fail
 rw [← HW.out]
 refine wp_region_ordI [Fact.upto 5 15 (fun v w' => ∃ g, v = .slice (some ⟨g, 0, none⟩) 0 0 ∧ W0.heap.size ≤ g ∧ w'.heap[g]? = some (.cells #[] 123)),
   Fact.upto 6 15 (fun v w' => ∃ g, v = .slice (some ⟨g, 0, none⟩) 0 0 ∧ W0.heap.size ≤ g ∧ w'.heap[g]? = some (.cells #[] 3)),
   Fact.is 7 (.pointer (some ⟨w.heap.size, 1, none⟩)),
   Fact.is 8 (.slice AC nc cc),
   Fact.upto 9 15 (fun v w' => ∃ A c, v = .slice A nc c ∧ IntRow w' W0.heap.size (.slice A nc c) m.cells),
   Fact.upto 10 15 (fun v w' => ∃ g, v = .slice (some ⟨g, 0, none⟩) 0 0 ∧ W0.heap.size ≤ g ∧ w'.heap[g]? = some (.cells #[] 3)),
   Fact.is 11 (.pointer (some ⟨w.heap.size, 2, none⟩)),
   Fact.is 12 (.slice AL nl cl),
   Fact.upto 13 15 (fun v w' => ∃ A c, v = .slice A nl c ∧ IntRow w' W0.heap.size (.slice A nl c) m.locks),
   Fact.upto 14 15 (fun v w' => ∃ g, v = .slice (some ⟨g, 0, none⟩) 0 0 ∧ W0.heap.size ≤ g ∧ w'.heap[g]? = some (.cells #[] 3)),
   Fact.is 15 (.pointer (some ⟨w.heap.size, 3, none⟩)),
   Fact.is 16 (.slice AD nd cd),
   Fact.upto 17 15 (fun v w' => ∃ A c, v = .slice A nd c ∧ IntRow w' W0.heap.size (.slice A nd c) m.told),
   ⟨[18, 9, 13, 17], some 15, fun vs w' => ∃ g5 A1 c1 A2 c2 A3 c3, vs = [.agg #[.slice (some ⟨g5, 0, none⟩) 0 0, .slice A1 nc c1, .slice A2 nl c2, .slice A3 nd c3], .slice A1 nc c1, .slice A2 nl c2, .slice A3 nd c3] ∧ W0.heap.size ≤ g5 ∧ w'.heap[g5]? = some (.cells #[] 123) ∧ IntRow w' W0.heap.size (.slice A1 nc c1) m.cells ∧ IntRow w' W0.heap.size (.slice A2 nl c2) m.locks ∧ IntRow w' W0.heap.size (.slice A3 nd c3) m.told⟩,
   Fact.upto 3 15 (fun v w' => ∃ g, v = .pointer (some ⟨g, 0, none⟩) ∧ W0.heap.size ≤ g ∧ w'.heap[g]? = some (.cells #[.slice none 0 0, .slice none 0 0, .slice none 0 0, .slice none 0 0] 31)),
   ⟨[3, 9, 13, 17], none, fun vs w' => ∃ g g5 A1 c1 A2 c2 A3 c3, vs = [.pointer (some ⟨g, 0, none⟩), .slice A1 nc c1, .slice A2 nl c2, .slice A3 nd c3] ∧ Four w' g (.slice (some ⟨g5, 0, none⟩) 0 0) (.slice A1 nc c1) (.slice A2 nl c2) (.slice A3 nd c3) ∧ McBox w' g ∧ W0.heap.size ≤ g ∧ W0.heap.size ≤ g5 ∧ w'.heap[g5]? = some (.cells #[] 123) ∧ Below W0.heap.size W0 w' ∧ IntRow w' W0.heap.size (.slice A1 nc c1) m.cells ∧ IntRow w' W0.heap.size (.slice A2 nl c2) m.locks ∧ IntRow w' W0.heap.size (.slice A3 nd c3) m.told⟩]
  [(15, fun w' => Below W0.heap.size W0 w')] [(1, 6, 1), (4, 9, 1), (5, 10, 2), (8, 13, 2), (9, 14, 3), (12, 17, 3)]
  (by kernel_rfl) (by kernel_rfl) (by kernel_rfl) ?_ ?_ ?_ ?_ ?_
 ·intro q hq
  simp only [List.mem_cons, List.not_mem_nil, or_false] at hq
  rcases hq with rfl
  ·exact (Below.refl _ _).drew
 ·exact ⟨Fact.upto_stable (fun v w w' hb ⟨g, e, h, h'⟩ => ⟨g, e, h, heap_keep hb h'⟩), Fact.upto_stable (fun v w w' hb ⟨g, e, h, h'⟩ => ⟨g, e, h, heap_keep hb h'⟩), Fact.is_stable _ _, Fact.is_stable _ _, Fact.upto_stable (fun v w w' hb ⟨A, c, e, h⟩ => ⟨A, c, e, h.keep hb⟩), Fact.upto_stable (fun v w w' hb ⟨g, e, h, h'⟩ => ⟨g, e, h, heap_keep hb h'⟩), Fact.is_stable _ _, Fact.is_stable _ _, Fact.upto_stable (fun v w w' hb ⟨A, c, e, h⟩ => ⟨A, c, e, h.keep hb⟩), Fact.upto_stable (fun v w w' hb ⟨g, e, h, h'⟩ => ⟨g, e, h, heap_keep hb h'⟩), Fact.is_stable _ _, Fact.is_stable _ _, Fact.upto_stable (fun v w w' hb ⟨A, c, e, h⟩ => ⟨A, c, e, h.keep hb⟩), (fun vs w1 w2 hb ⟨g5, A1, c1, A2, c2, A3, c3, e, h0, h1, h2, h3, h4⟩ => ⟨g5, A1, c1, A2, c2, A3, c3, e, h0, heap_keep hb h1, h2.keep hb, h3.keep hb, h4.keep hb⟩), Fact.upto_stable (fun v w w' hb ⟨g, e, h, h'⟩ => ⟨g, e, h, heap_keep hb h'⟩), (fun vs w1 w2 hb ⟨g, g5, A1, c1, A2, c2, A3, c3, e, h0, h1, h2, h3, h4, h5, h6, h7, h8⟩ => ⟨g, g5, A1, c1, A2, c2, A3, c3, e, h0.keep hb, h1.keep hb, h2, h3, heap_keep hb h4, below_then h5 hb, h6.keep hb, h7.keep hb, h8.keep hb⟩), trivial⟩
 ·intro q hq w1' w2' hb h
  simp only [List.mem_cons, List.not_mem_nil, or_false] at hq
  rcases hq with rfl
  ·exact below_then h hb
 ·refine ⟨?_, ?_, ?_, ?_, ?_, ?_, ?_, ?_, ?_, ?_, ?_, ?_, ?_, ?_, ?_, ?_, trivial⟩
  ·intro A' w' hJ hoff hdep _hdif
   have b := init_of hJ (n := 0) rfl (by kernel_rfl)
   have hb : Below w'.heap.size w' (w'.alloc (.cells #[] 123)) := (Below.refl _ _).alloc (Nat.le_refl _) _
   exact runI (v := .slice (some ⟨w'.heap.size, 0, none⟩) 0 0) (w' := w'.alloc (.cells #[] 123)) (by generalize A'.eval = ev at *; simp [go_sem]) hb (upto_to rfl rfl ⟨_, rfl, b.size, alloc_at _ _⟩) (fam_none (by kernel_rfl))
  ·intro A' w' hJ hoff hdep _hdif
   have b := init_of hJ (n := 0) rfl (by kernel_rfl)
   have hb : Below w'.heap.size w' (w'.alloc (.cells #[] 3)) := (Below.refl _ _).alloc (Nat.le_refl _) _
   exact runI (v := .slice (some ⟨w'.heap.size, 0, none⟩) 0 0) (w' := w'.alloc (.cells #[] 3)) (by generalize A'.eval = ev at *; simp [go_sem]) hb (upto_to rfl rfl ⟨_, rfl, b.size, alloc_at _ _⟩) (fam_new (fun k hk => by simp only [Value.ownBlock, Option.some.injEq] at hk; subst hk; simp))
  ·intro A' w' hJ hoff hdep _hdif
   have a1 : A'.eval (.tmp 1) = .pointer (some ⟨w.heap.size, 0, none⟩) := off_of hoff 1 (by kernel_rfl)
   exact isI rfl rfl (by generalize A'.eval = ev at *; simp [go_sem, a1])
  ·intro A' w' hJ hoff hdep _hdif
   have a7 := is_of (ask_of hdep (j := 2) (by kernel_rfl)) rfl
   have b := init_of hJ (n := 0) rfl (by kernel_rfl)
   have q1 := keeps b p1
   exact isI rfl rfl (by generalize A'.eval = ev at *; simp [go_sem, a7, q1])
  ·intro A' w' hJ hoff hdep _hdif
   have b := init_of hJ (n := 0) rfl (by kernel_rfl)
   obtain ⟨g, aE, hgb, hg⟩ := upto_of (ask_of hdep (j := 1) (by kernel_rfl)) rfl
   have a8 := is_of (ask_of hdep (j := 3) (by kernel_rfl)) rfl
   obtain ⟨A9, c9, w9, h9, hb9, hr9, hk9⟩ := run_copy_ints 29 g _ m.cells hg (HH.out.cells.keep b) (by rw [HNE_nc.out]; have := HS.out.cells; rw [HNE_nc.out] at this; omega) W0.heap.size hgb
   exact runI (exec_append rfl aE a8 h9) hb9 (upto_to rfl rfl ⟨_, _, HNE_nc.out ▸ rfl, HNE_nc.out ▸ hr9⟩) (fam_of 1 6 1 (by simp) (by kernel_rfl) (by kernel_rfl) (fun k hk => ⟨(hk9 k hk).1, (hk9 k hk).2.imp id (fun e => by rw [show slotAt A' 6 = _ from aE, e]; rfl)⟩))
  ·intro A' w' hJ hoff hdep _hdif
   have b := init_of hJ (n := 0) rfl (by kernel_rfl)
   have hb : Below w'.heap.size w' (w'.alloc (.cells #[] 3)) := (Below.refl _ _).alloc (Nat.le_refl _) _
   exact runI (v := .slice (some ⟨w'.heap.size, 0, none⟩) 0 0) (w' := w'.alloc (.cells #[] 3)) (by generalize A'.eval = ev at *; simp [go_sem]) hb (upto_to rfl rfl ⟨_, rfl, b.size, alloc_at _ _⟩) (fam_new (fun k hk => by simp only [Value.ownBlock, Option.some.injEq] at hk; subst hk; simp))
  ·intro A' w' hJ hoff hdep _hdif
   have a1 : A'.eval (.tmp 1) = .pointer (some ⟨w.heap.size, 0, none⟩) := off_of hoff 1 (by kernel_rfl)
   exact isI rfl rfl (by generalize A'.eval = ev at *; simp [go_sem, a1])
  ·intro A' w' hJ hoff hdep _hdif
   have a11 := is_of (ask_of hdep (j := 6) (by kernel_rfl)) rfl
   have b := init_of hJ (n := 0) rfl (by kernel_rfl)
   have q1 := keeps b p2
   exact isI rfl rfl (by generalize A'.eval = ev at *; simp [go_sem, a11, q1])
  ·intro A' w' hJ hoff hdep _hdif
   have b := init_of hJ (n := 0) rfl (by kernel_rfl)
   obtain ⟨g, aE, hgb, hg⟩ := upto_of (ask_of hdep (j := 5) (by kernel_rfl)) rfl
   have a12 := is_of (ask_of hdep (j := 7) (by kernel_rfl)) rfl
   obtain ⟨A9, c9, w9, h9, hb9, hr9, hk9⟩ := run_copy_ints 29 g _ m.locks hg (HH.out.locks.keep b) (by rw [HNE_nl.out]; have := HS.out.locks; rw [HNE_nl.out] at this; omega) W0.heap.size hgb
   exact runI (exec_append rfl aE a12 h9) hb9 (upto_to rfl rfl ⟨_, _, HNE_nl.out ▸ rfl, HNE_nl.out ▸ hr9⟩) (fam_of 5 10 2 (by simp) (by kernel_rfl) (by kernel_rfl) (fun k hk => ⟨(hk9 k hk).1, (hk9 k hk).2.imp id (fun e => by rw [show slotAt A' 10 = _ from aE, e]; rfl)⟩))
  ·intro A' w' hJ hoff hdep _hdif
   have b := init_of hJ (n := 0) rfl (by kernel_rfl)
   have hb : Below w'.heap.size w' (w'.alloc (.cells #[] 3)) := (Below.refl _ _).alloc (Nat.le_refl _) _
   exact runI (v := .slice (some ⟨w'.heap.size, 0, none⟩) 0 0) (w' := w'.alloc (.cells #[] 3)) (by generalize A'.eval = ev at *; simp [go_sem]) hb (upto_to rfl rfl ⟨_, rfl, b.size, alloc_at _ _⟩) (fam_new (fun k hk => by simp only [Value.ownBlock, Option.some.injEq] at hk; subst hk; simp))
  ·intro A' w' hJ hoff hdep _hdif
   have a1 : A'.eval (.tmp 1) = .pointer (some ⟨w.heap.size, 0, none⟩) := off_of hoff 1 (by kernel_rfl)
   exact isI rfl rfl (by generalize A'.eval = ev at *; simp [go_sem, a1])
  ·intro A' w' hJ hoff hdep _hdif
   have a15 := is_of (ask_of hdep (j := 10) (by kernel_rfl)) rfl
   have b := init_of hJ (n := 0) rfl (by kernel_rfl)
   have q1 := keeps b p3
   exact isI rfl rfl (by generalize A'.eval = ev at *; simp [go_sem, a15, q1])
  ·intro A' w' hJ hoff hdep _hdif
   have b := init_of hJ (n := 0) rfl (by kernel_rfl)
   obtain ⟨g, aE, hgb, hg⟩ := upto_of (ask_of hdep (j := 9) (by kernel_rfl)) rfl
   have a16 := is_of (ask_of hdep (j := 11) (by kernel_rfl)) rfl
   obtain ⟨A9, c9, w9, h9, hb9, hr9, hk9⟩ := run_copy_ints 29 g _ m.told hg (HH.out.told.keep b) (by rw [HNE_nd.out]; have := HS.out.told; rw [HNE_nd.out] at this; omega) W0.heap.size hgb
   exact runI (exec_append rfl aE a16 h9) hb9 (upto_to rfl rfl ⟨_, _, HNE_nd.out ▸ rfl, HNE_nd.out ▸ hr9⟩) (fam_of 9 14 3 (by simp) (by kernel_rfl) (by kernel_rfl) (fun k hk => ⟨(hk9 k hk).1, (hk9 k hk).2.imp id (fun e => by rw [show slotAt A' 14 = _ from aE, e]; rfl)⟩))
  ·intro A' w' hJ hoff hdep _hdif
   obtain ⟨g5, a5, hg5, h5⟩ := upto_of (ask_of hdep (j := 0) (by kernel_rfl)) rfl
   obtain ⟨A1, c1, a9, p9⟩ := upto_of (ask_of hdep (j := 4) (by kernel_rfl)) rfl
   obtain ⟨A2, c2, a13, p13⟩ := upto_of (ask_of hdep (j := 8) (by kernel_rfl)) rfl
   obtain ⟨A3, c3, a17, p17⟩ := upto_of (ask_of hdep (j := 12) (by kernel_rfl)) rfl
   exact runI (v := .agg #[.slice (some ⟨g5, 0, none⟩) 0 0, .slice A1 nc c1, .slice A2 nl c2, .slice A3 nd c3]) (w' := w') (by generalize A'.eval = ev at *; simp [go_sem, a5, a9, a13, a17]) (Below.refl _ _) ⟨g5, A1, c1, A2, c2, A3, c3, by
    have e9 : slotAt A' 9 = .slice A1 nc c1 := a9
    have e13 : slotAt A' 13 = .slice A2 nl c2 := a13
    have e17 : slotAt A' 17 = .slice A3 nd c3 := a17
    simp [put1, e9, e13, e17], hg5, h5, p9, p13, p17⟩ (fam_none (by kernel_rfl))
  ·intro A' w' hJ hoff hdep _hdif
   have b := init_of hJ (n := 0) rfl (by kernel_rfl)
   exact allocI (ob := .cells #[.slice none 0 0, .slice none 0 0, .slice none 0 0, .slice none 0 0] 31) (by generalize A'.eval = ev at *; simp [go_sem]) (upto_to rfl rfl ⟨_, rfl, b.size, alloc_at _ _⟩)
  ·intro A' w' hJ hoff hdep _hdif
   have b := init_of hJ (n := 0) rfl (by kernel_rfl)
   obtain ⟨g, a3, hgb, hg⟩ := upto_of (ask_of hdep (j := 14) (by kernel_rfl)) rfl
   obtain ⟨g5, A1, c1, A2, c2, A3, c3, e18, hg5, h5, p9, p13, p17⟩ := ask_of hdep (j := 13) (by kernel_rfl)
   have e18 : [slotAt A' 18, slotAt A' 9, slotAt A' 13, slotAt A' 17] = [.agg #[.slice (some ⟨g5, 0, none⟩) 0 0, .slice A1 nc c1, .slice A2 nl c2, .slice A3 nd c3], .slice A1 nc c1, .slice A2 nl c2, .slice A3 nd c3] := e18
   injection e18 with a18 e18
   injection e18 with e9 e18
   injection e18 with e13 e18
   injection e18 with e17 _
   have a18 : A'.eval (.tmp 18) = .agg #[.slice (some ⟨g5, 0, none⟩) 0 0, .slice A1 nc c1, .slice A2 nl c2, .slice A3 nd c3] := a18
   have e3 : slotAt A' 3 = .pointer (some ⟨g, 0, none⟩) := a3
   have hM : McBox w' g := ⟨_, _, hg⟩
   have hne : g5 ≠ g := fun e => by subst e; rw [hg] at h5; injection h5 with e2; injection e2 with _ e3 _; exact absurd e3 (by decide)
   have k0 : w'.cell? ⟨g, 0, none⟩ = some (.slice none 0 0) := by simp [World.cell?, hg]
   have k1 : w'.cell? ⟨g, 1, none⟩ = some (.slice none 0 0) := by simp [World.cell?, hg]
   have k2 : w'.cell? ⟨g, 2, none⟩ = some (.slice none 0 0) := by simp [World.cell?, hg]
   have k3 : w'.cell? ⟨g, 3, none⟩ = some (.slice none 0 0) := by simp [World.cell?, hg]
   have g0 : w'.frozen? ⟨g, 0, none⟩ = false := by simp [World.frozen?, hg]
   have g1 : w'.frozen? ⟨g, 1, none⟩ = false := by simp [World.frozen?, hg]
   have g2 : w'.frozen? ⟨g, 2, none⟩ = false := by simp [World.frozen?, hg]
   have g3 : w'.frozen? ⟨g, 3, none⟩ = false := by simp [World.frozen?, hg]
   have hz := b.size
   refine lastI (w' := (((w'.setCell ⟨g, 0, none⟩ (.slice (some ⟨g5, 0, none⟩) 0 0)).setCell ⟨g, 1, none⟩ (.slice A1 nc c1)).setCell ⟨g, 2, none⟩ (.slice A2 nl c2)).setCell ⟨g, 3, none⟩ (.slice A3 nd c3)) (by generalize A'.eval = ev at *; simp [go_sem, a3, a18, k0, k1, k2, k3, g0, g1, g2, g3]) (by simp) ⟨g, g5, A1, c1, A2, c2, A3, c3, by simp [put1, e3, e9, e13, e17], ?_, (((hM.set _ _).set _ _).set _ _).set _ _, hgb, hg5, ?_, ?_, ?_, ?_, ?_⟩ (fun j hj _ hk hf => ?_) (by kernel_rfl)
   ·clear hoff hdep hJ
    unfold Four
    go_simp
   ·rw [Below.heap_setCell _ _ _ _ hne, Below.heap_setCell _ _ _ _ hne, Below.heap_setCell _ _ _ _ hne, Below.heap_setCell _ _ _ _ hne]
    exact h5
   ·repeat (refine Below.setCell ?_ hgb _)
    exact b
   ·repeat (refine IntRow.setOther ?_ _ (fun b e e' => p9.neM hM (by rw [e, e'])))
    exact p9
   ·repeat (refine IntRow.setOther ?_ _ (fun b e e' => p13.neM hM (by rw [e, e'])))
    exact p13
   ·repeat (refine IntRow.setOther ?_ _ (fun b e e' => p17.neM hM (by rw [e, e'])))
    exact p17
   ·match j, hj, hk, hf with
    | 0, hj, hk, hf => exact absurd rfl (hk 15 rfl).1
    | 1, hj, hk, hf => exact absurd rfl (hk 15 rfl).1
    | 2, _, _, hf => exact hf
    | 3, _, _, hf => exact hf
    | 4, hj, hk, hf => exact absurd rfl (hk 15 rfl).1
    | 5, hj, hk, hf => exact absurd rfl (hk 15 rfl).1
    | 6, _, _, hf => exact hf
    | 7, _, _, hf => exact hf
    | 8, hj, hk, hf => exact absurd rfl (hk 15 rfl).1
    | 9, hj, hk, hf => exact absurd rfl (hk 15 rfl).1
    | 10, _, _, hf => exact hf
    | 11, _, _, hf => exact hf
    | 12, hj, hk, hf => exact absurd rfl (hk 15 rfl).1
    | 13, hj, hk, hf => exact absurd rfl (hk 15 rfl).1
    | 14, hj, hk, hf => exact absurd rfl (hk 15 rfl).1
    | 15, hj, _, _ => exact absurd rfl hj
    | _ + 16, _, _, _ => trivial
 ·intro s W1 hf _hdf hff
  obtain ⟨g, g5, A1, c1, A2, c2, A3, c3, es, hF, hM, hgb, hg5, h5, hb1, q1, q2, q3⟩ := hf 15 (by decide) rfl
  have es : [s 3, s 9, s 13, s 17] = [.pointer (some ⟨g, 0, none⟩), .slice A1 nc c1, .slice A2 nl c2, .slice A3 nd c3] := es
  injection es with e3 es
  injection es with e9 es
  injection es with e13 es
  injection es with e17 _
  have ap1 : Apart (.slice A1 nc c1) (.slice A2 nl c2) := fun k hk hk' => hff (4, 9, 1) (by simp) (8, 13, 2) (by simp) (by decide) k (by rw [e9]; exact hk) (by rw [e13]; exact hk')
  have ap2 : Apart (.slice A1 nc c1) (.slice A3 nd c3) := fun k hk hk' => hff (4, 9, 1) (by simp) (12, 17, 3) (by simp) (by decide) k (by rw [e9]; exact hk) (by rw [e17]; exact hk')
  have ap3 : Apart (.slice A2 nl c2) (.slice A3 nd c3) := fun k hk hk' => hff (8, 13, 2) (by simp) (12, 17, 3) (by simp) (by decide) k (by rw [e13]; exact hk) (by rw [e17]; exact hk')
  have HC : Hid (Copying W0 g m (.slice A1 nc c1) (.slice A2 nl c2) (.slice A3 nd c3) 0 W1) := Lib.hid ⟨hb1, hM, hgb, _, [], hF, ⟨by simpa using OwnThs.empty hg5 h5, q1, q2, q3, by simp [rowsOf, ap1, ap2, ap3]⟩⟩
  clear hf hff ap1 ap2 ap3 hF hM hg5 h5 q1 q2 q3
  simp only [putAll, Act.put, List.setIfInBounds_toArray, List.set_cons_succ, List.set_cons_zero, e3]
  clear e3 e9 e13 e17
  go_wp2_with fail
  go_loopw [4] (fun i wr => ∃ j : Nat, j ≤ nt ∧ i = .int .i64 j ∧ Copying W0 g m (.slice A1 nc c1) (.slice A2 nl c2) (.slice A3 nd c3) j wr) (fun i _ => nt - (intOf i).toNat)
  case atStart => exact ⟨0, Nat.zero_le _, rfl, HC.out⟩
  case round =>
   obtain ⟨j, hj, rfl, hb, hMg, _, v, xs, hFr, hO⟩ := hrel
   have HO := Lib.hid hO; clear hO
   have HB := Lib.hid hb; have HF := Lib.hid hFr; have HM := Lib.hid hMg
   have p0' := keeps hb p0
   have hsz := hb.size
   by_cases hlt : j < nt
   ·have hlt' : j < m.ths.length := by rw [HT.out]; exact hlt
    have HTK : Hid (m.ths.take (j + 1) = m.ths.take j ++ [m.ths[j]]) := Lib.hid (List.take_succ_eq_append_getElem hlt')
    obtain ⟨bt, ot, rfl, ht⟩ := (HH.out.keep hb).ths.2.2 j hlt'
    obtain ⟨AR, cr, AS, cs, HTj, x0, x1, x2, x3⟩ := ht.open
    obtain ⟨nr, hnr⟩ : ∃ nr, m.ths[j].regs.length = nr := ⟨_, rfl⟩
    obtain ⟨ns, hns⟩ : ∃ ns, m.ths[j].stack.length = ns := ⟨_, rfl⟩
    have LR : Hid (nr ≤ 1048576) := Lib.hid (by rw [← hnr]; exact HS.out.regs j hlt')
    have LS : Hid (ns ≤ 1048576) := Lib.hid (by rw [← hns]; exact HS.out.stack j hlt')
    have LT : Hid ((m.ths.take j).length ≤ 1048576) := Lib.hid (by have := HS.out.ths; rw [List.length_take]; omega)
    rw [hnr, hns] at HTj
    rw [hnr] at x1
    rw [hns] at x2
    generalize htj : m.ths[j] = tj at *
    have HTH := Lib.hid HTj; clear HTj ht htj
    have HNR := Lib.hid hnr; have HNS := Lib.hid hns; clear hnr hns
    have hbt : bt < w.heap.size := by
     obtain ⟨bt', ot', e, ht'⟩ := HH00.out.ths.2.2 j hlt'
     injection e with e1
     injection e1 with e1 e2
     subst e1
     obtain ⟨_, _, _, _, _, y0, _⟩ := ht'.open
     exact cell_lt y0
    have hvB : ∀ u ∈ [v], ∀ q, q < W0.heap.size → u.ownBlock ≠ some q := fun u hu q hq e => by
     simp only [List.mem_singleton] at hu
     subst hu
     obtain ⟨L, hL, _⟩ := HO.out.ths.row
     have := (World.ownsRow.lt hL _ e).1
     omega
    have hvg : ∀ u ∈ [v], u.ownBlock ≠ some g := fun u hu => by
     simp only [List.mem_singleton] at hu
     subst hu
     exact HO.out.ths.neM HM.out
    have HTA : Hid (ThsAcc wr W0.heap.size v (m.ths.take j) xs) := Lib.hid ⟨HO.out.ths, HO.out.rows.1⟩
    clear hb hFr hMg
    go_wp2_with fail
    refine wp_region_ordI [Fact.is 26 (.pointer (some ⟨g, 0, none⟩)),
      Fact.is 27 (v),
      Fact.is 28 (.pointer (some ⟨w.heap.size, 0, none⟩)),
      Fact.is 29 (.slice (some ⟨bt, ot, none⟩) nt ct),
      Fact.is 30 (.int .i64 j),
      Fact.is 31 (.pointer (some ⟨bt, ot + j * 4, none⟩)),
      Fact.is 32 (.agg #[.int .i64 tj.pl, .slice AR nr cr, .slice AS ns cs, .int .i64 tj.st]),
      Fact.upto 33 9 (fun v w' => ∃ A4 c4 A5 c5, v = .agg #[.int .i64 tj.pl, .slice A4 nr c4, .slice A5 ns c5, .int .i64 tj.st] ∧ IntRow w' wr.heap.size (.slice A4 nr c4) tj.regs ∧ IntRow w' wr.heap.size (.slice A5 ns c5) tj.stack ∧ Apart (.slice A4 nr c4) (.slice A5 ns c5)),
      Fact.upto 34 9 (fun v w' => ∃ g6 A4 c4 A5 c5, v = .slice (some ⟨g6, 0, none⟩) 1 1 ∧ w'.heap[g6]? = some (.cells #[.int .i64 tj.pl, .slice A4 nr c4, .slice A5 ns c5, .int .i64 tj.st] 123) ∧ IntRow w' wr.heap.size (.slice A4 nr c4) tj.regs ∧ IntRow w' wr.heap.size (.slice A5 ns c5) tj.stack ∧ Apart (.slice A4 nr c4) (.slice A5 ns c5)),
      Fact.upto 35 11 (fun v' w' => ∃ A7 c7 xs', v' = .slice A7 (j + 1) c7 ∧ OwnMc w' W0.heap.size (.slice A7 (j + 1) c7) (.slice A1 nc c1) (.slice A2 nl c2) (.slice A3 nd c3) xs' ⟨m.ths.take j ++ [tj], m.cells, m.locks, m.told⟩),
      Fact.is 36 (.pointer (some ⟨g, 0, none⟩)),
      ⟨[35], none, fun vs w' => ∃ v', vs = [v'] ∧ Four w' g v' (.slice A1 nc c1) (.slice A2 nl c2) (.slice A3 nd c3) ∧ McBox w' g ∧ Below W0.heap.size W0 w' ∧ (∃ A7 c7 xs', v' = .slice A7 (j + 1) c7 ∧ OwnMc w' W0.heap.size (.slice A7 (j + 1) c7) (.slice A1 nc c1) (.slice A2 nl c2) (.slice A3 nd c3) xs' ⟨m.ths.take j ++ [tj], m.cells, m.locks, m.told⟩)⟩]
     [(9, fun w' => Below wr.heap.size wr w'),
      (11, fun w' => Only [v] wr w')] []
     (by kernel_rfl) (by kernel_rfl) (by kernel_rfl) ?_ ?_ ?_ ?_ ?_
    ·intro q hq
     simp only [List.mem_cons, List.not_mem_nil, or_false] at hq
     rcases hq with rfl | rfl
     ·exact (Below.refl _ _).drew
     ·exact Only.drew _ _
    ·exact ⟨Fact.is_stable _ _, Fact.is_stable _ _, Fact.is_stable _ _, Fact.is_stable _ _, Fact.is_stable _ _, Fact.is_stable _ _, Fact.is_stable _ _, Fact.upto_stable (fun v w w' hb ⟨A4, c4, A5, c5, e, h, h', h''⟩ => ⟨A4, c4, A5, c5, e, h.keep hb, h'.keep hb, h''⟩), Fact.upto_stable (fun v w w' hb ⟨g6, A4, c4, A5, c5, e, h0, h, h', h''⟩ => ⟨g6, A4, c4, A5, c5, e, heap_keep hb h0, h.keep hb, h'.keep hb, h''⟩), Fact.upto_stable (fun v w w' hb ⟨A7, c7, xs', e, h⟩ => ⟨A7, c7, xs', e, h.keep hb⟩), Fact.is_stable _ _, (fun vs w1 w2 hb ⟨v', e, h0, h1, h2, A7, c7, xs', e', h⟩ => ⟨v', e, h0.keep hb, h1.keep hb, below_then h2 hb, A7, c7, xs', e', h.keep hb⟩), trivial⟩
    ·intro q hq w1' w2' hb h
     simp only [List.mem_cons, List.not_mem_nil, or_false] at hq
     rcases hq with rfl | rfl
     ·exact below_then h hb
     ·exact h.then hb
    ·refine ⟨?_, ?_, ?_, ?_, ?_, ?_, ?_, ?_, ?_, ?_, ?_, ?_, trivial⟩
     ·intro A' w' hJ hoff hdep _hdif
      have a3 : A'.eval (.tmp 3) = .pointer (some ⟨g, 0, none⟩) := off_of hoff 3 (by kernel_rfl)
      exact isI rfl rfl (by generalize A'.eval = ev at *; simp [go_sem, a3])
     ·intro A' w' hJ hoff hdep _hdif
      have a26 := is_of (ask_of hdep (j := 0) (by kernel_rfl)) rfl
      have b := init_of hJ (n := 1) rfl (by kernel_rfl)
      have q1 := b.cell HF.out.1 hvg
      exact isI rfl rfl (by generalize A'.eval = ev at *; simp [go_sem, a26, q1])
     ·intro A' w' hJ hoff hdep _hdif
      have a1 : A'.eval (.tmp 1) = .pointer (some ⟨w.heap.size, 0, none⟩) := off_of hoff 1 (by kernel_rfl)
      exact isI rfl rfl (by generalize A'.eval = ev at *; simp [go_sem, a1])
     ·intro A' w' hJ hoff hdep _hdif
      have a28 := is_of (ask_of hdep (j := 2) (by kernel_rfl)) rfl
      have b := init_of hJ (n := 1) rfl (by kernel_rfl)
      have q1 := b.cell p0' (fun u hu => hvB u hu _ (by simp only; omega))
      exact isI rfl rfl (by generalize A'.eval = ev at *; simp [go_sem, a28, q1])
     ·intro A' w' hJ hoff hdep _hdif
      have a4 : A'.eval (.tmp 4) = .int .i64 j := off_of hoff 4 (by kernel_rfl)
      exact isI rfl rfl (by generalize A'.eval = ev at *; simp [go_sem, a4])
     ·intro A' w' hJ hoff hdep _hdif
      have a29 := is_of (ask_of hdep (j := 3) (by kernel_rfl)) rfl
      have a30 := is_of (ask_of hdep (j := 4) (by kernel_rfl)) rfl
      exact isI rfl rfl (by generalize A'.eval = ev at *; simp [go_sem, a29, a30, hlt])
     ·intro A' w' hJ hoff hdep _hdif
      have a31 := is_of (ask_of hdep (j := 5) (by kernel_rfl)) rfl
      have b := init_of hJ (n := 1) rfl (by kernel_rfl)
      have q0 := b.cell x0 (fun u hu => hvB u hu _ (by simp only; omega))
      have q1 := b.cell x1 (fun u hu => hvB u hu _ (by simp only; omega))
      have q2 := b.cell x2 (fun u hu => hvB u hu _ (by simp only; omega))
      have q3 := b.cell x3 (fun u hu => hvB u hu _ (by simp only; omega))
      exact isI rfl rfl (by generalize A'.eval = ev at *; simp [go_sem, a31, q0, q1, q2, q3])
     ·intro A' w' hJ hoff hdep _hdif
      have ef : ∀ f, A'.eval (.func f) = .func (.func f) #[] #[] := fun _ => rfl
      have a32 := is_of (ask_of hdep (j := 6) (by kernel_rfl)) rfl
      have b := init_of hJ (n := 0) rfl (by kernel_rfl)
      refine callI (f := 119) (args := #[.agg #[.int .i64 tj.pl, .slice AR nr cr, .slice AS ns cs, .int .i64 tj.st]]) (by generalize A'.eval = ev at *; simp [go_sem, ef, a32]) ((l2Thread_any (HTH.out.keep b) LR.out LS.out).mono fun e w3 h => ?_)
      obtain ⟨A4, c4, A5, c5, e1, h1, h2, h3, h4⟩ := h
      rw [HNR.out] at e1 h2 h4
      rw [HNS.out] at e1 h3 h4
      exact ⟨_, e1, h1, upto_to rfl rfl ⟨A4, c4, A5, c5, rfl, h2.mono b.size, h3.mono b.size, h4⟩, fam_none (by kernel_rfl)⟩
     ·intro A' w' hJ hoff hdep _hdif
      obtain ⟨A4, c4, A5, c5, a33, h1, h2, h3⟩ := upto_of (ask_of hdep (j := 7) (by kernel_rfl)) rfl
      have hb : Below w'.heap.size w' (w'.alloc (.cells #[.int .i64 tj.pl, .slice A4 nr c4, .slice A5 ns c5, .int .i64 tj.st] 123)) := (Below.refl _ _).alloc (Nat.le_refl _) _
      exact runI (v := .slice (some ⟨w'.heap.size, 0, none⟩) 1 1) (w' := w'.alloc (.cells #[.int .i64 tj.pl, .slice A4 nr c4, .slice A5 ns c5, .int .i64 tj.st] 123)) (by generalize A'.eval = ev at *; simp [go_sem, a33]) hb (upto_to rfl rfl ⟨_, A4, c4, A5, c5, rfl, alloc_at _ _, h1.keep hb, h2.keep hb, h3⟩) (fam_none (by kernel_rfl))
     ·intro A' w' hJ hoff hdep _hdif
      have a27 := is_of (ask_of hdep (j := 1) (by kernel_rfl)) rfl
      have b := init_of hJ (n := 0) rfl (by kernel_rfl)
      have bo := init_of hJ (n := 1) rfl (by kernel_rfl)
      obtain ⟨g6, A4, c4, A5, c5, a34, hg6, h1, h2, h3⟩ := upto_of (ask_of hdep (j := 8) (by kernel_rfl)) rfl
      have hz := b.size
      have hfr : ∀ {r : Value} {ys : List Int}, IntRow w' wr.heap.size r ys → ∀ u ∈ mcVals v (.slice A1 nc c1) (.slice A2 nl c2) (.slice A3 nd c3) xs, Apart u r := fun hr u hu => Apart.of_lt (fun k e => (HO.out.bd u hu k e).2) (fun k e => (hr.bd k e).1)
      refine surely_app_th (.tmp 27) (.tmp 34) rfl W0.heap.size v (m.ths.take j) xs a27 (HTA.out.keep b) g6 1 tj (.slice A4 nr c4) (.slice A5 ns c5) (h1.mono hsz) (h2.mono hsz) h3 (fun u hu => ⟨hfr h1 u (List.mem_cons_of_mem _ (List.mem_append_left _ hu)), hfr h2 u (List.mem_cons_of_mem _ (List.mem_append_left _ hu))⟩) a34 (by simp [World.cell?, hg6]) (by simp [World.cell?, hg6]) (by simp [World.cell?, hg6]) (by simp [World.cell?, hg6]) LT.out (by omega) (fun v' w2 hacc hg => ?_)
      have hva : ∀ {x : Value}, Apart v x → x.ownBlock = none ∨ x.ownBlock ≠ v.ownBlock := fun h => h.keep
      have hap : ∀ {x : Value} {ys : List Int}, IntRow wr W0.heap.size x ys → IntRow w2 W0.heap.size x ys := fun hx => (hx.keep b).grown hg (hva (HO.out.ths.apart hx))
      obtain ⟨A7, c7, e7⟩ := hacc.slice
      have e7 : v' = .slice A7 (j + 1) c7 := by rw [e7]; simp only [List.length_append, List.length_take, List.length_cons, List.length_nil]; congr 1; omega
      subst e7
      refine ⟨⟨hg.size, fun h => absurd h (by decide)⟩, .inr ⟨fun i hi hn hk hf => ?_, fun p hp h1' _ h3' => ?_⟩, upto_to rfl rfl ⟨A7, c7, xs ++ [(.slice A4 nr c4, .slice A5 ns c5)], rfl, OwnMc.snoc hacc (hap HO.out.cells) (hap HO.out.locks) (hap HO.out.told) HO.out.apart (fun u hu => ⟨hfr h1 u (List.mem_cons_of_mem _ (List.mem_append_right _ hu)), hfr h2 u (List.mem_cons_of_mem _ (List.mem_append_right _ hu))⟩)⟩, fam_none (by kernel_rfl)⟩
      ·match i, hi, hn, hk, hf with
       | 0, hj, hn, hk, hf => exact hf
       | 1, hj, hn, hk, hf => exact hf
       | 2, hj, hn, hk, hf => exact hf
       | 3, hj, hn, hk, hf => exact hf
       | 4, hj, hn, hk, hf => exact hf
       | 5, hj, hn, hk, hf => exact hf
       | 6, hj, hn, hk, hf => exact hf
       | 7, hj, hn, hk, hf => exact absurd rfl (hk 9 rfl).1
       | 8, hj, hn, hk, hf => exact absurd rfl (hk 9 rfl).1
       | 9, hj, hn, hk, hf => exact absurd rfl hj
       | 10, hj, hn, hk, hf => exact hf
       | 11, hj, hn, hk, hf => exact absurd (List.contains_iff_mem.1 (by kernel_rfl)) hn
       | _ + 12, _, _, _, _ => trivial
      ·simp only [List.mem_cons, List.not_mem_nil, or_false] at hp
       rcases hp with rfl | rfl
       ·exact absurd rfl h1'
       ·exact bo.trans (Only.of_grown hg List.mem_cons_self)
     ·intro A' w' hJ hoff hdep _hdif
      have a3 : A'.eval (.tmp 3) = .pointer (some ⟨g, 0, none⟩) := off_of hoff 3 (by kernel_rfl)
      exact isI rfl rfl (by generalize A'.eval = ev at *; simp [go_sem, a3])
     ·intro A' w' hJ hoff hdep _hdif
      have a36 := is_of (ask_of hdep (j := 10) (by kernel_rfl)) rfl
      have b := init_of hJ (n := 1) rfl (by kernel_rfl)
      obtain ⟨A7, c7, xs', a35, hO'⟩ := upto_of (ask_of hdep (j := 9) (by kernel_rfl)) rfl
      have hF4 := HF.out.only b hvg
      have hF5 := hF4
      obtain ⟨k0, k1, k2, k3, g0, g1, g2, g3⟩ := hF5
      have hM4 := HM.out.only b hvg
      refine lastI (w' := w'.setCell ⟨g, 0, none⟩ (.slice A7 (j + 1) c7)) (by generalize A'.eval = ev at *; simp [go_sem, a35, a36, k0, g0]) (by simp) ⟨_, by rw [← show slotAt A' 35 = _ from a35]; simp [put1], hF4.set0 _, hM4.set _ _, ?_, A7, c7, xs', rfl, hO'.setBox _ _ hM4⟩ (fun i hi _ hk hf => ?_) (by kernel_rfl)
      ·exact (HB.out.trans (b.below (fun u hu k e => Nat.le_of_not_lt (fun hl => hvB u hu k hl e)) hsz)).setCell hgb _
      ·match i, hi, hk, hf with
       | 0, hj, hk, hf => exact hf
       | 1, hj, hk, hf => exact hf
       | 2, hj, hk, hf => exact hf
       | 3, hj, hk, hf => exact hf
       | 4, hj, hk, hf => exact hf
       | 5, hj, hk, hf => exact hf
       | 6, hj, hk, hf => exact hf
       | 7, hj, hk, hf => exact absurd (by decide) (hk 9 rfl).2
       | 8, hj, hk, hf => exact absurd (by decide) (hk 9 rfl).2
       | 9, hj, hk, hf => exact absurd rfl (hk 11 rfl).1
       | 10, hj, hk, hf => exact hf
       | 11, hj, hk, hf => exact absurd rfl hj
       | _ + 12, _, _, _ => trivial
    ·intro s w2 hf _hdf _hff
     obtain ⟨v', e35, hF2, hM2, hB2, A7, c7, xs', ev', hO2⟩ := hf 11 (by decide) rfl
     subst ev'
     have HR : Hid (Copying W0 g m (.slice A1 nc c1) (.slice A2 nl c2) (.slice A3 nd c3) (j + 1) w2) := Lib.hid ⟨hB2, hM2, hgb, _, xs', hF2, by rw [HTK.out]; exact hO2⟩
     clear hf hF2 hM2 hB2 hO2
     simp only [putAll, Act.put, List.setIfInBounds_toArray, List.set_cons_succ, List.set_cons_zero]
     go_wp2
     go_roundw
     case rel => exact ⟨j + 1, by omega, by go_num, HR.out⟩
     case measure => simp [intOf]; omega
   ·obtain rfl : j = nt := by omega
    have HE : Hid (m.ths.take j = m.ths) := Lib.hid (List.take_of_length_le (by rw [HT.out]; omega))
    obtain ⟨k0, k1, k2, k3, _, _, _, _⟩ := hFr
    obtain ⟨r0, r1, r2, r3, s0, s1, s2, s3⟩ := f4.keep hb
    obtain ⟨A7, c7, e7'⟩ := ThsAcc.slice ⟨HO.out.ths, HO.out.rows.1⟩
    have e7 : v = .slice A7 j c7 := by rw [e7']; congr 1; have := HT.out; rw [List.length_take]; omega
    clear e7'
    subst e7
    have hRg : w.heap.size + 1 ≠ g := by omega
    clear hb hMg
    go_wp2
    refine bodyPost_ret (v := .agg #[.slice A7 j c7, .slice A1 nc c1, .slice A2 nl c2, .slice A3 nd c3]) (by simp [results, Try.results98, go_sem, r0, r1, r2, r3]) rfl ?_
    unfold McNew
    refine ⟨_, _, _, _, xs, rfl, ?_, ?_⟩
    ·repeat (refine Below.setCell ?_ (by simp) _)
     exact B0.out.trans (HB.out.mono B0.out.size)
    ·refine OwnMc.mono (B := W0.heap.size) ?_ (by omega)
     repeat (refine OwnMc.setOther ?_ _ (by simp; try omega))
     have := HO.out
     rw [HE.out] at this
     exact this
end Go.Proofs.Ytminfkedkkkhdaa
