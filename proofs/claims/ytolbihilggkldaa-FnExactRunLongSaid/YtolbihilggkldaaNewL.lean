/-
  The machine at first, in both packages: contracts.
-/
import Derived.Test.YtolbihilggkldaaNew
import Derived.Test.YtolbihilggkldaaOrd
import Derived.Test.YtolbihilggkldaaSz
namespace Go.Proofs.Ytolbihilggkldaa
open Go.RowKit

namespace Bt
/-- the machine at first -/
def mcNew : Mc := ⟨[⟨0, [0, 0, 0, 0], [], 0⟩], [0, 0, 0, 0, 0, 0, 0, 0], [-1, -1], []⟩
end Bt
theorem mcNew_small : Small Bt.mcNew := ⟨by decide, by decide, by decide, by decide, fun i h => by
  have : i = 0 := by simp [Bt.mcNew] at h; omega
  subst this; simp [Bt.mcNew], fun i h => by
  have : i = 0 := by simp [Bt.mcNew] at h; omega
  subst this; simp [Bt.mcNew]⟩

/-- a machine of the call's own, handed back -/
def McNew (m : Bt.Mc) (w : World) (e : Ending) (w' : World) : Prop :=
  ∃ vt vc vl vd xs, e = .returned (.agg #[vt, vc, vl, vd]) ∧ Below w.heap.size w w' ∧ OwnMc w' w.heap.size vt vc vl vd xs m

/-- a row of one thread, made by itself -/
theorem OwnThs.lit1 (w : World) (B : Nat) (t : Bt.Th) (r s : Value) (hB : B ≤ w.heap.size) (hr : IntRow w B r t.regs) (hs : IntRow w B s t.stack) :
    OwnThs (w.alloc (.cells #[.int .i64 t.pl, r, s, .int .i64 t.st] 86)) B (.slice (some ⟨w.heap.size, 0, none⟩) 1 1) [t] [(r, s)] := by
  have hb : Below w.heap.size w (w.alloc (.cells #[.int .i64 t.pl, r, s, .int .i64 t.st] 86)) := (Below.refl _ _).alloc (Nat.le_refl _) _
  refine ⟨rfl, ⟨[.int .i64 t.pl, r, s, .int .i64 t.st], Joins.ownsRow_le (World.ownsRow_lit (base := w.heap.size) (e := 86) (size := 4) w #[.int .i64 t.pl, r, s, .int .i64 t.st] 1 (Nat.le_refl _) (by decide) rfl) hB, fun i hi hi' => ?_⟩, fun i hi hi' => ?_⟩
  · have : i = 0 := by simp at hi; omega
    subst this
    exact ⟨rfl, rfl, rfl, rfl⟩
  · have : i = 0 := by simp at hi; omega
    subst this
    exact ⟨hr.keep hb, hs.keep hb⟩

set_option maxRecDepth 100000 in
set_option maxHeartbeats 2000000 in
theorem implNew_any (w : World) : Calls Try.prog 57 #[] w (McNew Bt.mcNew w) := by
  unfold McNew
  go_enter Try.func57, Try.ntmps57
  go_wp2_with fail
  refine (numbersOf_any 4 0 _ (by decide)).mono ?_
  rintro e w1 ⟨v1, rfl, hr1, hb1⟩
  have R1 : Hid (IntRow w1 (w.heap.size + 1) v1 [0, 0, 0, 0]) := Lib.hid (by simpa using hr1)
  have W1 : Below w.heap.size w w1 := ((Below.refl w.heap.size w).alloc (Nat.le_refl _) _).trans (hb1.mono (by simp))
  have hz1 : w.heap.size + 1 ≤ w1.heap.size := by have := hb1.size; simpa using this
  have b0 : w1.cell? ⟨w.heap.size, 0, none⟩ = some (.slice none 0 0) := keeps hb1 (by simp)
  have b1 : w1.cell? ⟨w.heap.size, 1, none⟩ = some (.slice none 0 0) := keeps hb1 (by simp)
  have b2 : w1.cell? ⟨w.heap.size, 2, none⟩ = some (.slice none 0 0) := keeps hb1 (by simp)
  have b3 : w1.cell? ⟨w.heap.size, 3, none⟩ = some (.slice none 0 0) := keeps hb1 (by simp)
  have f0 : w1.frozen? ⟨w.heap.size, 0, none⟩ = false := (hb1.frozen (by simp)).trans (by simp)
  have f1 : w1.frozen? ⟨w.heap.size, 1, none⟩ = false := (hb1.frozen (by simp)).trans (by simp)
  have f2 : w1.frozen? ⟨w.heap.size, 2, none⟩ = false := (hb1.frozen (by simp)).trans (by simp)
  have f3 : w1.frozen? ⟨w.heap.size, 3, none⟩ = false := (hb1.frozen (by simp)).trans (by simp)
  clear hr1 hb1
  go_wp2_with fail
  refine (threadAt_any 0 v1 [0, 0, 0, 0] 4 _ rfl (by decide) R1.out.arg).mono ?_
  rintro e w2 ⟨rfl, hb2, hr2⟩
  have R2 := Lib.hid hr2
  have W2 := Lib.hid (W1.trans (hb2.mono W1.size))
  have hz2 : w1.heap.size + 1 < w2.heap.size := (hr2.bd _ rfl).2
  have T2 := Lib.hid (OwnThs.lit1 w2 (w1.heap.size + 1) ⟨0, [0, 0, 0, 0], [], 0⟩ _ _ (by omega) hr2 (IntRow.nil w2 (w1.heap.size + 1)))
  have BA := Lib.hid (show Below w2.heap.size w2 (w2.alloc (.cells #[.int .i64 0, .slice (some ⟨w1.heap.size + 1, 0, none⟩) 4 4, .slice none 0 0, .int .i64 0] 86)) from (Below.refl _ _).alloc (Nat.le_refl _) _)
  have c0 := keeps hb2 b0
  have c1 := keeps hb2 b1
  have c2 := keeps hb2 b2
  have c3 := keeps hb2 b3
  have g0 := (hb2.frozen (cell_lt b0)).trans f0
  have g1 := (hb2.frozen (cell_lt b1)).trans f1
  have g2 := (hb2.frozen (cell_lt b2)).trans f2
  have g3 := (hb2.frozen (cell_lt b3)).trans f3
  clear b0 b1 b2 b3 f0 f1 f2 f3 hr2 hb2
  go_wp2_with fail
  refine (numbersOf_any 8 0 _ (by decide)).mono ?_
  rintro e w3 ⟨v3, rfl, hr3, hb3⟩
  obtain ⟨A3, n3, e3, _⟩ := hr3.arg.form
  subst e3
  simp only [List.length_replicate] at hr3
  simp only [List.length_replicate]
  have R3 : Hid (IntRow w3 (w2.heap.size + 1) (.slice A3 8 n3) [0, 0, 0, 0, 0, 0, 0, 0]) := Lib.hid (by simpa using hr3)
  have HB3 := Lib.hid (BA.out.trans (hb3.mono (by simp)))
  have hz3 : w2.heap.size + 1 ≤ w3.heap.size := by have := hb3.size; simpa using this
  have d0 := keeps HB3.out c0
  have d1 := keeps HB3.out c1
  have d2 := keeps HB3.out c2
  have d3 := keeps HB3.out c3
  have h0 := (HB3.out.frozen (cell_lt c0)).trans g0
  have h1 := (HB3.out.frozen (cell_lt c1)).trans g1
  have h2 := (HB3.out.frozen (cell_lt c2)).trans g2
  have h3 := (HB3.out.frozen (cell_lt c3)).trans g3
  have T3 := Lib.hid (T2.out.keep hb3)
  clear c0 c1 c2 c3 g0 g1 g2 g3 hr3 hb3
  go_wp2_with fail
  refine (numbersOf_any 2 (-1) _ (by decide)).mono ?_
  rintro e w4 ⟨v4, rfl, hr4, hb4⟩
  obtain ⟨A4, n4, e4, _⟩ := hr4.arg.form
  subst e4
  simp only [List.length_replicate] at hr4
  simp only [List.length_replicate]
  have R4 : Hid (IntRow w4 w3.heap.size (.slice A4 2 n4) [-1, -1]) := Lib.hid (by simpa using hr4)
  have T4 := Lib.hid (T3.out.keep hb4)
  have R34 := Lib.hid (R3.out.keep hb4)
  have W4 := Lib.hid ((W2.out.trans (HB3.out.mono W2.out.size)).trans (hb4.mono (by have := W2.out.size; omega)))
  have k0 := keeps hb4 d0
  have k1 := keeps hb4 d1
  have k2 := keeps hb4 d2
  have k3 := keeps hb4 d3
  have i0 := (hb4.frozen (cell_lt d0)).trans h0
  have i1 := (hb4.frozen (cell_lt d1)).trans h1
  have i2 := (hb4.frozen (cell_lt d2)).trans h2
  have i3 := (hb4.frozen (cell_lt d3)).trans h3
  have hz4 := hb4.size
  have bd3 := Lib.hid R3.out.bd
  clear d0 d1 d2 d3 h0 h1 h2 h3 hr4 hb4
  go_wp2
  refine bodyPost_ret (v := .agg #[.slice (some ⟨w2.heap.size, 0, none⟩) 1 1, .slice A3 8 n3, .slice A4 2 n4, .slice none 0 0]) (by simp [results, Try.results57, go_sem, k0, k1, k2, k3]) rfl ⟨_, _, _, _, [(.slice (some ⟨w1.heap.size + 1, 0, none⟩) 4 4, .slice none 0 0)], rfl, ?_, ?_, ?_, ?_, ?_, ?_⟩
  · repeat (refine Below.setCell ?_ (by simp; try omega) _)
    exact W4.out
  · refine OwnThs.mono (B := w.heap.size + 1) ?_ (by omega)
    repeat (refine OwnThs.setOther ?_ _ (by simp; try omega))
    exact T4.out.mono (by omega)
  · refine IntRow.mono (base := w.heap.size + 1) ?_ (by omega)
    repeat (refine IntRow.setOther ?_ _ (by intro b hb; have := (R34.out.bd b hb).1; simp; omega))
    exact R34.out.mono (by omega)
  · refine IntRow.mono (base := w.heap.size + 1) ?_ (by omega)
    repeat (refine IntRow.setOther ?_ _ (by intro b hb; have := (R4.out.bd b hb).1; simp; omega))
    exact R4.out.mono (by omega)
  · exact IntRow.nil _ _
  · have a0 : ∀ k, (Value.slice (some ⟨w1.heap.size + 1, 0, none⟩) 4 4).ownBlock = some k → k < w2.heap.size := by
      intro k e; simp [Value.ownBlock] at e; omega
    have a3 : ∀ k, (Value.slice A3 8 n3).ownBlock = some k → w2.heap.size ≤ k ∧ k < w3.heap.size := fun k e => by have := bd3.out k e; omega
    have a4 : ∀ k, (Value.slice A4 2 n4).ownBlock = some k → w3.heap.size ≤ k := fun k e => (R4.out.bd k e).1
    have an : ∀ u : Value, Apart (.slice none 0 0) u := fun u b e => by simp [Value.ownBlock] at e
    simp only [rowsOf, List.flatMap_cons, List.flatMap_nil, List.append_nil, List.cons_append, List.nil_append, List.pairwise_cons, List.mem_cons, List.not_mem_nil, or_false, forall_eq_or_imp, forall_eq, List.Pairwise.nil, and_true, false_implies, implies_true]
    refine ⟨⟨(an _).symm, Apart.of_lt a0 (fun k e => (a3 k e).1), Apart.of_lt a0 (fun k e => by have := a4 k e; omega), (an _).symm⟩, ⟨an _, an _, an _⟩, ⟨Apart.of_lt (fun k e => (a3 k e).2) a4, (an _).symm⟩, (an _).symm⟩

theorem good_gen {P : Program} {ops : List Oper} {F : List Fact} {C : World → Prop} {i : Nat} {o : Oper} {A : Act} {w w' : World} {v : Value} (h : (execOp A.eval o).run P w = .ok (.value v) w') (hg : Grows o w v w') (hC : C w')
    (hb : (Below w.heap.size w w' ∨ ∀ j, j ≠ i → (∀ k, (F.getD j Fact.none').kill = some k → k ≠ i ∧ k ∉ anc ops ops.length i) → factAt F j (slotAt A) w → factAt F j (slotAt A) w')) (hf : factAt F i (put1 A o v) w') :
    surely P o A w fun v w' => Grows o w v w' ∧ C w' ∧ (Below w.heap.size w w' ∨ ∀ j, j ≠ i → (∀ k, (F.getD j Fact.none').kill = some k → k ≠ i ∧ k ∉ anc ops ops.length i) → factAt F j (slotAt A) w → factAt F j (slotAt A) w') ∧ factAt F i (put1 A o v) w' := surely_value h ⟨hg, hC, hb, hf⟩
theorem good_gen' {P : Program} {ops : List Oper} {F : List Fact} {C : World → Prop} {i : Nat} {o : Oper} {A : Act} {w w' : World} (h : (execOp A.eval o).run P w = .ok .skip w') (hg : Grows o w undef w') (hC : C w')
    (hb : (Below w.heap.size w w' ∨ ∀ j, j ≠ i → (∀ k, (F.getD j Fact.none').kill = some k → k ≠ i ∧ k ∉ anc ops ops.length i) → factAt F j (slotAt A) w → factAt F j (slotAt A) w')) (hf : factAt F i (put1 A o undef) w') :
    surely P o A w fun v w' => Grows o w v w' ∧ C w' ∧ (Below w.heap.size w w' ∨ ∀ j, j ≠ i → (∀ k, (F.getD j Fact.none').kill = some k → k ≠ i ∧ k ∉ anc ops ops.length i) → factAt F j (slotAt A) w → factAt F j (slotAt A) w') ∧ factAt F i (put1 A o v) w' := surely_skip h ⟨hg, hC, hb, hf⟩

set_option maxRecDepth 100000 in
set_option maxHeartbeats 2000000 in
theorem specNew_any (w : World) : Calls Try.prog 38 #[] w fun e w' => ∃ AT ct AC cc AL cl AD cd, e = .returned (.agg #[.slice AT 1 ct, .slice AC 8 cc, .slice AL 2 cl, .slice AD 0 cd]) ∧ Below w.heap.size w w' ∧ ArgMc w' AT 1 ct AC 8 cc AL 2 cl AD 0 cd Bt.mcNew := by
  obtain ⟨B, hB⟩ : ∃ B, B = w.heap.size + 1 := ⟨_, rfl⟩
  have mk4 : ∀ W : World, (Instr.makeSlice 40 (.int .i64 4) (.int .i64 4)).run Try.prog W = .ok (.slice (some ⟨W.heap.size, 0, none⟩) 4 4) (W.alloc (.cells (madeCells #[.int .i64 0] 4) 3)) := fun W => run_make_ints 4 (by decide) W
  have mk8 : ∀ W : World, (Instr.makeSlice 40 (.int .i64 8) (.int .i64 8)).run Try.prog W = .ok (.slice (some ⟨W.heap.size, 0, none⟩) 8 8) (W.alloc (.cells (madeCells #[.int .i64 0] 8) 3)) := fun W => run_make_ints 8 (by decide) W
  have HC : Hid (∀ (w1 w2 : World), Below w1.heap.size w1 w2 → (Below w.heap.size (w.alloc (.cells #[.slice none 0 0, .slice none 0 0, .slice none 0 0, .slice none 0 0] 42)) w1 ∧ ∃ a b c d, Four w1 w.heap.size a b c d) → (Below w.heap.size (w.alloc (.cells #[.slice none 0 0, .slice none 0 0, .slice none 0 0, .slice none 0 0] 42)) w2 ∧ ∃ a b c d, Four w2 w.heap.size a b c d)) :=
    Lib.hid (fun w1 w2 hb ⟨h1, a, b, c, d, h2⟩ => ⟨h1.trans (hb.mono (by have := h1.size; simp at this; omega)), a, b, c, d, h2.keep hb⟩)
  have f4 : Four (w.alloc (.cells #[.slice none 0 0, .slice none 0 0, .slice none 0 0, .slice none 0 0] 42)) w.heap.size (.slice none 0 0) (.slice none 0 0) (.slice none 0 0) (.slice none 0 0) := by unfold Four; go_simp
  go_enter Try.func38, Try.ntmps38
  go_wp2_with fail
  refine wp_region_ord [Fact.upto 1 8 (fun v w' => ∃ A c, v = .slice A 4 c ∧ IntRow w' B (.slice A 4 c) [0, 0, 0, 0]),
    Fact.upto 2 8 (fun v w' => ∃ A c, v = .slice A 0 c ∧ IntRow w' B (.slice A 0 c) []),
    Fact.upto 3 8 (fun v w' => ∃ A c A' c', v = .agg #[.int .i64 0, .slice A 4 c, .slice A' 0 c', .int .i64 0] ∧ IntRow w' B (.slice A 4 c) [0, 0, 0, 0] ∧ IntRow w' B (.slice A' 0 c') []),
    Fact.upto 4 8 (fun v w' => ∃ A c xs, v = .slice A 1 c ∧ OwnThs w' B (.slice A 1 c) [⟨0, [0, 0, 0, 0], [], 0⟩] xs),
    Fact.upto 5 8 (fun v w' => ∃ A c, v = .slice A 8 c ∧ IntRow w' B (.slice A 8 c) [0, 0, 0, 0, 0, 0, 0, 0]),
    Fact.upto 6 8 (fun v w' => ∃ A c, v = .slice A 2 c ∧ IntRow w' B (.slice A 2 c) [-1, -1]),
    Fact.upto 7 8 (fun v w' => ∃ A c, v = .slice A 0 c ∧ IntRow w' B (.slice A 0 c) []),
    Fact.upto 8 8 (fun v w' => ∃ AT ct AC cc AL cl AD cd xs, v = .agg #[.slice AT 1 ct, .slice AC 8 cc, .slice AL 2 cl, .slice AD 0 cd] ∧ OwnThs w' B (.slice AT 1 ct) [⟨0, [0, 0, 0, 0], [], 0⟩] xs ∧ IntRow w' B (.slice AC 8 cc) [0, 0, 0, 0, 0, 0, 0, 0] ∧ IntRow w' B (.slice AL 2 cl) [-1, -1] ∧ IntRow w' B (.slice AD 0 cd) []),
    ⟨[], none, fun _ w' => ∃ AT ct AC cc AL cl AD cd xs, Four w' w.heap.size (.slice AT 1 ct) (.slice AC 8 cc) (.slice AL 2 cl) (.slice AD 0 cd) ∧ OwnThs w' B (.slice AT 1 ct) [⟨0, [0, 0, 0, 0], [], 0⟩] xs ∧ IntRow w' B (.slice AC 8 cc) [0, 0, 0, 0, 0, 0, 0, 0] ∧ IntRow w' B (.slice AL 2 cl) [-1, -1] ∧ IntRow w' B (.slice AD 0 cd) []⟩]
    (fun w' => Below w.heap.size (w.alloc (.cells #[.slice none 0 0, .slice none 0 0, .slice none 0 0, .slice none 0 0] 42)) w' ∧ ∃ a b c d, Four w' w.heap.size a b c d) (by kernel_rfl) (by kernel_rfl) ⟨(Below.refl _ _).drew, _, _, _, _, f4⟩ ?_ ?_ ?_
  · exact ⟨Fact.upto_stable (fun v w w' hb ⟨A, c, e, h⟩ => ⟨A, c, e, h.keep hb⟩), Fact.upto_stable (fun v w w' hb ⟨A, c, e, h⟩ => ⟨A, c, e, h.keep hb⟩), Fact.upto_stable (fun v w w' hb ⟨A, c, A', c', e, h, h'⟩ => ⟨A, c, A', c', e, h.keep hb, h'.keep hb⟩), Fact.upto_stable (fun v w w' hb ⟨A, c, xs, e, h⟩ => ⟨A, c, xs, e, h.keep hb⟩), Fact.upto_stable (fun v w w' hb ⟨A, c, e, h⟩ => ⟨A, c, e, h.keep hb⟩), Fact.upto_stable (fun v w w' hb ⟨A, c, e, h⟩ => ⟨A, c, e, h.keep hb⟩), Fact.upto_stable (fun v w w' hb ⟨A, c, e, h⟩ => ⟨A, c, e, h.keep hb⟩), Fact.upto_stable (fun v w w' hb ⟨AT, ct, AC, cc, AL, cl, AD, cd, xs, e, h0, h1, h2, h3⟩ => ⟨AT, ct, AC, cc, AL, cl, AD, cd, xs, e, h0.keep hb, h1.keep hb, h2.keep hb, h3.keep hb⟩), (fun vs w w' hb ⟨AT, ct, AC, cc, AL, cl, AD, cd, xs, h, h0, h1, h2, h3⟩ => ⟨AT, ct, AC, cc, AL, cl, AD, cd, xs, h.keep hb, h0.keep hb, h1.keep hb, h2.keep hb, h3.keep hb⟩), trivial⟩
  · refine ⟨?_, ?_, ?_, ?_, ?_, ?_, ?_, ?_, ?_, trivial⟩
    · intro A' w' hC hoff hdep _hdif
      have ec : ∀ v, A'.eval (.const v) = v := fun _ => rfl
      have hz : B ≤ w'.heap.size := by have := hC.1.size; simp at this; omega
      have hb : Below w'.heap.size w' (w'.alloc (.cells (madeCells #[.int .i64 0] 4) 3)) := (Below.refl _ _).alloc (Nat.le_refl _) _
      refine good_gen (v := .slice (some ⟨w'.heap.size, 0, none⟩) 4 4) (w' := w'.alloc (.cells (madeCells #[.int .i64 0] 4) 3)) (by generalize A'.eval = ev at *; simp [go_sem, ec, mk4]) ⟨hb.size, fun h => absurd h (by decide)⟩ (HC.out _ _ hb hC) (.inl hb) ?_
      exact upto_to rfl rfl ⟨_, _, rfl, IntRow.mono (by simpa using IntRow.made w' 4 (by decide)) hz⟩
    · intro A' w' hC hoff hdep _hdif
      have hz : B ≤ w'.heap.size := by have := hC.1.size; simp at this; omega
      have hb : Below w'.heap.size w' (w'.alloc (.cells #[] 3)) := (Below.refl _ _).alloc (Nat.le_refl _) _
      refine good_gen (v := .slice (some ⟨w'.heap.size, 0, none⟩) 0 0) (w' := w'.alloc (.cells #[] 3)) (by generalize A'.eval = ev at *; simp [go_sem]) ⟨hb.size, fun h => absurd h (by decide)⟩ (HC.out _ _ hb hC) (.inl hb) ?_
      exact upto_to rfl rfl ⟨_, _, rfl, IntRow.mono (by simpa using IntRow.lit w' [] (by decide)) hz⟩
    · intro A' w' hC hoff hdep _hdif
      obtain ⟨A1, c1, a1, p1⟩ := upto_of (ask_of hdep (j := 0) (by kernel_rfl)) rfl
      obtain ⟨A2, c2, a2, p2⟩ := upto_of (ask_of hdep (j := 1) (by kernel_rfl)) rfl
      exact good_gen (v := .agg #[.int .i64 0, .slice A1 4 c1, .slice A2 0 c2, .int .i64 0]) (w' := w') (by generalize A'.eval = ev at *; simp [go_sem, a1, a2]) ⟨Nat.le_refl _, fun h => absurd h (by decide)⟩ hC (.inl (Below.refl _ _)) (upto_to rfl rfl ⟨_, _, _, _, rfl, p1, p2⟩)
    · intro A' w' hC hoff hdep _hdif
      obtain ⟨A1, c1, A2, c2, a3, p1, p2⟩ := upto_of (ask_of hdep (j := 2) (by kernel_rfl)) rfl
      have hz : B ≤ w'.heap.size := by have := hC.1.size; simp at this; omega
      have hb : Below w'.heap.size w' (w'.alloc (.cells #[.int .i64 0, .slice A1 4 c1, .slice A2 0 c2, .int .i64 0] 86)) := (Below.refl _ _).alloc (Nat.le_refl _) _
      refine good_gen (v := .slice (some ⟨w'.heap.size, 0, none⟩) 1 1) (w' := w'.alloc (.cells #[.int .i64 0, .slice A1 4 c1, .slice A2 0 c2, .int .i64 0] 86)) (by generalize A'.eval = ev at *; simp [go_sem, a3]) ⟨hb.size, fun h => absurd h (by decide)⟩ (HC.out _ _ hb hC) (.inl hb) ?_
      exact upto_to rfl rfl ⟨_, _, _, rfl, OwnThs.lit1 w' B ⟨0, [0, 0, 0, 0], [], 0⟩ _ _ hz p1 p2⟩
    · intro A' w' hC hoff hdep _hdif
      have ec : ∀ v, A'.eval (.const v) = v := fun _ => rfl
      have hz : B ≤ w'.heap.size := by have := hC.1.size; simp at this; omega
      have hb : Below w'.heap.size w' (w'.alloc (.cells (madeCells #[.int .i64 0] 8) 3)) := (Below.refl _ _).alloc (Nat.le_refl _) _
      refine good_gen (v := .slice (some ⟨w'.heap.size, 0, none⟩) 8 8) (w' := w'.alloc (.cells (madeCells #[.int .i64 0] 8) 3)) (by generalize A'.eval = ev at *; simp [go_sem, ec, mk8]) ⟨hb.size, fun h => absurd h (by decide)⟩ (HC.out _ _ hb hC) (.inl hb) ?_
      exact upto_to rfl rfl ⟨_, _, rfl, IntRow.mono (by simpa using IntRow.made w' 8 (by decide)) hz⟩
    · intro A' w' hC hoff hdep _hdif
      have ec : ∀ v, A'.eval (.const v) = v := fun _ => rfl
      have hz : B ≤ w'.heap.size := by have := hC.1.size; simp at this; omega
      have hb : Below w'.heap.size w' (w'.alloc (.cells #[.int .i64 (-1), .int .i64 (-1)] 3)) := (Below.refl _ _).alloc (Nat.le_refl _) _
      refine good_gen (v := .slice (some ⟨w'.heap.size, 0, none⟩) 2 2) (w' := w'.alloc (.cells #[.int .i64 (-1), .int .i64 (-1)] 3)) (by generalize A'.eval = ev at *; simp [go_sem, ec]) ⟨hb.size, fun h => absurd h (by decide)⟩ (HC.out _ _ hb hC) (.inl hb) ?_
      exact upto_to rfl rfl ⟨_, _, rfl, IntRow.mono (by simpa using IntRow.lit w' [-1, -1] (by decide)) hz⟩
    · intro A' w' hC hoff hdep _hdif
      have hz : B ≤ w'.heap.size := by have := hC.1.size; simp at this; omega
      have hb : Below w'.heap.size w' (w'.alloc (.cells #[] 3)) := (Below.refl _ _).alloc (Nat.le_refl _) _
      refine good_gen (v := .slice (some ⟨w'.heap.size, 0, none⟩) 0 0) (w' := w'.alloc (.cells #[] 3)) (by generalize A'.eval = ev at *; simp [go_sem]) ⟨hb.size, fun h => absurd h (by decide)⟩ (HC.out _ _ hb hC) (.inl hb) ?_
      exact upto_to rfl rfl ⟨_, _, rfl, IntRow.mono (by simpa using IntRow.lit w' [] (by decide)) hz⟩
    · intro A' w' hC hoff hdep _hdif
      obtain ⟨AT, ct, xs, a4, p4⟩ := upto_of (ask_of hdep (j := 3) (by kernel_rfl)) rfl
      obtain ⟨AC, cc, a5, p5⟩ := upto_of (ask_of hdep (j := 4) (by kernel_rfl)) rfl
      obtain ⟨AL, cl, a6, p6⟩ := upto_of (ask_of hdep (j := 5) (by kernel_rfl)) rfl
      obtain ⟨AD, cd, a7, p7⟩ := upto_of (ask_of hdep (j := 6) (by kernel_rfl)) rfl
      exact good_gen (v := .agg #[.slice AT 1 ct, .slice AC 8 cc, .slice AL 2 cl, .slice AD 0 cd]) (w' := w') (by generalize A'.eval = ev at *; simp [go_sem, a4, a5, a6, a7]) ⟨Nat.le_refl _, fun h => absurd h (by decide)⟩ hC (.inl (Below.refl _ _)) (upto_to rfl rfl ⟨_, _, _, _, _, _, _, _, _, rfl, p4, p5, p6, p7⟩)
    · intro A' w' hC hoff hdep _hdif
      obtain ⟨AT, ct, AC, cc, AL, cl, AD, cd, xs, a8, p4, p5, p6, p7⟩ := upto_of (ask_of hdep (j := 7) (by kernel_rfl)) rfl
      have a0 : A'.eval (.tmp 0) = .pointer (some ⟨w.heap.size, 0, none⟩) := off_of hoff 0 (by kernel_rfl)
      obtain ⟨hb0, u0, u1, u2, u3, k0, k1, k2, k3, f0, f1, f2, f3⟩ := hC
      refine good_gen' (w' := (((w'.setCell ⟨w.heap.size, 0, none⟩ (.slice AT 1 ct)).setCell ⟨w.heap.size, 1, none⟩ (.slice AC 8 cc)).setCell ⟨w.heap.size, 2, none⟩ (.slice AL 2 cl)).setCell ⟨w.heap.size, 3, none⟩ (.slice AD 0 cd)) (by generalize A'.eval = ev at *; simp [go_sem, a0, a8, k0, k1, k2, k3, f0, f1, f2, f3]) ⟨by simp, fun h => absurd h (by decide)⟩ ⟨(((hb0.setCell (Nat.le_refl _) _).setCell (Nat.le_refl _) _).setCell (Nat.le_refl _) _).setCell (Nat.le_refl _) _, .slice AT 1 ct, .slice AC 8 cc, .slice AL 2 cl, .slice AD 0 cd, ?_⟩ (.inr (fun j hj hk hf => ?_)) ⟨AT, ct, AC, cc, AL, cl, AD, cd, xs, ?_, ?_, ?_, ?_, ?_⟩
      · clear hoff hdep
        unfold Four
        go_simp
      · match j, hj, hk, hf with
        | 0, _, hk, _ => exact absurd rfl (hk 8 rfl).1
        | 1, _, hk, _ => exact absurd rfl (hk 8 rfl).1
        | 2, _, hk, _ => exact absurd rfl (hk 8 rfl).1
        | 3, _, hk, _ => exact absurd rfl (hk 8 rfl).1
        | 4, _, hk, _ => exact absurd rfl (hk 8 rfl).1
        | 5, _, hk, _ => exact absurd rfl (hk 8 rfl).1
        | 6, _, hk, _ => exact absurd rfl (hk 8 rfl).1
        | 7, _, hk, _ => exact absurd rfl (hk 8 rfl).1
        | 8, hj, _, _ => exact absurd rfl hj
        | _ + 9, _, _, _ => trivial
      · clear hoff hdep
        unfold Four
        go_simp
      · repeat (refine OwnThs.setOther ?_ _ (by simp [hB]))
        exact p4
      · repeat (refine IntRow.setOther ?_ _ (by intro b hb; have := (p5.bd b hb).1; simp; omega))
        exact p5
      · repeat (refine IntRow.setOther ?_ _ (by intro b hb; have := (p6.bd b hb).1; simp; omega))
        exact p6
      · repeat (refine IntRow.setOther ?_ _ (by intro b hb; have := (p7.bd b hb).1; simp; omega))
        exact p7
  · intro s w1 hC hf _hdf
    obtain ⟨AT, ct, AC, cc, AL, cl, AD, cd, xs, ⟨k0, k1, k2, k3, _, _, _, _⟩, p4, p5, p6, p7⟩ := hf 8 (by decide) rfl
    have hb := hC.1
    clear hf hC
    simp only [putAll, Act.put, List.setIfInBounds_toArray, List.set_cons_succ, List.set_cons_zero]
    go_wp2
    refine bodyPost_ret (v := .agg #[.slice AT 1 ct, .slice AC 8 cc, .slice AL 2 cl, .slice AD 0 cd]) (by simp [results, Try.results38, go_sem, k0, k1, k2, k3]) rfl ⟨_, _, _, _, _, _, _, _, rfl, ((Below.refl w.heap.size w).alloc (Nat.le_refl _) _).trans hb, ⟨p4.arg rfl, p5.arg, p6.arg, p7.arg, rfl, rfl, rfl⟩⟩
end Go.Proofs.Ytolbihilggkldaa
