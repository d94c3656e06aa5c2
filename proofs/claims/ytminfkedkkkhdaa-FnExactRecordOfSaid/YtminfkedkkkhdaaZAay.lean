/-
  Part of a proof: DoC. No condition.
-/
import Derived.Test.YtminfkedkkkhdaaZAax
import Derived.Test.YtminfkedkkkhdaaZAaw
namespace Go.Proofs.Ytminfkedkkkhdaa
open Go.RowKit
theorem exec_append {P : Program} {o : Oper} {A : Act} {w w' : World} {s x : Operand} {t : TypeId} {v u r : Value} (ho : o.op = .call { callee := .builtin .append, args := #[s, x], argTypes := #[t, t] }) (hs : A.eval s = v) (hx : A.eval x = u)
  (hr : (Builtin.append_ #[t, t] o.type #[v, u]).run P w = .ok r w') : (execOp A.eval o).run P w = .ok (.value r) w' := by
 unfold execOp
 simp only [ho, resolve, invoke, builtin, Sem.run_bind, Sem.run_pure, Result.andThen_ok, List.map_toArray, List.map_cons, List.map_nil, hs, hx, hr]
theorem run_copy_ints {w : World} (ty : TypeId) (g : Nat) (u : Value) (ys : List Int) (hg : w.heap[g]? = some (.cells #[] 3)) (hu : ArgInts w u ys) (hlen : ys.length ≤ 1099511627776) (B : Nat) (hB : B ≤ g) :
  ∃ A c w', (Builtin.append_ #[29, 29] ty #[.slice (some ⟨g, 0, none⟩) 0 0, u]).run Try.prog w = .ok (.slice A ys.length c) w' ∧ Below w.heap.size w w' ∧ IntRow w' B (.slice A ys.length c) ys ∧
   ∀ k, (Value.slice A ys.length c).ownBlock = some k → k < w'.heap.size ∧ (w.heap.size ≤ k ∨ k = g) := by
 obtain ⟨i, hi, hz⟩ := Option.map_eq_some_iff.1 infoInt
 simp only [Prod.mk.injEq] at hz
 obtain ⟨hz, hsz, hby⟩ := hz
 have hgl : g < w.heap.size := (Array.getElem?_eq_some_iff.1 hg).1
 have ht : Try.prog.underlying 29 = some (.slice 3) := Try.underlying29
 have hown : w.ownsRow B 3 1 (.slice (some ⟨g, 0, none⟩) 0 0) 0 [] := ⟨by simp, .inr ⟨g, 0, #[], rfl, hB, hg, Nat.le_refl _, by unfold maxLen; omega, rfl, rfl⟩⟩
 obtain ⟨A, cap, rfl, hc, hr⟩ := hu
 by_cases hne : ys = []
 ·subst hne
  have key : ∃ w', (Builtin.append_ #[29, 29] ty #[.slice (some ⟨g, 0, none⟩) 0 0, .slice A 0 cap]).run Try.prog w = .ok (.slice (some ⟨g, 0, none⟩) 0 0) w' ∧ Below w.heap.size w w' ∧ w'.heap[g]? = some (.cells #[] 3) := by
   cases A with
   | none => exact ⟨w, by simp [Builtin.append_, run_underlying ht, sizeOf, typeInfo, hi, Builtin.lenOf, Builtin.firstCells, storeCells], Below.refl _ _, hg⟩
   | some ad =>
    have h1 := run_append_room (P := Try.prog) w 29 ty 3 i ht hi g 0 0 #[] hg ad 0 cap [] (by simp) (by simp) (by simp) (Nat.le_refl _) (by simp)
    have hs := setRow_heap w g #[] (([] : List Value).take (0 * i.size) ++ [] ++ ([] : List Value).drop (0 * i.size + ([] : List Value).length)).toArray 3 (0, 0) hg
    refine ⟨_, h1, ⟨rfl, rfl, rfl, by simp, fun k hk => ?_⟩, by simpa using hs⟩
    by_cases e : k = g
    ·subst e
     rw [hg]
     simpa using hs
    ·exact setRow_other w g k _ e
  obtain ⟨w', h1, h2, h3⟩ := key
  refine ⟨_, _, w', h1, h2, ⟨by simp, .inr ⟨g, 0, #[], rfl, hB, h3, Nat.le_refl _, by unfold maxLen; omega, rfl, rfl⟩⟩, fun k hk => ?_⟩
  simp only [Value.ownBlock, Option.some.injEq] at hk
  subst hk
  exact ⟨Nat.lt_of_lt_of_le hgl h2.size, .inr rfl⟩
 ·obtain ⟨b, o, rfl, hcell⟩ := hr hne
  have hnews : ∀ j u, (ys.map (Value.int .i64))[j]? = some u → w.cell? ((⟨b, o, none⟩ : Addr).add j) = some u := fun j u hu => by
   rw [List.getElem?_map, Option.map_eq_some_iff] at hu
   obtain ⟨q, hq, rfl⟩ := hu
   obtain ⟨hj, rfl⟩ := List.getElem?_eq_some_iff.1 hq
   rw [add_plain]
   exact hcell j hj
  have hpos : 0 < ys.length := List.length_pos_iff.2 hne
  obtain ⟨v', w', h1, h2, h3, _⟩ := run_append_own (P := Try.prog) w B 29 ty 3 i (.int .i64 0) 1 8 ht hi hz hsz hby rfl (by decide) _ 0 [] hown ⟨b, o, none⟩ ys.length cap (ys.map (Value.int .i64)) (by simp) hnews (by intro u hu; obtain ⟨q, _, rfl⟩ := List.mem_map.1 hu; rfl) (by unfold maxLen; omega) (by omega) (by omega)
  have h4 := run_append_grow (P := Try.prog) w 29 ty 3 i (.int .i64 0) ht hi hz ⟨g, 0, none⟩ 0 0 [] (by simp) (by simp) ⟨b, o, none⟩ ys.length cap (ys.map (Value.int .i64)) (by simp [hsz]) hnews (by omega) (by omega) (growslice_fits (by omega) (by rw [hby]; omega))
  have h5 := h1.symm.trans h4
  injection h5 with e1 e2
  subst e1 e2
  simp only [Nat.zero_add] at h1 h2 h3 ⊢
  refine ⟨_, _, _, h1, ⟨h3.os, h3.tape, h3.output, h3.size, fun k hk => ?_⟩, by simpa [IntRow] using h2, fun k hk => ?_⟩
  ·exact (World.grownBy_alloc w.drew _ none).block k (by simpa using hk) (by simp)
  ·simp only [Value.ownBlock, Option.some.injEq] at hk
   subst hk
   exact ⟨by simp, .inl (Nat.le_refl _)⟩
end Go.Proofs.Ytminfkedkkkhdaa
namespace Go.Proofs.Ytminfkedkkkhdaa
open Go.RowKit
set_option maxRecDepth 100000 in
set_option maxHeartbeats 4000000 in
theorem l2Thread_any {AR AS : Option Addr} {nr cr ns cs : Nat} {t : Bt.Th} {w : World} (H : ArgTh w AR nr cr AS ns cs t) (hr : nr ≤ 1048576) (hs : ns ≤ 1048576) :
  Calls Try.prog 119 #[.agg #[.int .i64 t.pl, .slice AR nr cr, .slice AS ns cs, .int .i64 t.st]] w (ThNew t w) := by
 unfold ThNew
 have HNE_nr := Lib.hid H.nR; have HNE_ns := Lib.hid H.nS
 obtain ⟨W0, hW0⟩ : ∃ W0 : World, W0 = (w.alloc (.cells #[.int .i64 t.pl, .slice AR nr cr, .slice AS ns cs, .int .i64 t.st] 123)).alloc (.cells #[.int .i64 0, .slice none 0 0, .slice none 0 0, .int .i64 0] 123) := ⟨_, rfl⟩
 have B0 := Lib.hid (show Below w.heap.size w W0 by rw [hW0]; exact ((Below.refl _ _).alloc (Nat.le_refl _) _).alloc (by simp) _)
 have HH := Lib.hid (H.keep B0.out); clear H
 have hz0 : W0.heap.size = w.heap.size + 2 := by rw [hW0]; simp
 have p0 : W0.cell? ⟨w.heap.size, 0, none⟩ = some (.int .i64 t.pl) := by rw [hW0]; go_simp
 have p1 : W0.cell? ⟨w.heap.size, 1, none⟩ = some (.slice AR nr cr) := by rw [hW0]; go_simp
 have p2 : W0.cell? ⟨w.heap.size, 2, none⟩ = some (.slice AS ns cs) := by rw [hW0]; go_simp
 have p3 : W0.cell? ⟨w.heap.size, 3, none⟩ = some (.int .i64 t.st) := by rw [hW0]; go_simp
 have f4 : Four W0 (w.heap.size + 1) (.int .i64 0) (.slice none 0 0) (.slice none 0 0) (.int .i64 0) := by rw [hW0]; unfold Four; go_simp
 have HW := Lib.hid hW0; clear hW0
 go_enter Try.func119, Try.ntmps119
 go_wp2_with fail
 rw [← HW.out]
 refine wp_region_ordI [Fact.is 3 (.pointer (some ⟨w.heap.size, 0, none⟩)),
   Fact.is 4 (.int .i64 t.pl),
   Fact.upto 5 13 (fun v w' => ∃ g, v = .slice (some ⟨g, 0, none⟩) 0 0 ∧ W0.heap.size ≤ g ∧ w'.heap[g]? = some (.cells #[] 3)),
   Fact.is 6 (.pointer (some ⟨w.heap.size, 1, none⟩)),
   Fact.is 7 (.slice AR nr cr),
   Fact.upto 8 13 (fun v w' => ∃ A c, v = .slice A nr c ∧ IntRow w' W0.heap.size (.slice A nr c) t.regs),
   Fact.upto 9 13 (fun v w' => ∃ g, v = .slice (some ⟨g, 0, none⟩) 0 0 ∧ W0.heap.size ≤ g ∧ w'.heap[g]? = some (.cells #[] 3)),
   Fact.is 10 (.pointer (some ⟨w.heap.size, 2, none⟩)),
   Fact.is 11 (.slice AS ns cs),
   Fact.upto 12 13 (fun v w' => ∃ A c, v = .slice A ns c ∧ IntRow w' W0.heap.size (.slice A ns c) t.stack),
   Fact.is 13 (.pointer (some ⟨w.heap.size, 3, none⟩)),
   Fact.is 14 (.int .i64 t.st),
   ⟨[15, 8, 12], some 13, fun vs w' => ∃ A1 c1 A2 c2, vs = [.agg #[.int .i64 t.pl, .slice A1 nr c1, .slice A2 ns c2, .int .i64 t.st], .slice A1 nr c1, .slice A2 ns c2] ∧ IntRow w' W0.heap.size (.slice A1 nr c1) t.regs ∧ IntRow w' W0.heap.size (.slice A2 ns c2) t.stack⟩,
   ⟨[8, 12], none, fun vs w' => ∃ A1 c1 A2 c2, vs = [.slice A1 nr c1, .slice A2 ns c2] ∧ Four w' (w.heap.size + 1) (.int .i64 t.pl) (.slice A1 nr c1) (.slice A2 ns c2) (.int .i64 t.st) ∧ IntRow w' W0.heap.size (.slice A1 nr c1) t.regs ∧ IntRow w' W0.heap.size (.slice A2 ns c2) t.stack ∧ Below w.heap.size w w'⟩]
  [(13, fun w' => Below W0.heap.size W0 w')] [(2, 5, 0), (5, 8, 0), (6, 9, 1), (9, 12, 1)]
  (by kernel_rfl) (by kernel_rfl) (by kernel_rfl) ?_ ?_ ?_ ?_ ?_
 ·intro q hq
  simp only [List.mem_cons, List.not_mem_nil, or_false] at hq
  rcases hq with rfl
  ·exact (Below.refl _ _).drew
 ·exact ⟨Fact.is_stable _ _, Fact.is_stable _ _, Fact.upto_stable (fun v w w' hb ⟨g, e, h, h'⟩ => ⟨g, e, h, heap_keep hb h'⟩), Fact.is_stable _ _, Fact.is_stable _ _, Fact.upto_stable (fun v w w' hb ⟨A, c, e, h⟩ => ⟨A, c, e, h.keep hb⟩), Fact.upto_stable (fun v w w' hb ⟨g, e, h, h'⟩ => ⟨g, e, h, heap_keep hb h'⟩), Fact.is_stable _ _, Fact.is_stable _ _, Fact.upto_stable (fun v w w' hb ⟨A, c, e, h⟩ => ⟨A, c, e, h.keep hb⟩), Fact.is_stable _ _, Fact.is_stable _ _, (fun vs w w' hb ⟨A1, c1, A2, c2, e, h, h'⟩ => ⟨A1, c1, A2, c2, e, h.keep hb, h'.keep hb⟩), (fun vs w1 w2 hb ⟨A1, c1, A2, c2, e, h, h1, h2, h3⟩ => ⟨A1, c1, A2, c2, e, h.keep hb, h1.keep hb, h2.keep hb, below_then h3 hb⟩), trivial⟩
 ·intro q hq w1' w2' hb h
  simp only [List.mem_cons, List.not_mem_nil, or_false] at hq
  rcases hq with rfl
  ·exact below_then h hb
 ·refine ⟨?_, ?_, ?_, ?_, ?_, ?_, ?_, ?_, ?_, ?_, ?_, ?_, ?_, ?_, trivial⟩
  ·intro A' w' hJ hoff hdep _hdif
   have a1 : A'.eval (.tmp 1) = .pointer (some ⟨w.heap.size, 0, none⟩) := off_of hoff 1 (by kernel_rfl)
   exact isI rfl rfl (by generalize A'.eval = ev at *; simp [go_sem, a1])
  ·intro A' w' hJ hoff hdep _hdif
   have a3 := is_of (ask_of hdep (j := 0) (by kernel_rfl)) rfl
   have b := init_of hJ (n := 0) rfl (by kernel_rfl)
   have q1 := keeps b p0
   exact isI rfl rfl (by generalize A'.eval = ev at *; simp [go_sem, a3, q1])
  ·intro A' w' hJ hoff hdep _hdif
   have b := init_of hJ (n := 0) rfl (by kernel_rfl)
   have hb : Below w'.heap.size w' (w'.alloc (.cells #[] 3)) := (Below.refl _ _).alloc (Nat.le_refl _) _
   exact runI (v := .slice (some ⟨w'.heap.size, 0, none⟩) 0 0) (w' := w'.alloc (.cells #[] 3)) (by generalize A'.eval = ev at *; simp [go_sem]) hb (upto_to rfl rfl ⟨_, rfl, b.size, alloc_at _ _⟩) (fam_new (fun k hk => by simp only [Value.ownBlock, Option.some.injEq] at hk; subst hk; simp))
  ·intro A' w' hJ hoff hdep _hdif
   have a1 : A'.eval (.tmp 1) = .pointer (some ⟨w.heap.size, 0, none⟩) := off_of hoff 1 (by kernel_rfl)
   exact isI rfl rfl (by generalize A'.eval = ev at *; simp [go_sem, a1])
  ·intro A' w' hJ hoff hdep _hdif
   have a6 := is_of (ask_of hdep (j := 3) (by kernel_rfl)) rfl
   have b := init_of hJ (n := 0) rfl (by kernel_rfl)
   have q1 := keeps b p1
   exact isI rfl rfl (by generalize A'.eval = ev at *; simp [go_sem, a6, q1])
  ·intro A' w' hJ hoff hdep _hdif
   have b := init_of hJ (n := 0) rfl (by kernel_rfl)
   obtain ⟨g, aE, hgb, hg⟩ := upto_of (ask_of hdep (j := 2) (by kernel_rfl)) rfl
   have a7 := is_of (ask_of hdep (j := 4) (by kernel_rfl)) rfl
   obtain ⟨A9, c9, w9, h9, hb9, hr9, hk9⟩ := run_copy_ints 29 g _ t.regs hg (HH.out.regs.keep b) (by rw [HNE_nr.out]; omega) W0.heap.size hgb
   exact runI (exec_append rfl aE a7 h9) hb9 (upto_to rfl rfl ⟨_, _, HNE_nr.out ▸ rfl, HNE_nr.out ▸ hr9⟩) (fam_of 2 5 0 (by simp) (by kernel_rfl) (by kernel_rfl) (fun k hk => ⟨(hk9 k hk).1, (hk9 k hk).2.imp id (fun e => by rw [show slotAt A' 5 = _ from aE, e]; rfl)⟩))
  ·intro A' w' hJ hoff hdep _hdif
   have b := init_of hJ (n := 0) rfl (by kernel_rfl)
   have hb : Below w'.heap.size w' (w'.alloc (.cells #[] 3)) := (Below.refl _ _).alloc (Nat.le_refl _) _
   exact runI (v := .slice (some ⟨w'.heap.size, 0, none⟩) 0 0) (w' := w'.alloc (.cells #[] 3)) (by generalize A'.eval = ev at *; simp [go_sem]) hb (upto_to rfl rfl ⟨_, rfl, b.size, alloc_at _ _⟩) (fam_new (fun k hk => by simp only [Value.ownBlock, Option.some.injEq] at hk; subst hk; simp))
  ·intro A' w' hJ hoff hdep _hdif
   have a1 : A'.eval (.tmp 1) = .pointer (some ⟨w.heap.size, 0, none⟩) := off_of hoff 1 (by kernel_rfl)
   exact isI rfl rfl (by generalize A'.eval = ev at *; simp [go_sem, a1])
  ·intro A' w' hJ hoff hdep _hdif
   have a10 := is_of (ask_of hdep (j := 7) (by kernel_rfl)) rfl
   have b := init_of hJ (n := 0) rfl (by kernel_rfl)
   have q1 := keeps b p2
   exact isI rfl rfl (by generalize A'.eval = ev at *; simp [go_sem, a10, q1])
  ·intro A' w' hJ hoff hdep _hdif
   have b := init_of hJ (n := 0) rfl (by kernel_rfl)
   obtain ⟨g, aE, hgb, hg⟩ := upto_of (ask_of hdep (j := 6) (by kernel_rfl)) rfl
   have a11 := is_of (ask_of hdep (j := 8) (by kernel_rfl)) rfl
   obtain ⟨A9, c9, w9, h9, hb9, hr9, hk9⟩ := run_copy_ints 29 g _ t.stack hg (HH.out.stack.keep b) (by rw [HNE_ns.out]; omega) W0.heap.size hgb
   exact runI (exec_append rfl aE a11 h9) hb9 (upto_to rfl rfl ⟨_, _, HNE_ns.out ▸ rfl, HNE_ns.out ▸ hr9⟩) (fam_of 6 9 1 (by simp) (by kernel_rfl) (by kernel_rfl) (fun k hk => ⟨(hk9 k hk).1, (hk9 k hk).2.imp id (fun e => by rw [show slotAt A' 9 = _ from aE, e]; rfl)⟩))
  ·intro A' w' hJ hoff hdep _hdif
   have a1 : A'.eval (.tmp 1) = .pointer (some ⟨w.heap.size, 0, none⟩) := off_of hoff 1 (by kernel_rfl)
   exact isI rfl rfl (by generalize A'.eval = ev at *; simp [go_sem, a1])
  ·intro A' w' hJ hoff hdep _hdif
   have a13 := is_of (ask_of hdep (j := 10) (by kernel_rfl)) rfl
   have b := init_of hJ (n := 0) rfl (by kernel_rfl)
   have q1 := keeps b p3
   exact isI rfl rfl (by generalize A'.eval = ev at *; simp [go_sem, a13, q1])
  ·intro A' w' hJ hoff hdep _hdif
   have a4 := is_of (ask_of hdep (j := 1) (by kernel_rfl)) rfl
   have a14 := is_of (ask_of hdep (j := 11) (by kernel_rfl)) rfl
   obtain ⟨A1, c1, a8, p8⟩ := upto_of (ask_of hdep (j := 5) (by kernel_rfl)) rfl
   obtain ⟨A2, c2, a12, p12⟩ := upto_of (ask_of hdep (j := 9) (by kernel_rfl)) rfl
   exact runI (v := .agg #[.int .i64 t.pl, .slice A1 nr c1, .slice A2 ns c2, .int .i64 t.st]) (w' := w') (by generalize A'.eval = ev at *; simp [go_sem, a4, a14, a8, a12]) (Below.refl _ _) ⟨A1, c1, A2, c2, by
    have e8 : slotAt A' 8 = .slice A1 nr c1 := a8
    have e12 : slotAt A' 12 = .slice A2 ns c2 := a12
    simp [put1, e8, e12], p8, p12⟩ (fam_none (by kernel_rfl))
  ·intro A' w' hJ hoff hdep _hdif
   have b := init_of hJ (n := 0) rfl (by kernel_rfl)
   have a2 : A'.eval (.tmp 2) = .pointer (some ⟨w.heap.size + 1, 0, none⟩) := off_of hoff 2 (by kernel_rfl)
   obtain ⟨A1, c1, A2, c2, e15, p8, p12⟩ := ask_of hdep (j := 12) (by kernel_rfl)
   have e15 : [slotAt A' 15, slotAt A' 8, slotAt A' 12] = [.agg #[.int .i64 t.pl, .slice A1 nr c1, .slice A2 ns c2, .int .i64 t.st], .slice A1 nr c1, .slice A2 ns c2] := e15
   injection e15 with a15 e15
   injection e15 with e8 e15
   injection e15 with e12 _
   have a15 : A'.eval (.tmp 15) = .agg #[.int .i64 t.pl, .slice A1 nr c1, .slice A2 ns c2, .int .i64 t.st] := a15
   obtain ⟨k0, k1, k2, k3, g0, g1, g2, g3⟩ := f4.keep b
   have hz := b.size
   refine lastI (w' := (((w'.setCell ⟨w.heap.size + 1, 0, none⟩ (.int .i64 t.pl)).setCell ⟨w.heap.size + 1, 1, none⟩ (.slice A1 nr c1)).setCell ⟨w.heap.size + 1, 2, none⟩ (.slice A2 ns c2)).setCell ⟨w.heap.size + 1, 3, none⟩ (.int .i64 t.st)) (by generalize A'.eval = ev at *; simp [go_sem, a2, a15, k0, k1, k2, k3, g0, g1, g2, g3]) (by simp) ⟨A1, c1, A2, c2, by simp [put1, e8, e12], ?_, ?_, ?_, ?_⟩ (fun j hj _ hk hf => ?_) (by kernel_rfl)
   ·clear hoff hdep hJ
    unfold Four
    go_simp
   ·repeat (refine IntRow.setOther ?_ _ (by intro b hb; have := (p8.bd b hb).1; simp; omega))
    exact p8
   ·repeat (refine IntRow.setOther ?_ _ (by intro b hb; have := (p12.bd b hb).1; simp; omega))
    exact p12
   ·repeat (refine Below.setCell ?_ (by simp) _)
    exact below_then B0.out b
   ·match j, hj, hk, hf with
    | 0, _, _, hf => exact hf
    | 1, _, _, hf => exact hf
    | 2, hj, hk, hf => exact absurd rfl (hk 13 rfl).1
    | 3, _, _, hf => exact hf
    | 4, _, _, hf => exact hf
    | 5, hj, hk, hf => exact absurd rfl (hk 13 rfl).1
    | 6, hj, hk, hf => exact absurd rfl (hk 13 rfl).1
    | 7, _, _, hf => exact hf
    | 8, _, _, hf => exact hf
    | 9, hj, hk, hf => exact absurd rfl (hk 13 rfl).1
    | 10, _, _, hf => exact hf
    | 11, _, _, hf => exact hf
    | 12, hj, hk, hf => exact absurd rfl (hk 13 rfl).1
    | 13, hj, _, _ => exact absurd rfl hj
    | _ + 14, _, _, _ => trivial
 ·intro s w1 hf _hdf hff
  obtain ⟨A1, c1, A2, c2, es, ⟨k0, k1, k2, k3, _, _, _, _⟩, q1, q2, q3⟩ := hf 13 (by decide) rfl
  have es : [s 8, s 12] = [.slice A1 nr c1, .slice A2 ns c2] := es
  injection es with e8 es
  injection es with e12 _
  have hap : Apart (.slice A1 nr c1) (.slice A2 ns c2) := fun k hk hk' => hff (5, 8, 0) (by simp) (9, 12, 1) (by simp) (by decide) k (by rw [e8]; exact hk) (by rw [e12]; exact hk')
  have HQ := Lib.hid (And.intro hap (And.intro q1 (And.intro q2 q3)))
  clear hf hff hap q1 q2 q3
  simp only [putAll, Act.put, List.setIfInBounds_toArray, List.set_cons_succ, List.set_cons_zero]
  go_wp2
  refine bodyPost_ret (v := .agg #[.int .i64 t.pl, .slice A1 nr c1, .slice A2 ns c2, .int .i64 t.st]) (by simp [results, Try.results119, go_sem, k0, k1, k2, k3]) rfl ?_
  obtain ⟨h1, h2, h3, h4⟩ := HQ.out
  rw [HNE_nr.out, HNE_ns.out]
  exact ⟨A1, c1, A2, c2, rfl, h4, h2.mono (by omega), h3.mono (by omega), h1⟩
end Go.Proofs.Ytminfkedkkkhdaa
namespace Go.Proofs.Ytminfkedkkkhdaa
open Go.RowKit
def McBox (w : World) (g : Nat) : Prop := ∃ c fr, w.heap[g]? = some (.cells c 31 fr)
theorem McBox.set {w : World} {g : Nat} (h : McBox w g) (p : Addr) (u : Value) : McBox (w.setCell p u) g := by
 obtain ⟨c, fr, h⟩ := h
 by_cases e : p.block = g
 ·subst e
  exact ⟨if p.spot.isSome then c else c.setIfInBounds p.off u, fr, by simp [World.setCell, Array.getElem?_modify, h]⟩
 ·exact ⟨c, fr, by rw [Below.heap_setCell w p u g (fun e' => e e'.symm)]; exact h⟩
theorem McBox.keep {w w' : World} {g : Nat} (h : McBox w g) (hb : Below w.heap.size w w') : McBox w' g := by
 obtain ⟨c, fr, h⟩ := h
 exact ⟨c, fr, heap_keep hb h⟩
theorem McBox.lt {w : World} {g : Nat} (h : McBox w g) : g < w.heap.size := by
 obtain ⟨c, fr, h⟩ := h
 exact (Array.getElem?_eq_some_iff.1 h).1
theorem McBox.only {S : List Value} {w w' : World} {g : Nat} (h : McBox w g) (hw : Only S w w') (hne : ∀ u ∈ S, u.ownBlock ≠ some g) : McBox w' g := by
 have hl := h.lt
 obtain ⟨c, fr, h⟩ := h
 exact ⟨c, fr, by rw [hw.block g hl hne]; exact h⟩
theorem IntRow.neM {w : World} {base b : Nat} {v : Value} {xs : List Int} (h : IntRow w base v xs) (hb : McBox w b) : v.ownBlock ≠ some b := by
 obtain ⟨c, fr, hb⟩ := hb
 have h' : w.ownsRow base 3 1 v xs.length (xs.map (Value.int .i64)) := h
 rcases h'.2 with ⟨rfl, _⟩ | ⟨g, cap, cur, rfl, _, hg, _⟩
 ·simp [Value.ownBlock]
 ·intro e
  simp only [Value.ownBlock, Option.some.injEq] at e
  subst e
  rw [hb] at hg
  injection hg with e2
  injection e2 with _ e3 _
  exact absurd e3 (by decide)
theorem OwnThs.neM {w : World} {B b : Nat} {v : Value} {ts : List Bt.Th} {xs : List (Value × Value)} (h : OwnThs w B v ts xs) (hb : McBox w b) : v.ownBlock ≠ some b := by
 obtain ⟨c, fr, hb⟩ := hb
 obtain ⟨L, hL, _⟩ := h.row
 rcases hL.2 with ⟨rfl, _⟩ | ⟨g, cap, cur, rfl, _, hg, _⟩
 ·simp [Value.ownBlock]
 ·intro e
  simp only [Value.ownBlock, Option.some.injEq] at e
  subst e
  rw [hb] at hg
  injection hg with e2
  injection e2 with _ e3 _
  exact absurd e3 (by decide)
theorem OwnMc.neM {w : World} {B b : Nat} {vt vc vl vd : Value} {xs : List (Value × Value)} {m : Bt.Mc} (h : OwnMc w B vt vc vl vd xs m) (hb : McBox w b) : ∀ u ∈ mcVals vt vc vl vd xs, u.ownBlock ≠ some b := by
 intro u hu
 unfold mcVals at hu
 simp only [List.mem_cons, List.mem_append, List.not_mem_nil, or_false] at hu
 rcases hu with rfl | hu | rfl | rfl | rfl
 ·exact h.ths.neM hb
 ·obtain ⟨i, hi, he⟩ := rowsOf_mem hu
  have hi' : i < m.ths.length := by rw [← h.ths.len]; exact hi
  have := h.ths.ints i hi' hi
  rcases he with rfl | rfl
  ·exact this.1.neM hb
  ·exact this.2.neM hb
 ·exact h.cells.neM hb
 ·exact h.locks.neM hb
 ·exact h.told.neM hb
theorem OwnMc.only {S : List Value} {w w' : World} {B : Nat} {vt vc vl vd : Value} {xs : List (Value × Value)} {m : Bt.Mc} (h : OwnMc w B vt vc vl vd xs m) (hw : Only S w w') (hS : ∀ u ∈ S, ∀ x ∈ mcVals vt vc vl vd xs, Apart u x) : OwnMc w' B vt vc vl vd xs m :=
 ⟨h.ths.only hw (fun u hu => hS u hu _ (by simp [mcVals])) (fun u hu x hx => hS u hu _ (by simp [mcVals, hx])), h.cells.only hw (fun u hu => hS u hu _ (by simp [mcVals])), h.locks.only hw (fun u hu => hS u hu _ (by simp [mcVals])), h.told.only hw (fun u hu => hS u hu _ (by simp [mcVals])), h.apart⟩
theorem only_set (w : World) (p : Addr) (u : Value) : Only [.slice (some ⟨p.block, 0, none⟩) 0 0] w (w.setCell p u) := (Only.refl _ w).set List.mem_cons_self rfl u
theorem apart_box {b : Nat} {x : Value} (h : x.ownBlock ≠ some b) : Apart (.slice (some ⟨b, 0, none⟩) 0 0) x := by
 intro k e
 simp only [Value.ownBlock, Option.some.injEq] at e
 subst e
 exact h
theorem OwnMc.setBox {w : World} {B : Nat} {vt vc vl vd : Value} {xs : List (Value × Value)} {m : Bt.Mc} (h : OwnMc w B vt vc vl vd xs m) (p : Addr) (u : Value) (hp : McBox w p.block) : OwnMc (w.setCell p u) B vt vc vl vd xs m :=
 h.only (only_set w p u) (fun u' hu x hx => by
  simp only [List.mem_singleton] at hu
  subst hu
  exact apart_box (h.neM hp x hx))
theorem surely_app_th {o : Oper} {a : Act} {w : World} {R : Value → World → Prop} (s x : Operand)
  (ho : o.op = .call { callee := .builtin .append, args := #[s, x], argTypes := #[28, 28] }) (base : Nat) (v : Value) (ts : List Bt.Th) (xs : List (Value × Value)) (hs : a.eval s = v) (hown : ThsAcc w base v ts xs)
  (g c : Nat) (t : Bt.Th) (r k : Value) (hr : IntRow w base r t.regs) (hk : IntRow w base k t.stack) (hrk : Apart r k) (hnew : ∀ u ∈ rowsOf xs, Apart u r ∧ Apart u k) (hx : a.eval x = .slice (some ⟨g, 0, none⟩) 1 c)
  (h0 : w.cell? ⟨g, 0, none⟩ = some (.int .i64 t.pl)) (h1 : w.cell? ⟨g, 1, none⟩ = some r) (h2 : w.cell? ⟨g, 2, none⟩ = some k) (h3 : w.cell? ⟨g, 3, none⟩ = some (.int .i64 t.st)) (hlen : ts.length ≤ 1048576) (hbase : base ≤ w.heap.size)
  (h : ∀ v' w', ThsAcc w' base v' (ts ++ [t]) (xs ++ [(r, k)]) → w.grownBy w' v.ownBlock → R v' w') : surely Try.prog o a w R := by
 intro K Q hK
 obtain ⟨i, hi, hz⟩ := Option.map_eq_some_iff.1 infoTh
 simp only [Prod.mk.injEq] at hz
 obtain ⟨hz, hsz, hby⟩ := hz
 obtain ⟨L, hL, hT⟩ := hown.own.row
 have hrs : ∃ A n c, r = .slice A n c := by
  obtain ⟨A, c, e, _⟩ := hr.arg.form
  exact ⟨A, _, c, e⟩
 have hks : ∃ A n c, k = .slice A n c := by
  obtain ⟨A, c, e, _⟩ := hk.arg.form
  exact ⟨A, _, c, e⟩
 refine wp_append_own (P := Try.prog) w s x 28 ho base 123 i (.agg #[.int .i64 0, .slice none 0 0, .slice none 0 0, .int .i64 0]) 4 64 Try.underlying28 hi hz hsz hby rfl (by decide) v ts.length L hs hL ⟨g, 0, none⟩ 1 c [.int .i64 t.pl, r, k, .int .i64 t.st] hx rfl ?_ ?_ ?_ ?_ hbase ?_
 ·intro j u hu
  rw [add_plain, Nat.zero_add]
  match j, hu with
  | 0, hu => simp at hu; subst hu; exact h0
  | 1, hu => simp at hu; subst hu; exact h1
  | 2, hu => simp at hu; subst hu; exact h2
  | 3, hu => simp at hu; subst hu; exact h3
  | j + 4, hu => simp at hu
 ·intro u hu
  obtain ⟨A1, n1, c1, rfl⟩ := hrs
  obtain ⟨A2, n2, c2, rfl⟩ := hks
  simp only [List.mem_cons, List.not_mem_nil, or_false] at hu
  rcases hu with rfl | rfl | rfl | rfl <;> rfl
 ·unfold maxLen; omega
 ·omega
 ·intro v' w' hrow hg _
  refine hK v' w' (h v' w' ?_ hg)
  have hv : ∀ u ys, IntRow w base u ys → u.ownBlock = none ∨ u.ownBlock ≠ v.ownBlock := fun u ys hu => by
   have ha := hown.own.apart hu
   exact ha.keep
  refine ⟨⟨by simp [hown.own.len], ⟨L ++ [.int .i64 t.pl, r, k, .int .i64 t.st], by rw [List.length_append]; exact hrow, fun j hj hj' => ?_⟩, fun j hj hj' => ?_⟩, ?_⟩
  ·have hl := hL.1
   by_cases hjl : j < ts.length
   ·have hjx : j < xs.length := by rw [hown.own.len]; exact hjl
    rw [List.getElem_append_left hjl, List.getElem_append_left hjx]
    obtain ⟨a0, a1, a2, a3⟩ := hT j hjl hjx
    refine ⟨?_, ?_, ?_, ?_⟩
    ·rw [List.getElem?_append_left (by omega)]; exact a0
    ·rw [List.getElem?_append_left (by omega)]; exact a1
    ·rw [List.getElem?_append_left (by omega)]; exact a2
    ·rw [List.getElem?_append_left (by omega)]; exact a3
   ·have e : j = ts.length := by simp at hj; omega
    subst e
    have ex : ts.length = xs.length := hown.own.len.symm
    have e1 : (ts ++ [t])[ts.length]'hj = t := by simp
    have e2 : (xs ++ [(r, k)])[ts.length]'hj' = (r, k) := by
     rw [List.getElem_append_right (by omega)]
     simp [ex]
    rw [e1, e2]
    refine ⟨?_, ?_, ?_, ?_⟩
    all_goals rw [List.getElem?_append_right (by omega)]
    ·rw [show ts.length * 4 - L.length = 0 by omega]; rfl
    ·rw [show ts.length * 4 + 1 - L.length = 1 by omega]; rfl
    ·rw [show ts.length * 4 + 2 - L.length = 2 by omega]; rfl
    ·rw [show ts.length * 4 + 3 - L.length = 3 by omega]; rfl
  ·by_cases hjl : j < ts.length
   ·have hjx : j < xs.length := by rw [hown.own.len]; exact hjl
    rw [List.getElem_append_left hjl, List.getElem_append_left hjx]
    obtain ⟨b1, b2⟩ := hown.own.ints j hjl hjx
    exact ⟨b1.grown hg (hv _ _ b1), b2.grown hg (hv _ _ b2)⟩
   ·have e : j = ts.length := by simp at hj; omega
    subst e
    have ex : ts.length = xs.length := hown.own.len.symm
    have e1 : (ts ++ [t])[ts.length]'hj = t := by simp
    have e2 : (xs ++ [(r, k)])[ts.length]'hj' = (r, k) := by
     rw [List.getElem_append_right (by omega)]
     simp [ex]
    rw [e1, e2]
    exact ⟨hr.grown hg (hv _ _ hr), hk.grown hg (hv _ _ hk)⟩
  ·rw [rowsOf_snoc, List.pairwise_append]
   refine ⟨hown.apart, by simpa using hrk, fun u hu u' hu' => ?_⟩
   simp only [List.mem_cons, List.not_mem_nil, or_false] at hu'
   rcases hu' with rfl | rfl
   ·exact (hnew u hu).1
   ·exact (hnew u hu).2
end Go.Proofs.Ytminfkedkkkhdaa
