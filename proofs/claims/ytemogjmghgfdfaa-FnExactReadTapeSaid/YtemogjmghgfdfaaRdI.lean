/-
  Chapter 5: what the program reads of a tape.
-/
import Derived.Test.YtemogjmghgfdfaaRdP
set_option linter.unusedSimpArgs false
set_option linter.unusedVariables false
namespace Go.Proofs.Ytemogjmghgfdfaa
open Go.RowKit
namespace Av
theorem itakeN_ok {s : ByteArray} (a : Nat) (hs : s.size ≤ 1048576) : FnOk E.P 34 [.str s, pI a]
    (.tup [pI (((Bt.takeNum (byteAt s) s.size a).getD (0, 0)).1 : Nat), pI (((Bt.takeNum (byteAt s) s.size a).getD (0, 0)).2 : Nat), .bool (Bt.takeNum (byteAt s) s.size a).isSome]) true := by
  have h := itake_ok (s := s) (a := (a : Int)) hs
  rw [Bt.takeI_nat] at h
  exact h
set_option maxHeartbeats 8000000 in
theorem takeSlice_ok {s : ByteArray} (a : Nat) (hs : s.size ≤ 1048576) : FnOk E.P 93 [.str s, pI a]
    (.tup [.agg [pI ((((Bt.takeSl (byteAt s) s.size a).getD (0, 0, 0)).1 / 2 : Nat) : Int), pI ((((Bt.takeSl (byteAt s) s.size a).getD (0, 0, 0)).1 % 2 : Nat) : Int), pI ((((Bt.takeSl (byteAt s) s.size a).getD (0, 0, 0)).2.1 : Nat) : Int)], pI ((((Bt.takeSl (byteAt s) s.size a).getD (0, 0, 0)).2.2 : Nat) : Int), .bool (Bt.takeSl (byteAt s) s.size a).isSome]) true := by
  have hT := itakeN_ok (s := s) a hs
  unfold Bt.takeSl
  cases e1 : Bt.takeNum (byteAt s) s.size a with
  | none =>
    rw [e1] at hT
    refine fn_ok mixed Try.func93 rfl (by kernel_rfl) _ Try.results93 _ Try.ntmps93 (by simp) (by kernel_rfl) ?_
    simp (maxSteps := 4000000) only [pI, vcs, simprocAttr, tbs]
    repeat (first | refine ftS (by kernel_rfl) ?_ | refine And.intro (by omega) ?_)
    refine aops_fn (hT) (by first | exact Nat.le_add_right _ _ | (simp only [introT, intro1, introL, intros, pI, pProg, pMc, pTh, pCh, pChs, pInts]; omega)) rfl ?_
    simp (maxSteps := 4000000) only [Option.getD_none, Option.isSome_none, pI, vcs, simprocAttr, tbs]
    repeat (first | refine ftS (by kernel_rfl) ?_ | refine And.intro (by omega) ?_)
    all_goals (first | rfl | trivial | skip)
  | some x =>
    obtain ⟨t, b⟩ := x
    rw [e1] at hT
    have hU := itakeN_ok (s := s) b hs
    have f1 := Bt.takeNum_some e1
    simp only
    cases e2 : Bt.takeNum (byteAt s) s.size b with
    | none =>
      rw [e2] at hU
      refine fn_ok mixed Try.func93 rfl (by kernel_rfl) _ Try.results93 _ Try.ntmps93 (by simp) (by kernel_rfl) ?_
      simp (maxSteps := 4000000) only [pI, vcs, simprocAttr, tbs]
      repeat (first | refine ftS (by kernel_rfl) ?_ | refine And.intro (by omega) ?_)
      refine aops_fn (hT) (by first | exact Nat.le_add_right _ _ | (simp only [introT, intro1, introL, intros, pI, pProg, pMc, pTh, pCh, pChs, pInts]; omega)) rfl ?_
      simp (maxSteps := 4000000) only [Option.getD_some, Option.isSome_some, pI, vcs, simprocAttr, tbs]
      repeat (first | refine ftS (by kernel_rfl) ?_ | refine And.intro (by omega) ?_)
      refine aops_fn (hU) (by first | exact Nat.le_add_right _ _ | (simp only [introT, intro1, introL, intros, pI, pProg, pMc, pTh, pCh, pChs, pInts]; omega)) rfl ?_
      simp (maxSteps := 4000000) only [Option.getD_none, Option.isSome_none, pI, vcs, simprocAttr, tbs]
      repeat (first | refine ftS (by kernel_rfl) ?_ | refine And.intro (by omega) ?_)
      all_goals (first | rfl | trivial | skip)
    | some y =>
      obtain ⟨n, c⟩ := y
      rw [e2] at hU
      have f2 := Bt.takeNum_some e2
      have m1 : (t : Int).tdiv 2 = ((t / 2 : Nat) : Int) := by rw [Int.tdiv_eq_ediv_of_nonneg (by omega)]; omega
      have m2 : (t : Int).tmod 2 = ((t % 2 : Nat) : Int) := by rw [Int.tmod_eq_emod_of_nonneg (by omega)]; omega
      refine fn_ok mixed Try.func93 rfl (by kernel_rfl) _ Try.results93 _ Try.ntmps93 (by simp) (by kernel_rfl) ?_
      simp (maxSteps := 4000000) only [pI, vcs, simprocAttr, tbs]
      repeat (first | refine ftS (by kernel_rfl) ?_ | refine And.intro (by omega) ?_)
      refine aops_fn (hT) (by first | exact Nat.le_add_right _ _ | (simp only [introT, intro1, introL, intros, pI, pProg, pMc, pTh, pCh, pChs, pInts]; omega)) rfl ?_
      simp (maxSteps := 4000000) only [Option.getD_some, Option.isSome_some, pI, vcs, simprocAttr, tbs]
      repeat (first | refine ftS (by kernel_rfl) ?_ | refine And.intro (by omega) ?_)
      refine aops_fn (hU) (by first | exact Nat.le_add_right _ _ | (simp only [introT, intro1, introL, intros, pI, pProg, pMc, pTh, pCh, pChs, pInts]; omega)) rfl ?_
      simp (maxSteps := 4000000) only [m1, m2, Option.getD_some, Option.isSome_some, pI, vcs, simprocAttr, tbs]
      repeat (first | refine ftS (by kernel_rfl) ?_ | refine And.intro (by omega) ?_)
      all_goals (first | rfl | trivial | skip)
set_option maxRecDepth 10000 in
set_option maxHeartbeats 8000000 in
theorem takeChoice_ok {rs : List Bt.C4} {h who kind many : Int} {m : Bt.Mc} {s : ByteArray} (a : Nat) (hne : rs ≠ []) (hn : rs.length ≤ 1048576) (hm : Small m) (hs : s.size ≤ 1048576) :
    FnOk E.P 94 [pProg rs h, .agg (pMc m), .agg [pI who, pI kind, pI many], .str s, pI a] (.tup [.agg (pCh ((Bt.takeCh rs h (byteAt s) s.size m who kind a).getD (⟨0, 0, 0⟩, 0)).1), pI ((((Bt.takeCh rs h (byteAt s) s.size m who kind a).getD (⟨0, 0, 0⟩, 0)).2 : Nat) : Int), .bool (Bt.takeCh rs h (byteAt s) s.size m who kind a).isSome]) true := by
  have hA := asksFor_ok (rs := rs) (h := h) (who := who) (kind := kind) (rep := 0) (m := m) hne hn hm
  have hT := itakeN_ok (s := s) a hs
  have hC := fun v => can_ok (rs := rs) (h := h) (m := m) (c := ⟨who, kind, v⟩) hne hn hm
  unfold Bt.takeCh
  cases ha : Bt.asks rs h m ⟨who, kind, 0⟩
  · rw [ha] at hA
    have hD := hC 0
    simp only [Bool.false_eq_true, if_false]
    cases hc : Bt.canDo rs h m ⟨who, kind, 0⟩
    all_goals
      rw [hc] at hD
      simp only [Bool.false_eq_true, if_false, if_true]
      refine fn_ok mixed Try.func94 rfl (by kernel_rfl) _ Try.results94 _ Try.ntmps94 (by simp) (by kernel_rfl) ?_
      simp (maxSteps := 4000000) only [pProg, pMc, pCh, pInts, pI, vcs, simprocAttr, tbs]
      repeat (first | refine ftS (by kernel_rfl) ?_ | refine And.intro (by omega) ?_)
      refine aops_fn (hA) (by first | exact Nat.le_add_right _ _ | (simp only [introT, intro1, introL, intros, pI, pProg, pMc, pTh, pCh, pChs, pInts]; omega)) rfl ?_
      simp (maxSteps := 4000000) only [pProg, pMc, pCh, pInts, pI, vcs, simprocAttr, tbs]
      repeat (first | refine ftS (by kernel_rfl) ?_ | refine And.intro (by omega) ?_)
      refine aops_fn (hD) (by first | exact Nat.le_add_right _ _ | (simp only [introT, intro1, introL, intros, pI, pProg, pMc, pTh, pCh, pChs, pInts]; omega)) rfl ?_
      simp (maxSteps := 4000000) only [Option.getD_none, Option.isSome_none, Option.getD_some, Option.isSome_some, pProg, pMc, pCh, pInts, pI, vcs, simprocAttr, tbs]
      repeat (first | refine ftS (by kernel_rfl) ?_ | refine And.intro (by omega) ?_)
      all_goals (first | rfl | trivial | skip)
  · rw [ha] at hA
    simp only [if_true]
    cases e1 : Bt.takeNum (byteAt s) s.size a with
    | none =>
      rw [e1] at hT
      refine fn_ok mixed Try.func94 rfl (by kernel_rfl) _ Try.results94 _ Try.ntmps94 (by simp) (by kernel_rfl) ?_
      simp (maxSteps := 4000000) only [pProg, pMc, pCh, pInts, pI, vcs, simprocAttr, tbs]
      repeat (first | refine ftS (by kernel_rfl) ?_ | refine And.intro (by omega) ?_)
      refine aops_fn (hA) (by first | exact Nat.le_add_right _ _ | (simp only [introT, intro1, introL, intros, pI, pProg, pMc, pTh, pCh, pChs, pInts]; omega)) rfl ?_
      simp (maxSteps := 4000000) only [pProg, pMc, pCh, pInts, pI, vcs, simprocAttr, tbs]
      repeat (first | refine ftS (by kernel_rfl) ?_ | refine And.intro (by omega) ?_)
      refine aops_fn (hT) (by first | exact Nat.le_add_right _ _ | (simp only [introT, intro1, introL, intros, pI, pProg, pMc, pTh, pCh, pChs, pInts]; omega)) rfl ?_
      simp (maxSteps := 4000000) only [Option.getD_none, Option.isSome_none, pProg, pMc, pCh, pInts, pI, vcs, simprocAttr, tbs]
      repeat (first | refine ftS (by kernel_rfl) ?_ | refine And.intro (by omega) ?_)
      all_goals (first | rfl | trivial | skip)
    | some x =>
      obtain ⟨v, b⟩ := x
      rw [e1] at hT
      have hD := hC v
      simp only
      cases hc : Bt.canDo rs h m ⟨who, kind, v⟩
      all_goals
        rw [hc] at hD
        simp only [Bool.false_eq_true, if_false, if_true]
        refine fn_ok mixed Try.func94 rfl (by kernel_rfl) _ Try.results94 _ Try.ntmps94 (by simp) (by kernel_rfl) ?_
        simp (maxSteps := 4000000) only [pProg, pMc, pCh, pInts, pI, vcs, simprocAttr, tbs]
        repeat (first | refine ftS (by kernel_rfl) ?_ | refine And.intro (by omega) ?_)
        refine aops_fn (hA) (by first | exact Nat.le_add_right _ _ | (simp only [introT, intro1, introL, intros, pI, pProg, pMc, pTh, pCh, pChs, pInts]; omega)) rfl ?_
        simp (maxSteps := 4000000) only [pProg, pMc, pCh, pInts, pI, vcs, simprocAttr, tbs]
        repeat (first | refine ftS (by kernel_rfl) ?_ | refine And.intro (by omega) ?_)
        refine aops_fn (hT) (by first | exact Nat.le_add_right _ _ | (simp only [introT, intro1, introL, intros, pI, pProg, pMc, pTh, pCh, pChs, pInts]; omega)) rfl ?_
        simp (maxSteps := 4000000) only [Option.getD_some, Option.isSome_some, pProg, pMc, pCh, pInts, pI, vcs, simprocAttr, tbs]
        repeat (first | refine ftS (by kernel_rfl) ?_ | refine And.intro (by omega) ?_)
        refine aops_fn (hD) (by first | exact Nat.le_add_right _ _ | (simp only [introT, intro1, introL, intros, pI, pProg, pMc, pTh, pCh, pChs, pInts]; omega)) rfl ?_
        simp (maxSteps := 4000000) only [Option.getD_none, Option.isSome_none, Option.getD_some, Option.isSome_some, pProg, pMc, pCh, pInts, pI, vcs, simprocAttr, tbs]
        repeat (first | refine ftS (by kernel_rfl) ?_ | refine And.intro (by omega) ?_)
        all_goals (first | rfl | trivial | skip)
set_option maxRecDepth 10000 in
set_option maxHeartbeats 16000000 in
theorem ireadTape_ok {rs : List Bt.C4} {h : Int} {s : ByteArray} (hn : rs.length ≤ 1048576) (hs : s.size ≤ 1048576) : FnOk E.P 38 [pProg rs h, .str s] (pChs (Bt.readTape rs h (byteAt s) s.size)) true := by
  unfold Bt.readTape
  have hpk := iprog_ok (rs := rs) (h := h) hn
  cases hp : Bt.progOk rs h
  · rw [hp] at hpk
    simp only [Bool.false_eq_true, if_false]
    refine fn_ok mixed Try.func38 rfl (by kernel_rfl) _ Try.results38 _ Try.ntmps38 (by simp) (by kernel_rfl) ?_
    simp (maxSteps := 4000000) only [pProg, pChs, pI, vcs, simprocAttr, tbs]
    repeat (first | refine ftS (by kernel_rfl) ?_ | refine And.intro (by omega) ?_)
    refine aops_fn (hpk) (by first | exact Nat.le_add_right _ _ | (simp only [introT, intro1, introL, intros, pI, pProg, pMc, pTh, pCh, pChs, pInts]; omega)) rfl ?_
    simp (maxSteps := 4000000) only [List.map_nil, pProg, pChs, pI, vcs, simprocAttr, tbs]
    repeat (first | refine ftS (by kernel_rfl) ?_ | refine And.intro (by omega) ?_)
    all_goals (first | rfl | trivial | skip)
  rw [hp] at hpk
  have hne := progOk_ne hp
  simp only [if_true]
  obtain ⟨R, hR⟩ : ∃ R, Bt.readTo rs h (byteAt s) s.size (s.size + 1) 0 Bt.mcNew [] = R := ⟨_, rfl⟩
  rw [hR]
  have hS := fun a => takeSlice_ok (s := s) a hs
  refine fn_ok mixed Try.func38 rfl (by kernel_rfl) _ Try.results38 _ Try.ntmps38 (by simp) (by kernel_rfl) ?_
  simp (maxSteps := 4000000) only [pProg, pChs, pI, vcs, simprocAttr, tbs]
  repeat (first | refine ftS (by kernel_rfl) ?_ | refine And.intro (by omega) ?_)
  refine aops_fn (hpk) (by first | exact Nat.le_add_right _ _ | (simp only [introT, intro1, introL, intros, pI, pProg, pMc, pTh, pCh, pChs, pInts]; omega)) rfl ?_
  simp (maxSteps := 4000000) only [pProg, pChs, pI, vcs, simprocAttr, tbs]
  repeat (first | refine ftS (by kernel_rfl) ?_ | refine And.intro (by omega) ?_)
  refine aops_callF (new_ok.read) (by first | exact Nat.le_add_right _ _ | (simp only [introT, intro1, introL, intros, pI, pProg, pMc, pTh, pCh, pChs, pInts]; omega)) rfl ?_
  simp (maxSteps := 4000000) only [List.length_map, pMc, pInts, pI, vcs, simprocAttr, tbs]
  repeat (first | refine ftS (by kernel_rfl) ?_ | refine And.intro (by omega) ?_)
  refine aops_fn (hS 0) (by first | exact Nat.le_add_right _ _ | (simp only [introT, intro1, introL, intros, pI, pProg, pMc, pTh, pCh, pChs, pInts]; omega)) rfl ?_
  simp (maxSteps := 4000000) only [List.length_map, pMc, pInts, pI, vcs, simprocAttr, tbs]
  repeat (first | refine ftS (by kernel_rfl) ?_ | refine And.intro (by omega) ?_)
  refine awp_loop (X := Nat × Nat × Bt.Mc × List Bt.Ch) (fun x => [(1, .pv (.str s)), (2, .ptr 0 0), (5, .sl 1), (6, .ptr 2 0), (7, .ptr 3 0), (8, .pv (.int .i64 ((((Bt.takeSl (byteAt s) s.size x.2.1).getD (0, 0, 0)).2.2 : Nat) : Int))), (9, .pv (.bool (Bt.takeSl (byteAt s) s.size x.2.1).isSome))])
    (fun x => [(0, .box [.pv (.lst 143 (rs.map pCode)), .pv (.int .i64 h)]), (1, .row true 98 (x.2.2.2.map pCh)), (2, .box (bMc x.2.2.1)), (3, .box [.pv (.int .i64 ((((Bt.takeSl (byteAt s) s.size x.2.1).getD (0, 0, 0)).1 / 2 : Nat) : Int)), .pv (.int .i64 ((((Bt.takeSl (byteAt s) s.size x.2.1).getD (0, 0, 0)).1 % 2 : Nat) : Int)), .pv (.int .i64 ((((Bt.takeSl (byteAt s) s.size x.2.1).getD (0, 0, 0)).2.1 : Nat) : Int))])])
    (fun x => x.2.1 ≤ s.size ∧ s.size - x.2.1 < x.1 ∧ Bt.mcSz x.2.2.1 ≤ 1048576 ∧ x.2.2.2.length ≤ 300 ∧ Bt.readTo rs h (byteAt s) s.size x.1 x.2.1 x.2.2.1 x.2.2.2 = R) (fun x => x.1) 100 (s.size + 1, 0, Bt.mcNew, [])
    ⟨Nat.zero_le _, by simp only; omega, by show Bt.mcSz Bt.mcNew ≤ 1048576; decide, Nat.zero_le _, hR⟩ (by simp (maxSteps := 4000000) only [List.length_map, bMc, pMc, pInts, pI, vcs, simprocAttr, tbs]; try simp [pI]) (fun x H => ?_)
  obtain ⟨f, a, m, out⟩ := x
  obtain ⟨i1, i2, i3, i4, i5⟩ := H
  simp only at i1 i2 i3 i4 i5
  cases e1 : Bt.takeSl (byteAt s) s.size a with
  | none =>
    rw [Bt.readTo_none e1] at i5
    subst i5
    simp (maxSteps := 4000000) only [e1, Option.getD_none, Option.isSome_none, List.length_map, pChs, pI, vcs, simprocAttr, tbs]
    repeat (first | refine ftS (by kernel_rfl) ?_ | refine And.intro (by omega) ?_)
    all_goals (first | rfl | trivial | skip)
  | some x =>
    obtain ⟨t, n, b⟩ := x
    have f1 := Bt.takeSl_some e1
    obtain ⟨f', rfl⟩ : ∃ f', f = f' + 1 := ⟨f - 1, by omega⟩
    rw [Bt.readTo_some e1] at i5
    generalize hwh : ((t / 2 : Nat) : Int) = who at *
    generalize hki : ((t % 2 : Nat) : Int) = kind at *
    simp (maxSteps := 4000000) only [Option.getD_some, Option.isSome_some, List.length_map, pProg, bMc, pMc, pCh, pInts, pI, vcs, simprocAttr, tbs]
    repeat (first | refine ftS (by kernel_rfl) ?_ | refine And.intro (by omega) ?_)
    refine awp_loop (X := Nat × Nat × Bt.Mc × List Bt.Ch) (fun x => [(1, .pv (.str s)), (2, .ptr 0 0), (5, .sl 1), (6, .ptr 2 0), (7, .ptr 3 0), (8, .pv (.int .i64 (x.2.1 : Nat))), (10, .pv (.int .i64 (x.1 : Nat)))])
      (fun x => [(0, .box [.pv (.lst 143 (rs.map pCode)), .pv (.int .i64 h)]), (1, .row true 98 (x.2.2.2.map pCh)), (2, .box (bMc x.2.2.1)), (3, .box [.pv (.int .i64 who), .pv (.int .i64 kind), .pv (.int .i64 n)])])
      (fun x => x.1 ≤ n ∧ b ≤ x.2.1 ∧ x.2.1 ≤ s.size ∧ Bt.mcSz x.2.2.1 ≤ 1048576 ∧ x.2.2.2.length ≤ 300 ∧ Bt.readIn rs h (byteAt s) s.size who kind f' x.1 x.2.1 x.2.2.1 x.2.2.2 = R) (fun x => x.1) 100 (n, b, m, out)
      ⟨Nat.le_refl _, Nat.le_refl _, by simp only; omega, i3, i4, i5⟩ (by simp (maxSteps := 4000000) only [List.length_map, bMc, pMc, pInts, pI, vcs, simprocAttr, tbs]; try simp [pI]; try omega) (fun x H => ?_)
    obtain ⟨j, a', m', out'⟩ := x
    obtain ⟨j1, j2, j3, j4, j5, j6⟩ := H
    simp only at j1 j2 j3 j4 j5 j6
    cases j with
    | zero =>
      have d1 : decide ((0 : Int) > 0) = false := by decide
      have z0 : ((0 : Nat) : Int) = 0 := rfl
      rw [Bt.readIn_zero] at j6
      have hSa := hS a'
      simp (maxSteps := 4000000) only [d1, z0, List.length_map, pProg, bMc, pMc, pCh, pInts, pI, vcs, simprocAttr, tbs]
      repeat (first | refine ftS (by kernel_rfl) ?_ | refine And.intro (by omega) ?_)
      refine aops_fn (hSa) (by first | exact Nat.le_add_right _ _ | (simp only [introT, intro1, introL, intros, pI, pProg, pMc, pTh, pCh, pChs, pInts]; omega)) rfl ?_
      simp (maxSteps := 4000000) only [List.length_map, pProg, bMc, pMc, pCh, pInts, pI, vcs, simprocAttr, tbs]
      repeat (first | refine ftS (by kernel_rfl) ?_ | refine And.intro (by omega) ?_)
      refine ⟨(f', a', m', out'), ⟨j3, by simp only; omega, j4, j5, j6⟩, by simp only; omega, ?_⟩
      simp [bMc, pMc, pInts, pI]
    | succ j =>
      have d1 : decide (((j + 1 : Nat) : Int) > 0) = true := by rw [decide_eq_true_eq]; omega
      have hX := takeChoice_ok (rs := rs) (h := h) (who := who) (kind := kind) (many := n) (m := m') (s := s) a' hne hn (Small.of j4) hs
      cases e2 : Bt.takeCh rs h (byteAt s) s.size m' who kind a' with
      | none =>
        rw [e2] at hX
        rw [Bt.readIn_none e2] at j6
        subst j6
        simp (maxSteps := 4000000) only [d1, List.length_map, pProg, bMc, pMc, pCh, pInts, pI, vcs, simprocAttr, tbs]
        repeat (first | refine ftS (by kernel_rfl) ?_ | refine And.intro (by omega) ?_)
        refine aops_fn (hX) (by first | exact Nat.le_add_right _ _ | (simp only [introT, intro1, introL, intros, pI, pProg, pMc, pTh, pCh, pChs, pInts]; omega)) rfl ?_
        simp (maxSteps := 4000000) only [Option.getD_none, Option.isSome_none, List.length_map, pProg, pChs, bMc, pMc, pCh, pInts, pI, vcs, simprocAttr, tbs]
        repeat (first | refine ftS (by kernel_rfl) ?_ | refine And.intro (by omega) ?_)
        all_goals (first | rfl | trivial | skip)
      | some y =>
        obtain ⟨c, b'⟩ := y
        have f2 := Bt.takeCh_some e2 j3
        rw [e2] at hX
        by_cases c3 : out'.length < 300
        · have d3 : decide ((out'.length : Int) ≥ 300) = false := by rw [decide_eq_false_iff_not]; omega
          rw [Bt.readIn_some e2 c3] at j6
          have hD := (do_ok (rs := rs) (h := h) (m := m') (c := c) hne hn (Small.of j4)).read
          have hsz := Bt.made_sz rs h m' c
          obtain ⟨cw, ck, cr⟩ := c
          generalize (Bt.doM rs h m' ⟨cw, ck, cr⟩).getD Bt.mcNil = m2 at *
          simp (maxSteps := 4000000) only [d1, List.length_map, pProg, bMc, pMc, pCh, pInts, pI, vcs, simprocAttr, tbs]
          repeat (first | refine ftS (by kernel_rfl) ?_ | refine And.intro (by omega) ?_)
          refine aops_fn (hX) (by first | exact Nat.le_add_right _ _ | (simp only [introT, intro1, introL, intros, pI, pProg, pMc, pTh, pCh, pChs, pInts]; omega)) rfl ?_
          simp (maxSteps := 4000000) only [d3, Option.getD_some, Option.isSome_some, List.length_map, pProg, bMc, pMc, pCh, pInts, pI, vcs, simprocAttr, tbs]
          repeat (first | refine ftS (by kernel_rfl) ?_ | refine And.intro (by omega) ?_)
          refine aops_callF (hD) (by first | exact Nat.le_add_right _ _ | (simp only [introT, intro1, introL, intros, pI, pProg, pMc, pTh, pCh, pChs, pInts]; omega)) rfl ?_
          simp (maxSteps := 4000000) only [List.length_map, pProg, bMc, pMc, pCh, pInts, pI, vcs, simprocAttr, tbs]
          repeat (first | refine ftS (by kernel_rfl) ?_ | refine And.intro (by omega) ?_)
          refine ⟨(j, b', m2, out' ++ [⟨cw, ck, cr⟩]), ⟨by simp only; omega, by simp only; omega, by simp only; omega, hsz, by simp; omega, j6⟩, by simp only; omega, ?_⟩
          simp [bMc, pMc, pInts, pCh, pI]
          try omega
        · have d3 : decide ((out'.length : Int) ≥ 300) = true := by rw [decide_eq_true_eq]; omega
          rw [Bt.readIn_full e2 c3] at j6
          subst j6
          simp (maxSteps := 4000000) only [d1, List.length_map, pProg, bMc, pMc, pCh, pInts, pI, vcs, simprocAttr, tbs]
          repeat (first | refine ftS (by kernel_rfl) ?_ | refine And.intro (by omega) ?_)
          refine aops_fn (hX) (by first | exact Nat.le_add_right _ _ | (simp only [introT, intro1, introL, intros, pI, pProg, pMc, pTh, pCh, pChs, pInts]; omega)) rfl ?_
          simp (maxSteps := 4000000) only [d3, Option.getD_some, Option.isSome_some, List.length_map, pProg, pChs, bMc, pMc, pCh, pInts, pI, vcs, simprocAttr, tbs]
          repeat (first | refine ftS (by kernel_rfl) ?_ | refine And.intro (by omega) ?_)
          all_goals (first | rfl | trivial | skip)
end Av
end Go.Proofs.Ytemogjmghgfdfaa
