/-
  Chapter 5: what the model reads of a tape.
-/
import Derived.Test.YtdjenlnomibniaaGreatRdI
import Derived.Test.YtdjenlnomibniaaGreatAskS
set_option linter.unusedSimpArgs false
set_option linter.unusedVariables false
namespace Go.Proofs.YtdjenlnomibniaaGreat
open Go.RowKit
namespace Av
theorem stakeN_ok {s : ByteArray} (a : Nat) (hs : s.size ≤ 1048576) : FnOk E.P 91 [.str s, pI a]
    (.tup [pI (((Bt.takeNum (byteAt s) s.size a).getD (0, 0)).1 : Nat), pI (((Bt.takeNum (byteAt s) s.size a).getD (0, 0)).2 : Nat), .bool (Bt.takeNum (byteAt s) s.size a).isSome]) true := by
  have h := stake_ok (s := s) (a := (a : Int)) hs
  rw [Bt.takeI_nat] at h
  exact h
theorem canDo_none {rs : List Bt.C4} {h : Int} {m : Bt.Mc} {c : Bt.Ch} (e : Bt.canDo rs h m c = false) : Bt.doM rs h m c = none := Bt.doM_no e
set_option maxRecDepth 10000 in
set_option maxHeartbeats 32000000 in
theorem sreadTape_ok {rs : List Bt.C4} {h : Int} {s : ByteArray} (hn : rs.length ≤ 1048576) (hs : s.size ≤ 1048576) : FnOk E.P 51 [pProg rs h, .str s] (pChs (Bt.readTape rs h (byteAt s) s.size)) true := by
  unfold Bt.readTape
  have hpk := sprog_ok (rs := rs) (h := h) hn
  cases hp : Bt.progOk rs h
  · rw [hp] at hpk
    simp only [Bool.false_eq_true, if_false]
    refine fn_ok mixed Tryz.func51 rfl (by kernel_rfl) _ Tryz.results51 _ Tryz.ntmps51 (by simp) (by kernel_rfl) ?_
    simp (maxSteps := 4000000) only [pProg, pChs, pI, tvs, simprocAttr]
    repeat (first | refine ftS (by kernel_rfl) ?_ | refine And.intro (by omega) ?_)
    refine aops_fn (hpk) (hidB rfl) rfl ?_
    simp (maxSteps := 4000000) only [List.map_nil, pProg, pChs, pI, tvs, simprocAttr]
    repeat (first | refine ftS (by kernel_rfl) ?_ | refine And.intro (by omega) ?_)
    all_goals (first | rfl | trivial | skip)
  rw [hp] at hpk
  simp only [if_true]
  obtain ⟨R, hR⟩ : ∃ R, Bt.readTo rs h (byteAt s) s.size (s.size + 1) 0 Bt.mcNew [] = R := ⟨_, rfl⟩
  rw [hR]
  have hS := fun a => stakeN_ok (s := s) a hs
  refine fn_ok mixed Tryz.func51 rfl (by kernel_rfl) _ Tryz.results51 _ Tryz.ntmps51 (by simp) (by kernel_rfl) ?_
  simp (maxSteps := 4000000) only [pProg, pChs, pI, tvs, simprocAttr]
  repeat (first | refine ftS (by kernel_rfl) ?_ | refine And.intro (by omega) ?_)
  refine aops_fn (hpk) (hidB rfl) rfl ?_
  simp (maxSteps := 4000000) only [pProg, pChs, pI, tvs, simprocAttr]
  repeat (first | refine ftS (by kernel_rfl) ?_ | refine And.intro (by omega) ?_)
  refine aops_callF (snew_ok.read) (hidB rfl) rfl ?_
  simp (maxSteps := 4000000) only [pMc, pInts, pI, tvl, simprocAttr]
  repeat (first | refine ftS (by kernel_rfl) ?_ | refine And.intro (by omega) ?_)
  refine awp_loop (X := Nat × Nat × Bt.Mc × List Bt.Ch) (fun x => [(1, .pv (.str s)), (2, .ptr 0 0), (5, .sl 1), (6, .ptr 2 0), (7, .pv (.int .i64 (x.2.1 : Nat)))])
    (fun x => [(0, .box [.pv (.lst 116 (rs.map pCode)), .pv (.int .i64 h)]), (1, .row true 99 (x.2.2.2.map pCh)), (2, .box (bMc x.2.2.1))])
    (fun x => x.2.1 ≤ s.size ∧ s.size - x.2.1 < x.1 ∧ Bt.mcSz x.2.2.1 ≤ 1048576 ∧ x.2.2.2.length ≤ 300 ∧ Bt.readTo rs h (byteAt s) s.size x.1 x.2.1 x.2.2.1 x.2.2.2 = R) (fun x => x.1) 100 (s.size + 1, 0, Bt.mcNew, [])
    ⟨Nat.zero_le _, by simp only; omega, by show Bt.mcSz Bt.mcNew ≤ 1048576; decide, Nat.zero_le _, hR⟩ (by simp (maxSteps := 4000000) only [bMc, pMc, pInts, pI, tvl, simprocAttr]; try simp [pI]) (fun x H => ?_)
  obtain ⟨f, a, m, out⟩ := x
  obtain ⟨i1, i2, i3, i4, i5⟩ := H
  simp only at i1 i2 i3 i4 i5
  cases e0 : Bt.takeNum (byteAt s) s.size a with
  | none =>
    have e1 : Bt.takeSl (byteAt s) s.size a = none := by unfold Bt.takeSl; rw [e0]
    rw [Bt.readTo_none e1] at i5
    subst i5
    have h1 := hS a
    rw [e0] at h1
    have h2 := hS 0
    generalize (Bt.takeNum (byteAt s) s.size 0).isSome = b2 at *
    generalize (Bt.takeNum (byteAt s) s.size 0).getD (0, 0) = p2 at *
    simp (maxSteps := 4000000) only [pChs, pI, tvl, simprocAttr]
    repeat (first | refine ftS (by kernel_rfl) ?_ | refine And.intro (by omega) ?_)
    refine aops_fn (h1) (hidB rfl) rfl ?_
    simp (maxSteps := 4000000) only [Option.getD_none, Option.isSome_none, Int.cast_ofNat_Int, pChs, pI, tvl, simprocAttr]
    repeat (first | refine ftS (by kernel_rfl) ?_ | refine And.intro (by omega) ?_)
    refine aops_fn (h2) (hidB rfl) rfl ?_
    simp (maxSteps := 4000000) only [Option.getD_none, Option.isSome_none, pChs, pI, tvl, simprocAttr]
    repeat (first | refine ftS (by kernel_rfl) ?_ | refine And.intro (by omega) ?_)
    all_goals (first | rfl | trivial | skip)
  | some x =>
    obtain ⟨t, b0⟩ := x
    have h1 := hS a
    rw [e0] at h1
    have h2 := hS b0
    cases e9 : Bt.takeNum (byteAt s) s.size b0 with
    | none =>
      have e1 : Bt.takeSl (byteAt s) s.size a = none := by unfold Bt.takeSl; rw [e0]; simp only; rw [e9]
      rw [Bt.readTo_none e1] at i5
      subst i5
      rw [e9] at h2
      simp (maxSteps := 4000000) only [pChs, pI, tvl, simprocAttr]
      repeat (first | refine ftS (by kernel_rfl) ?_ | refine And.intro (by omega) ?_)
      refine aops_fn (h1) (hidB rfl) rfl ?_
      simp (maxSteps := 4000000) only [Option.getD_some, Option.isSome_some, pChs, pI, tvl, simprocAttr]
      repeat (first | refine ftS (by kernel_rfl) ?_ | refine And.intro (by omega) ?_)
      refine aops_fn (h2) (hidB rfl) rfl ?_
      simp (maxSteps := 4000000) only [Option.getD_none, Option.isSome_none, pChs, pI, tvl, simprocAttr]
      repeat (first | refine ftS (by kernel_rfl) ?_ | refine And.intro (by omega) ?_)
      all_goals (first | rfl | trivial | skip)
    | some x =>
      obtain ⟨n, b⟩ := x
      have e1 : Bt.takeSl (byteAt s) s.size a = some (t, n, b) := by unfold Bt.takeSl; rw [e0]; simp only; rw [e9]
      rw [e9] at h2
      have f1 := Bt.takeSl_some e1
      obtain ⟨f', rfl⟩ : ∃ f', f = f' + 1 := ⟨f - 1, by omega⟩
      rw [Bt.readTo_some e1] at i5
      have q1 : (t : Int).tdiv 2 = ((t / 2 : Nat) : Int) := by rw [Int.tdiv_eq_ediv_of_nonneg (by omega)]; omega
      have q2 : (t : Int).tmod 2 = ((t % 2 : Nat) : Int) := by rw [Int.tmod_eq_emod_of_nonneg (by omega)]; omega
      have q3 : 0 ≤ ((t / 2 : Nat) : Int) ∧ ((t / 2 : Nat) : Int) ≤ 9223372036854775807 := by omega
      generalize hwh : ((t / 2 : Nat) : Int) = who at *
      generalize hki : ((t % 2 : Nat) : Int) = kind at *
      simp (maxSteps := 4000000) only [pChs, pI, tvl, simprocAttr]
      repeat (first | refine ftS (by kernel_rfl) ?_ | refine And.intro (by omega) ?_)
      refine aops_fn (h1) (hidB rfl) rfl ?_
      simp (maxSteps := 4000000) only [Option.getD_some, Option.isSome_some, pChs, pI, tvl, simprocAttr]
      repeat (first | refine ftS (by kernel_rfl) ?_ | refine And.intro (by omega) ?_)
      refine aops_fn (h2) (hidB rfl) rfl ?_
      simp (maxSteps := 4000000) only [Option.getD_some, Option.isSome_some, pProg, bMc, pMc, pCh, pInts, pI, tvl, simprocAttr]
      repeat (first | refine ftS (by kernel_rfl) ?_ | refine And.intro (by omega) ?_)
      refine awp_loop (X := Nat × Nat × Bt.Mc × List Bt.Ch) (fun x => [(1, .pv (.str s)), (2, .ptr 0 0), (5, .sl 1), (6, .ptr 2 0), (7, .pv (.int .i64 (x.2.1 : Nat))), (8, .pv (.int .i64 (t : Nat))), (11, .pv (.int .i64 (n : Nat))), (14, .pv (.int .i64 (x.1 : Nat)))])
        (fun x => [(0, .box [.pv (.lst 116 (rs.map pCode)), .pv (.int .i64 h)]), (1, .row true 99 (x.2.2.2.map pCh)), (2, .box (bMc x.2.2.1))])
        (fun x => x.1 ≤ n ∧ b ≤ x.2.1 ∧ x.2.1 ≤ s.size ∧ Bt.mcSz x.2.2.1 ≤ 1048576 ∧ x.2.2.2.length ≤ 300 ∧ Bt.readIn rs h (byteAt s) s.size who kind f' (n - x.1) x.2.1 x.2.2.1 x.2.2.2 = R) (fun x => n - x.1) 100 (0, b, m, out)
        ⟨Nat.zero_le _, Nat.le_refl _, by simp only; omega, i3, i4, i5⟩ (by simp (maxSteps := 4000000) only [bMc, pMc, pInts, pI, tvl, simprocAttr]; try simp [pI]; try omega) (fun x H => ?_)
      obtain ⟨j, a', m', out'⟩ := x
      obtain ⟨j1, j2, j3, j4, j5, j6⟩ := H
      simp only at j1 j2 j3 j4 j5 j6
      by_cases c1 : j < n
      · have d1 : decide ((j : Int) < (n : Int)) = true := by simpa using c1
        rw [show n - j = n - (j + 1) + 1 by omega] at j6
        have hA := l4AsksA_ok (rs := rs) (h := h) (who := who) (kind := kind) (rep := 0) (m := m') hn (Small.of j4)
        have hD := fun v => sdoA_ok (rs := rs) (h := h) (m := m') (c := ⟨who, kind, v⟩) hn (Small.of j4)
        have hsz := fun v => Bt.made_sz rs h m' ⟨who, kind, v⟩
        cases ha : Bt.asks rs h m' ⟨who, kind, 0⟩
        · rw [ha] at hA
          have hD0 := hD 0
          have hs0 := hsz 0
          cases hc : Bt.canDo rs h m' ⟨who, kind, 0⟩
          · have e2 : Bt.takeCh rs h (byteAt s) s.size m' who kind a' = none := by simp [Bt.takeCh, ha, hc]
            rw [Bt.readIn_none e2] at j6
            subst j6
            rw [Bt.doM_no hc] at hD0
            simp (maxSteps := 4000000) only [d1, q1, q2, pProg, bMc, pMc, pCh, pInts, pI, tvl, simprocAttr]
            repeat (first | refine ftS (by kernel_rfl) ?_ | refine And.intro (by omega) ?_)
            refine aops_fn (hA) (hidB rfl) rfl ?_
            simp (maxSteps := 4000000) only [d1, pProg, bMc, pMc, pCh, pInts, pI, tvl, simprocAttr]
            repeat (first | refine ftS (by kernel_rfl) ?_ | refine And.intro (by omega) ?_)
            refine aops_callF (hD0) (hidB rfl) rfl ?_
            simp (maxSteps := 4000000) only [Option.getD_none, Option.isSome_none, pProg, pChs, bMc, pMc, pCh, pInts, pI, tvl, simprocAttr]
            repeat (first | refine ftS (by kernel_rfl) ?_ | refine And.intro (by omega) ?_)
            all_goals (first | rfl | trivial | skip)
          · have e2 : Bt.takeCh rs h (byteAt s) s.size m' who kind a' = some (⟨who, kind, 0⟩, a') := by simp [Bt.takeCh, ha, hc]
            have hds : (Bt.doM rs h m' ⟨who, kind, 0⟩).isSome = true := by rw [Bt.doM_isSome, hc]
            rw [hds] at hD0
            by_cases c3 : out'.length < 300
            · have d3 : ((out'.length : Int) == 300) = false := by rw [beq_eq_false_iff_ne]; omega
              rw [Bt.readIn_some e2 c3] at j6
              generalize (Bt.doM rs h m' ⟨who, kind, 0⟩).getD Bt.mcNil = m2 at *
              simp (maxSteps := 4000000) only [d1, q1, q2, pProg, bMc, pMc, pCh, pInts, pI, tvl, simprocAttr]
              repeat (first | refine ftS (by kernel_rfl) ?_ | refine And.intro (by omega) ?_)
              refine aops_fn (hA) (hidB rfl) rfl ?_
              simp (maxSteps := 4000000) only [d1, pProg, bMc, pMc, pCh, pInts, pI, tvl, simprocAttr]
              repeat (first | refine ftS (by kernel_rfl) ?_ | refine And.intro (by omega) ?_)
              refine aops_callF (hD0) (hidB rfl) rfl ?_
              simp (maxSteps := 4000000) only [d3, pProg, bMc, pMc, pCh, pInts, pI, tvl, simprocAttr]
              repeat (first | refine ftS (by kernel_rfl) ?_ | refine And.intro (by omega) ?_)
              refine ⟨(j + 1, a', m2, out' ++ [⟨who, kind, 0⟩]), ⟨by simp only; omega, by simp only; omega, by simp only; omega, hs0, by simp; omega, j6⟩, by simp only; omega, ?_⟩
              simp [bMc, pMc, pInts, pCh, pI]
            · have d3 : ((out'.length : Int) == 300) = true := by rw [beq_iff_eq]; omega
              rw [Bt.readIn_full e2 c3] at j6
              subst j6
              simp (maxSteps := 4000000) only [d1, q1, q2, pProg, bMc, pMc, pCh, pInts, pI, tvl, simprocAttr]
              repeat (first | refine ftS (by kernel_rfl) ?_ | refine And.intro (by omega) ?_)
              refine aops_fn (hA) (hidB rfl) rfl ?_
              simp (maxSteps := 4000000) only [d1, pProg, bMc, pMc, pCh, pInts, pI, tvl, simprocAttr]
              repeat (first | refine ftS (by kernel_rfl) ?_ | refine And.intro (by omega) ?_)
              refine aops_callF (hD0) (hidB rfl) rfl ?_
              simp (maxSteps := 4000000) only [d3, pProg, pChs, bMc, pMc, pCh, pInts, pI, tvl, simprocAttr]
              repeat (first | refine ftS (by kernel_rfl) ?_ | refine And.intro (by omega) ?_)
              all_goals (first | rfl | trivial | skip)
        · rw [ha] at hA
          have h3 := hS a'
          cases e3 : Bt.takeNum (byteAt s) s.size a' with
          | none =>
            have e2 : Bt.takeCh rs h (byteAt s) s.size m' who kind a' = none := by simp [Bt.takeCh, ha, e3]
            rw [Bt.readIn_none e2] at j6
            subst j6
            rw [e3] at h3
            simp (maxSteps := 4000000) only [d1, q1, q2, pProg, bMc, pMc, pCh, pInts, pI, tvl, simprocAttr]
            repeat (first | refine ftS (by kernel_rfl) ?_ | refine And.intro (by omega) ?_)
            refine aops_fn (hA) (hidB rfl) rfl ?_
            simp (maxSteps := 4000000) only [d1, pProg, bMc, pMc, pCh, pInts, pI, tvl, simprocAttr]
            repeat (first | refine ftS (by kernel_rfl) ?_ | refine And.intro (by omega) ?_)
            refine aops_fn (h3) (hidB rfl) rfl ?_
            simp (maxSteps := 4000000) only [Option.getD_none, Option.isSome_none, pProg, pChs, bMc, pMc, pCh, pInts, pI, tvl, simprocAttr]
            repeat (first | refine ftS (by kernel_rfl) ?_ | refine And.intro (by omega) ?_)
            all_goals (first | rfl | trivial | skip)
          | some y =>
            obtain ⟨v, b'⟩ := y
            rw [e3] at h3
            have f3 := Bt.takeNum_some e3
            have hD0 := hD v
            have hs0 := hsz v
            cases hc : Bt.canDo rs h m' ⟨who, kind, v⟩
            · have e2 : Bt.takeCh rs h (byteAt s) s.size m' who kind a' = none := by simp [Bt.takeCh, ha, hc, e3]
              rw [Bt.readIn_none e2] at j6
              subst j6
              rw [Bt.doM_no hc] at hD0
              simp (maxSteps := 4000000) only [d1, q1, q2, pProg, bMc, pMc, pCh, pInts, pI, tvl, simprocAttr]
              repeat (first | refine ftS (by kernel_rfl) ?_ | refine And.intro (by omega) ?_)
              refine aops_fn (hA) (hidB rfl) rfl ?_
              simp (maxSteps := 4000000) only [d1, pProg, bMc, pMc, pCh, pInts, pI, tvl, simprocAttr]
              repeat (first | refine ftS (by kernel_rfl) ?_ | refine And.intro (by omega) ?_)
              refine aops_fn (h3) (hidB rfl) rfl ?_
              simp (maxSteps := 4000000) only [Option.getD_some, Option.isSome_some, pProg, bMc, pMc, pCh, pInts, pI, tvl, simprocAttr]
              repeat (first | refine ftS (by kernel_rfl) ?_ | refine And.intro (by omega) ?_)
              refine aops_callF (hD0) (hidB rfl) rfl ?_
              simp (maxSteps := 4000000) only [Option.getD_none, Option.isSome_none, pProg, pChs, bMc, pMc, pCh, pInts, pI, tvl, simprocAttr]
              repeat (first | refine ftS (by kernel_rfl) ?_ | refine And.intro (by omega) ?_)
              all_goals (first | rfl | trivial | skip)
            · have e2 : Bt.takeCh rs h (byteAt s) s.size m' who kind a' = some (⟨who, kind, v⟩, b') := by simp [Bt.takeCh, ha, hc, e3]
              have hds : (Bt.doM rs h m' ⟨who, kind, v⟩).isSome = true := by rw [Bt.doM_isSome, hc]
              rw [hds] at hD0
              by_cases c3 : out'.length < 300
              · have d3 : ((out'.length : Int) == 300) = false := by rw [beq_eq_false_iff_ne]; omega
                rw [Bt.readIn_some e2 c3] at j6
                generalize (Bt.doM rs h m' ⟨who, kind, v⟩).getD Bt.mcNil = m2 at *
                simp (maxSteps := 4000000) only [d1, q1, q2, pProg, bMc, pMc, pCh, pInts, pI, tvl, simprocAttr]
                repeat (first | refine ftS (by kernel_rfl) ?_ | refine And.intro (by omega) ?_)
                refine aops_fn (hA) (hidB rfl) rfl ?_
                simp (maxSteps := 4000000) only [d1, pProg, bMc, pMc, pCh, pInts, pI, tvl, simprocAttr]
                repeat (first | refine ftS (by kernel_rfl) ?_ | refine And.intro (by omega) ?_)
                refine aops_fn (h3) (hidB rfl) rfl ?_
                simp (maxSteps := 4000000) only [Option.getD_some, Option.isSome_some, pProg, bMc, pMc, pCh, pInts, pI, tvl, simprocAttr]
                repeat (first | refine ftS (by kernel_rfl) ?_ | refine And.intro (by omega) ?_)
                refine aops_callF (hD0) (hidB rfl) rfl ?_
                simp (maxSteps := 4000000) only [d3, pProg, bMc, pMc, pCh, pInts, pI, tvl, simprocAttr]
                repeat (first | refine ftS (by kernel_rfl) ?_ | refine And.intro (by omega) ?_)
                refine ⟨(j + 1, b', m2, out' ++ [⟨who, kind, v⟩]), ⟨by simp only; omega, by simp only; omega, by simp only; omega, hs0, by simp; omega, j6⟩, by simp only; omega, ?_⟩
                simp [bMc, pMc, pInts, pCh, pI]
              · have d3 : ((out'.length : Int) == 300) = true := by rw [beq_iff_eq]; omega
                rw [Bt.readIn_full e2 c3] at j6
                subst j6
                simp (maxSteps := 4000000) only [d1, q1, q2, pProg, bMc, pMc, pCh, pInts, pI, tvl, simprocAttr]
                repeat (first | refine ftS (by kernel_rfl) ?_ | refine And.intro (by omega) ?_)
                refine aops_fn (hA) (hidB rfl) rfl ?_
                simp (maxSteps := 4000000) only [d1, pProg, bMc, pMc, pCh, pInts, pI, tvl, simprocAttr]
                repeat (first | refine ftS (by kernel_rfl) ?_ | refine And.intro (by omega) ?_)
                refine aops_fn (h3) (hidB rfl) rfl ?_
                simp (maxSteps := 4000000) only [Option.getD_some, Option.isSome_some, pProg, bMc, pMc, pCh, pInts, pI, tvl, simprocAttr]
                repeat (first | refine ftS (by kernel_rfl) ?_ | refine And.intro (by omega) ?_)
                refine aops_callF (hD0) (hidB rfl) rfl ?_
                simp (maxSteps := 4000000) only [d3, pProg, pChs, bMc, pMc, pCh, pInts, pI, tvl, simprocAttr]
                repeat (first | refine ftS (by kernel_rfl) ?_ | refine And.intro (by omega) ?_)
                all_goals (first | rfl | trivial | skip)
      · have d1 : decide ((j : Int) < (n : Int)) = false := by simpa using c1
        rw [show n - j = 0 by omega, Bt.readIn_zero] at j6
        simp (maxSteps := 4000000) only [d1, pProg, bMc, pMc, pCh, pInts, pI, tvl, simprocAttr]
        repeat (first | refine ftS (by kernel_rfl) ?_ | refine And.intro (by omega) ?_)
        refine ⟨(f', a', m', out'), ⟨j3, by simp only; omega, j4, j5, j6⟩, by simp only; omega, ?_⟩
        simp [bMc, pMc, pInts, pI]
end Av
end Go.Proofs.YtdjenlnomibniaaGreat
