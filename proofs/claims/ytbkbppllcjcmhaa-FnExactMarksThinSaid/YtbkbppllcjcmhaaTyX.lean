/-
  Rows of marks: marks that laws write, and what is held.
-/
import Derived.Test.YtbkbppllcjcmhaaTyM
import Derived.Test.YtbkbppllcjcmhaaTyH
import Derived.Test.YtbkbppllcjcmhaaTyN
set_option linter.unusedSimpArgs false
set_option linter.unusedVariables false
namespace Go.Proofs.Ytbkbppllcjcmhaa
open Go.RowKit
namespace Av
theorem cellsOf_Mark : Try.prog.cellsOf 118 = 5 := by kernel_rfl
set_option maxHeartbeats 8000000 in
theorem mkMarkS_ok (R : List (List PV)) (hs : ShMarkS R) (k : Int) (h0 : 0 ≤ k) (h1 : (mkR R k).2 ≤ 4611686018427387904) :
    MutOk Try.prog 47 (.lst 118 R) k (.lst 118 (mkR R k).1) (mkR R k).2 := by
  obtain ⟨hn, hs⟩ := hs
  refine ⟨⟨_, Try.func47, by kernel_rfl, by kernel_rfl⟩, fun w v Q ho hd hb => ?_⟩
  have ho' : Ow Try.prog w (Q 0) (.lst 118 R) v := ho
  clear hd hb
  rcases ho'.forms with ⟨rfl, rfl⟩ | ⟨g, cap, rfl, hc, hg, hlt, _, _⟩
  · have HO := Lib.hid ho'; clear ho ho'
    go_enter Try.func47, Try.ntmps47
    go_wp2
    go_loop [1, 5] (fun t i => t = .int .i64 k ∧ i = .int .i64 0) (fun _ _ => 0)
    case atStart => exact ⟨rfl, rfl⟩
    case round =>
      obtain ⟨rfl, rfl⟩ := hrel
      go_wp2
      go_ret
      exact ⟨rfl, Turned.refl _ _, HO.out⟩
  · have HO := Lib.hid ho'; clear ho ho'
    have HG := Lib.hid hg; clear hg
    obtain ⟨n, hN⟩ : ∃ n, R.length = n := ⟨_, rfl⟩
    rw [hN] at hn hc HO ⊢
    have HN := Lib.hid hN; clear hN
    have HS := Lib.hid hs; clear hs
    have H1 := Lib.hid h1; clear h1
    go_enter Try.func47, Try.ntmps47
    go_wp2
    go_loopw [1, 5] (fun t i wr => ∃ (m : Nat) (q : Int), m ≤ n ∧ i = .int .i64 m ∧ t = .int .i64 q ∧ q = (mkR (R.take m) k).2 ∧ Turned (fun g => ∃ i, Q i g) w wr ∧ Ow Try.prog wr (Q 0) (.lst 118 ((mkR (R.take m) k).1 ++ R.drop m)) (.slice (some ⟨g, 0, none⟩) n cap)) (fun _ i _ => n - (intOf i).toNat)
    case atStart => exact ⟨0, k, Nat.zero_le _, rfl, rfl, rfl, Turned.refl _ _, HO.out⟩
    case round =>
      obtain ⟨m, q, hm, rfl, rfl, hq, hw, how⟩ := hrel
      have HW := Lib.hid hw; clear hw
      have HOW := Lib.hid how; clear how
      have HQ := Lib.hid hq; clear hq
      by_cases hlt : m < n
      · obtain ⟨r, hr⟩ : ∃ r, R[m]? = some r := ⟨R[m]'(by rw [HN.out]; exact hlt), List.getElem?_eq_getElem _⟩
        have hA : (mkR (R.take m) k).1.length = m := by rw [mkR_len, List.length_take, HN.out]; omega
        have hq0 : 0 ≤ q := by rw [HQ.out]; exact Int.le_trans h0 (mkR_le _ _)
        have hq1 : (mkL r q).2 ≤ 4611686018427387904 := by
          have h3 := mkR_mono R (m + 1) k
          rw [mkR_take hr, ← HQ.out] at h3
          exact Int.le_trans h3 H1.out
        obtain ⟨x0, x1, x2, x3, x4, rfl, s1, s2, s3, s4⟩ := HS.out r (List.mem_of_getElem? hr)
        obtain ⟨q1, e1⟩ : ∃ z, z = (mkR x1 (q + 1)).2 := ⟨_, rfl⟩
        obtain ⟨q2, e2⟩ : ∃ z, z = (mkR x2 (q1)).2 := ⟨_, rfl⟩
        obtain ⟨q3, e3⟩ : ∃ z, z = (mkR x3 (q2)).2 := ⟨_, rfl⟩
        obtain ⟨q4, e4⟩ : ∃ z, z = (mkR x4 (q3)).2 := ⟨_, rfl⟩
        have O0 : Ow Try.prog wr (Q 0) (.lst 118 ((mkR (R.take m) k).1 ++ [pI x0, .lst 134 x1, .lst 3 x2, .lst 3 x3, .lst 3 x4] :: R.drop (m + 1))) (.slice (some ⟨g, 0, none⟩) n cap) := by rw [← drop_at hr]; exact HOW.out
        have E1 : Hid ((mkR (R.take m) k).1 ++ [pI q, .lst 134 (mkR x1 (q + 1)).1, .lst 3 (mkR x2 (q1)).1, .lst 3 (mkR x3 (q2)).1, .lst 3 (mkR x4 (q3)).1] :: R.drop (m + 1) = (mkR (R.take (m + 1)) k).1 ++ R.drop (m + 1) ∧ (mkR (R.take (m + 1)) k).2 = q4) := Lib.hid (by
          rw [mkR_take hr, ← HQ.out]
          simp [mkL, mkP, pI, ← e1, ← e2, ← e3, ← e4])
        simp only [mkL, mkP, pI, ← e1, ← e2, ← e3, ← e4] at hq1
        have l1 : q + 1 ≤ q1 := by rw [e1]; exact mkR_le _ _
        have HE1 := Lib.hid e1; clear e1
        have l2 : q1 ≤ q2 := by rw [e2]; exact mkR_le _ _
        have HE2 := Lib.hid e2; clear e2
        have l3 : q2 ≤ q3 := by rw [e3]; exact mkR_le _ _
        have HE3 := Lib.hid e3; clear e3
        have l4 : q3 ≤ q4 := by rw [e4]; exact mkR_le _ _
        have HE4 := Lib.hid e4; clear e4
        have HA := Lib.hid hA; clear hr hA
        have hcm : m < cap := by omega
        obtain ⟨y0, c0, _⟩ := O0.cellAt HA.out (j := 0) rfl
        obtain ⟨y1, c1, _⟩ := O0.cellAt HA.out (j := 1) rfl
        simp only [cellsOf_Mark, Nat.mul_one, Nat.add_zero] at c0 c1
        have hz : ∀ i, wr.frozen? ⟨g, i, none⟩ = false := by
          rcases O0.forms with ⟨h3, _⟩ | ⟨g', cap', h3, _, _, _, h4, _⟩
          · cases h3
          · injection h3 with h3 _ _
            injection h3 with h3
            injection h3 with h3
            subst h3; exact h4
        have z0 := hz (m * 5)
        have O1 := O0.setAt HA.out (j := 0) rfl (q := pI (q)) (u := .int .i64 (q)) (fun _ _ => .int _ _ _)
        simp only [cellsOf_Mark, Nat.mul_one, Nat.add_zero, List.set_cons_zero, List.set_cons_succ] at O1
        obtain ⟨x', cx, T, hsub, hT, plug⟩ := O1.cellAt HA.out (j := 1) rfl
        have ex : x' = y1 := by
          simp only [cellsOf_Mark, Nat.mul_one, Nat.add_zero] at cx
          rw [cell_set_far _ (by omega)] at cx
          exact Option.some.inj (cx.symm.trans c1)
        subst ex; clear cx
        have HSUB := Lib.hid hsub; have HT := Lib.hid hT; have HP := Lib.hid plug; clear hsub hT plug
        clear hz
        go_wp2_with fail
        refine ((mkThreadS_ok x1 s1 (q + 1) (by omega) (by rw [← HE1.out]; omega)).2 _ _ (fun j g => j = 0 ∧ T g) (Ow.mono HSUB.out (fun g hg => ⟨rfl, hg⟩)) (fun i j g h3 h4 => by rw [h3.1, h4.1]) (fun i g h3 => (HT.out g h3.2).2.2)).mono ?_
        rw [← HE1.out]
        rintro e w1 ⟨rfl, ht, ho2⟩
        have O2 := HP.out w1 _ (ht.mono (fun g ⟨_, _, h3⟩ _ => h3)) (Ow.mono ho2 (fun g h3 => h3.2))
        simp only [List.set_cons_zero, List.set_cons_succ] at O2
        have HW1 := Lib.hid ((HW.out.trans (Turned.set ⟨0, HG.out⟩ _)).trans (ht.mono (fun g ⟨_, _, h3⟩ _ => ⟨0, (HT.out g h3).1⟩)))
        clear ht ho2 HSUB HT HP
        clear c0
        clear c1
        clear z0
        obtain ⟨y2, c2, _⟩ := O2.cellAt HA.out (j := 2) rfl
        simp only [cellsOf_Mark, Nat.mul_one, Nat.add_zero] at c2
        obtain ⟨x', cx, T, hsub, hT, plug⟩ := O2.cellAt HA.out (j := 2) rfl
        have ex : x' = y2 := by
          simp only [cellsOf_Mark, Nat.mul_one, Nat.add_zero] at cx
          exact Option.some.inj (cx.symm.trans c2)
        subst ex; clear cx
        have HSUB := Lib.hid hsub; have HT := Lib.hid hT; have HP := Lib.hid plug; clear hsub hT plug
        go_wp2_with fail
        refine ((mkIntS_ok x2 s2 (q1) (by omega) (by rw [← HE2.out]; omega)).2 _ _ (fun j g => j = 0 ∧ T g) (Ow.mono HSUB.out (fun g hg => ⟨rfl, hg⟩)) (fun i j g h3 h4 => by rw [h3.1, h4.1]) (fun i g h3 => (HT.out g h3.2).2.2)).mono ?_
        rw [← HE2.out]
        rintro e w2 ⟨rfl, ht, ho2⟩
        have O3 := HP.out w2 _ (ht.mono (fun g ⟨_, _, h3⟩ _ => h3)) (Ow.mono ho2 (fun g h3 => h3.2))
        simp only [List.set_cons_zero, List.set_cons_succ] at O3
        have HW2 := Lib.hid (HW1.out.trans (ht.mono (fun g ⟨_, _, h3⟩ _ => ⟨0, (HT.out g h3).1⟩)))
        clear ht ho2 HSUB HT HP
        clear c2
        obtain ⟨y3, c3, _⟩ := O3.cellAt HA.out (j := 3) rfl
        simp only [cellsOf_Mark, Nat.mul_one, Nat.add_zero] at c3
        obtain ⟨x', cx, T, hsub, hT, plug⟩ := O3.cellAt HA.out (j := 3) rfl
        have ex : x' = y3 := by
          simp only [cellsOf_Mark, Nat.mul_one, Nat.add_zero] at cx
          exact Option.some.inj (cx.symm.trans c3)
        subst ex; clear cx
        have HSUB := Lib.hid hsub; have HT := Lib.hid hT; have HP := Lib.hid plug; clear hsub hT plug
        go_wp2_with fail
        refine ((mkIntS_ok x3 s3 (q2) (by omega) (by rw [← HE3.out]; omega)).2 _ _ (fun j g => j = 0 ∧ T g) (Ow.mono HSUB.out (fun g hg => ⟨rfl, hg⟩)) (fun i j g h3 h4 => by rw [h3.1, h4.1]) (fun i g h3 => (HT.out g h3.2).2.2)).mono ?_
        rw [← HE3.out]
        rintro e w3 ⟨rfl, ht, ho2⟩
        have O4 := HP.out w3 _ (ht.mono (fun g ⟨_, _, h3⟩ _ => h3)) (Ow.mono ho2 (fun g h3 => h3.2))
        simp only [List.set_cons_zero, List.set_cons_succ] at O4
        have HW3 := Lib.hid (HW2.out.trans (ht.mono (fun g ⟨_, _, h3⟩ _ => ⟨0, (HT.out g h3).1⟩)))
        clear ht ho2 HSUB HT HP
        clear c3
        obtain ⟨y4, c4, _⟩ := O4.cellAt HA.out (j := 4) rfl
        simp only [cellsOf_Mark, Nat.mul_one, Nat.add_zero] at c4
        obtain ⟨x', cx, T, hsub, hT, plug⟩ := O4.cellAt HA.out (j := 4) rfl
        have ex : x' = y4 := by
          simp only [cellsOf_Mark, Nat.mul_one, Nat.add_zero] at cx
          exact Option.some.inj (cx.symm.trans c4)
        subst ex; clear cx
        have HSUB := Lib.hid hsub; have HT := Lib.hid hT; have HP := Lib.hid plug; clear hsub hT plug
        go_wp2_with fail
        refine ((mkIntS_ok x4 s4 (q3) (by omega) (by rw [← HE4.out]; omega)).2 _ _ (fun j g => j = 0 ∧ T g) (Ow.mono HSUB.out (fun g hg => ⟨rfl, hg⟩)) (fun i j g h3 h4 => by rw [h3.1, h4.1]) (fun i g h3 => (HT.out g h3.2).2.2)).mono ?_
        rw [← HE4.out]
        rintro e w4 ⟨rfl, ht, ho2⟩
        have O5 := HP.out w4 _ (ht.mono (fun g ⟨_, _, h3⟩ _ => h3)) (Ow.mono ho2 (fun g h3 => h3.2))
        simp only [List.set_cons_zero, List.set_cons_succ] at O5
        have HW4 := Lib.hid (HW3.out.trans (ht.mono (fun g ⟨_, _, h3⟩ _ => ⟨0, (HT.out g h3).1⟩)))
        clear ht ho2 HSUB HT HP
        clear c4
        have HOE := Lib.hid O5
        try clear O0
        try clear O1
        try clear O2
        try clear O3
        try clear O4
        try clear O5
        go_wp2
        go_roundw
        case rel =>
          refine ⟨m + 1, q4, by omega, by go_num, by go_num, E1.out.2.symm, HW4.out, ?_⟩
          rw [← E1.out.1]
          exact HOE.out
        case measure => simp [intOf]; omega
      · obtain rfl : m = n := by omega
        have e1 : R.take m = R := List.take_of_length_le (by rw [HN.out]; omega)
        have e2 : R.drop m = [] := List.drop_of_length_le (by rw [HN.out]; omega)
        have E1 := Lib.hid e1; have E2 := Lib.hid e2
        clear e1 e2
        go_wp2
        go_ret
        refine ⟨?_, HW.out, ?_⟩
        · rw [HQ.out, E1.out]; rfl
        · have := HOW.out
          rw [E1.out, E2.out, List.append_nil] at this
          exact this
set_option maxRecDepth 10000 in
set_option maxHeartbeats 4000000 in
theorem heldMarkS_ok (R : List (List PV)) (hs : ShMarkS R) (k : Int) (h0 : 0 ≤ k) (h1 : (mkR R k).2 ≤ 4611686018427387904) : FnOk E.P 48 [.lst 118 (mkR R k).1, pI k] (pI (mkR R k).2) true := by
  obtain ⟨hn, hs⟩ := hs
  have hl := mkR_len R k
  refine fn_ok mixed Try.func48 rfl (by kernel_rfl) _ Try.results48 _ Try.ntmps48 (by simp) (by kernel_rfl) ?_
  simp (maxSteps := 2000000) only [hl, pI, tvs, simprocAttr]
  repeat (first | refine ftS (by kernel_rfl) ?_ | refine And.intro (by omega) ?_)
  refine awp_loop (X := Nat) (fun m => [(0, .pv (.lst 118 (mkR R k).1)), (1, .pv (.int .i64 (mkR (R.take m) k).2)), (5, .pv (.int .i64 m))]) (fun m => []) (fun m => m ≤ R.length) (fun m => R.length - m) 100 0 (Nat.zero_le _) (by simp (maxSteps := 2000000) only [List.take_zero, mkR, pI, tvs, simprocAttr]; try rfl) (fun m hm => ?_)
  obtain ⟨q, hq⟩ : ∃ q, q = (mkR (R.take m) k).2 := ⟨_, rfl⟩
  have hq0 : 0 ≤ q := by rw [hq]; exact Int.le_trans h0 (mkR_le _ _)
  by_cases hlt : m < R.length
  · have d1 : decide ((m : Int) < (R.length : Int)) = true := by simpa using hlt
    have e0 : R[m]? = some R[m] := List.getElem?_eq_getElem hlt
    have hr := hs R[m] (List.getElem_mem hlt)
    generalize R[m] = r at e0 hr
    have e1 := mkR_at (k := k) e0
    have e2 : (mkR (R.take (m + 1)) k).2 = (mkL r q).2 := by rw [mkR_take e0, hq]
    have h3 := mkR_mono R (m + 1) k
    rw [← hq] at e1
    rw [e2] at h3
    obtain ⟨a0, a1, a2, a3, a4, rfl, s1, s2, s3, s4⟩ := hr
    obtain ⟨q1, f1⟩ : ∃ z, z = (mkR a1 (q + 1)).2 := ⟨_, rfl⟩
    have l1 : q + 1 ≤ q1 := by rw [f1]; exact mkR_le _ _
    obtain ⟨q2, f2⟩ : ∃ z, z = (mkR a2 (q1)).2 := ⟨_, rfl⟩
    have l2 : q1 ≤ q2 := by rw [f2]; exact mkR_le _ _
    obtain ⟨q3, f3⟩ : ∃ z, z = (mkR a3 (q2)).2 := ⟨_, rfl⟩
    have l3 : q2 ≤ q3 := by rw [f3]; exact mkR_le _ _
    obtain ⟨q4, f4⟩ : ∃ z, z = (mkR a4 (q3)).2 := ⟨_, rfl⟩
    have l4 : q3 ≤ q4 := by rw [f4]; exact mkR_le _ _
    simp only [mkL, mkP, pI, ← f1, ← f2, ← f3, ← f4] at e1 e2 h3
    have d2_1 : decide (q1 < 0) = false := by simp; omega
    have hc1 := heldThreadS_ok a1 s1 (q + 1) (by omega) (by rw [← f1]; omega)
    rw [← f1] at hc1
    have d2_2 : decide (q2 < 0) = false := by simp; omega
    have hc2 := heldIntS_ok a2 s2 (q1) (by omega) (by rw [← f2]; omega)
    rw [← f2] at hc2
    have d2_3 : decide (q3 < 0) = false := by simp; omega
    have hc3 := heldIntS_ok a3 s3 (q2) (by omega) (by rw [← f3]; omega)
    rw [← f3] at hc3
    have d2_4 : decide (q4 < 0) = false := by simp; omega
    have hc4 := heldIntS_ok a4 s4 (q3) (by omega) (by rw [← f4]; omega)
    rw [← f4] at hc4
    simp (maxSteps := 2000000) only [d1, e1, hl, ← hq, d2_1, d2_2, d2_3, d2_4, pI, tvs, simprocAttr]
    repeat (first | refine ftS (by kernel_rfl) ?_ | refine And.intro (by omega) ?_)
    refine aops_fn (hc1) (hidB rfl) rfl ?_
    simp (maxSteps := 2000000) only [d1, e1, hl, ← hq, d2_1, d2_2, d2_3, d2_4, pI, tvs, simprocAttr]
    repeat (first | refine ftS (by kernel_rfl) ?_ | refine And.intro (by omega) ?_)
    refine aops_fn (hc2) (hidB rfl) rfl ?_
    simp (maxSteps := 2000000) only [d1, e1, hl, ← hq, d2_1, d2_2, d2_3, d2_4, pI, tvs, simprocAttr]
    repeat (first | refine ftS (by kernel_rfl) ?_ | refine And.intro (by omega) ?_)
    refine aops_fn (hc3) (hidB rfl) rfl ?_
    simp (maxSteps := 2000000) only [d1, e1, hl, ← hq, d2_1, d2_2, d2_3, d2_4, pI, tvs, simprocAttr]
    repeat (first | refine ftS (by kernel_rfl) ?_ | refine And.intro (by omega) ?_)
    refine aops_fn (hc4) (hidB rfl) rfl ?_
    simp (maxSteps := 2000000) only [d1, e1, hl, ← hq, d2_1, d2_2, d2_3, d2_4, pI, tvs, simprocAttr]
    repeat (first | refine ftS (by kernel_rfl) ?_ | refine And.intro (by omega) ?_)
    refine ⟨m + 1, ?_, ?_, ?_⟩
    · omega
    · omega
    · try simp only [e2, true_and, and_true]
      first | omega | (refine ⟨?_, ?_⟩ <;> omega)
  · have d1 : decide ((m : Int) < (R.length : Int)) = false := by simpa using hlt
    have e1 : R.take m = R := List.take_of_length_le (by omega)
    rw [e1]
    simp (maxSteps := 2000000) only [d1, hl, pI, tvs, simprocAttr]
    repeat (first | refine ftS (by kernel_rfl) ?_ | refine And.intro (by omega) ?_)
    all_goals (first | rfl | trivial | skip)
end Av
end Go.Proofs.Ytbkbppllcjcmhaa
