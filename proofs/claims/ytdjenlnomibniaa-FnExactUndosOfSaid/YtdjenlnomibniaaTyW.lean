/-
  Rows of undos: marks, whether they are there, whether they are equal.
-/
import Derived.Test.YtdjenlnomibniaaTyM
import Derived.Test.YtdjenlnomibniaaTyH
import Derived.Test.YtdjenlnomibniaaTyN
import Derived.Deep.Cut
import Derived.Test.YtdjenlnomibniaaTyE
set_option linter.unusedSimpArgs false
set_option linter.unusedVariables false
namespace Go.Proofs.Ytdjenlnomibniaa
open Go.RowKit
namespace Av
theorem cellsOf_Undo : Try.prog.cellsOf 31 = 11 := by kernel_rfl
set_option maxRecDepth 100000 in
set_option maxHeartbeats 64000000 in
theorem mkUndoS_ok (R : List (List PV)) (hs : ShUndoS R) (k : Int) (h0 : 0 ≤ k) (h1 : (mkR R k).2 ≤ 4611686018427387904) :
    MutOk Try.prog 58 (.lst 31 R) k (.lst 31 (mkR R k).1) (mkR R k).2 := by
  obtain ⟨hn, hs⟩ := hs
  refine ⟨⟨_, Try.func58, by kernel_rfl, by kernel_rfl⟩, fun w v Q ho hd hb => ?_⟩
  have ho' : Ow Try.prog w (Q 0) (.lst 31 R) v := ho
  clear hd hb
  rcases ho'.forms with ⟨rfl, rfl⟩ | ⟨g, cap, rfl, hc, hg, hlt, _, _⟩
  · have HO := Lib.hid ho'; clear ho ho'
    go_enter Try.func58, Try.ntmps58
    go_wp2
    go_loop [1, 5] (fun t i => t = .int .i64 k ∧ i = .int .i64 0) (fun _ _ => 0)
    case atStart => exact ⟨rfl, rfl⟩
    case round =>
      obtain ⟨rfl, rfl⟩ := hrel
      go_wp2
      go_ret
      exact ⟨rfl, Turned.refl _ _, HO.out⟩
  · have HO := Lib.hid ho'; clear ho ho'
    have HG := Lib.hid hg; clear hg
    obtain ⟨n, hN⟩ : ∃ n, R.length = n := ⟨_, rfl⟩
    rw [hN] at hn hc HO ⊢
    have HN := Lib.hid hN; clear hN
    have HS := Lib.hid hs; clear hs
    have H1 := Lib.hid h1; clear h1
    go_enter Try.func58, Try.ntmps58
    go_wp2
    go_loopw [1, 5] (fun t i wr => ∃ (m : Nat) (q : Int), m ≤ n ∧ i = .int .i64 m ∧ t = .int .i64 q ∧ q = (mkR (R.take m) k).2 ∧ Turned (fun g => ∃ i, Q i g) w wr ∧ Ow Try.prog wr (Q 0) (.lst 31 ((mkR (R.take m) k).1 ++ R.drop m)) (.slice (some ⟨g, 0, none⟩) n cap)) (fun _ i _ => n - (intOf i).toNat)
    case atStart => exact ⟨0, k, Nat.zero_le _, rfl, rfl, rfl, Turned.refl _ _, HO.out⟩
    case round =>
      obtain ⟨m, q, hm, rfl, rfl, hq, hw, how⟩ := hrel
      have HW := Lib.hid hw; clear hw
      have HOW := Lib.hid how; clear how
      have HQ := Lib.hid hq; clear hq
      by_cases hlt : m < n
      · obtain ⟨r, hr⟩ : ∃ r, R[m]? = some r := ⟨R[m]'(by rw [HN.out]; exact hlt), List.getElem?_eq_getElem _⟩
        have hA : (mkR (R.take m) k).1.length = m := by rw [mkR_len, List.length_take, HN.out]; omega
        have hq0 : 0 ≤ q := by rw [HQ.out]; exact Int.le_trans h0 (mkR_le _ _)
        have hq1 : (mkL r q).2 ≤ 4611686018427387904 := by
          have h3 := mkR_mono R (m + 1) k
          rw [mkR_take hr, ← HQ.out] at h3
          exact Int.le_trans h3 H1.out
        obtain ⟨x0, x1, x2, x3, x4, x5, x6, x7, x8, x9, x10, rfl, s2, s3⟩ := HS.out r (List.mem_of_getElem? hr)
        obtain ⟨q1, e1⟩ : ∃ z, z = (mkR x2 (q + 1 + 1)).2 := ⟨_, rfl⟩
        obtain ⟨q2, e2⟩ : ∃ z, z = (mkR x3 (q1)).2 := ⟨_, rfl⟩
        have O0 : Ow Try.prog wr (Q 0) (.lst 31 ((mkR (R.take m) k).1 ++ [pI x0, pI x1, .lst 3 x2, .lst 3 x3, pI x4, pI x5, pI x6, pI x7, pI x8, .bool x9, .bool x10] :: R.drop (m + 1))) (.slice (some ⟨g, 0, none⟩) n cap) := by rw [← drop_at hr]; exact HOW.out
        have E1 : Hid ((mkR (R.take m) k).1 ++ [pI q, pI (q + 1), .lst 3 (mkR x2 (q + 1 + 1)).1, .lst 3 (mkR x3 (q1)).1, pI q2, pI (q2 + 1), pI (q2 + 1 + 1), pI (q2 + 1 + 1 + 1), pI (q2 + 1 + 1 + 1 + 1), .bool ((q2 + 1 + 1 + 1 + 1 + 1).tmod 3 == 0), .bool ((q2 + 1 + 1 + 1 + 1 + 1 + 1).tmod 3 == 0)] :: R.drop (m + 1) = (mkR (R.take (m + 1)) k).1 ++ R.drop (m + 1) ∧ (mkR (R.take (m + 1)) k).2 = q2 + 1 + 1 + 1 + 1 + 1 + 1 + 1) := Lib.hid (by
          rw [mkR_take hr, ← HQ.out]
          simp [mkL, mkP, pI, ← e1, ← e2])
        simp only [mkL, mkP, pI, ← e1, ← e2] at hq1
        have l1 : q + 1 + 1 ≤ q1 := by rw [e1]; exact mkR_le _ _
        have HE1 := Lib.hid e1; clear e1
        have l2 : q1 ≤ q2 := by rw [e2]; exact mkR_le _ _
        have HE2 := Lib.hid e2; clear e2
        have HA := Lib.hid hA; clear hr hA
        have hcm : m < cap := by omega
        obtain ⟨y0, c0, _⟩ := O0.cellAt HA.out (j := 0) rfl
        obtain ⟨y1, c1, _⟩ := O0.cellAt HA.out (j := 1) rfl
        obtain ⟨y2, c2, _⟩ := O0.cellAt HA.out (j := 2) rfl
        simp only [cellsOf_Undo, Nat.mul_one, Nat.add_zero] at c0 c1 c2
        have hz : ∀ i, wr.frozen? ⟨g, i, none⟩ = false := by
          rcases O0.forms with ⟨h3, _⟩ | ⟨g', cap', h3, _, _, _, h4, _⟩
          · cases h3
          · injection h3 with h3 _ _
            injection h3 with h3
            injection h3 with h3
            subst h3; exact h4
        have z0 := hz (m * 11)
        have z1 := hz (m * 11 + 1)
        have O1 := O0.setAt HA.out (j := 0) rfl (q := pI (q)) (u := .int .i64 (q)) (fun _ _ => .int _ _ _)
        have O2 := O1.setAt HA.out (j := 1) rfl (q := pI (q + 1)) (u := .int .i64 (q + 1)) (fun _ _ => .int _ _ _)
        simp only [cellsOf_Undo, Nat.mul_one, Nat.add_zero, List.set_cons_zero, List.set_cons_succ] at O2
        obtain ⟨x', cx, T, hsub, hT, plug⟩ := O2.cellAt HA.out (j := 2) rfl
        have ex : x' = y2 := by
          simp only [cellsOf_Undo, Nat.mul_one, Nat.add_zero] at cx
          rw [cell_set_far _ (by omega), cell_set_far _ (by omega)] at cx
          exact Option.some.inj (cx.symm.trans c2)
        subst ex; clear cx
        have HSUB := Lib.hid hsub; have HT := Lib.hid hT; have HP := Lib.hid plug; clear hsub hT plug
        clear hz
        go_wp2_with fail
        refine ((mkIntS_ok x2 s2 (q + 1 + 1) (by omega) (by rw [← HE1.out]; omega)).2 _ _ (fun j g => j = 0 ∧ T g) (Ow.mono HSUB.out (fun g hg => ⟨rfl, hg⟩)) (fun i j g h3 h4 => by rw [h3.1, h4.1]) (fun i g h3 => (HT.out g h3.2).2.2)).mono ?_
        rw [← HE1.out]
        rintro e w1 ⟨rfl, ht, ho2⟩
        have O3 := HP.out w1 _ (ht.mono (fun g ⟨_, _, h3⟩ _ => h3)) (Ow.mono ho2 (fun g h3 => h3.2))
        simp only [List.set_cons_zero, List.set_cons_succ] at O3
        have HW1 := Lib.hid (((HW.out.trans (Turned.set ⟨0, HG.out⟩ _)).trans (Turned.set ⟨0, HG.out⟩ _)).trans (ht.mono (fun g ⟨_, _, h3⟩ _ => ⟨0, (HT.out g h3).1⟩)))
        clear ht ho2 HSUB HT HP
        clear c0
        clear c1
        clear c2
        clear z0
        clear z1
        obtain ⟨y3, c3, _⟩ := O3.cellAt HA.out (j := 3) rfl
        simp only [cellsOf_Undo, Nat.mul_one, Nat.add_zero] at c3
        obtain ⟨x', cx, T, hsub, hT, plug⟩ := O3.cellAt HA.out (j := 3) rfl
        have ex : x' = y3 := by
          simp only [cellsOf_Undo, Nat.mul_one, Nat.add_zero] at cx
          exact Option.some.inj (cx.symm.trans c3)
        subst ex; clear cx
        have HSUB := Lib.hid hsub; have HT := Lib.hid hT; have HP := Lib.hid plug; clear hsub hT plug
        go_wp2_with fail
        refine ((mkIntS_ok x3 s3 (q1) (by omega) (by rw [← HE2.out]; omega)).2 _ _ (fun j g => j = 0 ∧ T g) (Ow.mono HSUB.out (fun g hg => ⟨rfl, hg⟩)) (fun i j g h3 h4 => by rw [h3.1, h4.1]) (fun i g h3 => (HT.out g h3.2).2.2)).mono ?_
        rw [← HE2.out]
        rintro e w2 ⟨rfl, ht, ho2⟩
        have O4 := HP.out w2 _ (ht.mono (fun g ⟨_, _, h3⟩ _ => h3)) (Ow.mono ho2 (fun g h3 => h3.2))
        simp only [List.set_cons_zero, List.set_cons_succ] at O4
        have HW2 := Lib.hid (HW1.out.trans (ht.mono (fun g ⟨_, _, h3⟩ _ => ⟨0, (HT.out g h3).1⟩)))
        clear ht ho2 HSUB HT HP
        clear c3
        obtain ⟨y4, c4, _⟩ := O4.cellAt HA.out (j := 4) rfl
        simp only [cellsOf_Undo, Nat.mul_one, Nat.add_zero] at c4
        have z4 : w2.frozen? ⟨g, m * 11 + 4, none⟩ = false := by
          rcases O4.forms with ⟨h3, _⟩ | ⟨g', cap', h3, _, _, _, h4, _⟩
          · cases h3
          · injection h3 with h3 _ _
            injection h3 with h3
            injection h3 with h3
            subst h3; exact h4 _
        have O5 := O4.setAt HA.out (j := 4) rfl (q := pI (q2)) (u := .int .i64 (q2)) (fun _ _ => .int _ _ _)
        simp only [cellsOf_Undo, Nat.mul_one, Nat.add_zero, List.set_cons_zero, List.set_cons_succ] at O5
        have HV4 := Lib.hid (HW2.out.trans (Turned.set ⟨0, HG.out⟩ _ : Turned (fun g => ∃ i, Q i g) w2 (w2.setCell ⟨g, m * 11 + 4, none⟩ (.int .i64 (q2)))))
        have HO_4 := Lib.hid O5; clear O5
        go_upto_region 12 with fail
        obtain ⟨V4, hV4⟩ : ∃ V : World, V = w2.setCell ⟨g, m * 11 + 4, none⟩ (.int .i64 (q2)) := ⟨_, rfl⟩
        rw [← hV4] at HO_4 HV4 ⊢
        clear hV4 c4 z4
        have O5 := HO_4.out
        obtain ⟨y5, c5, _⟩ := O5.cellAt HA.out (j := 5) rfl
        simp only [cellsOf_Undo, Nat.mul_one, Nat.add_zero] at c5
        have z5 : V4.frozen? ⟨g, m * 11 + 5, none⟩ = false := by
          rcases O5.forms with ⟨h3, _⟩ | ⟨g', cap', h3, _, _, _, h4, _⟩
          · cases h3
          · injection h3 with h3 _ _
            injection h3 with h3
            injection h3 with h3
            subst h3; exact h4 _
        have O6 := O5.setAt HA.out (j := 5) rfl (q := pI (q2 + 1)) (u := .int .i64 (q2 + 1)) (fun _ _ => .int _ _ _)
        simp only [cellsOf_Undo, Nat.mul_one, Nat.add_zero, List.set_cons_zero, List.set_cons_succ] at O6
        have HV5 := Lib.hid (HV4.out.trans (Turned.set ⟨0, HG.out⟩ _ : Turned (fun g => ∃ i, Q i g) V4 (V4.setCell ⟨g, m * 11 + 5, none⟩ (.int .i64 (q2 + 1)))))
        have HO_5 := Lib.hid O6; clear O6
        go_upto_region 14 with fail
        obtain ⟨V5, hV5⟩ : ∃ V : World, V = V4.setCell ⟨g, m * 11 + 5, none⟩ (.int .i64 (q2 + 1)) := ⟨_, rfl⟩
        rw [← hV5] at HO_5 HV5 ⊢
        clear hV5 c5 z5
        have O6 := HO_5.out
        obtain ⟨y6, c6, _⟩ := O6.cellAt HA.out (j := 6) rfl
        simp only [cellsOf_Undo, Nat.mul_one, Nat.add_zero] at c6
        have z6 : V5.frozen? ⟨g, m * 11 + 6, none⟩ = false := by
          rcases O6.forms with ⟨h3, _⟩ | ⟨g', cap', h3, _, _, _, h4, _⟩
          · cases h3
          · injection h3 with h3 _ _
            injection h3 with h3
            injection h3 with h3
            subst h3; exact h4 _
        have O7 := O6.setAt HA.out (j := 6) rfl (q := pI (q2 + 1 + 1)) (u := .int .i64 (q2 + 1 + 1)) (fun _ _ => .int _ _ _)
        simp only [cellsOf_Undo, Nat.mul_one, Nat.add_zero, List.set_cons_zero, List.set_cons_succ] at O7
        have HV6 := Lib.hid (HV5.out.trans (Turned.set ⟨0, HG.out⟩ _ : Turned (fun g => ∃ i, Q i g) V5 (V5.setCell ⟨g, m * 11 + 6, none⟩ (.int .i64 (q2 + 1 + 1)))))
        have HO_6 := Lib.hid O7; clear O7
        go_upto_region 16 with fail
        obtain ⟨V6, hV6⟩ : ∃ V : World, V = V5.setCell ⟨g, m * 11 + 6, none⟩ (.int .i64 (q2 + 1 + 1)) := ⟨_, rfl⟩
        rw [← hV6] at HO_6 HV6 ⊢
        clear hV6 c6 z6
        have O7 := HO_6.out
        obtain ⟨y7, c7, _⟩ := O7.cellAt HA.out (j := 7) rfl
        simp only [cellsOf_Undo, Nat.mul_one, Nat.add_zero] at c7
        have z7 : V6.frozen? ⟨g, m * 11 + 7, none⟩ = false := by
          rcases O7.forms with ⟨h3, _⟩ | ⟨g', cap', h3, _, _, _, h4, _⟩
          · cases h3
          · injection h3 with h3 _ _
            injection h3 with h3
            injection h3 with h3
            subst h3; exact h4 _
        have O8 := O7.setAt HA.out (j := 7) rfl (q := pI (q2 + 1 + 1 + 1)) (u := .int .i64 (q2 + 1 + 1 + 1)) (fun _ _ => .int _ _ _)
        simp only [cellsOf_Undo, Nat.mul_one, Nat.add_zero, List.set_cons_zero, List.set_cons_succ] at O8
        have HV7 := Lib.hid (HV6.out.trans (Turned.set ⟨0, HG.out⟩ _ : Turned (fun g => ∃ i, Q i g) V6 (V6.setCell ⟨g, m * 11 + 7, none⟩ (.int .i64 (q2 + 1 + 1 + 1)))))
        have HO_7 := Lib.hid O8; clear O8
        go_upto_region 18 with fail
        obtain ⟨V7, hV7⟩ : ∃ V : World, V = V6.setCell ⟨g, m * 11 + 7, none⟩ (.int .i64 (q2 + 1 + 1 + 1)) := ⟨_, rfl⟩
        rw [← hV7] at HO_7 HV7 ⊢
        clear hV7 c7 z7
        have O8 := HO_7.out
        obtain ⟨y8, c8, _⟩ := O8.cellAt HA.out (j := 8) rfl
        simp only [cellsOf_Undo, Nat.mul_one, Nat.add_zero] at c8
        have z8 : V7.frozen? ⟨g, m * 11 + 8, none⟩ = false := by
          rcases O8.forms with ⟨h3, _⟩ | ⟨g', cap', h3, _, _, _, h4, _⟩
          · cases h3
          · injection h3 with h3 _ _
            injection h3 with h3
            injection h3 with h3
            subst h3; exact h4 _
        have O9 := O8.setAt HA.out (j := 8) rfl (q := pI (q2 + 1 + 1 + 1 + 1)) (u := .int .i64 (q2 + 1 + 1 + 1 + 1)) (fun _ _ => .int _ _ _)
        simp only [cellsOf_Undo, Nat.mul_one, Nat.add_zero, List.set_cons_zero, List.set_cons_succ] at O9
        have HV8 := Lib.hid (HV7.out.trans (Turned.set ⟨0, HG.out⟩ _ : Turned (fun g => ∃ i, Q i g) V7 (V7.setCell ⟨g, m * 11 + 8, none⟩ (.int .i64 (q2 + 1 + 1 + 1 + 1)))))
        have HO_8 := Lib.hid O9; clear O9
        go_upto_region 20 with fail
        obtain ⟨V8, hV8⟩ : ∃ V : World, V = V7.setCell ⟨g, m * 11 + 8, none⟩ (.int .i64 (q2 + 1 + 1 + 1 + 1)) := ⟨_, rfl⟩
        rw [← hV8] at HO_8 HV8 ⊢
        clear hV8 c8 z8
        have O9 := HO_8.out
        obtain ⟨y9, c9, _⟩ := O9.cellAt HA.out (j := 9) rfl
        simp only [cellsOf_Undo, Nat.mul_one, Nat.add_zero] at c9
        have z9 : V8.frozen? ⟨g, m * 11 + 9, none⟩ = false := by
          rcases O9.forms with ⟨h3, _⟩ | ⟨g', cap', h3, _, _, _, h4, _⟩
          · cases h3
          · injection h3 with h3 _ _
            injection h3 with h3
            injection h3 with h3
            subst h3; exact h4 _
        have ex9 : (q2 + 1 + 1 + 1 + 1 + 1).tmod 3 = (q2 + 1 + 1 + 1 + 1 + 1) % 3 := Int.tmod_eq_emod_of_nonneg (by omega)
        have O10 := O9.setAt HA.out (j := 9) rfl (q := .bool ((q2 + 1 + 1 + 1 + 1 + 1).tmod 3 == 0)) (u := .bool ((q2 + 1 + 1 + 1 + 1 + 1) % 3 == 0)) (fun _ _ => by rw [ex9]; exact .bool _ _)
        clear ex9
        simp only [cellsOf_Undo, Nat.mul_one, Nat.add_zero, List.set_cons_zero, List.set_cons_succ] at O10
        have HV9 := Lib.hid (HV8.out.trans (Turned.set ⟨0, HG.out⟩ _ : Turned (fun g => ∃ i, Q i g) V8 (V8.setCell ⟨g, m * 11 + 9, none⟩ (.bool ((q2 + 1 + 1 + 1 + 1 + 1) % 3 == 0)))))
        have HO_9 := Lib.hid O10; clear O10
        go_upto_region 22 with fail
        obtain ⟨V9, hV9⟩ : ∃ V : World, V = V8.setCell ⟨g, m * 11 + 9, none⟩ (.bool ((q2 + 1 + 1 + 1 + 1 + 1) % 3 == 0)) := ⟨_, rfl⟩
        rw [← hV9] at HO_9 HV9 ⊢
        clear hV9 c9 z9
        have O10 := HO_9.out
        obtain ⟨y10, c10, _⟩ := O10.cellAt HA.out (j := 10) rfl
        simp only [cellsOf_Undo, Nat.mul_one, Nat.add_zero] at c10
        have z10 : V9.frozen? ⟨g, m * 11 + 10, none⟩ = false := by
          rcases O10.forms with ⟨h3, _⟩ | ⟨g', cap', h3, _, _, _, h4, _⟩
          · cases h3
          · injection h3 with h3 _ _
            injection h3 with h3
            injection h3 with h3
            subst h3; exact h4 _
        have ex10 : (q2 + 1 + 1 + 1 + 1 + 1 + 1).tmod 3 = (q2 + 1 + 1 + 1 + 1 + 1 + 1) % 3 := Int.tmod_eq_emod_of_nonneg (by omega)
        have O11 := O10.setAt HA.out (j := 10) rfl (q := .bool ((q2 + 1 + 1 + 1 + 1 + 1 + 1).tmod 3 == 0)) (u := .bool ((q2 + 1 + 1 + 1 + 1 + 1 + 1) % 3 == 0)) (fun _ _ => by rw [ex10]; exact .bool _ _)
        clear ex10
        simp only [cellsOf_Undo, Nat.mul_one, Nat.add_zero, List.set_cons_zero, List.set_cons_succ] at O11
        have HV10 := Lib.hid (HV9.out.trans (Turned.set ⟨0, HG.out⟩ _ : Turned (fun g => ∃ i, Q i g) V9 (V9.setCell ⟨g, m * 11 + 10, none⟩ (.bool ((q2 + 1 + 1 + 1 + 1 + 1 + 1) % 3 == 0)))))
        have HOE := Lib.hid O11
        try clear O0
        try clear O1
        try clear O2
        try clear O3
        try clear O4
        try clear O5
        try clear O6
        try clear O7
        try clear O8
        try clear O9
        try clear O10
        try clear O11
        go_wp2
        go_roundw
        case rel =>
          refine ⟨m + 1, q2 + 1 + 1 + 1 + 1 + 1 + 1 + 1, by omega, by go_num, by go_num, E1.out.2.symm, HV10.out, ?_⟩
          rw [← E1.out.1]
          exact HOE.out
        case measure => simp [intOf]; omega
      · obtain rfl : m = n := by omega
        have e1 : R.take m = R := List.take_of_length_le (by rw [HN.out]; omega)
        have e2 : R.drop m = [] := List.drop_of_length_le (by rw [HN.out]; omega)
        have E1 := Lib.hid e1; have E2 := Lib.hid e2
        clear e1 e2
        go_wp2
        go_ret
        refine ⟨?_, HW.out, ?_⟩
        · rw [HQ.out, E1.out]; rfl
        · have := HOW.out
          rw [E1.out, E2.out, List.append_nil] at this
          exact this
set_option maxRecDepth 100000 in
set_option maxHeartbeats 16000000 in
theorem heldUndoS_ok (R : List (List PV)) (hs : ShUndoS R) (k : Int) (h0 : 0 ≤ k) (h1 : (mkR R k).2 ≤ 4611686018427387904) : FnOk E.P 59 [.lst 31 (mkR R k).1, pI k] (pI (mkR R k).2) true := by
  obtain ⟨hn, hs⟩ := hs
  have hl := mkR_len R k
  refine fn_ok mixed Try.func59 rfl (by kernel_rfl) _ Try.results59 _ Try.ntmps59 (by simp) (by kernel_rfl) ?_
  simp (maxSteps := 2000000) only [hl, pI, tvs, simprocAttr]
  repeat (first | refine ftS (by kernel_rfl) ?_ | refine And.intro (by omega) ?_)
  refine awp_loop (X := Nat) (fun m => [(0, .pv (.lst 31 (mkR R k).1)), (1, .pv (.int .i64 (mkR (R.take m) k).2)), (5, .pv (.int .i64 m))]) (fun m => []) (fun m => m ≤ R.length) (fun m => R.length - m) 100 0 (Nat.zero_le _) (by simp (maxSteps := 2000000) only [List.take_zero, mkR, pI, tvs, simprocAttr]; try rfl) (fun m hm => ?_)
  obtain ⟨q, hq⟩ : ∃ q, q = (mkR (R.take m) k).2 := ⟨_, rfl⟩
  have hq0 : 0 ≤ q := by rw [hq]; exact Int.le_trans h0 (mkR_le _ _)
  by_cases hlt : m < R.length
  · have d1 : decide ((m : Int) < (R.length : Int)) = true := by simpa using hlt
    have e0 : R[m]? = some R[m] := List.getElem?_eq_getElem hlt
    have hr := hs R[m] (List.getElem_mem hlt)
    generalize R[m] = r at e0 hr
    have e1 := mkR_at (k := k) e0
    have e2 : (mkR (R.take (m + 1)) k).2 = (mkL r q).2 := by rw [mkR_take e0, hq]
    have h3 := mkR_mono R (m + 1) k
    rw [← hq] at e1
    rw [e2] at h3
    obtain ⟨a0, a1, a2, a3, a4, a5, a6, a7, a8, a9, a10, rfl, s2, s3⟩ := hr
    obtain ⟨q1, f1⟩ : ∃ z, z = (mkR a2 (q + 1 + 1)).2 := ⟨_, rfl⟩
    have l1 : q + 1 + 1 ≤ q1 := by rw [f1]; exact mkR_le _ _
    obtain ⟨q2, f2⟩ : ∃ z, z = (mkR a3 (q1)).2 := ⟨_, rfl⟩
    have l2 : q1 ≤ q2 := by rw [f2]; exact mkR_le _ _
    simp only [mkL, mkP, pI, ← f1, ← f2] at e1 e2 h3
    have d2_1 : decide (q1 < 0) = false := by simp; omega
    have hc1 := heldIntS_ok a2 s2 (q + 1 + 1) (by omega) (by rw [← f1]; omega)
    rw [← f1] at hc1
    have d2_2 : decide (q2 < 0) = false := by simp; omega
    have hc2 := heldIntS_ok a3 s3 (q1) (by omega) (by rw [← f2]; omega)
    rw [← f2] at hc2
    simp (maxSteps := 2000000) only [d1, e1, hl, ← hq, d2_1, d2_2, pI, tvs, simprocAttr]
    repeat (first | refine ftS (by kernel_rfl) ?_ | refine And.intro (by omega) ?_)
    refine aops_fn (hc1) (hidB rfl) rfl ?_
    simp (maxSteps := 2000000) only [d1, e1, hl, ← hq, d2_1, d2_2, pI, tvs, simprocAttr]
    repeat (first | refine ftS (by kernel_rfl) ?_ | refine And.intro (by omega) ?_)
    refine aops_fn (hc2) (hidB rfl) rfl ?_
    simp (maxSteps := 2000000) only [d1, e1, hl, ← hq, d2_1, d2_2, pI, tvs, simprocAttr]
    repeat (first | refine ftS (by kernel_rfl) ?_ | refine And.intro (by omega) ?_)
    refine ⟨m + 1, ?_, ?_, ?_⟩
    · omega
    · omega
    · try simp only [e2, true_and, and_true]
      first | omega | (refine ⟨?_, ?_⟩ <;> omega)
  · have d1 : decide ((m : Int) < (R.length : Int)) = false := by simpa using hlt
    have e1 : R.take m = R := List.take_of_length_le (by omega)
    rw [e1]
    simp (maxSteps := 2000000) only [d1, hl, pI, tvs, simprocAttr]
    repeat (first | refine ftS (by kernel_rfl) ?_ | refine And.intro (by omega) ?_)
    all_goals (first | rfl | trivial | skip)
set_option maxRecDepth 100000 in
set_option maxHeartbeats 16000000 in
theorem eqUndo_ok (r : List PV) (hs : ShUndo r) : FnOk E.P 18 [.agg r, .agg r] (.bool true) true := by
  obtain ⟨a0, a1, a2, a3, a4, a5, a6, a7, a8, a9, a10, rfl, s2, s3⟩ := hs
  refine fn_ok mixed Try.func18 rfl (by kernel_rfl) _ Try.results18 _ Try.ntmps18 (by simp) (by kernel_rfl) ?_
  simp (maxSteps := 2000000) only [pI, tvs, simprocAttr]
  repeat (first | refine ftS (by kernel_rfl) ?_ | refine And.intro (by omega) ?_)
  refine aops_fn (eqThread_ok [pI a1, .lst 3 a2, .lst 3 a3, pI a4] ⟨a1, a2, a3, a4, rfl, s2, s3⟩) (hidB rfl) rfl ?_
  simp (maxSteps := 2000000) only [pI, tvs, simprocAttr]
  repeat (first | refine ftS (by kernel_rfl) ?_ | refine And.intro (by omega) ?_)
  all_goals (first | rfl | trivial | skip)
set_option maxRecDepth 100000 in
set_option maxHeartbeats 16000000 in
theorem eqUndoS_ok (R : List (List PV)) (hs : ShUndoS R) : FnOk E.P 56 [.lst 31 R, .lst 31 R] (.bool true) true := by
  obtain ⟨hn, hs⟩ := hs
  refine fn_ok mixed Try.func56 rfl (by kernel_rfl) _ Try.results56 _ Try.ntmps56 (by simp) (by kernel_rfl) ?_
  simp (maxSteps := 2000000) only [pI, tvs, simprocAttr]
  repeat (first | refine ftS (by kernel_rfl) ?_ | refine And.intro (by omega) ?_)
  refine awp_loop (X := Nat) (fun k => [(0, .pv (.lst 31 R)), (1, .pv (.lst 31 R)), (5, .pv (.int .i64 k))]) (fun k => []) (fun k => k ≤ R.length) (fun k => R.length - k) 100 0 (Nat.zero_le _) (by simp (maxSteps := 2000000) only [pI, tvs, simprocAttr]; try rfl) (fun k hk => ?_)
  by_cases hlt : k < R.length
  · have d1 : decide ((k : Int) < (R.length : Int)) = true := by simpa using hlt
    have e1 : R[k]? = some R[k] := List.getElem?_eq_getElem hlt
    have hr := hs R[k] (List.getElem_mem hlt)
    generalize R[k] = r at e1 hr
    have hc := eqUndo_ok r hr
    obtain ⟨a0, a1, a2, a3, a4, a5, a6, a7, a8, a9, a10, rfl, s2, s3⟩ := hr
    simp (maxSteps := 2000000) only [d1, e1, pI, tvs, simprocAttr]
    repeat (first | refine ftS (by kernel_rfl) ?_ | refine And.intro (by omega) ?_)
    refine aops_fn (hc) (hidB rfl) rfl ?_
    simp (maxSteps := 2000000) only [d1, e1, pI, tvs, simprocAttr]
    repeat (first | refine ftS (by kernel_rfl) ?_ | refine And.intro (by omega) ?_)
    refine ⟨k + 1, ?_, ?_, ?_⟩
    · omega
    · omega
    · first | omega | (simp; done)
  · have d1 : decide ((k : Int) < (R.length : Int)) = false := by simpa using hlt
    simp (maxSteps := 2000000) only [d1, pI, tvs, simprocAttr]
    repeat (first | refine ftS (by kernel_rfl) ?_ | refine And.intro (by omega) ?_)
    all_goals (first | rfl | trivial | skip)
end Av
end Go.Proofs.Ytdjenlnomibniaa
