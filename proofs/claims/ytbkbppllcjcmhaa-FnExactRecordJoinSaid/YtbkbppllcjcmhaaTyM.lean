/-
  Marks that laws write: rows of numbers, instructions, choices, slices, threads, machines.
-/
import Derived.Test.YtbkbppllcjcmhaaTyMs
set_option linter.unusedSimpArgs false
set_option linter.unusedVariables false
namespace Go.Proofs.Ytbkbppllcjcmhaa
open Go.RowKit
namespace Av
theorem cellsOf_Int : Try.prog.cellsOf 3 = 1 := by kernel_rfl
set_option maxHeartbeats 8000000 in
theorem mkIntS_ok (R : List (List PV)) (hs : ShIntS R) (k : Int) (h0 : 0 ≤ k) (h1 : (mkR R k).2 ≤ 4611686018427387904) :
    MutOk Try.prog 79 (.lst 3 R) k (.lst 3 (mkR R k).1) (mkR R k).2 := by
  obtain ⟨hn, hs⟩ := hs
  refine ⟨⟨_, Try.func79, by kernel_rfl, by kernel_rfl⟩, fun w v Q ho hd hb => ?_⟩
  have ho' : Ow Try.prog w (Q 0) (.lst 3 R) v := ho
  clear hd hb
  rcases ho'.forms with ⟨rfl, rfl⟩ | ⟨g, cap, rfl, hc, hg, hlt, _, _⟩
  · have HO := Lib.hid ho'; clear ho ho'
    go_enter Try.func79, Try.ntmps79
    go_wp2
    go_loop [1, 5] (fun t i => t = .int .i64 k ∧ i = .int .i64 0) (fun _ _ => 0)
    case atStart => exact ⟨rfl, rfl⟩
    case round =>
      obtain ⟨rfl, rfl⟩ := hrel
      go_wp2
      go_ret
      exact ⟨rfl, Turned.refl _ _, HO.out⟩
  · have HO := Lib.hid ho'; clear ho ho'
    have HG := Lib.hid hg; clear hg
    obtain ⟨n, hN⟩ : ∃ n, R.length = n := ⟨_, rfl⟩
    rw [hN] at hn hc HO ⊢
    have HN := Lib.hid hN; clear hN
    have HS := Lib.hid hs; clear hs
    have H1 := Lib.hid h1; clear h1
    go_enter Try.func79, Try.ntmps79
    go_wp2
    go_loopw [1, 5] (fun t i wr => ∃ (m : Nat) (q : Int), m ≤ n ∧ i = .int .i64 m ∧ t = .int .i64 q ∧ q = (mkR (R.take m) k).2 ∧ Turned (fun g => ∃ i, Q i g) w wr ∧ Ow Try.prog wr (Q 0) (.lst 3 ((mkR (R.take m) k).1 ++ R.drop m)) (.slice (some ⟨g, 0, none⟩) n cap)) (fun _ i _ => n - (intOf i).toNat)
    case atStart => exact ⟨0, k, Nat.zero_le _, rfl, rfl, rfl, Turned.refl _ _, HO.out⟩
    case round =>
      obtain ⟨m, q, hm, rfl, rfl, hq, hw, how⟩ := hrel
      have HW := Lib.hid hw; clear hw
      have HOW := Lib.hid how; clear how
      have HQ := Lib.hid hq; clear hq
      by_cases hlt : m < n
      · obtain ⟨r, hr⟩ : ∃ r, R[m]? = some r := ⟨R[m]'(by rw [HN.out]; exact hlt), List.getElem?_eq_getElem _⟩
        have hA : (mkR (R.take m) k).1.length = m := by rw [mkR_len, List.length_take, HN.out]; omega
        have hq0 : 0 ≤ q := by rw [HQ.out]; exact Int.le_trans h0 (mkR_le _ _)
        have hq1 : (mkL r q).2 ≤ 4611686018427387904 := by
          have h3 := mkR_mono R (m + 1) k
          rw [mkR_take hr, ← HQ.out] at h3
          exact Int.le_trans h3 H1.out
        obtain ⟨x0, rfl⟩ := HS.out r (List.mem_of_getElem? hr)
        have O0 : Ow Try.prog wr (Q 0) (.lst 3 ((mkR (R.take m) k).1 ++ [pI x0] :: R.drop (m + 1))) (.slice (some ⟨g, 0, none⟩) n cap) := by rw [← drop_at hr]; exact HOW.out
        have E1 : Hid ((mkR (R.take m) k).1 ++ [pI q] :: R.drop (m + 1) = (mkR (R.take (m + 1)) k).1 ++ R.drop (m + 1) ∧ (mkR (R.take (m + 1)) k).2 = q + 1) := Lib.hid (by
          rw [mkR_take hr, ← HQ.out]
          simp [mkL, mkP, pI])
        simp only [mkL, mkP, pI] at hq1
        have HA := Lib.hid hA; clear hr hA
        have hcm : m < cap := by omega
        obtain ⟨y0, c0, _⟩ := O0.cellAt HA.out (j := 0) rfl
        simp only [cellsOf_Int, Nat.mul_one, Nat.add_zero] at c0
        have hz : ∀ i, wr.frozen? ⟨g, i, none⟩ = false := by
          rcases O0.forms with ⟨h3, _⟩ | ⟨g', cap', h3, _, _, _, h4, _⟩
          · cases h3
          · injection h3 with h3 _ _
            injection h3 with h3
            injection h3 with h3
            subst h3; exact h4
        have z0 := hz (m)
        have O1 := O0.setAt HA.out (j := 0) rfl (q := pI (q)) (u := .int .i64 (q)) (fun _ _ => .int _ _ _)
        simp only [cellsOf_Int, Nat.mul_one, Nat.add_zero, List.set_cons_zero, List.set_cons_succ] at O1
        have HOE := Lib.hid O1
        try clear O0
        try clear O1
        clear hz
        go_wp2
        go_roundw
        case rel =>
          refine ⟨m + 1, q + 1, by omega, by go_num, by go_num, E1.out.2.symm, (HW.out.trans (Turned.set ⟨0, HG.out⟩ _)), ?_⟩
          rw [← E1.out.1]
          exact HOE.out
        case measure => simp [intOf]; omega
      · obtain rfl : m = n := by omega
        have e1 : R.take m = R := List.take_of_length_le (by rw [HN.out]; omega)
        have e2 : R.drop m = [] := List.drop_of_length_le (by rw [HN.out]; omega)
        have E1 := Lib.hid e1; have E2 := Lib.hid e2
        clear e1 e2
        go_wp2
        go_ret
        refine ⟨?_, HW.out, ?_⟩
        · rw [HQ.out, E1.out]; rfl
        · have := HOW.out
          rw [E1.out, E2.out, List.append_nil] at this
          exact this
theorem cellsOf_Code : Try.prog.cellsOf 141 = 4 := by kernel_rfl
set_option maxHeartbeats 8000000 in
theorem mkCodeS_ok (R : List (List PV)) (hs : ShCodeS R) (k : Int) (h0 : 0 ≤ k) (h1 : (mkR R k).2 ≤ 4611686018427387904) :
    MutOk Try.prog 77 (.lst 141 R) k (.lst 141 (mkR R k).1) (mkR R k).2 := by
  obtain ⟨hn, hs⟩ := hs
  refine ⟨⟨_, Try.func77, by kernel_rfl, by kernel_rfl⟩, fun w v Q ho hd hb => ?_⟩
  have ho' : Ow Try.prog w (Q 0) (.lst 141 R) v := ho
  clear hd hb
  rcases ho'.forms with ⟨rfl, rfl⟩ | ⟨g, cap, rfl, hc, hg, hlt, _, _⟩
  · have HO := Lib.hid ho'; clear ho ho'
    go_enter Try.func77, Try.ntmps77
    go_wp2
    go_loop [1, 5] (fun t i => t = .int .i64 k ∧ i = .int .i64 0) (fun _ _ => 0)
    case atStart => exact ⟨rfl, rfl⟩
    case round =>
      obtain ⟨rfl, rfl⟩ := hrel
      go_wp2
      go_ret
      exact ⟨rfl, Turned.refl _ _, HO.out⟩
  · have HO := Lib.hid ho'; clear ho ho'
    have HG := Lib.hid hg; clear hg
    obtain ⟨n, hN⟩ : ∃ n, R.length = n := ⟨_, rfl⟩
    rw [hN] at hn hc HO ⊢
    have HN := Lib.hid hN; clear hN
    have HS := Lib.hid hs; clear hs
    have H1 := Lib.hid h1; clear h1
    go_enter Try.func77, Try.ntmps77
    go_wp2
    go_loopw [1, 5] (fun t i wr => ∃ (m : Nat) (q : Int), m ≤ n ∧ i = .int .i64 m ∧ t = .int .i64 q ∧ q = (mkR (R.take m) k).2 ∧ Turned (fun g => ∃ i, Q i g) w wr ∧ Ow Try.prog wr (Q 0) (.lst 141 ((mkR (R.take m) k).1 ++ R.drop m)) (.slice (some ⟨g, 0, none⟩) n cap)) (fun _ i _ => n - (intOf i).toNat)
    case atStart => exact ⟨0, k, Nat.zero_le _, rfl, rfl, rfl, Turned.refl _ _, HO.out⟩
    case round =>
      obtain ⟨m, q, hm, rfl, rfl, hq, hw, how⟩ := hrel
      have HW := Lib.hid hw; clear hw
      have HOW := Lib.hid how; clear how
      have HQ := Lib.hid hq; clear hq
      by_cases hlt : m < n
      · obtain ⟨r, hr⟩ : ∃ r, R[m]? = some r := ⟨R[m]'(by rw [HN.out]; exact hlt), List.getElem?_eq_getElem _⟩
        have hA : (mkR (R.take m) k).1.length = m := by rw [mkR_len, List.length_take, HN.out]; omega
        have hq0 : 0 ≤ q := by rw [HQ.out]; exact Int.le_trans h0 (mkR_le _ _)
        have hq1 : (mkL r q).2 ≤ 4611686018427387904 := by
          have h3 := mkR_mono R (m + 1) k
          rw [mkR_take hr, ← HQ.out] at h3
          exact Int.le_trans h3 H1.out
        obtain ⟨x0, x1, x2, x3, rfl⟩ := HS.out r (List.mem_of_getElem? hr)
        have O0 : Ow Try.prog wr (Q 0) (.lst 141 ((mkR (R.take m) k).1 ++ [pI x0, pI x1, pI x2, pI x3] :: R.drop (m + 1))) (.slice (some ⟨g, 0, none⟩) n cap) := by rw [← drop_at hr]; exact HOW.out
        have E1 : Hid ((mkR (R.take m) k).1 ++ [pI q, pI (q + 1), pI (q + 1 + 1), pI (q + 1 + 1 + 1)] :: R.drop (m + 1) = (mkR (R.take (m + 1)) k).1 ++ R.drop (m + 1) ∧ (mkR (R.take (m + 1)) k).2 = q + 1 + 1 + 1 + 1) := Lib.hid (by
          rw [mkR_take hr, ← HQ.out]
          simp [mkL, mkP, pI])
        simp only [mkL, mkP, pI] at hq1
        have HA := Lib.hid hA; clear hr hA
        have hcm : m < cap := by omega
        obtain ⟨y0, c0, _⟩ := O0.cellAt HA.out (j := 0) rfl
        obtain ⟨y1, c1, _⟩ := O0.cellAt HA.out (j := 1) rfl
        obtain ⟨y2, c2, _⟩ := O0.cellAt HA.out (j := 2) rfl
        obtain ⟨y3, c3, _⟩ := O0.cellAt HA.out (j := 3) rfl
        simp only [cellsOf_Code, Nat.mul_one, Nat.add_zero] at c0 c1 c2 c3
        have hz : ∀ i, wr.frozen? ⟨g, i, none⟩ = false := by
          rcases O0.forms with ⟨h3, _⟩ | ⟨g', cap', h3, _, _, _, h4, _⟩
          · cases h3
          · injection h3 with h3 _ _
            injection h3 with h3
            injection h3 with h3
            subst h3; exact h4
        have z0 := hz (m * 4)
        have z1 := hz (m * 4 + 1)
        have z2 := hz (m * 4 + 2)
        have z3 := hz (m * 4 + 3)
        have O1 := O0.setAt HA.out (j := 0) rfl (q := pI (q)) (u := .int .i64 (q)) (fun _ _ => .int _ _ _)
        have O2 := O1.setAt HA.out (j := 1) rfl (q := pI (q + 1)) (u := .int .i64 (q + 1)) (fun _ _ => .int _ _ _)
        have O3 := O2.setAt HA.out (j := 2) rfl (q := pI (q + 1 + 1)) (u := .int .i64 (q + 1 + 1)) (fun _ _ => .int _ _ _)
        have O4 := O3.setAt HA.out (j := 3) rfl (q := pI (q + 1 + 1 + 1)) (u := .int .i64 (q + 1 + 1 + 1)) (fun _ _ => .int _ _ _)
        simp only [cellsOf_Code, Nat.mul_one, Nat.add_zero, List.set_cons_zero, List.set_cons_succ] at O4
        have HOE := Lib.hid O4
        try clear O0
        try clear O1
        try clear O2
        try clear O3
        try clear O4
        clear hz
        go_wp2
        go_roundw
        case rel =>
          refine ⟨m + 1, q + 1 + 1 + 1 + 1, by omega, by go_num, by go_num, E1.out.2.symm, ((((HW.out.trans (Turned.set ⟨0, HG.out⟩ _)).trans (Turned.set ⟨0, HG.out⟩ _)).trans (Turned.set ⟨0, HG.out⟩ _)).trans (Turned.set ⟨0, HG.out⟩ _)), ?_⟩
          rw [← E1.out.1]
          exact HOE.out
        case measure => simp [intOf]; omega
      · obtain rfl : m = n := by omega
        have e1 : R.take m = R := List.take_of_length_le (by rw [HN.out]; omega)
        have e2 : R.drop m = [] := List.drop_of_length_le (by rw [HN.out]; omega)
        have E1 := Lib.hid e1; have E2 := Lib.hid e2
        clear e1 e2
        go_wp2
        go_ret
        refine ⟨?_, HW.out, ?_⟩
        · rw [HQ.out, E1.out]; rfl
        · have := HOW.out
          rw [E1.out, E2.out, List.append_nil] at this
          exact this
theorem cellsOf_Choice : Try.prog.cellsOf 122 = 3 := by kernel_rfl
set_option maxHeartbeats 8000000 in
theorem mkChoiceS_ok (R : List (List PV)) (hs : ShChoiceS R) (k : Int) (h0 : 0 ≤ k) (h1 : (mkR R k).2 ≤ 4611686018427387904) :
    MutOk Try.prog 46 (.lst 122 R) k (.lst 122 (mkR R k).1) (mkR R k).2 := by
  obtain ⟨hn, hs⟩ := hs
  refine ⟨⟨_, Try.func46, by kernel_rfl, by kernel_rfl⟩, fun w v Q ho hd hb => ?_⟩
  have ho' : Ow Try.prog w (Q 0) (.lst 122 R) v := ho
  clear hd hb
  rcases ho'.forms with ⟨rfl, rfl⟩ | ⟨g, cap, rfl, hc, hg, hlt, _, _⟩
  · have HO := Lib.hid ho'; clear ho ho'
    go_enter Try.func46, Try.ntmps46
    go_wp2
    go_loop [1, 5] (fun t i => t = .int .i64 k ∧ i = .int .i64 0) (fun _ _ => 0)
    case atStart => exact ⟨rfl, rfl⟩
    case round =>
      obtain ⟨rfl, rfl⟩ := hrel
      go_wp2
      go_ret
      exact ⟨rfl, Turned.refl _ _, HO.out⟩
  · have HO := Lib.hid ho'; clear ho ho'
    have HG := Lib.hid hg; clear hg
    obtain ⟨n, hN⟩ : ∃ n, R.length = n := ⟨_, rfl⟩
    rw [hN] at hn hc HO ⊢
    have HN := Lib.hid hN; clear hN
    have HS := Lib.hid hs; clear hs
    have H1 := Lib.hid h1; clear h1
    go_enter Try.func46, Try.ntmps46
    go_wp2
    go_loopw [1, 5] (fun t i wr => ∃ (m : Nat) (q : Int), m ≤ n ∧ i = .int .i64 m ∧ t = .int .i64 q ∧ q = (mkR (R.take m) k).2 ∧ Turned (fun g => ∃ i, Q i g) w wr ∧ Ow Try.prog wr (Q 0) (.lst 122 ((mkR (R.take m) k).1 ++ R.drop m)) (.slice (some ⟨g, 0, none⟩) n cap)) (fun _ i _ => n - (intOf i).toNat)
    case atStart => exact ⟨0, k, Nat.zero_le _, rfl, rfl, rfl, Turned.refl _ _, HO.out⟩
    case round =>
      obtain ⟨m, q, hm, rfl, rfl, hq, hw, how⟩ := hrel
      have HW := Lib.hid hw; clear hw
      have HOW := Lib.hid how; clear how
      have HQ := Lib.hid hq; clear hq
      by_cases hlt : m < n
      · obtain ⟨r, hr⟩ : ∃ r, R[m]? = some r := ⟨R[m]'(by rw [HN.out]; exact hlt), List.getElem?_eq_getElem _⟩
        have hA : (mkR (R.take m) k).1.length = m := by rw [mkR_len, List.length_take, HN.out]; omega
        have hq0 : 0 ≤ q := by rw [HQ.out]; exact Int.le_trans h0 (mkR_le _ _)
        have hq1 : (mkL r q).2 ≤ 4611686018427387904 := by
          have h3 := mkR_mono R (m + 1) k
          rw [mkR_take hr, ← HQ.out] at h3
          exact Int.le_trans h3 H1.out
        obtain ⟨x0, x1, x2, rfl⟩ := HS.out r (List.mem_of_getElem? hr)
        have O0 : Ow Try.prog wr (Q 0) (.lst 122 ((mkR (R.take m) k).1 ++ [pI x0, pI x1, pI x2] :: R.drop (m + 1))) (.slice (some ⟨g, 0, none⟩) n cap) := by rw [← drop_at hr]; exact HOW.out
        have E1 : Hid ((mkR (R.take m) k).1 ++ [pI q, pI (q + 1), pI (q + 1 + 1)] :: R.drop (m + 1) = (mkR (R.take (m + 1)) k).1 ++ R.drop (m + 1) ∧ (mkR (R.take (m + 1)) k).2 = q + 1 + 1 + 1) := Lib.hid (by
          rw [mkR_take hr, ← HQ.out]
          simp [mkL, mkP, pI])
        simp only [mkL, mkP, pI] at hq1
        have HA := Lib.hid hA; clear hr hA
        have hcm : m < cap := by omega
        obtain ⟨y0, c0, _⟩ := O0.cellAt HA.out (j := 0) rfl
        obtain ⟨y1, c1, _⟩ := O0.cellAt HA.out (j := 1) rfl
        obtain ⟨y2, c2, _⟩ := O0.cellAt HA.out (j := 2) rfl
        simp only [cellsOf_Choice, Nat.mul_one, Nat.add_zero] at c0 c1 c2
        have hz : ∀ i, wr.frozen? ⟨g, i, none⟩ = false := by
          rcases O0.forms with ⟨h3, _⟩ | ⟨g', cap', h3, _, _, _, h4, _⟩
          · cases h3
          · injection h3 with h3 _ _
            injection h3 with h3
            injection h3 with h3
            subst h3; exact h4
        have z0 := hz (m * 3)
        have z1 := hz (m * 3 + 1)
        have z2 := hz (m * 3 + 2)
        have O1 := O0.setAt HA.out (j := 0) rfl (q := pI (q)) (u := .int .i64 (q)) (fun _ _ => .int _ _ _)
        have O2 := O1.setAt HA.out (j := 1) rfl (q := pI (q + 1)) (u := .int .i64 (q + 1)) (fun _ _ => .int _ _ _)
        have O3 := O2.setAt HA.out (j := 2) rfl (q := pI (q + 1 + 1)) (u := .int .i64 (q + 1 + 1)) (fun _ _ => .int _ _ _)
        simp only [cellsOf_Choice, Nat.mul_one, Nat.add_zero, List.set_cons_zero, List.set_cons_succ] at O3
        have HOE := Lib.hid O3
        try clear O0
        try clear O1
        try clear O2
        try clear O3
        clear hz
        go_wp2
        go_roundw
        case rel =>
          refine ⟨m + 1, q + 1 + 1 + 1, by omega, by go_num, by go_num, E1.out.2.symm, (((HW.out.trans (Turned.set ⟨0, HG.out⟩ _)).trans (Turned.set ⟨0, HG.out⟩ _)).trans (Turned.set ⟨0, HG.out⟩ _)), ?_⟩
          rw [← E1.out.1]
          exact HOE.out
        case measure => simp [intOf]; omega
      · obtain rfl : m = n := by omega
        have e1 : R.take m = R := List.take_of_length_le (by rw [HN.out]; omega)
        have e2 : R.drop m = [] := List.drop_of_length_le (by rw [HN.out]; omega)
        have E1 := Lib.hid e1; have E2 := Lib.hid e2
        clear e1 e2
        go_wp2
        go_ret
        refine ⟨?_, HW.out, ?_⟩
        · rw [HQ.out, E1.out]; rfl
        · have := HOW.out
          rw [E1.out, E2.out, List.append_nil] at this
          exact this
theorem cellsOf_Slice : Try.prog.cellsOf 104 = 3 := by kernel_rfl
set_option maxHeartbeats 8000000 in
theorem mkSliceS_ok (R : List (List PV)) (hs : ShSliceS R) (k : Int) (h0 : 0 ≤ k) (h1 : (mkR R k).2 ≤ 4611686018427387904) :
    MutOk Try.prog 78 (.lst 104 R) k (.lst 104 (mkR R k).1) (mkR R k).2 := by
  obtain ⟨hn, hs⟩ := hs
  refine ⟨⟨_, Try.func78, by kernel_rfl, by kernel_rfl⟩, fun w v Q ho hd hb => ?_⟩
  have ho' : Ow Try.prog w (Q 0) (.lst 104 R) v := ho
  clear hd hb
  rcases ho'.forms with ⟨rfl, rfl⟩ | ⟨g, cap, rfl, hc, hg, hlt, _, _⟩
  · have HO := Lib.hid ho'; clear ho ho'
    go_enter Try.func78, Try.ntmps78
    go_wp2
    go_loop [1, 5] (fun t i => t = .int .i64 k ∧ i = .int .i64 0) (fun _ _ => 0)
    case atStart => exact ⟨rfl, rfl⟩
    case round =>
      obtain ⟨rfl, rfl⟩ := hrel
      go_wp2
      go_ret
      exact ⟨rfl, Turned.refl _ _, HO.out⟩
  · have HO := Lib.hid ho'; clear ho ho'
    have HG := Lib.hid hg; clear hg
    obtain ⟨n, hN⟩ : ∃ n, R.length = n := ⟨_, rfl⟩
    rw [hN] at hn hc HO ⊢
    have HN := Lib.hid hN; clear hN
    have HS := Lib.hid hs; clear hs
    have H1 := Lib.hid h1; clear h1
    go_enter Try.func78, Try.ntmps78
    go_wp2
    go_loopw [1, 5] (fun t i wr => ∃ (m : Nat) (q : Int), m ≤ n ∧ i = .int .i64 m ∧ t = .int .i64 q ∧ q = (mkR (R.take m) k).2 ∧ Turned (fun g => ∃ i, Q i g) w wr ∧ Ow Try.prog wr (Q 0) (.lst 104 ((mkR (R.take m) k).1 ++ R.drop m)) (.slice (some ⟨g, 0, none⟩) n cap)) (fun _ i _ => n - (intOf i).toNat)
    case atStart => exact ⟨0, k, Nat.zero_le _, rfl, rfl, rfl, Turned.refl _ _, HO.out⟩
    case round =>
      obtain ⟨m, q, hm, rfl, rfl, hq, hw, how⟩ := hrel
      have HW := Lib.hid hw; clear hw
      have HOW := Lib.hid how; clear how
      have HQ := Lib.hid hq; clear hq
      by_cases hlt : m < n
      · obtain ⟨r, hr⟩ : ∃ r, R[m]? = some r := ⟨R[m]'(by rw [HN.out]; exact hlt), List.getElem?_eq_getElem _⟩
        have hA : (mkR (R.take m) k).1.length = m := by rw [mkR_len, List.length_take, HN.out]; omega
        have hq0 : 0 ≤ q := by rw [HQ.out]; exact Int.le_trans h0 (mkR_le _ _)
        have hq1 : (mkL r q).2 ≤ 4611686018427387904 := by
          have h3 := mkR_mono R (m + 1) k
          rw [mkR_take hr, ← HQ.out] at h3
          exact Int.le_trans h3 H1.out
        obtain ⟨x0, x1, x2, rfl⟩ := HS.out r (List.mem_of_getElem? hr)
        have O0 : Ow Try.prog wr (Q 0) (.lst 104 ((mkR (R.take m) k).1 ++ [pI x0, pI x1, pI x2] :: R.drop (m + 1))) (.slice (some ⟨g, 0, none⟩) n cap) := by rw [← drop_at hr]; exact HOW.out
        have E1 : Hid ((mkR (R.take m) k).1 ++ [pI q, pI (q + 1), pI (q + 1 + 1)] :: R.drop (m + 1) = (mkR (R.take (m + 1)) k).1 ++ R.drop (m + 1) ∧ (mkR (R.take (m + 1)) k).2 = q + 1 + 1 + 1) := Lib.hid (by
          rw [mkR_take hr, ← HQ.out]
          simp [mkL, mkP, pI])
        simp only [mkL, mkP, pI] at hq1
        have HA := Lib.hid hA; clear hr hA
        have hcm : m < cap := by omega
        obtain ⟨y0, c0, _⟩ := O0.cellAt HA.out (j := 0) rfl
        obtain ⟨y1, c1, _⟩ := O0.cellAt HA.out (j := 1) rfl
        obtain ⟨y2, c2, _⟩ := O0.cellAt HA.out (j := 2) rfl
        simp only [cellsOf_Slice, Nat.mul_one, Nat.add_zero] at c0 c1 c2
        have hz : ∀ i, wr.frozen? ⟨g, i, none⟩ = false := by
          rcases O0.forms with ⟨h3, _⟩ | ⟨g', cap', h3, _, _, _, h4, _⟩
          · cases h3
          · injection h3 with h3 _ _
            injection h3 with h3
            injection h3 with h3
            subst h3; exact h4
        have z0 := hz (m * 3)
        have z1 := hz (m * 3 + 1)
        have z2 := hz (m * 3 + 2)
        have O1 := O0.setAt HA.out (j := 0) rfl (q := pI (q)) (u := .int .i64 (q)) (fun _ _ => .int _ _ _)
        have O2 := O1.setAt HA.out (j := 1) rfl (q := pI (q + 1)) (u := .int .i64 (q + 1)) (fun _ _ => .int _ _ _)
        have O3 := O2.setAt HA.out (j := 2) rfl (q := pI (q + 1 + 1)) (u := .int .i64 (q + 1 + 1)) (fun _ _ => .int _ _ _)
        simp only [cellsOf_Slice, Nat.mul_one, Nat.add_zero, List.set_cons_zero, List.set_cons_succ] at O3
        have HOE := Lib.hid O3
        try clear O0
        try clear O1
        try clear O2
        try clear O3
        clear hz
        go_wp2
        go_roundw
        case rel =>
          refine ⟨m + 1, q + 1 + 1 + 1, by omega, by go_num, by go_num, E1.out.2.symm, (((HW.out.trans (Turned.set ⟨0, HG.out⟩ _)).trans (Turned.set ⟨0, HG.out⟩ _)).trans (Turned.set ⟨0, HG.out⟩ _)), ?_⟩
          rw [← E1.out.1]
          exact HOE.out
        case measure => simp [intOf]; omega
      · obtain rfl : m = n := by omega
        have e1 : R.take m = R := List.take_of_length_le (by rw [HN.out]; omega)
        have e2 : R.drop m = [] := List.drop_of_length_le (by rw [HN.out]; omega)
        have E1 := Lib.hid e1; have E2 := Lib.hid e2
        clear e1 e2
        go_wp2
        go_ret
        refine ⟨?_, HW.out, ?_⟩
        · rw [HQ.out, E1.out]; rfl
        · have := HOW.out
          rw [E1.out, E2.out, List.append_nil] at this
          exact this
theorem cellsOf_Thread : Try.prog.cellsOf 134 = 4 := by kernel_rfl
set_option maxHeartbeats 8000000 in
theorem mkThreadS_ok (R : List (List PV)) (hs : ShThreadS R) (k : Int) (h0 : 0 ≤ k) (h1 : (mkR R k).2 ≤ 4611686018427387904) :
    MutOk Try.prog 90 (.lst 134 R) k (.lst 134 (mkR R k).1) (mkR R k).2 := by
  obtain ⟨hn, hs⟩ := hs
  refine ⟨⟨_, Try.func90, by kernel_rfl, by kernel_rfl⟩, fun w v Q ho hd hb => ?_⟩
  have ho' : Ow Try.prog w (Q 0) (.lst 134 R) v := ho
  clear hd hb
  rcases ho'.forms with ⟨rfl, rfl⟩ | ⟨g, cap, rfl, hc, hg, hlt, _, _⟩
  · have HO := Lib.hid ho'; clear ho ho'
    go_enter Try.func90, Try.ntmps90
    go_wp2
    go_loop [1, 5] (fun t i => t = .int .i64 k ∧ i = .int .i64 0) (fun _ _ => 0)
    case atStart => exact ⟨rfl, rfl⟩
    case round =>
      obtain ⟨rfl, rfl⟩ := hrel
      go_wp2
      go_ret
      exact ⟨rfl, Turned.refl _ _, HO.out⟩
  · have HO := Lib.hid ho'; clear ho ho'
    have HG := Lib.hid hg; clear hg
    obtain ⟨n, hN⟩ : ∃ n, R.length = n := ⟨_, rfl⟩
    rw [hN] at hn hc HO ⊢
    have HN := Lib.hid hN; clear hN
    have HS := Lib.hid hs; clear hs
    have H1 := Lib.hid h1; clear h1
    go_enter Try.func90, Try.ntmps90
    go_wp2
    go_loopw [1, 5] (fun t i wr => ∃ (m : Nat) (q : Int), m ≤ n ∧ i = .int .i64 m ∧ t = .int .i64 q ∧ q = (mkR (R.take m) k).2 ∧ Turned (fun g => ∃ i, Q i g) w wr ∧ Ow Try.prog wr (Q 0) (.lst 134 ((mkR (R.take m) k).1 ++ R.drop m)) (.slice (some ⟨g, 0, none⟩) n cap)) (fun _ i _ => n - (intOf i).toNat)
    case atStart => exact ⟨0, k, Nat.zero_le _, rfl, rfl, rfl, Turned.refl _ _, HO.out⟩
    case round =>
      obtain ⟨m, q, hm, rfl, rfl, hq, hw, how⟩ := hrel
      have HW := Lib.hid hw; clear hw
      have HOW := Lib.hid how; clear how
      have HQ := Lib.hid hq; clear hq
      by_cases hlt : m < n
      · obtain ⟨r, hr⟩ : ∃ r, R[m]? = some r := ⟨R[m]'(by rw [HN.out]; exact hlt), List.getElem?_eq_getElem _⟩
        have hA : (mkR (R.take m) k).1.length = m := by rw [mkR_len, List.length_take, HN.out]; omega
        have hq0 : 0 ≤ q := by rw [HQ.out]; exact Int.le_trans h0 (mkR_le _ _)
        have hq1 : (mkL r q).2 ≤ 4611686018427387904 := by
          have h3 := mkR_mono R (m + 1) k
          rw [mkR_take hr, ← HQ.out] at h3
          exact Int.le_trans h3 H1.out
        obtain ⟨x0, x1, x2, x3, rfl, s1, s2⟩ := HS.out r (List.mem_of_getElem? hr)
        obtain ⟨q1, e1⟩ : ∃ z, z = (mkR x1 (q + 1)).2 := ⟨_, rfl⟩
        obtain ⟨q2, e2⟩ : ∃ z, z = (mkR x2 (q1)).2 := ⟨_, rfl⟩
        have O0 : Ow Try.prog wr (Q 0) (.lst 134 ((mkR (R.take m) k).1 ++ [pI x0, .lst 3 x1, .lst 3 x2, pI x3] :: R.drop (m + 1))) (.slice (some ⟨g, 0, none⟩) n cap) := by rw [← drop_at hr]; exact HOW.out
        have E1 : Hid ((mkR (R.take m) k).1 ++ [pI q, .lst 3 (mkR x1 (q + 1)).1, .lst 3 (mkR x2 (q1)).1, pI q2] :: R.drop (m + 1) = (mkR (R.take (m + 1)) k).1 ++ R.drop (m + 1) ∧ (mkR (R.take (m + 1)) k).2 = q2 + 1) := Lib.hid (by
          rw [mkR_take hr, ← HQ.out]
          simp [mkL, mkP, pI, ← e1, ← e2])
        simp only [mkL, mkP, pI, ← e1, ← e2] at hq1
        have l1 : q + 1 ≤ q1 := by rw [e1]; exact mkR_le _ _
        have HE1 := Lib.hid e1; clear e1
        have l2 : q1 ≤ q2 := by rw [e2]; exact mkR_le _ _
        have HE2 := Lib.hid e2; clear e2
        have HA := Lib.hid hA; clear hr hA
        have hcm : m < cap := by omega
        obtain ⟨y0, c0, _⟩ := O0.cellAt HA.out (j := 0) rfl
        obtain ⟨y1, c1, _⟩ := O0.cellAt HA.out (j := 1) rfl
        simp only [cellsOf_Thread, Nat.mul_one, Nat.add_zero] at c0 c1
        have hz : ∀ i, wr.frozen? ⟨g, i, none⟩ = false := by
          rcases O0.forms with ⟨h3, _⟩ | ⟨g', cap', h3, _, _, _, h4, _⟩
          · cases h3
          · injection h3 with h3 _ _
            injection h3 with h3
            injection h3 with h3
            subst h3; exact h4
        have z0 := hz (m * 4)
        have O1 := O0.setAt HA.out (j := 0) rfl (q := pI (q)) (u := .int .i64 (q)) (fun _ _ => .int _ _ _)
        simp only [cellsOf_Thread, Nat.mul_one, Nat.add_zero, List.set_cons_zero, List.set_cons_succ] at O1
        obtain ⟨x', cx, T, hsub, hT, plug⟩ := O1.cellAt HA.out (j := 1) rfl
        have ex : x' = y1 := by
          simp only [cellsOf_Thread, Nat.mul_one, Nat.add_zero] at cx
          rw [cell_set_far _ (by omega)] at cx
          exact Option.some.inj (cx.symm.trans c1)
        subst ex; clear cx
        have HSUB := Lib.hid hsub; have HT := Lib.hid hT; have HP := Lib.hid plug; clear hsub hT plug
        clear hz
        go_wp2_with fail
        refine ((mkIntS_ok x1 s1 (q + 1) (by omega) (by rw [← HE1.out]; omega)).2 _ _ (fun j g => j = 0 ∧ T g) (Ow.mono HSUB.out (fun g hg => ⟨rfl, hg⟩)) (fun i j g h3 h4 => by rw [h3.1, h4.1]) (fun i g h3 => (HT.out g h3.2).2.2)).mono ?_
        rw [← HE1.out]
        rintro e w1 ⟨rfl, ht, ho2⟩
        have O2 := HP.out w1 _ (ht.mono (fun g ⟨_, _, h3⟩ _ => h3)) (Ow.mono ho2 (fun g h3 => h3.2))
        simp only [List.set_cons_zero, List.set_cons_succ] at O2
        have HW1 := Lib.hid ((HW.out.trans (Turned.set ⟨0, HG.out⟩ _)).trans (ht.mono (fun g ⟨_, _, h3⟩ _ => ⟨0, (HT.out g h3).1⟩)))
        clear ht ho2 HSUB HT HP
        clear c0
        clear c1
        clear z0
        obtain ⟨y2, c2, _⟩ := O2.cellAt HA.out (j := 2) rfl
        simp only [cellsOf_Thread, Nat.mul_one, Nat.add_zero] at c2
        obtain ⟨x', cx, T, hsub, hT, plug⟩ := O2.cellAt HA.out (j := 2) rfl
        have ex : x' = y2 := by
          simp only [cellsOf_Thread, Nat.mul_one, Nat.add_zero] at cx
          exact Option.some.inj (cx.symm.trans c2)
        subst ex; clear cx
        have HSUB := Lib.hid hsub; have HT := Lib.hid hT; have HP := Lib.hid plug; clear hsub hT plug
        go_wp2_with fail
        refine ((mkIntS_ok x2 s2 (q1) (by omega) (by rw [← HE2.out]; omega)).2 _ _ (fun j g => j = 0 ∧ T g) (Ow.mono HSUB.out (fun g hg => ⟨rfl, hg⟩)) (fun i j g h3 h4 => by rw [h3.1, h4.1]) (fun i g h3 => (HT.out g h3.2).2.2)).mono ?_
        rw [← HE2.out]
        rintro e w2 ⟨rfl, ht, ho2⟩
        have O3 := HP.out w2 _ (ht.mono (fun g ⟨_, _, h3⟩ _ => h3)) (Ow.mono ho2 (fun g h3 => h3.2))
        simp only [List.set_cons_zero, List.set_cons_succ] at O3
        have HW2 := Lib.hid (HW1.out.trans (ht.mono (fun g ⟨_, _, h3⟩ _ => ⟨0, (HT.out g h3).1⟩)))
        clear ht ho2 HSUB HT HP
        clear c2
        obtain ⟨y3, c3, _⟩ := O3.cellAt HA.out (j := 3) rfl
        simp only [cellsOf_Thread, Nat.mul_one, Nat.add_zero] at c3
        have hz : ∀ i, w2.frozen? ⟨g, i, none⟩ = false := by
          rcases O3.forms with ⟨h3, _⟩ | ⟨g', cap', h3, _, _, _, h4, _⟩
          · cases h3
          · injection h3 with h3 _ _
            injection h3 with h3
            injection h3 with h3
            subst h3; exact h4
        have z3 := hz (m * 4 + 3)
        have O4 := O3.setAt HA.out (j := 3) rfl (q := pI (q2)) (u := .int .i64 (q2)) (fun _ _ => .int _ _ _)
        simp only [cellsOf_Thread, Nat.mul_one, Nat.add_zero, List.set_cons_zero, List.set_cons_succ] at O4
        have HOE := Lib.hid O4
        try clear O0
        try clear O1
        try clear O2
        try clear O3
        try clear O4
        clear hz
        go_wp2
        go_roundw
        case rel =>
          refine ⟨m + 1, q2 + 1, by omega, by go_num, by go_num, E1.out.2.symm, (HW2.out.trans (Turned.set ⟨0, HG.out⟩ _)), ?_⟩
          rw [← E1.out.1]
          exact HOE.out
        case measure => simp [intOf]; omega
      · obtain rfl : m = n := by omega
        have e1 : R.take m = R := List.take_of_length_le (by rw [HN.out]; omega)
        have e2 : R.drop m = [] := List.drop_of_length_le (by rw [HN.out]; omega)
        have E1 := Lib.hid e1; have E2 := Lib.hid e2
        clear e1 e2
        go_wp2
        go_ret
        refine ⟨?_, HW.out, ?_⟩
        · rw [HQ.out, E1.out]; rfl
        · have := HOW.out
          rw [E1.out, E2.out, List.append_nil] at this
          exact this
theorem cellsOf_Machine : Try.prog.cellsOf 41 = 4 := by kernel_rfl
set_option maxHeartbeats 4000000 in
theorem mkProgram_ok (x0 : List (List PV)) (x1 : Int) (s0 : ShCodeS x0) (k : Int) (h0 : 0 ≤ k) (h1 : (mkR x0 (k)).2 ≤ 4611686018427387904) :
    MutOk Try.prog 37 (.agg [.lst 141 x0, pI x1]) k (.agg [.lst 141 (mkR x0 (k)).1, pI x1]) (mkR x0 (k)).2 := by
  refine ⟨⟨_, Try.func37, by kernel_rfl, by kernel_rfl⟩, fun w v Q ho hd hb => ?_⟩
  obtain ⟨vs, rfl, hl, ho⟩ := ho
  match vs, hl with
  | [v0, v1], _ =>
    have O0 : Ow Try.prog w (Q 0) (.lst 141 x0) v0 := ho 0 (by simp)
    have HO0 := Lib.hid O0
    have V0 : ∃ A n c, v0 = .slice A n c := by rcases HO0.out.forms with ⟨h, _⟩ | ⟨g, cap, h, _⟩ <;> exact ⟨_, _, _, h⟩
    obtain ⟨A0, n0, c0, rfl⟩ := V0
    clear O0
    have O1 : Ow Try.prog w (Q 1) (pI x1) v1 := ho 1 (by simp)
    obtain rfl : v1 = .int .i64 x1 := by cases O1; rfl
    clear O1
    clear ho
    have HD := Lib.hid hd; have HB := Lib.hid hb; clear hd hb
    obtain ⟨q1, e1⟩ : ∃ z, z = (mkR x0 k).2 := ⟨_, rfl⟩
    have l1 : k ≤ q1 := by rw [e1]; exact mkR_le _ _
    simp only [← e1] at h1 ⊢
    have HE1 := Lib.hid e1; clear e1
    go_enter Try.func37, Try.ntmps37
    go_wp2_with fail
    obtain ⟨W0, hW0⟩ : ∃ W : World, W = w.alloc (.cells #[.slice A0 n0 c0, .int .i64 x1] 61) := ⟨_, rfl⟩
    have hb0 : Below w.heap.size w W0 := by rw [hW0]; exact (Below.refl _ _).alloc (Nat.le_refl _) _
    have hs0 : w.heap.size < W0.heap.size := by rw [hW0]; simp
    have p0 : W0.cell? ⟨w.heap.size, 0, none⟩ = some (.slice A0 n0 c0) := by rw [hW0]; go_simp
    have p1 : W0.cell? ⟨w.heap.size, 1, none⟩ = some (.int .i64 x1) := by rw [hW0]; go_simp
    have P0 := Lib.hid (HO0.out.keep (w' := W0) (fun g hg _ => hb0.block g (HB.out 0 g hg)))
    have HT := Lib.hid (show Turned (fun g => ∃ i, Q i g) w W0 from ⟨hb0.os, hb0.tape, hb0.output, hb0.size, fun b hb _ => hb0.block b hb⟩)
    have HS := Lib.hid hs0; clear hs0 hb0
    rw [← hW0]; clear hW0
    refine ((mkCodeS_ok x0 s0 k (by omega) (by rw [← HE1.out]; omega)).2 _ _ (fun j g => j = 0 ∧ Q 0 g) (Ow.mono P0.out (fun g hg => ⟨rfl, hg⟩)) (fun i j g h3 h4 => by rw [h3.1, h4.1]) (fun i g h3 => Nat.lt_of_lt_of_le (HB.out _ g h3.2) (Nat.le_of_lt HS.out))).mono ?_
    rw [← HE1.out]
    rintro e W1 ⟨rfl, ht, ho2⟩
    have P0_1 := Lib.hid (Ow.mono ho2 (fun g h3 => h3.2) : Ow Try.prog W1 (Q 0) _ _)
    replace p0 := ht.cell (a := ⟨w.heap.size, 0, none⟩) HS.out (fun ⟨_, _, h4⟩ => absurd (HB.out _ _ h4) (Nat.lt_irrefl _)) p0
    replace p1 := ht.cell (a := ⟨w.heap.size, 1, none⟩) HS.out (fun ⟨_, _, h4⟩ => absurd (HB.out _ _ h4) (Nat.lt_irrefl _)) p1
    have HT1 := Lib.hid (HT.out.trans (ht.mono (fun g ⟨_, _, h4⟩ _ => ⟨_, h4⟩)))
    replace HS := Lib.hid (Nat.lt_of_lt_of_le HS.out ht.size)
    clear ht ho2
    go_wp2
    go_ret
    refine ⟨rfl, HT1.out, [.slice A0 n0 c0, .int .i64 x1], rfl, rfl, fun i hi => ?_⟩
    have hi' : i < 2 := hi
    match i, hi' with
    | 0, _ => exact P0_1.out
    | 1, _ => exact .int _ _ _
set_option maxHeartbeats 4000000 in
theorem mkRecord_ok (x0 : List (List PV)) (x1 : List (List PV)) (s0 : ShSliceS x0) (s1 : ShIntS x1) (k : Int) (h0 : 0 ≤ k) (h1 : (mkR x1 ((mkR x0 (k)).2)).2 ≤ 4611686018427387904) :
    MutOk Try.prog 38 (.agg [.lst 104 x0, .lst 3 x1]) k (.agg [.lst 104 (mkR x0 (k)).1, .lst 3 (mkR x1 ((mkR x0 (k)).2)).1]) (mkR x1 ((mkR x0 (k)).2)).2 := by
  refine ⟨⟨_, Try.func38, by kernel_rfl, by kernel_rfl⟩, fun w v Q ho hd hb => ?_⟩
  obtain ⟨vs, rfl, hl, ho⟩ := ho
  match vs, hl with
  | [v0, v1], _ =>
    have O0 : Ow Try.prog w (Q 0) (.lst 104 x0) v0 := ho 0 (by simp)
    have HO0 := Lib.hid O0
    have V0 : ∃ A n c, v0 = .slice A n c := by rcases HO0.out.forms with ⟨h, _⟩ | ⟨g, cap, h, _⟩ <;> exact ⟨_, _, _, h⟩
    obtain ⟨A0, n0, c0, rfl⟩ := V0
    clear O0
    have O1 : Ow Try.prog w (Q 1) (.lst 3 x1) v1 := ho 1 (by simp)
    have HO1 := Lib.hid O1
    have V1 : ∃ A n c, v1 = .slice A n c := by rcases HO1.out.forms with ⟨h, _⟩ | ⟨g, cap, h, _⟩ <;> exact ⟨_, _, _, h⟩
    obtain ⟨A1, n1, c1, rfl⟩ := V1
    clear O1
    clear ho
    have HD := Lib.hid hd; have HB := Lib.hid hb; clear hd hb
    obtain ⟨q1, e1⟩ : ∃ z, z = (mkR x0 k).2 := ⟨_, rfl⟩
    have l1 : k ≤ q1 := by rw [e1]; exact mkR_le _ _
    obtain ⟨q2, e2⟩ : ∃ z, z = (mkR x1 q1).2 := ⟨_, rfl⟩
    have l2 : q1 ≤ q2 := by rw [e2]; exact mkR_le _ _
    simp only [← e1, ← e2] at h1 ⊢
    have HE1 := Lib.hid e1; clear e1
    have HE2 := Lib.hid e2; clear e2
    go_enter Try.func38, Try.ntmps38
    go_wp2_with fail
    obtain ⟨W0, hW0⟩ : ∃ W : World, W = w.alloc (.cells #[.slice A0 n0 c0, .slice A1 n1 c1] 56) := ⟨_, rfl⟩
    have hb0 : Below w.heap.size w W0 := by rw [hW0]; exact (Below.refl _ _).alloc (Nat.le_refl _) _
    have hs0 : w.heap.size < W0.heap.size := by rw [hW0]; simp
    have p0 : W0.cell? ⟨w.heap.size, 0, none⟩ = some (.slice A0 n0 c0) := by rw [hW0]; go_simp
    have p1 : W0.cell? ⟨w.heap.size, 1, none⟩ = some (.slice A1 n1 c1) := by rw [hW0]; go_simp
    have P0 := Lib.hid (HO0.out.keep (w' := W0) (fun g hg _ => hb0.block g (HB.out 0 g hg)))
    have P1 := Lib.hid (HO1.out.keep (w' := W0) (fun g hg _ => hb0.block g (HB.out 1 g hg)))
    have HT := Lib.hid (show Turned (fun g => ∃ i, Q i g) w W0 from ⟨hb0.os, hb0.tape, hb0.output, hb0.size, fun b hb _ => hb0.block b hb⟩)
    have HS := Lib.hid hs0; clear hs0 hb0
    rw [← hW0]; clear hW0
    refine ((mkSliceS_ok x0 s0 k (by omega) (by rw [← HE1.out]; omega)).2 _ _ (fun j g => j = 0 ∧ Q 0 g) (Ow.mono P0.out (fun g hg => ⟨rfl, hg⟩)) (fun i j g h3 h4 => by rw [h3.1, h4.1]) (fun i g h3 => Nat.lt_of_lt_of_le (HB.out _ g h3.2) (Nat.le_of_lt HS.out))).mono ?_
    rw [← HE1.out]
    rintro e W1 ⟨rfl, ht, ho2⟩
    have P0_1 := Lib.hid (Ow.mono ho2 (fun g h3 => h3.2) : Ow Try.prog W1 (Q 0) _ _)
    have P1_1 := Lib.hid (ht.ow P1.out (fun g h3 ⟨_, _, h4⟩ => absurd (HD.out _ _ g h3 h4) (by decide)))
    replace p0 := ht.cell (a := ⟨w.heap.size, 0, none⟩) HS.out (fun ⟨_, _, h4⟩ => absurd (HB.out _ _ h4) (Nat.lt_irrefl _)) p0
    replace p1 := ht.cell (a := ⟨w.heap.size, 1, none⟩) HS.out (fun ⟨_, _, h4⟩ => absurd (HB.out _ _ h4) (Nat.lt_irrefl _)) p1
    have HT1 := Lib.hid (HT.out.trans (ht.mono (fun g ⟨_, _, h4⟩ _ => ⟨_, h4⟩)))
    replace HS := Lib.hid (Nat.lt_of_lt_of_le HS.out ht.size)
    clear ht ho2
    go_wp2_with fail
    refine ((mkIntS_ok x1 s1 q1 (by omega) (by rw [← HE2.out]; omega)).2 _ _ (fun j g => j = 0 ∧ Q 1 g) (Ow.mono P1_1.out (fun g hg => ⟨rfl, hg⟩)) (fun i j g h3 h4 => by rw [h3.1, h4.1]) (fun i g h3 => Nat.lt_of_lt_of_le (HB.out _ g h3.2) (Nat.le_of_lt HS.out))).mono ?_
    rw [← HE2.out]
    rintro e W2 ⟨rfl, ht, ho2⟩
    have P0_2 := Lib.hid (ht.ow P0_1.out (fun g h3 ⟨_, _, h4⟩ => absurd (HD.out _ _ g h3 h4) (by decide)))
    have P1_2 := Lib.hid (Ow.mono ho2 (fun g h3 => h3.2) : Ow Try.prog W2 (Q 1) _ _)
    replace p0 := ht.cell (a := ⟨w.heap.size, 0, none⟩) HS.out (fun ⟨_, _, h4⟩ => absurd (HB.out _ _ h4) (Nat.lt_irrefl _)) p0
    replace p1 := ht.cell (a := ⟨w.heap.size, 1, none⟩) HS.out (fun ⟨_, _, h4⟩ => absurd (HB.out _ _ h4) (Nat.lt_irrefl _)) p1
    have HT2 := Lib.hid (HT1.out.trans (ht.mono (fun g ⟨_, _, h4⟩ _ => ⟨_, h4⟩)))
    replace HS := Lib.hid (Nat.lt_of_lt_of_le HS.out ht.size)
    clear ht ho2
    go_wp2
    go_ret
    refine ⟨rfl, HT2.out, [.slice A0 n0 c0, .slice A1 n1 c1], rfl, rfl, fun i hi => ?_⟩
    have hi' : i < 2 := hi
    match i, hi' with
    | 0, _ => exact P0_2.out
    | 1, _ => exact P1_2.out
end Av
end Go.Proofs.Ytbkbppllcjcmhaa
