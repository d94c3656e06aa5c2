/-
  Rows of parts and of truths: shapes, marks, whether they are equal, what laws make of them, and how long these are.
-/
import Derived.Test.YtbkbppllcjcmhaaGreatTyM
import Derived.Test.YtbkbppllcjcmhaaGreatTyT
import Derived.Test.YtbkbppllcjcmhaaGreatTyE
import Derived.Test.YtbkbppllcjcmhaaGreatTyH
set_option linter.unusedSimpArgs false
set_option linter.unusedVariables false
namespace Go.Proofs.YtbkbppllcjcmhaaGreat
open Go.RowKit
namespace Av
def ShPart (r : List PV) : Prop := ∃ (a0 : Int) (a1 : Int) (a2 : Int), r = [pI a0, pI a1, pI a2]
def ShPartS (R : List (List PV)) : Prop := R.length ≤ 1048576 ∧ ∀ r ∈ R, ShPart r
theorem cellsOf_Part : Tryz.prog.cellsOf 75 = 3 := by kernel_rfl
set_option maxHeartbeats 8000000 in
theorem mkPartS_ok (R : List (List PV)) (hs : ShPartS R) (k : Int) (h0 : 0 ≤ k) (h1 : (mkR R k).2 ≤ 4611686018427387904) :
    MutOk Tryz.prog 19 (.lst 75 R) k (.lst 75 (mkR R k).1) (mkR R k).2 := by
  obtain ⟨hn, hs⟩ := hs
  refine ⟨⟨_, Tryz.func19, by kernel_rfl, by kernel_rfl⟩, fun w v Q ho hd hb => ?_⟩
  have ho' : Ow Tryz.prog w (Q 0) (.lst 75 R) v := ho
  clear hd hb
  rcases ho'.forms with ⟨rfl, rfl⟩ | ⟨g, cap, rfl, hc, hg, hlt, _, _⟩
  · have HO := Lib.hid ho'; clear ho ho'
    go_enter Tryz.func19, Tryz.ntmps19
    go_wp2
    go_loop [1, 5] (fun t i => t = .int .i64 k ∧ i = .int .i64 0) (fun _ _ => 0)
    case atStart => exact ⟨rfl, rfl⟩
    case round =>
      obtain ⟨rfl, rfl⟩ := hrel
      go_wp2
      go_ret
      exact ⟨rfl, Turned.refl _ _, HO.out⟩
  · have HO := Lib.hid ho'; clear ho ho'
    have HG := Lib.hid hg; clear hg
    obtain ⟨n, hN⟩ : ∃ n, R.length = n := ⟨_, rfl⟩
    rw [hN] at hn hc HO ⊢
    have HN := Lib.hid hN; clear hN
    have HS := Lib.hid hs; clear hs
    have H1 := Lib.hid h1; clear h1
    go_enter Tryz.func19, Tryz.ntmps19
    go_wp2
    go_loopw [1, 5] (fun t i wr => ∃ (m : Nat) (q : Int), m ≤ n ∧ i = .int .i64 m ∧ t = .int .i64 q ∧ q = (mkR (R.take m) k).2 ∧ Turned (fun g => ∃ i, Q i g) w wr ∧ Ow Tryz.prog wr (Q 0) (.lst 75 ((mkR (R.take m) k).1 ++ R.drop m)) (.slice (some ⟨g, 0, none⟩) n cap)) (fun _ i _ => n - (intOf i).toNat)
    case atStart => exact ⟨0, k, Nat.zero_le _, rfl, rfl, rfl, Turned.refl _ _, HO.out⟩
    case round =>
      obtain ⟨m, q, hm, rfl, rfl, hq, hw, how⟩ := hrel
      have HW := Lib.hid hw; clear hw
      have HOW := Lib.hid how; clear how
      have HQ := Lib.hid hq; clear hq
      by_cases hlt : m < n
      · obtain ⟨r, hr⟩ : ∃ r, R[m]? = some r := ⟨R[m]'(by rw [HN.out]; exact hlt), List.getElem?_eq_getElem _⟩
        have hA : (mkR (R.take m) k).1.length = m := by rw [mkR_len, List.length_take, HN.out]; omega
        have hq0 : 0 ≤ q := by rw [HQ.out]; exact Int.le_trans h0 (mkR_le _ _)
        have hq1 : (mkL r q).2 ≤ 4611686018427387904 := by
          have h3 := mkR_mono R (m + 1) k
          rw [mkR_take hr, ← HQ.out] at h3
          exact Int.le_trans h3 H1.out
        obtain ⟨x0, x1, x2, rfl⟩ := HS.out r (List.mem_of_getElem? hr)
        have O0 : Ow Tryz.prog wr (Q 0) (.lst 75 ((mkR (R.take m) k).1 ++ [pI x0, pI x1, pI x2] :: R.drop (m + 1))) (.slice (some ⟨g, 0, none⟩) n cap) := by rw [← drop_at hr]; exact HOW.out
        have E1 : Hid ((mkR (R.take m) k).1 ++ [pI q, pI (q + 1), pI (q + 1 + 1)] :: R.drop (m + 1) = (mkR (R.take (m + 1)) k).1 ++ R.drop (m + 1) ∧ (mkR (R.take (m + 1)) k).2 = q + 1 + 1 + 1) := Lib.hid (by
          rw [mkR_take hr, ← HQ.out]
          simp [mkL, mkP, pI])
        simp only [mkL, mkP, pI] at hq1
        have HA := Lib.hid hA; clear hr hA
        have hcm : m < cap := by omega
        obtain ⟨y0, c0, _⟩ := O0.cellAt HA.out (j := 0) rfl
        obtain ⟨y1, c1, _⟩ := O0.cellAt HA.out (j := 1) rfl
        obtain ⟨y2, c2, _⟩ := O0.cellAt HA.out (j := 2) rfl
        simp only [cellsOf_Part, Nat.mul_one, Nat.add_zero] at c0 c1 c2
        have hz : ∀ i, wr.frozen? ⟨g, i, none⟩ = false := by
          rcases O0.forms with ⟨h3, _⟩ | ⟨g', cap', h3, _, _, _, h4, _⟩
          · cases h3
          · injection h3 with h3 _ _
            injection h3 with h3
            injection h3 with h3
            subst h3; exact h4
        have z0 := hz (m * 3)
        have z1 := hz (m * 3 + 1)
        have z2 := hz (m * 3 + 2)
        have O1 := O0.setAt HA.out (j := 0) rfl (q := pI (q)) (u := .int .i64 (q)) (fun _ _ => .int _ _ _)
        have O2 := O1.setAt HA.out (j := 1) rfl (q := pI (q + 1)) (u := .int .i64 (q + 1)) (fun _ _ => .int _ _ _)
        have O3 := O2.setAt HA.out (j := 2) rfl (q := pI (q + 1 + 1)) (u := .int .i64 (q + 1 + 1)) (fun _ _ => .int _ _ _)
        simp only [cellsOf_Part, Nat.mul_one, Nat.add_zero, List.set_cons_zero, List.set_cons_succ] at O3
        have HOE := Lib.hid O3
        try clear O0
        try clear O1
        try clear O2
        try clear O3
        clear hz
        go_wp2
        go_roundw
        case rel =>
          refine ⟨m + 1, q + 1 + 1 + 1, by omega, by go_num, by go_num, E1.out.2.symm, (((HW.out.trans (Turned.set ⟨0, HG.out⟩ _)).trans (Turned.set ⟨0, HG.out⟩ _)).trans (Turned.set ⟨0, HG.out⟩ _)), ?_⟩
          rw [← E1.out.1]
          exact HOE.out
        case measure => simp [intOf]; omega
      · obtain rfl : m = n := by omega
        have e1 : R.take m = R := List.take_of_length_le (by rw [HN.out]; omega)
        have e2 : R.drop m = [] := List.drop_of_length_le (by rw [HN.out]; omega)
        have E1 := Lib.hid e1; have E2 := Lib.hid e2
        clear e1 e2
        go_wp2
        go_ret
        refine ⟨?_, HW.out, ?_⟩
        · rw [HQ.out, E1.out]; rfl
        · have := HOW.out
          rw [E1.out, E2.out, List.append_nil] at this
          exact this
set_option maxRecDepth 10000 in
set_option maxHeartbeats 4000000 in
theorem eqPart_ok (r : List PV) (hs : ShPart r) : FnOk E.P 43 [.agg r, .agg r] (.bool true) true := by
  obtain ⟨a0, a1, a2, rfl⟩ := hs
  refine fn_ok mixed Tryz.func43 rfl (by kernel_rfl) _ Tryz.results43 _ Tryz.ntmps43 (by simp) (by kernel_rfl) ?_
  simp (maxSteps := 2000000) only [pI, tvs, simprocAttr]
  repeat (first | refine ftS (by kernel_rfl) ?_ | refine And.intro (by omega) ?_)
  all_goals (first | rfl | trivial | skip)
set_option maxRecDepth 10000 in
set_option maxHeartbeats 4000000 in
theorem eqPartS_ok (R : List (List PV)) (hs : ShPartS R) : FnOk E.P 16 [.lst 75 R, .lst 75 R] (.bool true) true := by
  obtain ⟨hn, hs⟩ := hs
  refine fn_ok mixed Tryz.func16 rfl (by kernel_rfl) _ Tryz.results16 _ Tryz.ntmps16 (by simp) (by kernel_rfl) ?_
  simp (maxSteps := 2000000) only [pI, tvs, simprocAttr]
  repeat (first | refine ftS (by kernel_rfl) ?_ | refine And.intro (by omega) ?_)
  refine awp_loop (X := Nat) (fun k => [(0, .pv (.lst 75 R)), (1, .pv (.lst 75 R)), (5, .pv (.int .i64 k))]) (fun k => []) (fun k => k ≤ R.length) (fun k => R.length - k) 100 0 (Nat.zero_le _) (by simp (maxSteps := 2000000) only [pI, tvs, simprocAttr]; try rfl) (fun k hk => ?_)
  by_cases hlt : k < R.length
  · have d1 : decide ((k : Int) < (R.length : Int)) = true := by simpa using hlt
    have e1 : R[k]? = some R[k] := List.getElem?_eq_getElem hlt
    have hr := hs R[k] (List.getElem_mem hlt)
    generalize R[k] = r at e1 hr
    have hc := eqPart_ok r hr
    obtain ⟨a0, a1, a2, rfl⟩ := hr
    simp (maxSteps := 2000000) only [d1, e1, pI, tvs, simprocAttr]
    repeat (first | refine ftS (by kernel_rfl) ?_ | refine And.intro (by omega) ?_)
    refine aops_fn (hc) (hidB rfl) rfl ?_
    simp (maxSteps := 2000000) only [d1, e1, pI, tvs, simprocAttr]
    repeat (first | refine ftS (by kernel_rfl) ?_ | refine And.intro (by omega) ?_)
    refine ⟨k + 1, ?_, ?_, ?_⟩
    · omega
    · omega
    · first | omega | (simp; done)
  · have d1 : decide ((k : Int) < (R.length : Int)) = false := by simpa using hlt
    simp (maxSteps := 2000000) only [d1, pI, tvs, simprocAttr]
    repeat (first | refine ftS (by kernel_rfl) ?_ | refine And.intro (by omega) ?_)
    all_goals (first | rfl | trivial | skip)
set_option maxRecDepth 10000 in
set_option maxHeartbeats 4000000 in
theorem toPart_ok (a0 : Int) (a1 : Int) (a2 : Int)  : FnOk E.P 37 [.agg [pI a0, pI a1, pI a2]] (.agg [pI a0, pI a1, pI a2]) true := by
  refine fn_ok mixed Tryz.func37 rfl (by kernel_rfl) _ Tryz.results37 _ Tryz.ntmps37 (by simp) (by kernel_rfl) ?_
  simp (maxSteps := 2000000) only [pI, tvs, simprocAttr]
  repeat (first | refine ftS (by kernel_rfl) ?_ | refine And.intro (by omega) ?_)
  all_goals (first | rfl | trivial | skip)
set_option maxRecDepth 10000 in
set_option maxHeartbeats 4000000 in
theorem toPartS_ok (R : List (List PV)) (hs : ShPartS R) : FnOk E.P 11 [.lst 77 R] (.lst 75 R) true := by
  obtain ⟨hn, hs⟩ := hs
  refine fn_ok mixed Tryz.func11 rfl (by kernel_rfl) _ Tryz.results11 _ Tryz.ntmps11 (by simp) (by kernel_rfl) ?_
  simp (maxSteps := 2000000) only [pI, tvs, simprocAttr]
  repeat (first | refine ftS (by kernel_rfl) ?_ | refine And.intro (by omega) ?_)
  refine awp_loop (X := Nat) (fun k => [(0, .pv (.lst 77 R)), (3, .sl 0), (4, .pv (.int .i64 k))]) (fun k => [(0, .row true 75 (fillR R k [.int .i64 0, .int .i64 0, .int .i64 0]))]) (fun k => k ≤ R.length) (fun k => R.length - k) 100 0 (Nat.zero_le _) (by simp (maxSteps := 2000000) only [pI, tvs, simprocAttr]; simp [fillR]) (fun k hk => ?_)
  have hl : (fillR R k [.int .i64 0, .int .i64 0, .int .i64 0]).length = R.length := by simp [fillR]; omega
  by_cases hlt : k < R.length
  · have d1 : decide ((k : Int) < (R.length : Int)) = true := by simpa using hlt
    have e1 : R[k]? = some R[k] := List.getElem?_eq_getElem hlt
    have e2 : (fillR R k [.int .i64 0, .int .i64 0, .int .i64 0])[k]? = some [.int .i64 0, .int .i64 0, .int .i64 0] := fillR_at hlt _
    have e3 := fillR_set (z := [.int .i64 0, .int .i64 0, .int .i64 0]) e1
    have hr := hs R[k] (List.getElem_mem hlt)
    generalize R[k] = r at e1 hr e3
    obtain ⟨a0, a1, a2, rfl⟩ := hr
    simp only [pI] at e1 e3
    simp (maxSteps := 2000000) only [d1, e1, e2, hl, pI, tvs, simprocAttr]
    repeat (first | refine ftS (by kernel_rfl) ?_ | refine And.intro (by omega) ?_)
    refine aops_fn (toPart_ok a0 a1 a2) (hidB rfl) rfl ?_
    simp (maxSteps := 2000000) only [d1, e1, e2, hl, pI, tvs, simprocAttr]
    repeat (first | refine ftS (by kernel_rfl) ?_ | refine And.intro (by omega) ?_)
    refine ⟨k + 1, ?_, ?_, ?_⟩
    · omega
    · omega
    · simp only [e3]
      first | omega | (refine ⟨by omega, ?_⟩; simp; done) | (simp; done)
  · have d1 : decide ((k : Int) < (R.length : Int)) = false := by simpa using hlt
    have e1 : fillR R k [.int .i64 0, .int .i64 0, .int .i64 0] = R := by simp [fillR, List.take_of_length_le (show R.length ≤ k by omega)]; omega
    simp (maxSteps := 2000000) only [d1, e1, pI, tvs, simprocAttr]
    repeat (first | refine ftS (by kernel_rfl) ?_ | refine And.intro (by omega) ?_)
    all_goals (first | rfl | trivial | skip)
set_option maxRecDepth 10000 in
set_option maxHeartbeats 4000000 in
theorem szPartS_ok (R : List (List PV)) (left : Int) (hn : R.length ≤ 9223372036854775807) (h0 : 0 ≤ left) (h1 : left ≤ 1048576) : FnOk E.P 7 [.lst 77 R, pI left] (pI (restI left R.length)) true := by
  refine fn_ok mixed Tryz.func7 rfl (by kernel_rfl) _ Tryz.results7 _ Tryz.ntmps7 (by simp) (by kernel_rfl) ?_
  simp (maxSteps := 2000000) only [pI, tvs, simprocAttr]
  repeat (first | refine ftS (by kernel_rfl) ?_ | refine And.intro (by omega) ?_)
  by_cases hlt : left < R.length
  · have d1 : decide (left - (R.length : Int) < 0) = true := by simp; omega
    simp (maxSteps := 2000000) only [d1, restI, if_pos hlt, pI, tvs, simprocAttr]
    repeat (first | refine ftS (by kernel_rfl) ?_ | refine And.intro (by omega) ?_)
    all_goals (first | rfl | (simp [restI]; omega))
  · have d1 : decide (left - (R.length : Int) < 0) = false := by simp; omega
    simp (maxSteps := 2000000) only [d1, restI, if_neg hlt, pI, tvs, simprocAttr]
    repeat (first | refine ftS (by kernel_rfl) ?_ | refine And.intro (by omega) ?_)
    all_goals (first | rfl | (simp [restI]; omega))
end Av
end Go.Proofs.YtbkbppllcjcmhaaGreat
