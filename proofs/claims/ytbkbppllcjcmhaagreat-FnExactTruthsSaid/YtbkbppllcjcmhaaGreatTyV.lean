/-
  Rows of truths: shapes, marks, whether they are equal.
-/
import Derived.Test.YtbkbppllcjcmhaaGreatTyM
import Derived.Test.YtbkbppllcjcmhaaGreatTyT
import Derived.Test.YtbkbppllcjcmhaaGreatTyE
import Derived.Test.YtbkbppllcjcmhaaGreatTyH
set_option linter.unusedSimpArgs false
set_option linter.unusedVariables false
namespace Go.Proofs.YtbkbppllcjcmhaaGreat
open Go.RowKit
namespace Av
def ShBool (r : List PV) : Prop := ∃ (a0 : Bool), r = [.bool a0]
def ShBoolS (R : List (List PV)) : Prop := R.length ≤ 1048576 ∧ ∀ r ∈ R, ShBool r
theorem cellsOf_Bool : Tryz.prog.cellsOf 4 = 1 := by kernel_rfl
set_option maxHeartbeats 8000000 in
theorem mkBoolS_ok (R : List (List PV)) (hs : ShBoolS R) (k : Int) (h0 : 0 ≤ k) (h1 : (mkR R k).2 ≤ 4611686018427387904) :
    MutOk Tryz.prog 20 (.lst 4 R) k (.lst 4 (mkR R k).1) (mkR R k).2 := by
  obtain ⟨hn, hs⟩ := hs
  refine ⟨⟨_, Tryz.func20, by kernel_rfl, by kernel_rfl⟩, fun w v Q ho hd hb => ?_⟩
  have ho' : Ow Tryz.prog w (Q 0) (.lst 4 R) v := ho
  clear hd hb
  rcases ho'.forms with ⟨rfl, rfl⟩ | ⟨g, cap, rfl, hc, hg, hlt, _, _⟩
  · have HO := Lib.hid ho'; clear ho ho'
    go_enter Tryz.func20, Tryz.ntmps20
    go_wp2
    go_loop [1, 5] (fun t i => t = .int .i64 k ∧ i = .int .i64 0) (fun _ _ => 0)
    case atStart => exact ⟨rfl, rfl⟩
    case round =>
      obtain ⟨rfl, rfl⟩ := hrel
      go_wp2
      go_ret
      exact ⟨rfl, Turned.refl _ _, HO.out⟩
  · have HO := Lib.hid ho'; clear ho ho'
    have HG := Lib.hid hg; clear hg
    obtain ⟨n, hN⟩ : ∃ n, R.length = n := ⟨_, rfl⟩
    rw [hN] at hn hc HO ⊢
    have HN := Lib.hid hN; clear hN
    have HS := Lib.hid hs; clear hs
    have H1 := Lib.hid h1; clear h1
    go_enter Tryz.func20, Tryz.ntmps20
    go_wp2
    go_loopw [1, 5] (fun t i wr => ∃ (m : Nat) (q : Int), m ≤ n ∧ i = .int .i64 m ∧ t = .int .i64 q ∧ q = (mkR (R.take m) k).2 ∧ Turned (fun g => ∃ i, Q i g) w wr ∧ Ow Tryz.prog wr (Q 0) (.lst 4 ((mkR (R.take m) k).1 ++ R.drop m)) (.slice (some ⟨g, 0, none⟩) n cap)) (fun _ i _ => n - (intOf i).toNat)
    case atStart => exact ⟨0, k, Nat.zero_le _, rfl, rfl, rfl, Turned.refl _ _, HO.out⟩
    case round =>
      obtain ⟨m, q, hm, rfl, rfl, hq, hw, how⟩ := hrel
      have HW := Lib.hid hw; clear hw
      have HOW := Lib.hid how; clear how
      have HQ := Lib.hid hq; clear hq
      by_cases hlt : m < n
      · obtain ⟨r, hr⟩ : ∃ r, R[m]? = some r := ⟨R[m]'(by rw [HN.out]; exact hlt), List.getElem?_eq_getElem _⟩
        have hA : (mkR (R.take m) k).1.length = m := by rw [mkR_len, List.length_take, HN.out]; omega
        have hq0 : 0 ≤ q := by rw [HQ.out]; exact Int.le_trans h0 (mkR_le _ _)
        have hq1 : (mkL r q).2 ≤ 4611686018427387904 := by
          have h3 := mkR_mono R (m + 1) k
          rw [mkR_take hr, ← HQ.out] at h3
          exact Int.le_trans h3 H1.out
        obtain ⟨x0, rfl⟩ := HS.out r (List.mem_of_getElem? hr)
        have O0 : Ow Tryz.prog wr (Q 0) (.lst 4 ((mkR (R.take m) k).1 ++ [.bool x0] :: R.drop (m + 1))) (.slice (some ⟨g, 0, none⟩) n cap) := by rw [← drop_at hr]; exact HOW.out
        have E1 : Hid ((mkR (R.take m) k).1 ++ [.bool ((q).tmod 3 == 0)] :: R.drop (m + 1) = (mkR (R.take (m + 1)) k).1 ++ R.drop (m + 1) ∧ (mkR (R.take (m + 1)) k).2 = q + 1) := Lib.hid (by
          rw [mkR_take hr, ← HQ.out]
          simp [mkL, mkP, pI])
        simp only [mkL, mkP, pI] at hq1
        have HA := Lib.hid hA; clear hr hA
        have hcm : m < cap := by omega
        obtain ⟨y0, c0, _⟩ := O0.cellAt HA.out (j := 0) rfl
        simp only [cellsOf_Bool, Nat.mul_one, Nat.add_zero] at c0
        have hz : ∀ i, wr.frozen? ⟨g, i, none⟩ = false := by
          rcases O0.forms with ⟨h3, _⟩ | ⟨g', cap', h3, _, _, _, h4, _⟩
          · cases h3
          · injection h3 with h3 _ _
            injection h3 with h3
            injection h3 with h3
            subst h3; exact h4
        have z0 := hz (m)
        have exb : (q).tmod 3 = q % 3 := Int.tmod_eq_emod_of_nonneg (by omega)
        have O1 := O0.setAt HA.out (j := 0) rfl (q := .bool ((q).tmod 3 == 0)) (u := .bool (q % 3 == 0)) (fun _ _ => by rw [exb]; exact .bool _ _)
        clear exb
        simp only [cellsOf_Bool, Nat.mul_one, Nat.add_zero, List.set_cons_zero, List.set_cons_succ] at O1
        have HOE := Lib.hid O1
        try clear O0
        try clear O1
        clear hz
        go_wp2
        go_roundw
        case rel =>
          refine ⟨m + 1, q + 1, by omega, by go_num, by go_num, E1.out.2.symm, (HW.out.trans (Turned.set ⟨0, HG.out⟩ _)), ?_⟩
          rw [← E1.out.1]
          exact HOE.out
        case measure => simp [intOf]; omega
      · obtain rfl : m = n := by omega
        have e1 : R.take m = R := List.take_of_length_le (by rw [HN.out]; omega)
        have e2 : R.drop m = [] := List.drop_of_length_le (by rw [HN.out]; omega)
        have E1 := Lib.hid e1; have E2 := Lib.hid e2
        clear e1 e2
        go_wp2
        go_ret
        refine ⟨?_, HW.out, ?_⟩
        · rw [HQ.out, E1.out]; rfl
        · have := HOW.out
          rw [E1.out, E2.out, List.append_nil] at this
          exact this
set_option maxRecDepth 10000 in
set_option maxHeartbeats 4000000 in
theorem eqBoolS_ok (R : List (List PV)) (hs : ShBoolS R) : FnOk E.P 13 [.lst 4 R, .lst 4 R] (.bool true) true := by
  obtain ⟨hn, hs⟩ := hs
  refine fn_ok mixed Tryz.func13 rfl (by kernel_rfl) _ Tryz.results13 _ Tryz.ntmps13 (by simp) (by kernel_rfl) ?_
  simp (maxSteps := 2000000) only [pI, tvs, simprocAttr]
  repeat (first | refine ftS (by kernel_rfl) ?_ | refine And.intro (by omega) ?_)
  refine awp_loop (X := Nat) (fun k => [(0, .pv (.lst 4 R)), (1, .pv (.lst 4 R)), (5, .pv (.int .i64 k))]) (fun k => []) (fun k => k ≤ R.length) (fun k => R.length - k) 100 0 (Nat.zero_le _) (by simp (maxSteps := 2000000) only [pI, tvs, simprocAttr]; try rfl) (fun k hk => ?_)
  by_cases hlt : k < R.length
  · have d1 : decide ((k : Int) < (R.length : Int)) = true := by simpa using hlt
    have e1 : R[k]? = some R[k] := List.getElem?_eq_getElem hlt
    have hr := hs R[k] (List.getElem_mem hlt)
    generalize R[k] = r at e1 hr
    obtain ⟨a0, rfl⟩ := hr
    simp (maxSteps := 2000000) only [d1, e1, pI, tvs, simprocAttr]
    repeat (first | refine ftS (by kernel_rfl) ?_ | refine And.intro (by omega) ?_)
    refine ⟨k + 1, ?_, ?_, ?_⟩
    · omega
    · omega
    · first | omega | (simp; done)
  · have d1 : decide ((k : Int) < (R.length : Int)) = false := by simpa using hlt
    simp (maxSteps := 2000000) only [d1, pI, tvs, simprocAttr]
    repeat (first | refine ftS (by kernel_rfl) ?_ | refine And.intro (by omega) ?_)
    all_goals (first | rfl | trivial | skip)
set_option maxRecDepth 10000 in
set_option maxHeartbeats 4000000 in
theorem heldBoolS_ok (R : List (List PV)) (hs : ShBoolS R) (k : Int) (h0 : 0 ≤ k) (h1 : (mkR R k).2 ≤ 4611686018427387904) : FnOk E.P 21 [.lst 4 (mkR R k).1, pI k] (pI (mkR R k).2) true := by
  obtain ⟨hn, hs⟩ := hs
  have hl := mkR_len R k
  refine fn_ok mixed Tryz.func21 rfl (by kernel_rfl) _ Tryz.results21 _ Tryz.ntmps21 (by simp) (by kernel_rfl) ?_
  simp (maxSteps := 2000000) only [hl, pI, tvs, simprocAttr]
  repeat (first | refine ftS (by kernel_rfl) ?_ | refine And.intro (by omega) ?_)
  refine awp_loop (X := Nat) (fun m => [(0, .pv (.lst 4 (mkR R k).1)), (1, .pv (.int .i64 (mkR (R.take m) k).2)), (5, .pv (.int .i64 m))]) (fun m => []) (fun m => m ≤ R.length) (fun m => R.length - m) 100 0 (Nat.zero_le _) (by simp (maxSteps := 2000000) only [List.take_zero, mkR, pI, tvs, simprocAttr]; try rfl) (fun m hm => ?_)
  obtain ⟨q, hq⟩ : ∃ q, q = (mkR (R.take m) k).2 := ⟨_, rfl⟩
  have hq0 : 0 ≤ q := by rw [hq]; exact Int.le_trans h0 (mkR_le _ _)
  by_cases hlt : m < R.length
  · have d1 : decide ((m : Int) < (R.length : Int)) = true := by simpa using hlt
    have e0 : R[m]? = some R[m] := List.getElem?_eq_getElem hlt
    have hr := hs R[m] (List.getElem_mem hlt)
    generalize R[m] = r at e0 hr
    have e1 := mkR_at (k := k) e0
    have e2 : (mkR (R.take (m + 1)) k).2 = (mkL r q).2 := by rw [mkR_take e0, hq]
    have h3 := mkR_mono R (m + 1) k
    rw [← hq] at e1
    rw [e2] at h3
    obtain ⟨a0, rfl⟩ := hr
    simp only [mkL, mkP, pI] at e1 e2 h3
    simp (maxSteps := 2000000) only [d1, e1, hl, ← hq, pI, tvs, simprocAttr]
    repeat (first | refine ftS (by kernel_rfl) ?_ | refine And.intro (by omega) ?_)
    refine ⟨m + 1, ?_, ?_, ?_⟩
    · omega
    · omega
    · try simp only [e2, true_and, and_true]
      first | omega | (refine ⟨?_, ?_⟩ <;> omega)
  · have d1 : decide ((m : Int) < (R.length : Int)) = false := by simpa using hlt
    have e1 : R.take m = R := List.take_of_length_le (by omega)
    rw [e1]
    simp (maxSteps := 2000000) only [d1, hl, pI, tvs, simprocAttr]
    repeat (first | refine ftS (by kernel_rfl) ?_ | refine And.intro (by omega) ?_)
    all_goals (first | rfl | trivial | skip)
end Av
end Go.Proofs.YtbkbppllcjcmhaaGreat
