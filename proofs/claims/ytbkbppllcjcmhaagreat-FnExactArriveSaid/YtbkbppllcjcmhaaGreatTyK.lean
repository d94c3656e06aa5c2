/-
  Marks as parameters of laws: how long they are, what laws make of them, whether they are equal, and how they come in.
-/
import Derived.Test.YtbkbppllcjcmhaaGreatTyP
import Derived.Test.YtbkbppllcjcmhaaGreatOpnT
set_option linter.unusedSimpArgs false
set_option linter.unusedVariables false
namespace Go.Proofs.YtbkbppllcjcmhaaGreat
open Go.ChangeShapes Go.WideShapes Go.ChangeAt Go.RowKit Go.Deep
namespace Av
/-- a mark of the laws' type as one of the program's -/
def swM : List PV → List PV
  | [a, .lst _ T, b, c, d] => [a, .lst 115 T, b, c, d]
  | r => r
theorem LoMarkS.sh {R : List (List PV)} (h : LoMarkS R) (hl : totR R ≤ 1048576) : ShMarkS (R.map swM) := by
  refine ⟨by have := tot_len R; simp only [List.length_map]; omega, fun r hr => ?_⟩
  obtain ⟨r0, hr0, rfl⟩ := List.mem_map.1 hr
  have hm := tot_mem hr0
  obtain ⟨a0, a1, a2, a3, a4, rfl, s1, s2, s3, s4⟩ := h.2 r0 hr0
  rw [tot_Mark a0 a1 a2 a3 a4 s1 s2 s3 s4] at hm
  exact ⟨a0, a1, a2, a3, a4, rfl, s1.sh (by omega), s2.sh (by omega), s3.sh (by omega), s4.sh (by omega)⟩
set_option maxRecDepth 10000 in
set_option maxHeartbeats 8000000 in
theorem szMark_ok (x0 : Int) (x1 : List (List PV)) (x2 : List (List PV)) (x3 : List (List PV)) (x4 : List (List PV)) (left : Int) (n1 : LoThreadS x1) (n2 : LoIntS x2) (n3 : LoIntS x3) (n4 : LoIntS x4) (h0 : 0 ≤ left) (h1 : left ≤ 1048576) : FnOk E.P 45 [.agg [pI x0, .lst 153 x1, .lst 3 x2, .lst 3 x3, .lst 3 x4], pI left] (pI (restI left (totR x1 + x2.length + x3.length + x4.length))) true := by
  by_cases g0 : left < ((totR x1 + x2.length + x3.length + x4.length : Nat) : Int)
  · have r0 : restI (left) (totR x1 + x2.length + x3.length + x4.length) = -1 := if_pos g0
    have rT : restI left (totR x1 + x2.length + x3.length + x4.length) = -1 := if_pos (by omega)
    rw [rT]
    refine fn_ok mixed Tryz.func45 rfl (by kernel_rfl) _ Tryz.results45 _ Tryz.ntmps45 (by simp) (by kernel_rfl) ?_
    simp (maxSteps := 2000000) only [r0, pI, tvs, simprocAttr]
    repeat (first | refine ftS (by kernel_rfl) ?_ | refine And.intro (by omega) ?_)
    refine aops_fn (szMachine_ok x1 x2 x3 x4 (left) n1 n2 n3 n4 (by omega) (by omega)) (hidB rfl) rfl ?_
    simp (maxSteps := 2000000) only [r0, pI, tvs, simprocAttr]
    repeat (first | refine ftS (by kernel_rfl) ?_ | refine And.intro (by omega) ?_)
    all_goals (first | rfl | trivial | skip)
  · have r0 : restI (left) (totR x1 + x2.length + x3.length + x4.length) = left - ((totR x1 + x2.length + x3.length + x4.length : Nat) : Int) := if_neg g0
    have d0 : decide (left - ((totR x1 + x2.length + x3.length + x4.length : Nat) : Int) < 0) = false := by simp only [decide_eq_false_iff_not]; omega
    have rT : restI left (totR x1 + x2.length + x3.length + x4.length) = left - ((totR x1 + x2.length + x3.length + x4.length : Nat) : Int) := (if_neg (by omega)).trans (by omega)
    rw [rT]
    refine fn_ok mixed Tryz.func45 rfl (by kernel_rfl) _ Tryz.results45 _ Tryz.ntmps45 (by simp) (by kernel_rfl) ?_
    simp (maxSteps := 2000000) only [r0, d0, pI, tvs, simprocAttr]
    repeat (first | refine ftS (by kernel_rfl) ?_ | refine And.intro (by omega) ?_)
    refine aops_fn (szMachine_ok x1 x2 x3 x4 (left) n1 n2 n3 n4 (by omega) (by omega)) (hidB rfl) rfl ?_
    simp (maxSteps := 2000000) only [r0, d0, pI, tvs, simprocAttr]
    repeat (first | refine ftS (by kernel_rfl) ?_ | refine And.intro (by omega) ?_)
    all_goals (first | rfl | trivial | skip)
set_option maxRecDepth 10000 in
set_option maxHeartbeats 8000000 in
theorem szMarkS_ok (R : List (List PV)) (left : Int) (hn : R.length ≤ 9223372036854775807) (hs : ∀ r ∈ R, LoMark r) (h0 : 0 ≤ left) (h1 : left ≤ 1048576) : FnOk E.P 22 [.lst 87 R, pI left] (pI (restI left (totR R))) true := by
  obtain ⟨z, hz⟩ : ∃ z, z = restI left (totR R) := ⟨_, rfl⟩
  rw [← hz]
  have ht := totR_eq R
  have hz1 : left < (totR R : Int) → z = -1 := fun h => hz.trans (if_pos h)
  have hz2 : ¬ left < (totR R : Int) → z = left - totR R := fun h => hz.trans (if_neg h)
  clear hz
  refine fn_ok mixed Tryz.func22 rfl (by kernel_rfl) _ Tryz.results22 _ Tryz.ntmps22 (by simp) (by kernel_rfl) ?_
  simp (maxSteps := 2000000) only [pI, tvs, simprocAttr]
  repeat (first | refine ftS (by kernel_rfl) ?_ | refine And.intro (by omega) ?_)
  by_cases hlt : left < R.length
  · have d1 : decide (left - (R.length : Int) < 0) = true := by simp only [decide_eq_true_eq]; omega
    have ez := hz1 (by omega)
    subst ez
    simp (maxSteps := 2000000) only [d1, pI, tvs, simprocAttr]
    repeat (first | refine ftS (by kernel_rfl) ?_ | refine And.intro (by omega) ?_)
    all_goals (first | rfl | trivial | skip)
  have d1 : decide (left - (R.length : Int) < 0) = false := by simp only [decide_eq_false_iff_not]; omega
  simp (maxSteps := 2000000) only [d1, pI, tvs, simprocAttr]
  repeat (first | refine ftS (by kernel_rfl) ?_ | refine And.intro (by omega) ?_)
  refine awp_loop (X := Nat) (fun k => [(0, .pv (.lst 87 R)), (1, .pv (.int .i64 (left - (R.length : Int) - (totS (R.take k) : Int)))), (5, .pv (.int .i64 k))]) (fun k => []) (fun k => k ≤ R.length ∧ 0 ≤ left - (R.length : Int) - (totS (R.take k) : Int)) (fun k => R.length - k) 100 0 ⟨Nat.zero_le _, by simp only [List.take_zero, totS]; omega⟩ (by simp (maxSteps := 2000000) only [List.take_zero, totS, Int.ofNat_zero, Int.cast_ofNat_Int, Int.sub_zero, pI, tvs, simprocAttr]; try rfl) (fun k hk => ?_)
  obtain ⟨hk, hq0⟩ := hk
  obtain ⟨q, hq⟩ : ∃ q : Int, q = left - (R.length : Int) - (totS (R.take k) : Int) := ⟨_, rfl⟩
  rw [← hq] at hq0
  by_cases hlt2 : k < R.length
  · have d2 : decide ((k : Int) < (R.length : Int)) = true := by simpa using hlt2
    have e1 : R[k]? = some R[k] := List.getElem?_eq_getElem hlt2
    have hr := hs R[k] (List.getElem_mem hlt2)
    have e2 := totS_take e1
    have e3 := totS_mono R (k + 1)
    generalize R[k] = r at e1 hr e2
    obtain ⟨a0, a1, a2, a3, a4, rfl, s1, s2, s3, s4⟩ := hr
    rw [tot_Mark a0 a1 a2 a3 a4 s1 s2 s3 s4] at e2
    have hc := szMark_ok a0 a1 a2 a3 a4 q s1 s2 s3 s4 (by omega) (by omega)
    by_cases g : q < ((totR a1 + a2.length + a3.length + a4.length : Nat) : Int)
    · have r0 : restI q (totR a1 + a2.length + a3.length + a4.length) = -1 := if_pos g
      rw [r0] at hc
      have ez := hz1 (by omega)
      subst ez
      simp (maxSteps := 2000000) only [d2, e1, ← hq, pI, tvs, simprocAttr]
      repeat (first | refine ftS (by kernel_rfl) ?_ | refine And.intro (by omega) ?_)
      refine aops_fn hc (hidB rfl) rfl ?_
      simp (maxSteps := 2000000) only [d2, e1, ← hq, pI, tvs, simprocAttr]
      repeat (first | refine ftS (by kernel_rfl) ?_ | refine And.intro (by omega) ?_)
      all_goals (first | rfl | trivial | skip)
    · have r0 : restI q (totR a1 + a2.length + a3.length + a4.length) = q - ((totR a1 + a2.length + a3.length + a4.length : Nat) : Int) := if_neg g
      rw [r0] at hc
      have d3 : decide (q - ((totR a1 + a2.length + a3.length + a4.length : Nat) : Int) < 0) = false := by simp only [decide_eq_false_iff_not]; omega
      simp (maxSteps := 2000000) only [d2, d3, e1, ← hq, pI, tvs, simprocAttr]
      repeat (first | refine ftS (by kernel_rfl) ?_ | refine And.intro (by omega) ?_)
      refine aops_fn hc (hidB rfl) rfl ?_
      simp (maxSteps := 2000000) only [d2, d3, e1, ← hq, pI, tvs, simprocAttr]
      repeat (first | refine ftS (by kernel_rfl) ?_ | refine And.intro (by omega) ?_)
      refine ⟨k + 1, ⟨by omega, by omega⟩, by omega, ?_⟩
      all_goals (first | omega | (refine ⟨?_, ?_⟩ <;> omega) | trivial | rfl)
  · have d2 : decide ((k : Int) < (R.length : Int)) = false := by simpa using hlt2
    have e1 : R.take k = R := List.take_of_length_le (by omega)
    rw [e1] at hq
    have ez := hz2 (by omega)
    have eq' : z = q := by omega
    subst eq'
    rw [e1]
    simp (maxSteps := 2000000) only [d2, ← hq, pI, tvs, simprocAttr]
    repeat (first | refine ftS (by kernel_rfl) ?_ | refine And.intro (by omega) ?_)
    all_goals (first | rfl | trivial | skip)
set_option maxRecDepth 10000 in
set_option maxHeartbeats 8000000 in
theorem toMark_ok (a0 : Int) (a1 : List (List PV)) (a2 : List (List PV)) (a3 : List (List PV)) (a4 : List (List PV)) (s1 : ShThreadS a1) (s2 : ShIntS a2) (s3 : ShIntS a3) (s4 : ShIntS a4) : FnOk E.P 51 [.agg [pI a0, .lst 153 a1, .lst 3 a2, .lst 3 a3, .lst 3 a4]] (.agg [pI a0, .lst 115 a1, .lst 3 a2, .lst 3 a3, .lst 3 a4]) true := by
  refine fn_ok mixed Tryz.func51 rfl (by kernel_rfl) _ Tryz.results51 _ Tryz.ntmps51 (by simp) (by kernel_rfl) ?_
  simp (maxSteps := 2000000) only [pI, tvs, simprocAttr]
  repeat (first | refine ftS (by kernel_rfl) ?_ | refine And.intro (by omega) ?_)
  refine aops_fn (toMachine_ok a1 a2 a3 a4 s1 s2 s3 s4) (hidB rfl) rfl ?_
  simp (maxSteps := 2000000) only [pI, tvs, simprocAttr]
  repeat (first | refine ftS (by kernel_rfl) ?_ | refine And.intro (by omega) ?_)
  all_goals (first | rfl | trivial | skip)
set_option maxRecDepth 10000 in
set_option maxHeartbeats 8000000 in
theorem toMarkS_ok (R : List (List PV)) (hs : LoMarkS R) (hR : totR R ≤ 1048576) : FnOk E.P 24 [.lst 87 R] (.lst 92 (R.map swM)) true := by
  have hn : R.length ≤ 1048576 := by have := tot_len R; omega
  have hs := hs.2
  obtain ⟨R2, h2⟩ : ∃ R2, R.map swM = R2 := ⟨_, rfl⟩
  have hl2 : R2.length = R.length := by rw [← h2]; simp
  rw [h2]
  refine fn_ok mixed Tryz.func24 rfl (by kernel_rfl) _ Tryz.results24 _ Tryz.ntmps24 (by simp) (by kernel_rfl) ?_
  simp (maxSteps := 2000000) only [pI, tvs, simprocAttr]
  repeat (first | refine ftS (by kernel_rfl) ?_ | refine And.intro (by omega) ?_)
  refine awp_loop (X := Nat) (fun k => [(0, .pv (.lst 87 R)), (3, .sl 0), (4, .pv (.int .i64 k))]) (fun k => [(0, .row true 92 (fillR R2 k [.int .i64 0, .lst 115 [], .lst 3 [], .lst 3 [], .lst 3 []]))]) (fun k => k ≤ R.length) (fun k => R.length - k) 100 0 (Nat.zero_le _) (by simp (maxSteps := 2000000) only [zp, pI, tvs, simprocAttr]; simp [fillR, hl2]) (fun k hk => ?_)
  have hl : (fillR R2 k [.int .i64 0, .lst 115 [], .lst 3 [], .lst 3 [], .lst 3 []]).length = R.length := by simp [fillR]; omega
  by_cases hlt : k < R.length
  · have d1 : decide ((k : Int) < (R.length : Int)) = true := by simpa using hlt
    have e1 : R[k]? = some R[k] := List.getElem?_eq_getElem hlt
    have e4 : R2[k]? = some (swM R[k]) := by rw [← h2, List.getElem?_map, e1]; rfl
    have e2 : (fillR R2 k [.int .i64 0, .lst 115 [], .lst 3 [], .lst 3 [], .lst 3 []])[k]? = some [.int .i64 0, .lst 115 [], .lst 3 [], .lst 3 [], .lst 3 []] := fillR_at (by omega) _
    have e3 := fillR_set (z := [.int .i64 0, .lst 115 [], .lst 3 [], .lst 3 [], .lst 3 []]) e4
    have hr := hs R[k] (List.getElem_mem hlt)
    have hm := tot_mem (List.getElem_mem hlt)
    generalize R[k] = r at e1 hr e3 hm
    obtain ⟨a0, a1, a2, a3, a4, rfl, s1, s2, s3, s4⟩ := hr
    rw [tot_Mark a0 a1 a2 a3 a4 s1 s2 s3 s4] at hm
    have hc := toMark_ok a0 a1 a2 a3 a4 (s1.sh (by omega)) (s2.sh (by omega)) (s3.sh (by omega)) (s4.sh (by omega))
    simp only [pI, swM] at e1 e3
    clear e4 hm
    simp (maxSteps := 2000000) only [d1, e1, e2, hl, pI, tvs, simprocAttr]
    repeat (first | refine ftS (by kernel_rfl) ?_ | refine And.intro (by omega) ?_)
    refine aops_fn hc (hidB rfl) rfl ?_
    simp (maxSteps := 2000000) only [d1, e1, e2, hl, pI, tvs, simprocAttr]
    repeat (first | refine ftS (by kernel_rfl) ?_ | refine And.intro (by omega) ?_)
    refine ⟨k + 1, ?_, ?_, ?_⟩
    · omega
    · omega
    · simp only [e3]
      first | omega | (refine ⟨by omega, ?_⟩; simp; done) | (simp; done)
  · have d1 : decide ((k : Int) < (R.length : Int)) = false := by simpa using hlt
    have e1 : fillR R2 k [.int .i64 0, .lst 115 [], .lst 3 [], .lst 3 [], .lst 3 []] = R2 := by simp [fillR, List.take_of_length_le (show R2.length ≤ k by omega)]; omega
    simp (maxSteps := 2000000) only [d1, e1, pI, tvs, simprocAttr]
    repeat (first | refine ftS (by kernel_rfl) ?_ | refine And.intro (by omega) ?_)
    all_goals (first | rfl | trivial | skip)
set_option maxRecDepth 10000 in
set_option maxHeartbeats 8000000 in
theorem eqMark_ok (r : List PV) (hs : ShMark r) : FnOk E.P 59 [.agg r, .agg r] (.bool true) true := by
  obtain ⟨a0, a1, a2, a3, a4, rfl, s1, s2, s3, s4⟩ := hs
  refine fn_ok mixed Tryz.func59 rfl (by kernel_rfl) _ Tryz.results59 _ Tryz.ntmps59 (by simp) (by kernel_rfl) ?_
  simp (maxSteps := 2000000) only [pI, tvs, simprocAttr]
  repeat (first | refine ftS (by kernel_rfl) ?_ | refine And.intro (by omega) ?_)
  refine aops_fn (eqMachine_ok [.lst 115 a1, .lst 3 a2, .lst 3 a3, .lst 3 a4] ⟨a1, a2, a3, a4, rfl, s1, s2, s3, s4⟩) (hidB rfl) rfl ?_
  simp (maxSteps := 2000000) only [pI, tvs, simprocAttr]
  repeat (first | refine ftS (by kernel_rfl) ?_ | refine And.intro (by omega) ?_)
  all_goals (first | rfl | trivial | skip)
set_option maxRecDepth 10000 in
set_option maxHeartbeats 8000000 in
theorem eqMarkS_ok (R : List (List PV)) (hs : ShMarkS R) : FnOk E.P 27 [.lst 92 R, .lst 92 R] (.bool true) true := by
  obtain ⟨hn, hs⟩ := hs
  refine fn_ok mixed Tryz.func27 rfl (by kernel_rfl) _ Tryz.results27 _ Tryz.ntmps27 (by simp) (by kernel_rfl) ?_
  simp (maxSteps := 2000000) only [pI, tvs, simprocAttr]
  repeat (first | refine ftS (by kernel_rfl) ?_ | refine And.intro (by omega) ?_)
  refine awp_loop (X := Nat) (fun k => [(0, .pv (.lst 92 R)), (1, .pv (.lst 92 R)), (5, .pv (.int .i64 k))]) (fun k => []) (fun k => k ≤ R.length) (fun k => R.length - k) 100 0 (Nat.zero_le _) (by simp (maxSteps := 2000000) only [pI, tvs, simprocAttr]; try rfl) (fun k hk => ?_)
  by_cases hlt : k < R.length
  · have d1 : decide ((k : Int) < (R.length : Int)) = true := by simpa using hlt
    have e1 : R[k]? = some R[k] := List.getElem?_eq_getElem hlt
    have hr := hs R[k] (List.getElem_mem hlt)
    generalize R[k] = r at e1 hr
    have hc := eqMark_ok r hr
    obtain ⟨a0, a1, a2, a3, a4, rfl, s1, s2, s3, s4⟩ := hr
    simp (maxSteps := 2000000) only [d1, e1, pI, tvs, simprocAttr]
    repeat (first | refine ftS (by kernel_rfl) ?_ | refine And.intro (by omega) ?_)
    refine aops_fn (hc) (hidB rfl) rfl ?_
    simp (maxSteps := 2000000) only [d1, e1, pI, tvs, simprocAttr]
    repeat (first | refine ftS (by kernel_rfl) ?_ | refine And.intro (by omega) ?_)
    refine ⟨k + 1, ?_, ?_, ?_⟩
    · omega
    · omega
    · first | omega | (simp; done)
  · have d1 : decide ((k : Int) < (R.length : Int)) = false := by simpa using hlt
    simp (maxSteps := 2000000) only [d1, pI, tvs, simprocAttr]
    repeat (first | refine ftS (by kernel_rfl) ?_ | refine And.intro (by omega) ?_)
    all_goals (first | rfl | trivial | skip)
set_option maxRecDepth 10000 in
set_option maxHeartbeats 8000000 in
theorem opn_Mark : Opn Tryz.prog 87 LoMark := by
  refine (opn_struct Tryz.underlying87 (l := [(0, 3), (1, 85)]) (by kernel_rfl) (by kernel_rfl : Tryz.prog.cellsOf 87 = 5) (opnF_cons (opn_int Tryz.underlying3) (by kernel_rfl : Tryz.prog.cellsOf 3 = 1) (opnF_cons (opn_Machine) (by kernel_rfl : Tryz.prog.cellsOf 85 = 4) (opnF_nil _ 5)))).mono (fun ps h => ?_)
  obtain ⟨_, _, rfl, ⟨a0, rfl⟩, ⟨_, _, rfl, ⟨a1, a2, a3, a4, rfl, s1, s2, s3, s4⟩, rfl⟩⟩ := h
  exact ⟨a0, a1, a2, a3, a4, rfl, s1, s2, s3, s4⟩
theorem opn_MarkS : Opn Tryz.prog 49 (fun ps => ∃ R : List (List PV), ps = [.lst 87 R] ∧ R.length ≤ maxLen ∧ ∀ r ∈ R, LoMark r) := opn_sl Tryz.underlying49 (by rw [(by kernel_rfl : Tryz.prog.cellsOf 87 = 5)]; decide) opn_Mark
end Av
end Go.Proofs.YtbkbppllcjcmhaaGreat
