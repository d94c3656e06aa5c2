/-
  Chapter 6: marks of a run, the model's.
-/
import Derived.Test.YtbkbppllcjcmhaaMks
import Derived.Test.YtbkbppllcjcmhaaBrS
import Derived.Test.YtbkbppllcjcmhaaKept
set_option linter.unusedSimpArgs false
set_option linter.unusedVariables false
namespace Go.Proofs.Ytbkbppllcjcmhaa
open Go.RowKit
namespace Av
set_option maxRecDepth 10000 in
set_option maxHeartbeats 8000000 in
theorem sMarksEvery_ok {rs : List Bt.C4} {h n : Int} {l : List Bt.Ch} (hn : rs.length ≤ 1048576) (hl : l.length ≤ 1048576) : FnOk E.P 41 [pProg rs h, pChs l, pI n] (.lst 118 (everyOf rs h l n)) true := by
  have hR := sok_ok (rs := rs) (h := h) (l := l) hn hl
  unfold everyOf
  cases ho : Bt.runOk rs h l
  · rw [ho] at hR
    rw [if_neg (by simp)]
    refine fn_ok mixed Try.func41 rfl (by kernel_rfl) _ Try.results41 _ Try.ntmps41 (by simp) (by kernel_rfl) ?_
    repeat (first | (refine aops_fnX rfl ?_ ?_; focus (simp (maxSteps := 4000000) only [sks, pProg, pChs, pI, tvs, simprocAttr]; done)) | (simp (maxSteps := 4000000) only [pProg, pChs, pI, tvs, simprocAttr]) | refine ftS (by kernel_rfl) ?_ | refine And.intro (by omega) ?_)
    refine aops_fn (hR) (hidB rfl) rfl ?_
    repeat (first | (refine aops_fnX rfl ?_ ?_; focus (simp (maxSteps := 4000000) only [sks, pProg, pChs, pI, tvl, simprocAttr]; done)) | (simp (maxSteps := 4000000) only [pProg, pChs, pI, tvl, simprocAttr]) | refine ftS (by kernel_rfl) ?_ | refine And.intro (by omega) ?_)
    all_goals (first | rfl | trivial | skip)
  rw [ho] at hR
  by_cases c0 : n < 1
  · have d0 : decide (n < 1) = true := by rw [decide_eq_true_eq]; exact c0
    rw [if_neg (by omega)]
    refine fn_ok mixed Try.func41 rfl (by kernel_rfl) _ Try.results41 _ Try.ntmps41 (by simp) (by kernel_rfl) ?_
    repeat (first | (refine aops_fnX rfl ?_ ?_; focus (simp (maxSteps := 4000000) only [sks, pProg, pChs, pI, tvs, simprocAttr]; done)) | (simp (maxSteps := 4000000) only [pProg, pChs, pI, tvs, simprocAttr]) | refine ftS (by kernel_rfl) ?_ | refine And.intro (by omega) ?_)
    refine aops_fn (hR) (hidB rfl) rfl ?_
    repeat (first | (refine aops_fnX rfl ?_ ?_; focus (simp (maxSteps := 4000000) only [sks, d0, pProg, pChs, pI, tvl, simprocAttr]; done)) | (simp (maxSteps := 4000000) only [d0, pProg, pChs, pI, tvl, simprocAttr]) | refine ftS (by kernel_rfl) ?_ | refine And.intro (by omega) ?_)
    all_goals (first | rfl | trivial | skip)
  have d0 : decide (n < 1) = false := by rw [decide_eq_false_iff_not]; exact c0
  rw [if_pos ⟨rfl, by omega⟩]
  obtain ⟨hpo, h3, _⟩ := Bt.runOk_facts ho
  have hne := progOk_ne hpo
  have hn0 : n ≠ 0 := by omega
  have hz : (n == 0) = false := by rw [beq_eq_false_iff_ne]; omega
  have hz2 : (n == -1) = false := by rw [beq_eq_false_iff_ne]; omega
  refine fn_ok mixed Try.func41 rfl (by kernel_rfl) _ Try.results41 _ Try.ntmps41 (by simp) (by kernel_rfl) ?_
  repeat (first | (refine aops_fnX rfl ?_ ?_; focus (simp (maxSteps := 4000000) only [sks, pProg, pChs, pI, tvs, simprocAttr]; done)) | (simp (maxSteps := 4000000) only [pProg, pChs, pI, tvs, simprocAttr]) | refine ftS (by kernel_rfl) ?_ | refine And.intro (by omega) ?_)
  refine aops_fn (hR) (hidB rfl) rfl ?_
  repeat (first | (refine aops_fnX rfl ?_ ?_; focus (simp (maxSteps := 4000000) only [sks, d0, pProg, pChs, pI, tvl, simprocAttr]; done)) | (simp (maxSteps := 4000000) only [d0, pProg, pChs, pI, tvl, simprocAttr]) | refine ftS (by kernel_rfl) ?_ | refine And.intro (by omega) ?_)
  refine aops_callF (snew_ok.read) (hidB rfl) rfl ?_
  repeat (first | (refine aops_fnX rfl ?_ ?_; focus (simp (maxSteps := 4000000) only [sks, pMc, pInts, pI, tvs, simprocAttr]; done)) | (simp (maxSteps := 4000000) only [pMc, pInts, pI, tvs, simprocAttr]) | refine ftS (by kernel_rfl) ?_ | refine And.intro (by omega) ?_)
  refine awp_loop (X := Nat) (fun k => [(1, .pv (.lst 122 (l.map pCh))), (2, .pv (.int .i64 n)), (3, .ptr 0 0), (7, .sl 2), (8, .ptr 1 0), (9, .pv (.int .i64 k))])
    (fun k => [(0, .box [.pv (.lst 141 (rs.map pCode)), .pv (.int .i64 h)]), (1, .box (bMc (Bt.after rs h Bt.mcNew (l.take k)))), (2, .row true 118 (mkRows rs h l (times n) k))])
    (fun k => k ≤ l.length + 1) (fun k => l.length + 1 - k) 100 0 (Nat.zero_le _) (by simp (maxSteps := 4000000) only [bMc, pMc, pInts, mkRows_zero, pI, tvs, simprocAttr]; simp [Bt.after, pMc, pInts, pI]) (fun k hk => ?_)
  have e7 := mkRows_len rs h l (times n) k
  by_cases c1 : k ≤ l.length
  rotate_left
  · have d1 : decide ((k : Int) ≤ (l.length : Int)) = false := by rw [decide_eq_false_iff_not]; omega
    obtain rfl : k = l.length + 1 := by omega
    repeat (first | (refine aops_fnX rfl ?_ ?_; focus (simp (maxSteps := 4000000) only [sks, d1, pI, tvl, simprocAttr]; done)) | (simp (maxSteps := 4000000) only [d1, pI, tvl, simprocAttr]) | refine ftS (by kernel_rfl) ?_ | refine And.intro (by omega) ?_)
    all_goals (first | rfl | trivial | skip)
  have d1 : decide ((k : Int) ≤ (l.length : Int)) = true := by rw [decide_eq_true_eq]; omega
  have hsm : Small (Bt.after rs h Bt.mcNew (l.take k)) := Small.of (Bt.after_sz rs h _)
  have hCp := scopy_ok hsm
  by_cases c2 : k < l.length
  · have d2 : decide ((k : Int) < (l.length : Int)) = true := by rw [decide_eq_true_eq]; omega
    have e5 : (l.map pCh)[k]? = some (pCh l[k]) := by simp [c2]
    have hdo := sdo_ok (rs := rs) (h := h) (m := Bt.after rs h Bt.mcNew (l.take k)) (c := l[k]) hne hn hsm
    have e6 := Bt.after_take (rs := rs) (h := h) (m := Bt.mcNew) c2
    rw [← e6] at hdo
    cases ht : times n k
    · have e8 := mkRows_no (rs := rs) (h := h) (l := l) ht
      have dt : ((k : Int).tmod n == 0) = false := ht
      generalize (Bt.doM rs h (Bt.after rs h Bt.mcNew (l.take k)) l[k]).isSome = js at hdo
      generalize Bt.after rs h Bt.mcNew (l.take k) = m at hdo e6 ⊢
      obtain ⟨m2, hm2⟩ : ∃ m2, Bt.after rs h Bt.mcNew (l.take (k + 1)) = m2 := ⟨_, rfl⟩
      rw [hm2] at hdo
      repeat (first | (refine aops_fnX rfl ?_ ?_; focus (simp (maxSteps := 4000000) only [sks, d1, d2, e5, hz, hz2, dt, bMc, pMc, pCh, pInts, pI, tvl, simprocAttr]; done)) | (simp (maxSteps := 4000000) only [d1, d2, e5, hz, hz2, dt, bMc, pMc, pCh, pInts, pI, tvl, simprocAttr]) | refine ftS (by kernel_rfl) ?_ | refine And.intro (by omega) ?_)
      refine aops_callF (hdo) (hidB rfl) rfl ?_
      repeat (first | (refine aops_fnX rfl ?_ ?_; focus (simp (maxSteps := 4000000) only [sks, pProg, bMc, pMc, pCh, pInts, pI, tvl, simprocAttr]; done)) | (simp (maxSteps := 4000000) only [pProg, bMc, pMc, pCh, pInts, pI, tvl, simprocAttr]) | refine ftS (by kernel_rfl) ?_ | refine And.intro (by omega) ?_)
      refine ⟨k + 1, by omega, by omega, ?_⟩
      simp [hm2, e8, bMc, pMc, pInts, pI]
    · have e8 := mkRows_yes (rs := rs) (h := h) (l := l) ht
      have dt : ((k : Int).tmod n == 0) = true := ht
      unfold mkRow at e8
      generalize (Bt.doM rs h (Bt.after rs h Bt.mcNew (l.take k)) l[k]).isSome = js at hdo
      generalize Bt.after rs h Bt.mcNew (l.take k) = m at hdo e6 e8 hCp ⊢
      obtain ⟨m2, hm2⟩ : ∃ m2, Bt.after rs h Bt.mcNew (l.take (k + 1)) = m2 := ⟨_, rfl⟩
      rw [hm2] at hdo
      repeat (first | (refine aops_fnX rfl ?_ ?_; focus (simp (maxSteps := 4000000) only [sks, d1, d2, e5, hz, hz2, dt, bMc, pMc, pCh, pInts, pI, tvl, simprocAttr]; done)) | (simp (maxSteps := 4000000) only [d1, d2, e5, hz, hz2, dt, bMc, pMc, pCh, pInts, pI, tvl, simprocAttr]) | refine ftS (by kernel_rfl) ?_ | refine And.intro (by omega) ?_)
      refine aops_fn (hCp) (hidB rfl) rfl ?_
      repeat (first | (refine aops_fnX rfl ?_ ?_; focus (simp (maxSteps := 4000000) only [sks, d2, e5, e7, bMc, pMc, pCh, pInts, pI, tvl, simprocAttr]; done)) | (simp (maxSteps := 4000000) only [d2, e5, e7, bMc, pMc, pCh, pInts, pI, tvl, simprocAttr]) | refine ftS (by kernel_rfl) ?_ | refine And.intro (by omega) ?_)
      refine aops_callF (hdo) (hidB rfl) rfl ?_
      repeat (first | (refine aops_fnX rfl ?_ ?_; focus (simp (maxSteps := 4000000) only [sks, pProg, bMc, pMc, pCh, pInts, pI, tvl, simprocAttr]; done)) | (simp (maxSteps := 4000000) only [pProg, bMc, pMc, pCh, pInts, pI, tvl, simprocAttr]) | refine ftS (by kernel_rfl) ?_ | refine And.intro (by omega) ?_)
      refine ⟨k + 1, by omega, by omega, ?_⟩
      simp [hm2, e8, bMc, pMc, pInts, pI]
  · have d2 : decide ((k : Int) < (l.length : Int)) = false := by rw [decide_eq_false_iff_not]; omega
    obtain rfl : k = l.length := by omega
    have e6 : l.take (l.length + 1) = l.take l.length := by rw [List.take_length, List.take_of_length_le (by omega)]
    cases ht : times n l.length
    · have e8 := mkRows_no (rs := rs) (h := h) (l := l) ht
      have dt : ((l.length : Int).tmod n == 0) = false := ht
      repeat (first | (refine aops_fnX rfl ?_ ?_; focus (simp (maxSteps := 4000000) only [sks, d1, d2, hz, hz2, dt, bMc, pMc, pCh, pInts, pI, tvl, simprocAttr]; done)) | (simp (maxSteps := 4000000) only [d1, d2, hz, hz2, dt, bMc, pMc, pCh, pInts, pI, tvl, simprocAttr]) | refine ftS (by kernel_rfl) ?_ | refine And.intro (by omega) ?_)
      refine ⟨l.length + 1, by omega, by omega, ?_⟩
      simp [e6, e8, bMc, pMc, pInts, pI]
    · have e8 := mkRows_yes (rs := rs) (h := h) (l := l) ht
      have dt : ((l.length : Int).tmod n == 0) = true := ht
      unfold mkRow at e8
      obtain ⟨m, hm⟩ : ∃ m, Bt.after rs h Bt.mcNew (l.take l.length) = m := ⟨_, rfl⟩
      have hm2 : Bt.after rs h Bt.mcNew (l.take (l.length + 1)) = m := by rw [e6]; exact hm
      have hm3 : Bt.after rs h Bt.mcNew l = m := by rw [← hm, List.take_length]
      rw [hm] at e8 hCp ⊢
      repeat (first | (refine aops_fnX rfl ?_ ?_; focus (simp (maxSteps := 4000000) only [sks, d1, d2, hz, hz2, dt, bMc, pMc, pCh, pInts, pI, tvl, simprocAttr]; done)) | (simp (maxSteps := 4000000) only [d1, d2, hz, hz2, dt, bMc, pMc, pCh, pInts, pI, tvl, simprocAttr]) | refine ftS (by kernel_rfl) ?_ | refine And.intro (by omega) ?_)
      refine aops_fn (hCp) (hidB rfl) rfl ?_
      repeat (first | (refine aops_fnX rfl ?_ ?_; focus (simp (maxSteps := 4000000) only [sks, d2, e7, bMc, pMc, pCh, pInts, pI, tvl, simprocAttr]; done)) | (simp (maxSteps := 4000000) only [d2, e7, bMc, pMc, pCh, pInts, pI, tvl, simprocAttr]) | refine ftS (by kernel_rfl) ?_ | refine And.intro (by omega) ?_)
      refine ⟨l.length + 1, by omega, by omega, ?_⟩
      simp [hm2, hm3, e8, bMc, pMc, pInts, pI]
theorem kept_zero (n : Nat) : Bt.kept ((0 : Nat) : Int) n = true := by rw [kept_in (by omega) (by omega)]; simp
theorem times_one (j : Nat) : times 1 j = true := by simp [times]
set_option maxRecDepth 10000 in
set_option maxHeartbeats 8000000 in
theorem sMarksThin_ok {rs : List Bt.C4} {h : Int} {l : List Bt.Ch} (hn : rs.length ≤ 1048576) (hl : l.length ≤ 1048576) : FnOk E.P 49 [pProg rs h, pChs l] (.lst 118 (thinOf rs h l)) false := by
  have hE := sMarksEvery_ok (rs := rs) (h := h) (n := 1) (l := l) hn hl
  obtain ⟨M, hM, hE1, hT⟩ : ∃ M, M ≤ l.length + 1 ∧ everyOf rs h l 1 = (List.range M).map (mkRow rs h l) ∧ thinOf rs h l = mkRows rs h l (keepOf l.length) M := by
    unfold everyOf thinOf
    cases ho : Bt.runOk rs h l
    · exact ⟨0, by omega, by rw [if_neg (by simp)]; rfl, by rw [if_neg (by simp)]; rfl⟩
    · exact ⟨l.length + 1, by omega, by rw [if_pos ⟨rfl, by omega⟩, mkRows_all _ _ _ _ times_one], by rw [if_pos rfl]⟩
  rw [hT]
  rw [hE1] at hE
  have e3 : ((List.range M).map (mkRow rs h l)).length = M := by simp
  obtain ⟨all, hall⟩ : ∃ all, (List.range M).map (mkRow rs h l) = all := ⟨_, rfl⟩
  rw [hall] at hE e3
  refine fn_ok mixed Try.func49 rfl (by kernel_rfl) _ Try.results49 _ Try.ntmps49 (by simp) (by kernel_rfl) ?_
  repeat (first | (refine aops_fnX rfl ?_ ?_; focus (simp (maxSteps := 4000000) only [sks, pProg, pChs, pI, tvl, simprocAttr]; done)) | (simp (maxSteps := 4000000) only [pProg, pChs, pI, tvl, simprocAttr]) | refine ftS (by kernel_rfl) ?_ | refine And.intro (by omega) ?_)
  refine aops_callF (hE.read) (hidB rfl) rfl ?_
  repeat (first | (refine aops_fnX rfl ?_ ?_; focus (simp (maxSteps := 4000000) only [sks, e3, pProg, pChs, pI, tvl, simprocAttr]; done)) | (simp (maxSteps := 4000000) only [e3, pProg, pChs, pI, tvl, simprocAttr]) | refine ftS (by kernel_rfl) ?_ | refine And.intro (by omega) ?_)
  refine awp_loop (X := Nat) (fun k => [(1, .pv (.lst 122 (l.map pCh))), (5, .sl 0), (6, .pv (.lst 118 all)), (7, .pv (.int .i64 k))])
    (fun k => [(0, .row (decide (k = 0)) 118 (mkRows rs h l (keepOf l.length) k))])
    (fun k => k ≤ M) (fun k => M - k) 100 0 (Nat.zero_le _) (by simp (maxSteps := 4000000) only [mkRows_zero, pI, tvl, simprocAttr]; try simp) (fun k hk => ?_)
  have e7 := mkRows_len rs h l (keepOf l.length) k
  by_cases c1 : k < M
  rotate_left
  · have d1 : decide ((k : Int) < (M : Int)) = false := by rw [decide_eq_false_iff_not]; omega
    obtain rfl : k = M := by omega
    repeat (first | (refine aops_fnX rfl ?_ ?_; focus (simp (maxSteps := 4000000) only [sks, e3, d1, pI, tvl, simprocAttr]; done)) | (simp (maxSteps := 4000000) only [e3, d1, pI, tvl, simprocAttr]) | refine ftS (by kernel_rfl) ?_ | refine And.intro (by omega) ?_)
    all_goals (first | rfl | trivial | skip)
  have d1 : decide ((k : Int) < (M : Int)) = true := by rw [decide_eq_true_eq]; omega
  have e5 : all[k]? = some (mkRow rs h l k) := by rw [← hall, List.getElem?_map, List.getElem?_range c1]; rfl
  have hK := skept_ok (a := (k : Int)) (b := (l.length : Int)) (by omega)
  unfold mkRow at e5
  cases ht : Bt.kept (k : Int) l.length
  · rw [ht] at hK
    have e8 := mkRows_no (rs := rs) (h := h) (l := l) (p := keepOf l.length) (k := k) ht
    have dk : decide (k = 0) = false := by
      rw [decide_eq_false_iff_not]
      rintro rfl
      rw [kept_zero] at ht
      cases ht
    generalize Bt.after rs h Bt.mcNew (l.take k) = m at e5
    repeat (first | (refine aops_fnX rfl ?_ ?_; focus (simp (maxSteps := 4000000) only [sks, e3, d1, e5, pMc, pInts, pI, tvl, simprocAttr]; done)) | (simp (maxSteps := 4000000) only [e3, d1, e5, pMc, pInts, pI, tvl, simprocAttr]) | refine ftS (by kernel_rfl) ?_ | refine And.intro (by omega) ?_)
    refine aops_fn (hK) (hidB rfl) rfl ?_
    repeat (first | (refine aops_fnX rfl ?_ ?_; focus (simp (maxSteps := 4000000) only [sks, pI, tvl, simprocAttr]; done)) | (simp (maxSteps := 4000000) only [pI, tvl, simprocAttr]) | refine ftS (by kernel_rfl) ?_ | refine And.intro (by omega) ?_)
    refine ⟨k + 1, by omega, by omega, ?_⟩
    simp [e8, dk]
  · rw [ht] at hK
    have e8 := mkRows_yes (rs := rs) (h := h) (l := l) (p := keepOf l.length) (k := k) ht
    unfold mkRow at e8
    generalize Bt.after rs h Bt.mcNew (l.take k) = m at e5 e8
    repeat (first | (refine aops_fnX rfl ?_ ?_; focus (simp (maxSteps := 4000000) only [sks, e3, d1, e5, pMc, pInts, pI, tvl, simprocAttr]; done)) | (simp (maxSteps := 4000000) only [e3, d1, e5, pMc, pInts, pI, tvl, simprocAttr]) | refine ftS (by kernel_rfl) ?_ | refine And.intro (by omega) ?_)
    refine aops_fn (hK) (hidB rfl) rfl ?_
    repeat (first | (refine aops_fnX rfl ?_ ?_; focus (simp (maxSteps := 4000000) only [sks, e3, e5, e7, Bool.and_false, pMc, pInts, pI, tvl, simprocAttr]; done)) | (simp (maxSteps := 4000000) only [e3, e5, e7, Bool.and_false, pMc, pInts, pI, tvl, simprocAttr]) | refine ftS (by kernel_rfl) ?_ | refine And.intro (by omega) ?_)
    refine ⟨k + 1, by omega, by omega, ?_⟩
    simp [e8, pMc, pInts, pI]
end Av
end Go.Proofs.Ytbkbppllcjcmhaa
