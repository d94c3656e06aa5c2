/-
  Chapter 6: marks of a run, the program's.
-/
import Derived.Test.YtbkbppllcjcmhaaMks
import Derived.Test.YtbkbppllcjcmhaaMvA
import Derived.Test.YtbkbppllcjcmhaaKept
set_option linter.unusedSimpArgs false
set_option linter.unusedVariables false
namespace Go.Proofs.Ytbkbppllcjcmhaa
open Go.RowKit
namespace Av
theorem rd_lst {P : Program} {w : World} {M : Nat → Prop} {e : TypeId} {rows : List (List PV)} {v : Value} (h : Rd P w M (.lst e rows) v) : ∃ A c, v = .slice A rows.length c := by
  cases h with
  | nil _ a cap => exact ⟨_, _, rfl⟩
  | lst _ _ b o cap f => exact ⟨_, _, rfl⟩
theorem cell_keep {w w' : World} (h : Below w.heap.size w w') {a : Addr} {v : Value} (hc : w.cell? a = some v) : w'.cell? a = some v := (World.cell?_of_block (h.block a.block (World.block_lt_of_cell? w a hc))).trans hc
theorem rd_two {P : Program} {w : World} {M : Nat → Prop} {e : TypeId} {rows : List (List PV)} {n : Int} {v : Value} (h : Rd P w M (.agg [.lst e rows, pI n]) v) : ∃ A k c, v = .agg #[.slice A k c, .int .i64 n] := by
  cases h with
  | agg _ vs hl h =>
    match vs, hl with
    | [a, b], _ =>
      obtain ⟨A, c, rfl⟩ := rd_lst (h 0 (by simp))
      have hb : Rd P w M (pI n) b := h 1 (by simp)
      obtain rfl : b = .int .i64 n := by cases hb; rfl
      exact ⟨A, _, c, rfl⟩
set_option maxRecDepth 10000 in
set_option maxHeartbeats 16000000 in
theorem iMarksEvery_ok {rs : List Bt.C4} {h n : Int} {l : List Bt.Ch} (hn : rs.length ≤ 1048576) (hl : l.length ≤ 1048576) : FnOk E.P 43 [pProg rs h, pChs l, pI n] (.lst 118 (everyOf rs h l n)) true := by
  by_cases c0 : n < 1
  · have d0 : decide (n < 1) = true := by rw [decide_eq_true_eq]; exact c0
    unfold everyOf
    rw [if_neg (by omega)]
    refine fn_ok mixed Try.func43 rfl (by kernel_rfl) _ Try.results43 _ Try.ntmps43 (by simp) (by kernel_rfl) ?_
    repeat (first | (refine aops_fnX rfl ?_ ?_; focus (simp (maxSteps := 4000000) only [sks, d0, pProg, pChs, pI, tvl, simprocAttr]; done)) | (simp (maxSteps := 4000000) only [d0, pProg, pChs, pI, tvl, simprocAttr]) | refine ftS (by kernel_rfl) ?_ | refine And.intro (by omega) ?_)
    all_goals (first | rfl | trivial | skip)
  have hM := iMachines_ok (rs := rs) (h := h) (l := l) hn hl
  refine ⟨⟨_, Try.func43, by kernel_rfl, by kernel_rfl⟩, fun w M vs hvl hv => ?_⟩
  match vs, hvl with
  | [v0, v1, v2], _ =>
    have r0 : Rd Try.prog w M (pProg rs h) v0 := hv 0 (by simp) (by simp)
    have r1 : Rd Try.prog w M (pChs l) v1 := hv 1 (by simp) (by simp)
    have r2 : Rd Try.prog w M (pI n) v2 := hv 2 (by simp) (by simp)
    obtain rfl : v2 = .int .i64 n := by cases r2; rfl
    obtain ⟨A0, n0, k0, rfl⟩ := rd_two r0
    obtain ⟨A1, n1, k1, hn1e, rfl⟩ : ∃ A n k, n = l.length ∧ v1 = .slice A n k := by
      obtain ⟨A, k, e⟩ := rd_lst r1
      exact ⟨A, _, k, by simp, e⟩
    have HN1 := Lib.hid hn1e; clear hn1e
    clear hv r2
    have HR0 := Lib.hid r0; have HR1 := Lib.hid r1
    clear r0 r1
    have hn1 : 1 ≤ n := by omega
    show Calls Try.prog 43 #[.agg #[.slice A0 n0 k0, .int .i64 h], .slice A1 n1 k1, .int .i64 n] w _
    go_enter Try.func43, Try.ntmps43
    go_wp2_with fail
    obtain ⟨wc, hwc⟩ : ∃ wc : World, wc = (w.alloc (.cells #[.slice A0 n0 k0, .int .i64 h] 61)).alloc (.cells #[] 118) := ⟨_, rfl⟩
    have hbc : Below w.heap.size w wc := by rw [hwc]; exact ((Below.refl _ _).alloc (Nat.le_refl _) _).alloc (by simp) _
    have hsc : wc.heap.size = w.heap.size + 2 := by rw [hwc]; simp
    have hrow : wc.ownsRow w.heap.size 118 5 (.slice (some ⟨w.heap.size + 1, 0, none⟩) 0 0) 0 [] := by
      rw [hwc]
      have := World.ownsRow_made (base := w.heap.size) (e := 118) (size := 5) (w.alloc (.cells #[.slice A0 n0 k0, .int .i64 h] 61)) #[] 0 (by simp) (by unfold maxLen; omega) rfl
      simpa using this
    rw [← hwc]
    have q0 : Rd Try.prog wc (fun _ => False) (pProg rs h) (.agg #[.slice A0 n0 k0, .int .i64 h]) := HR0.out.keep (Keeps.of_below hbc) (fun _ _ h => h.elim)
    have q1 : Rd Try.prog wc (fun _ => False) (pChs l) (.slice A1 n1 k1) := HR1.out.keep (Keeps.of_below hbc) (fun _ _ h => h.elim)
    refine (hM.2 wc (fun _ => False) [_, _] rfl (fun i hi hj => ?_)).mono ?_
    · match i, hi with
      | 0, _ => exact q0
      | 1, _ => exact q1
    rintro e w1 ⟨v, rfl, hb1, hO⟩
    simp only [if_true] at hO
    obtain ⟨xs, f, T2, ho, hs, hS, hT, hd, hf, hr⟩ := ow_lst_elim hO
    have hc4 : E.P.cellsOf 41 = 4 := cells4
    rw [hc4] at ho hs hf hr
    obtain ⟨A, c, rfl, HC⟩ : ∃ A c, v = .slice A (machs rs h l).length c ∧ ∀ k, k < (machs rs h l).length * 4 → ∃ g, A = some ⟨g, 0, none⟩ ∧ wc.heap.size ≤ g ∧ g < w1.heap.size ∧ w1.cell? ⟨g, k, none⟩ = some (f k) := by
      rcases row_cells ho hf with ⟨rfl, h0⟩ | ⟨g, cap, rfl, _, hlt, _, hcell⟩
      · exact ⟨none, 0, by rw [h0], fun k hk => by rw [h0] at hk; omega⟩
      · exact ⟨_, _, rfl, fun k hk => ⟨g, rfl, (hS g rfl).1, hlt, hcell k hk⟩⟩
    have hsl : ∀ k j, k < (machs rs h l).length → j < 4 → ∃ a b c, f (k * 4 + j) = .slice a b c := fun k j hk hj => by
      have e := machs_getK hk
      rw [List.getElem?_eq_getElem hk] at e
      have h4 := hs _ (List.getElem_mem hk)
      have key := hr k hk j (by omega)
      simp only [Option.some.inj e] at key
      match j, hj with
      | 0, _ => exact ow_slice key
      | 1, _ => exact ow_slice key
      | 2, _ => exact ow_slice key
      | 3, _ => exact ow_slice key
    have HMV0 : MvAcc w wc.heap.size w1.heap.size w1 w1 (.slice (some ⟨w.heap.size + 1, 0, none⟩) 0 0) f [] := by
      refine ⟨hrow.kept (row := none) ⟨hb1.os, hb1.tape, hb1.output, hb1.size, fun k hk _ => hb1.block k hk⟩ (.inr (by simp [Value.ownBlock])), fun g e => ?_, Nat.le_refl _, fun _ _ _ => rfl, hbc.trans (hb1.mono hbc.size)⟩
      left
      simp only [Value.ownBlock, Option.some.injEq] at e
      omega
    have hle := machs_lenK rs h l
    have hle2 := manyK_le rs h l
    have HEND : ∀ (wr : World) (o : Value), MvAcc w wc.heap.size w1.heap.size w1 wr o f ((List.range (machs rs h l).length).filter (times n)) → Ow Try.prog wr (fun g => w.heap.size ≤ g ∧ g < wr.heap.size) (.lst 118 (everyOf rs h l n)) o := fun wr o hmv => by
      have e := hmv.ow (rows := machs rs h l) (T2 := T2) rfl (by omega) hs (fun k g ht => (hT k g ht).1) hd hr ((List.nodup_range).filter _) (fun j hj => List.mem_range.1 (List.mem_filter.1 hj).1)
      rw [mkRows_mv _ _ _ _ (Nat.le_refl _)] at e
      have e2 : everyOf rs h l n = mkRows rs h l (times n) (machs rs h l).length := by
        unfold everyOf
        rw [machs_lenK]
        unfold manyK
        cases Bt.runOk rs h l
        · rw [if_neg (by simp)]; rfl
        · rw [if_pos ⟨rfl, hn1⟩]; rfl
      rw [e2]
      exact e
    clear hd hr hf hs ho hS hT
    generalize (machs rs h l).length = N at *
    have HHE := Lib.hid HEND
    have HHC := Lib.hid HC
    have HSL := Lib.hid hsl
    have HM0 := Lib.hid HMV0
    have hN : N ≤ 1048577 := by omega
    clear HEND HC hsl HMV0 hO hle hle2 hrow hM q0 q1 hsc hc4 hn hl
    have HB1 := Lib.hid hb1; have HBC := Lib.hid hbc
    clear hb1 hbc hwc
    go_wp2
    go_loopw [7, 17] (fun o i wr => ∃ (k : Nat) (A : Option Addr) (c : Nat), k ≤ N ∧ i = .int .i64 k ∧ o = .slice A ((List.range k).filter (times n)).length c ∧ MvAcc w wc.heap.size w1.heap.size w1 wr (.slice A ((List.range k).filter (times n)).length c) f ((List.range k).filter (times n))) (fun _ i _ => N - (intOf i).toNat)
    case atStart => exact ⟨0, _, _, Nat.zero_le _, rfl, rfl, HM0.out⟩
    case round =>
      obtain ⟨k, oA, oc, hk, rfl, rfl, hmv⟩ := hrel
      have HMV := Lib.hid hmv
      by_cases hlt : k < N
      rotate_left
      · obtain rfl : k = N := by omega
        clear hmv
        go_wp2
        go_ret
        exact ⟨_, rfl, HMV.out.below, HHE.out _ _ HMV.out⟩
      obtain ⟨g, rfl, hg1, hg2, _⟩ := HHC.out (k * 4) (by omega)
      have hcell : ∀ j, j < 4 → wr.cell? ⟨g, k * 4 + j, none⟩ = some (f (k * 4 + j)) := fun j hj => by
        obtain ⟨g', e, _, _, hc⟩ := HHC.out (k * 4 + j) (by omega)
        injection e with e
        injection e with e
        subst e
        exact HMV.out.cell hg1 hg2 hc
      obtain ⟨a0, b0, x0, f0⟩ : ∃ a b c, f (k * 4) = .slice a b c := HSL.out k 0 hlt (by decide)
      obtain ⟨a1, b1, x1, f1⟩ := HSL.out k 1 hlt (by decide)
      obtain ⟨a2, b2, x2, f2⟩ := HSL.out k 2 hlt (by decide)
      obtain ⟨a3, b3, x3, f3⟩ := HSL.out k 3 hlt (by decide)
      have p0 : wr.cell? ⟨g, k * 4, none⟩ = some (.slice a0 b0 x0) := by rw [← f0]; exact hcell 0 (by decide)
      have p1 : wr.cell? ⟨g, k * 4 + 1, none⟩ = some (.slice a1 b1 x1) := by rw [← f1]; exact hcell 1 (by decide)
      have p2 : wr.cell? ⟨g, k * 4 + 2, none⟩ = some (.slice a2 b2 x2) := by rw [← f2]; exact hcell 2 (by decide)
      have p3 : wr.cell? ⟨g, k * 4 + 3, none⟩ = some (.slice a3 b3 x3) := by rw [← f3]; exact hcell 3 (by decide)
      have HF := Lib.hid (show mvCells f k = [.int .i64 k, .slice a0 b0 x0, .slice a1 b1 x1, .slice a2 b2 x2, .slice a3 b3 x3] by unfold mvCells; rw [f0, f1, f2, f3])
      have hgw : g < wr.heap.size := by have := HMV.out.size; omega
      clear hmv hcell f0 f1 f2 f3
      obtain ⟨js, hjs⟩ : ∃ js, (List.range k).filter (times n) = js := ⟨_, rfl⟩
      rw [hjs] at HMV ⊢
      have hjl : js.length ≤ 1048576 := by
        rw [← hjs]
        have := List.length_filter_le (times n) (List.range k)
        rw [List.length_range] at this
        omega
      have hJ := Lib.hid hjs
      clear hjs
      have hem : (k : Int).tmod n = (k : Int) % n := Int.tmod_eq_emod_of_nonneg (by omega)
      cases ht : times n k
      · have hkm : ¬ ((k : Int) % n = 0) := fun e => by
          unfold times at ht
          rw [hem, e] at ht
          cases ht
        have HJ2 := Lib.hid (show (List.range (k + 1)).filter (times n) = js by rw [List.range_succ, List.filter_append, hJ.out]; simp [ht])
        clear ht hem
        go_wp2
        go_roundw
        case rel => exact ⟨k + 1, oA, oc, by omega, by go_num, by rw [HJ2.out], by rw [HJ2.out]; exact HMV.out.keep ((Below.refl _ _).alloc (Nat.le_refl _) _)⟩
        case measure => simp [intOf]; omega
      · have hkm : (k : Int) % n = 0 := by
          unfold times at ht
          rw [hem, beq_iff_eq] at ht
          exact ht
        have HJ2 := Lib.hid (show (List.range (k + 1)).filter (times n) = js ++ [k] by rw [List.range_succ, List.filter_append, hJ.out]; simp [ht])
        clear ht hem
        go_wp2_with (at_builtin; refine wp_app_mk rfl _ _ rfl w.heap.size (.slice oA js.length oc) js.length (js.flatMap (mvCells f)) rfl ?ca _ 1 (.int .i64 k) (.slice a0 b0 x0) (.slice a1 b1 x1) (.slice a2 b2 x2) (.slice a3 b3 x3) rfl ?h0 ?h1 ?h2 ?h3 ?h4 ?h5 ?cc ?cd ?_; (case ca => exact (HMV.out.keep (((Below.refl _ _).alloc (Nat.le_refl _) _).alloc (by simp) _)).row); (case h0 => go_simp); (case h1 => go_simp); (case h2 => go_simp); (case h3 => go_simp); (case h4 => go_simp); (case h5 => intro u hu; simp only [List.mem_cons, List.not_mem_nil, or_false] at hu; rcases hu with rfl | rfl | rfl | rfl | rfl <;> rfl); (case cc => exact hjl); (case cd => have := HMV.out.below.size; simp; omega); intro v2 w8 hr2 hg2 ho2; have HR2 := Lib.hid ((HMV.out.keep (((Below.refl _ _).alloc (Nat.le_refl _) _).alloc (by simp) _)).more (j := k) (by rw [HF.out]; exact hr2) hg2 ho2); obtain ⟨A9, c9, e9⟩ := HR2.out.form; subst e9; clear hr2 hg2 ho2)
        go_roundw
        case rel => exact ⟨k + 1, A9, c9, by omega, by go_num, by rw [HJ2.out, List.length_append]; rfl, by rw [HJ2.out]; exact HR2.out⟩
        case measure => simp [intOf]; omega
set_option maxRecDepth 10000 in
set_option maxHeartbeats 16000000 in
theorem iMarksThin_ok {rs : List Bt.C4} {h : Int} {l : List Bt.Ch} (hn : rs.length ≤ 1048576) (hl : l.length ≤ 1048576) : FnOk E.P 50 [pProg rs h, pChs l] (.lst 118 (thinOf rs h l)) true := by
  have hM := iMachines_ok (rs := rs) (h := h) (l := l) hn hl
  refine ⟨⟨_, Try.func50, by kernel_rfl, by kernel_rfl⟩, fun w M vs hvl hv => ?_⟩
  match vs, hvl with
  | [v0, v1], _ =>
    have r0 : Rd Try.prog w M (pProg rs h) v0 := hv 0 (by simp) (by simp)
    have r1 : Rd Try.prog w M (pChs l) v1 := hv 1 (by simp) (by simp)
    obtain ⟨A0, n0, k0, rfl⟩ := rd_two r0
    obtain ⟨A1, n1, k1, hn1e, rfl⟩ : ∃ A n k, n = l.length ∧ v1 = .slice A n k := by
      obtain ⟨A, k, e⟩ := rd_lst r1
      exact ⟨A, _, k, by simp, e⟩
    have HN1 := Lib.hid hn1e; clear hn1e
    clear hv
    have HR0 := Lib.hid r0; have HR1 := Lib.hid r1
    clear r0 r1
    show Calls Try.prog 50 #[.agg #[.slice A0 n0 k0, .int .i64 h], .slice A1 n1 k1] w _
    go_enter Try.func50, Try.ntmps50
    go_wp2_with fail
    obtain ⟨wc, hwc⟩ : ∃ wc : World, wc = (w.alloc (.cells #[.slice A0 n0 k0, .int .i64 h] 61)).alloc (.cells #[] 118) := ⟨_, rfl⟩
    have hbc : Below w.heap.size w wc := by rw [hwc]; exact ((Below.refl _ _).alloc (Nat.le_refl _) _).alloc (by simp) _
    have hsc : wc.heap.size = w.heap.size + 2 := by rw [hwc]; simp
    have hrow : wc.ownsRow w.heap.size 118 5 (.slice (some ⟨w.heap.size + 1, 0, none⟩) 0 0) 0 [] := by
      rw [hwc]
      have := World.ownsRow_made (base := w.heap.size) (e := 118) (size := 5) (w.alloc (.cells #[.slice A0 n0 k0, .int .i64 h] 61)) #[] 0 (by simp) (by unfold maxLen; omega) rfl
      simpa using this
    rw [← hwc]
    have q0 : Rd Try.prog wc (fun _ => False) (pProg rs h) (.agg #[.slice A0 n0 k0, .int .i64 h]) := HR0.out.keep (Keeps.of_below hbc) (fun _ _ h => h.elim)
    have q1 : Rd Try.prog wc (fun _ => False) (pChs l) (.slice A1 n1 k1) := HR1.out.keep (Keeps.of_below hbc) (fun _ _ h => h.elim)
    refine (hM.2 wc (fun _ => False) [_, _] rfl (fun i hi hj => ?_)).mono ?_
    · match i, hi with
      | 0, _ => exact q0
      | 1, _ => exact q1
    rintro e w1 ⟨v, rfl, hb1, hO⟩
    simp only [if_true] at hO
    obtain ⟨xs, f, T2, ho, hs, hS, hT, hd, hf, hr⟩ := ow_lst_elim hO
    have hc4 : E.P.cellsOf 41 = 4 := cells4
    rw [hc4] at ho hs hf hr
    obtain ⟨A, c, rfl, HC⟩ : ∃ A c, v = .slice A (machs rs h l).length c ∧ ∀ k, k < (machs rs h l).length * 4 → ∃ g, A = some ⟨g, 0, none⟩ ∧ wc.heap.size ≤ g ∧ g < w1.heap.size ∧ w1.cell? ⟨g, k, none⟩ = some (f k) := by
      rcases row_cells ho hf with ⟨rfl, h0⟩ | ⟨g, cap, rfl, _, hlt, _, hcell⟩
      · exact ⟨none, 0, by rw [h0], fun k hk => by rw [h0] at hk; omega⟩
      · exact ⟨_, _, rfl, fun k hk => ⟨g, rfl, (hS g rfl).1, hlt, hcell k hk⟩⟩
    have hsl : ∀ k j, k < (machs rs h l).length → j < 4 → ∃ a b c, f (k * 4 + j) = .slice a b c := fun k j hk hj => by
      have e := machs_getK hk
      rw [List.getElem?_eq_getElem hk] at e
      have h4 := hs _ (List.getElem_mem hk)
      have key := hr k hk j (by omega)
      simp only [Option.some.inj e] at key
      match j, hj with
      | 0, _ => exact ow_slice key
      | 1, _ => exact ow_slice key
      | 2, _ => exact ow_slice key
      | 3, _ => exact ow_slice key
    have HMV0 : MvAcc w wc.heap.size w1.heap.size w1 w1 (.slice (some ⟨w.heap.size + 1, 0, none⟩) 0 0) f [] := by
      refine ⟨hrow.kept (row := none) ⟨hb1.os, hb1.tape, hb1.output, hb1.size, fun k hk _ => hb1.block k hk⟩ (.inr (by simp [Value.ownBlock])), fun g e => ?_, Nat.le_refl _, fun _ _ _ => rfl, hbc.trans (hb1.mono hbc.size)⟩
      left
      simp only [Value.ownBlock, Option.some.injEq] at e
      omega
    have hle := machs_lenK rs h l
    have hle2 := manyK_le rs h l
    have HEND : ∀ (wr : World) (o : Value), MvAcc w wc.heap.size w1.heap.size w1 wr o f ((List.range (machs rs h l).length).filter (keepOf l.length)) → Ow Try.prog wr (fun g => w.heap.size ≤ g ∧ g < wr.heap.size) (.lst 118 (thinOf rs h l)) o := fun wr o hmv => by
      have e := hmv.ow (rows := machs rs h l) (T2 := T2) rfl (by omega) hs (fun k g ht => (hT k g ht).1) hd hr ((List.nodup_range).filter _) (fun j hj => List.mem_range.1 (List.mem_filter.1 hj).1)
      rw [mkRows_mv _ _ _ _ (Nat.le_refl _)] at e
      have e2 : thinOf rs h l = mkRows rs h l (keepOf l.length) (machs rs h l).length := by
        unfold thinOf
        rw [machs_lenK]
        unfold manyK
        cases Bt.runOk rs h l
        · rw [if_neg (by simp)]; rfl
        · rw [if_pos rfl]; rfl
      rw [e2]
      exact e
    clear hd hr hf hs ho hS hT
    generalize (machs rs h l).length = N at *
    have HHE := Lib.hid HEND
    have HHC := Lib.hid HC
    have HSL := Lib.hid hsl
    have HM0 := Lib.hid HMV0
    have hN : N ≤ 1048577 := by omega
    clear HEND HC hsl HMV0 hO hle hle2 hrow hM q0 q1 hsc hc4 hn
    have HB1 := Lib.hid hb1; have HBC := Lib.hid hbc
    clear hb1 hbc hwc
    go_wp2
    go_loopw [5, 13] (fun o i wr => ∃ (k : Nat) (A : Option Addr) (c : Nat), k ≤ N ∧ i = .int .i64 k ∧ o = .slice A ((List.range k).filter (keepOf l.length)).length c ∧ MvAcc w wc.heap.size w1.heap.size w1 wr (.slice A ((List.range k).filter (keepOf l.length)).length c) f ((List.range k).filter (keepOf l.length))) (fun _ i _ => N - (intOf i).toNat)
    case atStart => exact ⟨0, _, _, Nat.zero_le _, rfl, rfl, HM0.out⟩
    case round =>
      obtain ⟨k, oA, oc, hk, rfl, rfl, hmv⟩ := hrel
      have HMV := Lib.hid hmv
      by_cases hlt : k < N
      rotate_left
      · obtain rfl : k = N := by omega
        clear hmv
        go_wp2
        go_ret
        exact ⟨_, rfl, HMV.out.below, HHE.out _ _ HMV.out⟩
      obtain ⟨g, rfl, hg1, hg2, _⟩ := HHC.out (k * 4) (by omega)
      have hcell : ∀ j, j < 4 → wr.cell? ⟨g, k * 4 + j, none⟩ = some (f (k * 4 + j)) := fun j hj => by
        obtain ⟨g', e, _, _, hc⟩ := HHC.out (k * 4 + j) (by omega)
        injection e with e
        injection e with e
        subst e
        exact HMV.out.cell hg1 hg2 hc
      obtain ⟨a0, b0, x0, f0⟩ : ∃ a b c, f (k * 4) = .slice a b c := HSL.out k 0 hlt (by decide)
      obtain ⟨a1, b1, x1, f1⟩ := HSL.out k 1 hlt (by decide)
      obtain ⟨a2, b2, x2, f2⟩ := HSL.out k 2 hlt (by decide)
      obtain ⟨a3, b3, x3, f3⟩ := HSL.out k 3 hlt (by decide)
      have p0 : wr.cell? ⟨g, k * 4, none⟩ = some (.slice a0 b0 x0) := by rw [← f0]; exact hcell 0 (by decide)
      have p1 : wr.cell? ⟨g, k * 4 + 1, none⟩ = some (.slice a1 b1 x1) := by rw [← f1]; exact hcell 1 (by decide)
      have p2 : wr.cell? ⟨g, k * 4 + 2, none⟩ = some (.slice a2 b2 x2) := by rw [← f2]; exact hcell 2 (by decide)
      have p3 : wr.cell? ⟨g, k * 4 + 3, none⟩ = some (.slice a3 b3 x3) := by rw [← f3]; exact hcell 3 (by decide)
      have HF := Lib.hid (show mvCells f k = [.int .i64 k, .slice a0 b0 x0, .slice a1 b1 x1, .slice a2 b2 x2, .slice a3 b3 x3] by unfold mvCells; rw [f0, f1, f2, f3])
      have hgw : g < wr.heap.size := by have := HMV.out.size; omega
      clear hmv hcell f0 f1 f2 f3
      obtain ⟨js, hjs⟩ : ∃ js, (List.range k).filter (keepOf l.length) = js := ⟨_, rfl⟩
      rw [hjs] at HMV ⊢
      have hjl : js.length ≤ 1048576 := by
        rw [← hjs]
        have := List.length_filter_le (keepOf l.length) (List.range k)
        rw [List.length_range] at this
        omega
      have hJ := Lib.hid hjs
      clear hjs
      have hKp := ikept_ok (a := (k : Int)) (b := (l.length : Int)) (by omega)
      obtain rfl := HN1.out
      go_wp2_with fail
      obtain ⟨W8, hW8⟩ : ∃ W : World, W = wr.alloc (.cells #[.slice a0 b0 x0, .slice a1 b1 x1, .slice a2 b2 x2, .slice a3 b3 x3] 41) := ⟨_, rfl⟩
      have hb7 : Below wr.heap.size wr W8 := by rw [hW8]; exact (Below.refl _ _).alloc (Nat.le_refl _) _
      have m0 : W8.cell? ⟨wr.heap.size, 0, none⟩ = some (.slice a0 b0 x0) := by rw [hW8]; go_simp
      have m1 : W8.cell? ⟨wr.heap.size, 1, none⟩ = some (.slice a1 b1 x1) := by rw [hW8]; go_simp
      have m2 : W8.cell? ⟨wr.heap.size, 2, none⟩ = some (.slice a2 b2 x2) := by rw [hW8]; go_simp
      have m3 : W8.cell? ⟨wr.heap.size, 3, none⟩ = some (.slice a3 b3 x3) := by rw [hW8]; go_simp
      rw [← hW8]
      clear hW8
      refine (hKp.2 W8 (fun _ => False) [_, _] rfl (fun i hi hj => ?_)).mono ?_
      · match i, hi with
        | 0, _ => exact .int _ _
        | 1, _ => exact .int _ _
      rintro e w8 ⟨v, rfl, hb8, hv8⟩
      simp only [if_true] at hv8
      obtain rfl : v = .bool (Bt.kept (k : Int) (l.length : Int)) := by cases hv8; rfl
      replace m0 := cell_keep hb8 m0
      replace m1 := cell_keep hb8 m1
      replace m2 := cell_keep hb8 m2
      replace m3 := cell_keep hb8 m3
      have HMV8 := Lib.hid (HMV.out.keep (hb7.trans (hb8.mono hb7.size)))
      clear hb7 hb8 hv8 hKp p0 p1 p2 p3
      cases ht : Bt.kept (k : Int) (l.length : Int)
      · have HJ2 := Lib.hid (show (List.range (k + 1)).filter (keepOf l.length) = js by rw [List.range_succ, List.filter_append, hJ.out]; simp [show keepOf l.length k = _ from ht])
        clear ht
        go_wp2
        go_roundw
        case rel => exact ⟨k + 1, oA, oc, by omega, by go_num, by rw [HJ2.out], by rw [HJ2.out]; exact HMV8.out⟩
        case measure => simp [intOf]; omega
      · have HJ2 := Lib.hid (show (List.range (k + 1)).filter (keepOf l.length) = js ++ [k] by rw [List.range_succ, List.filter_append, hJ.out]; simp [show keepOf l.length k = _ from ht])
        clear ht
        go_wp2_with (at_builtin; refine wp_app_mk rfl _ _ rfl w.heap.size (.slice oA js.length oc) js.length (js.flatMap (mvCells f)) rfl ?ca _ 1 (.int .i64 k) (.slice a0 b0 x0) (.slice a1 b1 x1) (.slice a2 b2 x2) (.slice a3 b3 x3) rfl ?h0 ?h1 ?h2 ?h3 ?h4 ?h5 ?cc ?cd ?_; (case ca => exact (HMV8.out.keep ((Below.refl _ _).alloc (Nat.le_refl _) _)).row); (case h0 => go_simp); (case h1 => go_simp); (case h2 => go_simp); (case h3 => go_simp); (case h4 => go_simp); (case h5 => intro u hu; simp only [List.mem_cons, List.not_mem_nil, or_false] at hu; rcases hu with rfl | rfl | rfl | rfl | rfl <;> rfl); (case cc => exact hjl); (case cd => have := HMV8.out.below.size; simp; omega); intro v2 w8 hr2 hg2 ho2; have HR2 := Lib.hid ((HMV8.out.keep ((Below.refl _ _).alloc (Nat.le_refl _) _)).more (j := k) (by rw [HF.out]; exact hr2) hg2 ho2); obtain ⟨A9, c9, e9⟩ := HR2.out.form; subst e9; clear hr2 hg2 ho2)
        go_roundw
        case rel => exact ⟨k + 1, A9, c9, by omega, by go_num, by rw [HJ2.out, List.length_append]; rfl, by rw [HJ2.out]; exact HR2.out⟩
        case measure => simp [intOf]; omega
end Av
end Go.Proofs.Ytbkbppllcjcmhaa
