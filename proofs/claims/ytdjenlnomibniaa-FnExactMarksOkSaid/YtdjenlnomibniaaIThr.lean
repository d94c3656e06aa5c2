/-
  What impl.choosingIn hands back (the pattern of a walk on the plain machine).
  Contracts of chapter 3, told plainly: impl.Machines, MachineAt, Choosing.
  What impl.choosingIn and impl.Choosing hand back.
-/
import Derived.Test.YtdjenlnomibniaaTab
import Derived.Test.YtdjenlnomibniaaSThs
set_option linter.unusedSimpArgs false
set_option linter.unusedVariables false
namespace Go.Proofs.Ytdjenlnomibniaa
open Go.RowKit
namespace Av

def chRow (a b : Int) : List PV := [.int .i64 a, .int .i64 b, .int .i64 0]
def part1 (can : Int → Int → Bool) (i : Nat) (j : Nat) : List (List PV) := (if 0 < j ∧ can i 0 = true then [chRow i 0] else []) ++ if 1 < j ∧ can i 1 = true then [chRow i 1] else []
def allC (can : Int → Int → Bool) (k : Nat) : List (List PV) := (List.range k).flatMap fun i => part1 can i 2
theorem part1_len (can : Int → Int → Bool) (i j : Nat) : (part1 can i j).length ≤ 2 := by
  unfold part1
  split <;> split <;> simp
theorem allC_len (can : Int → Int → Bool) : ∀ k, (allC can k).length ≤ 2 * k
  | 0 => by simp [allC]
  | k + 1 => by
    have := allC_len can k
    have := part1_len can k 2
    simp only [allC, List.range_succ, List.flatMap_append, List.length_append, List.flatMap_cons, List.flatMap_nil, List.append_nil] at *
    omega
end Av
end Go.Proofs.Ytdjenlnomibniaa

set_option linter.unusedSimpArgs false
set_option linter.unusedVariables false
namespace Go.Proofs.Ytdjenlnomibniaa
open Go.RowKit
namespace Av
theorem along_run {rs : List Bt.C4} {h : Int} {l : List Bt.Ch} : ((along rs h l).length = l.length + 1 → Bt.runOk rs h l = true) ∧ (Bt.runOk rs h l = true → along rs h l = alongTo rs h l l.length) := by
  refine ⟨fun e => ?_, fun e => ?_⟩
  · rw [← runOk_is]
    have := along_len (rs := rs) (h := h) (l := l)
    rw [beq_iff_eq]
    omega
  · obtain ⟨hpo, h3, hg⟩ := Bt.runOk_facts e
    unfold along
    rw [if_pos hpo, List.take_of_length_le h3, hg]
set_option maxRecDepth 10000 in
set_option maxHeartbeats 4000000 in
theorem iMachines_ok {rs : List Bt.C4} {h : Int} {l : List Bt.Ch} (hn : rs.length ≤ 1048576) (hl : l.length ≤ 1048576) : FnOk E.P 114 [pProg rs h, pChs l] (.lst 41 (machs rs h l)) true := by
  have hle := along_le (rs := rs) (h := h) (l := l)
  by_cases c : (along rs h l).length = l.length + 1
  · have ho := along_run.1 c
    have e1 := along_run.2 ho
    have d : (((along rs h l).length : Int) != (l.length : Int) + 1) = false := by rw [c]; simp
    refine fn_ok mixed Try.func114 rfl (by kernel_rfl) _ Try.results114 _ Try.ntmps114 (by simp) (by kernel_rfl) ?_
    simp (maxSteps := 4000000) only [pProg, pChs, pI, tvs, simprocAttr]
    repeat (first | refine ftS (by kernel_rfl) ?_ | refine And.intro (by omega) ?_)
    refine aops_fn (along_ok (rs := rs) (h := h) (l := l) hn hl) (hidB rfl) rfl ?_
    simp (maxSteps := 4000000) only [d, pProg, pChs, pI, tvl, simprocAttr]
    repeat (first | refine ftS (by kernel_rfl) ?_ | refine And.intro (by omega) ?_)
    all_goals (simp [machs, ho, e1]; done)
  · have ho : Bt.runOk rs h l = false := by
      cases ho : Bt.runOk rs h l with
      | false => rfl
      | true => rw [along_run.2 ho] at c; simp [alongTo] at c
    have d : (((along rs h l).length : Int) != (l.length : Int) + 1) = true := by simp; omega
    refine fn_ok mixed Try.func114 rfl (by kernel_rfl) _ Try.results114 _ Try.ntmps114 (by simp) (by kernel_rfl) ?_
    simp (maxSteps := 4000000) only [pProg, pChs, pI, tvs, simprocAttr]
    repeat (first | refine ftS (by kernel_rfl) ?_ | refine And.intro (by omega) ?_)
    refine aops_fn (along_ok (rs := rs) (h := h) (l := l) hn hl) (hidB rfl) rfl ?_
    simp (maxSteps := 4000000) only [d, machs, ho, pProg, pChs, pI, tvl, simprocAttr]
    repeat (first | refine ftS (by kernel_rfl) ?_ | refine And.intro (by omega) ?_)
    all_goals (first | rfl | trivial | skip)
theorem machs_at {rs : List Bt.C4} {h n : Int} {l : List Bt.Ch} : (0 ≤ n ∧ n < (machs rs h l).length → ∃ m, Bt.machAt rs h l n = some m ∧ (machs rs h l)[n.toNat]? = some (pMc m)) ∧ (¬ (0 ≤ n ∧ n < (machs rs h l).length) → Bt.machAt rs h l n = none) := by
  unfold machs Bt.machAt
  cases ho : Bt.runOk rs h l
  · simp
    try omega
  · simp only [if_true, alongTo, List.length_map, List.length_range]
    refine ⟨fun hh => ?_, fun hh => if_neg (by omega)⟩
    refine ⟨_, if_pos ⟨trivial, by omega, by omega⟩, ?_⟩
    rw [List.getElem?_map, List.getElem?_range (by omega)]
    rfl
theorem cells_mc : Try.prog.cellsOf 41 = 4 := by kernel_rfl
/-- an element of a row, with its memory -/
theorem Ow.elemAt {P : Program} {w : World} {S : Nat → Prop} {e : TypeId} {rows : List (List PV)} {r : List PV} {g n cap i : Nat} (h : Ow P w S (.lst e rows) (.slice (some ⟨g, 0, none⟩) n cap)) (hi : rows[i]? = some r) :
    ∃ xs : List Value, ∃ hl : xs.length = r.length, (∀ j (hj : j < xs.length), w.cell? ⟨g, i * P.cellsOf e + j, none⟩ = some xs[j]) ∧ Ow P w S (.agg r) (.agg xs.toArray) := by
  cases h with
  | lst _ _ _ _ xs f T ho hs hS hT hd hf hr =>
    obtain ⟨hil, rfl⟩ := List.getElem?_eq_some_iff.1 hi
    have hrl : rows[i].length = P.cellsOf e := hs _ (List.getElem_mem hil)
    rcases row_cells ho hf with ⟨h1, h2⟩ | ⟨g', cap', hv, _, hlt, hn, hcell⟩
    · rw [h2] at hil; omega
    injection hv with e1 e2 e3
    injection e1 with e1
    injection e1 with e1
    subst e1
    refine ⟨(List.range rows[i].length).map fun j => f (i * P.cellsOf e + j), by simp, fun j hj => ?_, ?_⟩
    · have hj' : j < P.cellsOf e := by simpa [hrl] using hj
      have := Nat.mul_le_mul_right (P.cellsOf e) (show i + 1 ≤ rows.length by omega)
      rw [Nat.add_mul, Nat.one_mul] at this
      rw [hcell _ (by omega)]
      simp
    · refine .agg S _ _ (fun j => T (i * P.cellsOf e + j)) (by simp) (fun j b hb => (hT _ b hb).1) (fun j j' b hb hb' => ?_) (fun j hj => ?_)
      · have := hd _ _ b hb hb'
        omega
      · simp only [List.getElem_map, List.getElem_range]
        exact hr i hil j hj
theorem cell_lt' {w : World} {a : Addr} {v : Value} (h : w.cell? a = some v) : a.block < w.heap.size := by
  unfold World.cell? at h
  by_cases hb : a.block < w.heap.size
  · exact hb
  · rw [Array.getElem?_eq_none (by omega)] at h
    cases h
theorem keepz {W w' : World} (hb : Below W.heap.size W w') {p : Addr} {v : Value} (h : W.cell? p = some v) (hz : W.frozen? p = false) : w'.frozen? p = false := by
  rw [hb.frozen (cell_lt' h), hz]
theorem rd_agg {P : Program} {w : World} {M : Nat → Prop} {cs : List PV} {v : Value} (h : Rd P w M (.agg cs) v) : ∃ vs : List Value, v = .agg vs.toArray ∧ ∃ hl : vs.length = cs.length, ∀ i (hi : i < cs.length), Rd P w M cs[i] (vs[i]'(by omega)) := by
  cases h with
  | agg _ vs hl h => exact ⟨vs, rfl, hl, h⟩
set_option maxHeartbeats 4000000 in
set_option maxRecDepth 100000 in
set_option maxHeartbeats 8000000 in
theorem iMachineAt_ok {rs : List Bt.C4} {h n : Int} {l : List Bt.Ch} (hn : rs.length ≤ 1048576) (hl : l.length ≤ 1048576) : FnOk Try.prog 128 [pProg rs h, pChs l, pI n] (.tup [.agg (pMc ((Bt.machAt rs h l n).getD Bt.mcNil)), .bool (Bt.machAt rs h l n).isSome]) true := ⟨⟨_, Try.func128, by kernel_rfl, by kernel_rfl⟩, fun w M vs hlv hr => by
  match vs, hlv, hr with
  | [v0, v1, v2], _, hr =>
    have r0 := (hr 0 (by simp) (by simp)).weak (M' := fun _ => False) (fun _ h => h.elim)
    have r1 := (hr 1 (by simp) (by simp)).weak (M' := fun _ => False) (fun _ h => h.elim)
    have r2 := rd_int (hr 2 (by simp) (by simp))
    simp only [List.getElem_cons_zero, List.getElem_cons_succ] at r0 r1 r2
    subst r2
    obtain ⟨us, rfl, hul, hus⟩ := rd_agg r0
    match us, hul with
    | [u0, u1], _ =>
    have q1 := rd_int (hus 1 (by simp))
    simp only [List.getElem_cons_succ, List.getElem_cons_zero] at q1
    subst q1
    obtain ⟨A0, c0, rfl⟩ := rd_slice (show Rd Try.prog w (fun _ => False) (.lst 153 (rs.map pCode)) u0 from hus 0 (by simp))
    obtain ⟨A1, c1, rfl⟩ := rd_slice (show Rd Try.prog w (fun _ => False) (.lst 91 (l.map pCh)) v1 from r1)
    simp only [List.length_map] at r0 r1 ⊢
    clear hus hr
    have R0 := Lib.hid r0; have R1 := Lib.hid r1; clear r0 r1
    obtain ⟨W0, hW0⟩ : ∃ W0 : World, W0 = (w.alloc (.cells #[.slice A0 rs.length c0, .int .i64 h] 56)).alloc (.cells #[.slice none 0 0, .slice none 0 0, .slice none 0 0, .slice none 0 0] 41) := ⟨_, rfl⟩
    have B0 := Lib.hid (show Below w.heap.size w W0 by rw [hW0]; exact ((Below.refl _ _).alloc (Nat.le_refl _) _).alloc (by simp) _)
    have y0 : W0.cell? ⟨w.heap.size + 1, 0, none⟩ = some (.slice none 0 0) := by rw [hW0]; go_simp
    have y1 : W0.cell? ⟨w.heap.size + 1, 1, none⟩ = some (.slice none 0 0) := by rw [hW0]; go_simp
    have y2 : W0.cell? ⟨w.heap.size + 1, 2, none⟩ = some (.slice none 0 0) := by rw [hW0]; go_simp
    have y3 : W0.cell? ⟨w.heap.size + 1, 3, none⟩ = some (.slice none 0 0) := by rw [hW0]; go_simp
    have g0 : W0.frozen? ⟨w.heap.size + 1, 0, none⟩ = false := by rw [hW0]; go_simp
    have g1 : W0.frozen? ⟨w.heap.size + 1, 1, none⟩ = false := by rw [hW0]; go_simp
    have g2 : W0.frozen? ⟨w.heap.size + 1, 2, none⟩ = false := by rw [hW0]; go_simp
    have g3 : W0.frozen? ⟨w.heap.size + 1, 3, none⟩ = false := by rw [hW0]; go_simp
    have S0 : w.heap.size + 1 < W0.heap.size := by rw [hW0]; simp
    have hk0 : Keeps (fun _ => False) w W0 := ⟨B0.out.size, fun b hb _ => B0.out.block b hb⟩
    have HC := Lib.hid ((iMachines_ok (rs := rs) (h := h) (l := l) hn hl).2 W0 (fun _ => False) [.agg #[.slice A0 rs.length c0, .int .i64 h], .slice A1 l.length c1] rfl (fun i hi hj => by
      have hi' : i < 2 := hi
      obtain rfl | rfl : i = 0 ∨ i = 1 := by omega
      · exact R0.out.keep hk0 (fun _ _ h => h)
      · exact R1.out.keep hk0 (fun _ _ h => h)))
    have HW := Lib.hid hW0; clear hW0 hk0
    go_enter Try.func128, Try.ntmps128
    go_wp2_with fail
    rw [← HW.out]
    refine HC.out.mono ?_
    rintro e w1 ⟨v, rfl, hb1, ho⟩
    simp only [if_true] at ho
    have HO := Lib.hid (show Ow Try.prog w1 (fun g => W0.heap.size ≤ g ∧ g < w1.heap.size) (.lst 41 (machs rs h l)) v from ho); clear ho
    have z0 := keeps hb1 y0
    have z1 := keeps hb1 y1
    have z2 := keeps hb1 y2
    have z3 := keeps hb1 y3
    have f0 := keepz hb1 y0 g0
    have f1 := keepz hb1 y1 g1
    have f2 := keepz hb1 y2 g2
    have f3 := keepz hb1 y3 g3
    have B1 := Lib.hid (B0.out.trans (hb1.mono B0.out.size))
    have hz1 := hb1.size
    have HB1 := Lib.hid hb1
    clear hb1 y0 y1 y2 y3 g0 g1 g2 g3
    have fin : ∀ (W : World) (x : Value) (b : Bool) (p : PV), Ow Try.prog W (fun g => w.heap.size ≤ g ∧ g < W.heap.size) p x → Ow Try.prog W (fun g => w.heap.size ≤ g ∧ g < W.heap.size) (.tup [p, .bool b]) (.tuple #[x, .bool b]) := fun W x b p hp =>
      Ow.tup _ [_, _] [_, _] (fun i g => i = 0 ∧ w.heap.size ≤ g ∧ g < W.heap.size) rfl (fun i g h => h.2) (fun i j g hi hj => hi.1.trans hj.1.symm) (fun i hi => by
        have hi' : i < 2 := hi
        obtain rfl | rfl : i = 0 ∨ i = 1 := by omega
        · exact Ow.mono hp (fun g hg => ⟨rfl, hg⟩)
        · exact Ow.bool _ _)
    have nil4 : ∀ W : World, Ow Try.prog W (fun g => w.heap.size ≤ g ∧ g < W.heap.size) (.agg (pMc Bt.mcNil)) (.agg #[.slice none 0 0, .slice none 0 0, .slice none 0 0, .slice none 0 0]) := fun W =>
      Ow.agg _ (pMc Bt.mcNil) [_, _, _, _] (fun _ _ => False) rfl (fun _ _ h => h.elim) (fun _ _ _ h => h.elim) (fun i hi => by
        have hi' : i < 4 := hi
        obtain rfl | rfl | rfl | rfl : i = 0 ∨ i = 1 ∨ i = 2 ∨ i = 3 := by omega
        all_goals exact Ow.nil _ _)
    have HF := Lib.hid fin; have HN := Lib.hid nil4; clear fin nil4
    by_cases hin : 0 ≤ n ∧ n < (machs rs h l).length
    · obtain ⟨m, hm, hrow⟩ := machs_at.1 hin
      obtain ⟨k, rfl⟩ : ∃ k : Nat, n = k := ⟨n.toNat, by omega⟩
      rcases HO.out.forms with ⟨_, e0⟩ | ⟨g, cap, rfl, hc, hg, hlt, hz, hs⟩
      · rw [e0] at hin
        simp at hin
        omega
      obtain ⟨xs, hxl, hxc, hxo⟩ := Ow.elemAt HO.out hrow
      rw [Int.toNat_natCast] at hxc
      have hx4 : xs.length = 4 := by rw [hxl]; rfl
      match xs, hx4 with
      | [x0, x1, x2, x3], _ =>
      have c0 := hxc 0 (by simp)
      have c1 := hxc 1 (by simp)
      have c2 := hxc 2 (by simp)
      have c3 := hxc 3 (by simp)
      simp only [cells_mc, Nat.add_zero, List.getElem_cons_zero, List.getElem_cons_succ] at c0 c1 c2 c3
      obtain ⟨us', e1, hl', hu'⟩ := rd_agg (Ow.rd (M := fun _ => False) hxo (fun _ _ h => h))
      injection e1 with e1
      have e2 : [x0, x1, x2, x3] = us' := by simpa using e1
      subst e2
      obtain ⟨X0, d0, q0⟩ := rd_slice (show Rd Try.prog w1 (fun _ => False) (.lst 29 (m.ths.map pTh)) x0 from hu' 0 (by simp [pMc]))
      obtain ⟨X1, d1, q1⟩ := rd_slice (show Rd Try.prog w1 (fun _ => False) (.lst 3 (m.cells.map fun x => [pI x])) x1 from hu' 1 (by simp [pMc]))
      obtain ⟨X2, d2, q2⟩ := rd_slice (show Rd Try.prog w1 (fun _ => False) (.lst 3 (m.locks.map fun x => [pI x])) x2 from hu' 2 (by simp [pMc]))
      obtain ⟨X3, d3, q3⟩ := rd_slice (show Rd Try.prog w1 (fun _ => False) (.lst 3 (m.told.map fun x => [pI x])) x3 from hu' 3 (by simp [pMc]))
      clear e1 hl' hu'
      simp only [List.length_map] at q0 q1 q2 q3
      subst q0 q1 q2 q3
      have HX := Lib.hid hxo
      obtain ⟨N, hN⟩ : ∃ N, N = (machs rs h l).length := ⟨_, rfl⟩
      rw [← hN] at hin hc
      have HNN := Lib.hid hN; clear hxo hxc hN hrow
      have hgne : g ≠ w.heap.size + 1 := by omega
      have hk1 : k < N := by omega
      have hk2 : k < cap := by omega
      have HM := Lib.hid hm; clear hm
      have HG := Lib.hid hg; clear hg
      rw [← HNN.out]
      have k0 : ¬ ((k : Int) < 0) := by omega
      have HIN := Lib.hid hin; clear hin
      go_wp2
      refine bodyPost_ret (v := .tuple #[.agg #[.slice X0 m.ths.length d0, .slice X1 m.cells.length d1, .slice X2 m.locks.length d2, .slice X3 m.told.length d3], .bool true]) (by simp [results, Try.results128, go_sem, z0, z1, z2, z3]) rfl ?_
      rw [HM.out]
      refine ⟨_, rfl, ?_, ?_⟩
      · repeat (refine Below.setCell ?_ (by simp only; omega) _)
        exact B1.out
      · refine HF.out _ _ _ _ (Ow.mono (Ow.keep HX.out (fun b hb hlt => ?_)) (fun b hb => ⟨Nat.le_trans B0.out.size hb.1, by simpa [World.setCell] using hb.2⟩))
        have hb1 : b ≠ w.heap.size + 1 := fun e => by have := hb.1; omega
        rw [Below.heap_setCell _ _ _ b (by simpa using hb1), Below.heap_setCell _ _ _ b (by simpa using hb1), Below.heap_setCell _ _ _ b (by simpa using hb1), Below.heap_setCell _ _ _ b (by simpa using hb1)]
    · have HM := Lib.hid (machs_at.2 hin)
      rcases HO.out.forms with ⟨rfl, e0⟩ | ⟨g, cap, rfl, hc, hg, hlt, hz, hs⟩
      · have HE := Lib.hid e0; clear e0
        clear hin
        have done : ∀ W : World, Below w.heap.size w W → ∃ v, (Ending.returned (.tuple #[.agg #[.slice none 0 0, .slice none 0 0, .slice none 0 0, .slice none 0 0], .bool false]) : Ending) = .returned v ∧ Below w.heap.size w W ∧ Ow Try.prog W (fun g => w.heap.size ≤ g ∧ g < W.heap.size) (.tup [.agg (pMc Bt.mcNil), .bool false]) v := fun W hb => ⟨_, rfl, hb, HF.out _ _ _ _ (HN.out W)⟩
        have HD := Lib.hid done; clear done
        by_cases k0 : n < 0
        · go_wp2
          refine bodyPost_ret (v := .tuple #[.agg #[.slice none 0 0, .slice none 0 0, .slice none 0 0, .slice none 0 0], .bool false]) (by simp [results, Try.results128, go_sem, z0, z1, z2, z3]) rfl ?_
          rw [HM.out]
          refine HD.out _ ?_
          repeat (refine Below.setCell ?_ (by simp only; omega) _)
          exact B1.out
        · have k1 : 0 ≤ n := by omega
          go_wp2
          refine bodyPost_ret (v := .tuple #[.agg #[.slice none 0 0, .slice none 0 0, .slice none 0 0, .slice none 0 0], .bool false]) (by simp [results, Try.results128, go_sem, z0, z1, z2, z3]) rfl ?_
          rw [HM.out]
          refine HD.out _ ?_
          repeat (refine Below.setCell ?_ (by simp only; omega) _)
          exact B1.out
      · have done : ∀ W : World, Below w.heap.size w W → ∃ v, (Ending.returned (.tuple #[.agg #[.slice none 0 0, .slice none 0 0, .slice none 0 0, .slice none 0 0], .bool false]) : Ending) = .returned v ∧ Below w.heap.size w W ∧ Ow Try.prog W (fun g => w.heap.size ≤ g ∧ g < W.heap.size) (.tup [.agg (pMc Bt.mcNil), .bool false]) v := fun W hb => ⟨_, rfl, hb, HF.out _ _ _ _ (HN.out W)⟩
        have HD := Lib.hid done; clear done
        obtain ⟨N, hN⟩ : ∃ N, N = (machs rs h l).length := ⟨_, rfl⟩
        rw [← hN] at hin hc
        have HNN := Lib.hid hN; clear hN hg
        rw [← HNN.out]
        by_cases k0 : n < 0
        · clear hin
          go_wp2
          refine bodyPost_ret (v := .tuple #[.agg #[.slice none 0 0, .slice none 0 0, .slice none 0 0, .slice none 0 0], .bool false]) (by simp [results, Try.results128, go_sem, z0, z1, z2, z3]) rfl ?_
          rw [HM.out]
          refine HD.out _ ?_
          repeat (refine Below.setCell ?_ (by simp only; omega) _)
          exact B1.out
        · obtain ⟨k, rfl⟩ : ∃ k : Nat, n = k := ⟨n.toNat, by omega⟩
          have k1 : N ≤ k := by omega
          clear hin
          go_wp2
          refine bodyPost_ret (v := .tuple #[.agg #[.slice none 0 0, .slice none 0 0, .slice none 0 0, .slice none 0 0], .bool false]) (by simp [results, Try.results128, go_sem, z0, z1, z2, z3]) rfl ?_
          rw [HM.out]
          refine HD.out _ ?_
          repeat (refine Below.setCell ?_ (by simp only; omega) _)
          exact B1.out⟩
end Av
end Go.Proofs.Ytdjenlnomibniaa

set_option linter.unusedSimpArgs false
set_option linter.unusedVariables false
namespace Go.Proofs.Ytdjenlnomibniaa
open Go.RowKit
namespace Av
theorem allC_is (rs : List Bt.C4) (h : Int) (m : Bt.Mc) (n : Nat) : allC (fun a b => Bt.canDo rs h m ⟨a, b, 0⟩) n = ((List.range n).flatMap (Bt.chooseOf rs h m)).map pCh := by
  have e : ∀ i : Nat, part1 (fun a b => Bt.canDo rs h m ⟨a, b, 0⟩) i 2 = (Bt.chooseOf rs h m i).map pCh := fun i => by
    unfold part1 Bt.chooseOf
    cases h1 : Bt.canDo rs h m ⟨i, 0, 0⟩ <;> cases h2 : Bt.canDo rs h m ⟨i, 1, 0⟩ <;> simp [h1, h2, pCh, chRow, pI]
  rw [allC, List.map_flatMap]
  exact congrArg (fun f => (List.range n).flatMap f) (funext e)
end Av
end Go.Proofs.Ytdjenlnomibniaa
