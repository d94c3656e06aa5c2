/-
  What impl.choosingIn hands back (the pattern of a walk on the plain machine).
  Contracts of chapter 3, told plainly: impl.Machines, MachineAt, Choosing.
  What impl.choosingIn and impl.Choosing hand back.
-/
import Derived.Test.YtbkbppllcjcmhaaTab
import Derived.Test.YtbkbppllcjcmhaaSThs
set_option linter.unusedSimpArgs false
set_option linter.unusedVariables false
namespace Go.Proofs.Ytbkbppllcjcmhaa
open Go.RowKit
namespace Av

def chRow (a b : Int) : List PV := [.int .i64 a, .int .i64 b, .int .i64 0]
def part1 (can : Int → Int → Bool) (i : Nat) (j : Nat) : List (List PV) := (if 0 < j ∧ can i 0 = true then [chRow i 0] else []) ++ if 1 < j ∧ can i 1 = true then [chRow i 1] else []
def allC (can : Int → Int → Bool) (k : Nat) : List (List PV) := (List.range k).flatMap fun i => part1 can i 2
theorem part1_len (can : Int → Int → Bool) (i j : Nat) : (part1 can i j).length ≤ 2 := by
  unfold part1
  split <;> split <;> simp
theorem allC_len (can : Int → Int → Bool) : ∀ k, (allC can k).length ≤ 2 * k
  | 0 => by simp [allC]
  | k + 1 => by
    have := allC_len can k
    have := part1_len can k 2
    simp only [allC, List.range_succ, List.flatMap_append, List.length_append, List.flatMap_cons, List.flatMap_nil, List.append_nil] at *
    omega
end Av
end Go.Proofs.Ytbkbppllcjcmhaa

set_option linter.unusedSimpArgs false
set_option linter.unusedVariables false
namespace Go.Proofs.Ytbkbppllcjcmhaa
open Go.RowKit
namespace Av
theorem along_run {rs : List Bt.C4} {h : Int} {l : List Bt.Ch} : ((along rs h l).length = l.length + 1 → Bt.runOk rs h l = true) ∧ (Bt.runOk rs h l = true → along rs h l = alongTo rs h l l.length) := by
  refine ⟨fun e => ?_, fun e => ?_⟩
  · rw [← runOk_is]
    have := along_len (rs := rs) (h := h) (l := l)
    rw [beq_iff_eq]
    omega
  · obtain ⟨hpo, h3, hg⟩ := Bt.runOk_facts e
    unfold along
    rw [if_pos hpo, List.take_of_length_le h3, hg]
set_option maxRecDepth 10000 in
set_option maxHeartbeats 4000000 in
theorem iMachines_ok {rs : List Bt.C4} {h : Int} {l : List Bt.Ch} (hn : rs.length ≤ 1048576) (hl : l.length ≤ 1048576) : FnOk E.P 87 [pProg rs h, pChs l] (.lst 41 (machs rs h l)) true := by
  have hle := along_le (rs := rs) (h := h) (l := l)
  by_cases c : (along rs h l).length = l.length + 1
  · have ho := along_run.1 c
    have e1 := along_run.2 ho
    have d : (((along rs h l).length : Int) != (l.length : Int) + 1) = false := by rw [c]; simp
    refine fn_ok mixed Try.func87 rfl (by kernel_rfl) _ Try.results87 _ Try.ntmps87 (by simp) (by kernel_rfl) ?_
    simp (maxSteps := 4000000) only [pProg, pChs, pI, tvs, simprocAttr]
    repeat (first | refine ftS (by kernel_rfl) ?_ | refine And.intro (by omega) ?_)
    refine aops_fn (along_ok (rs := rs) (h := h) (l := l) hn hl) (hidB rfl) rfl ?_
    simp (maxSteps := 4000000) only [d, pProg, pChs, pI, tvl, simprocAttr]
    repeat (first | refine ftS (by kernel_rfl) ?_ | refine And.intro (by omega) ?_)
    all_goals (simp [machs, ho, e1]; done)
  · have ho : Bt.runOk rs h l = false := by
      cases ho : Bt.runOk rs h l with
      | false => rfl
      | true => rw [along_run.2 ho] at c; simp [alongTo] at c
    have d : (((along rs h l).length : Int) != (l.length : Int) + 1) = true := by simp; omega
    refine fn_ok mixed Try.func87 rfl (by kernel_rfl) _ Try.results87 _ Try.ntmps87 (by simp) (by kernel_rfl) ?_
    simp (maxSteps := 4000000) only [pProg, pChs, pI, tvs, simprocAttr]
    repeat (first | refine ftS (by kernel_rfl) ?_ | refine And.intro (by omega) ?_)
    refine aops_fn (along_ok (rs := rs) (h := h) (l := l) hn hl) (hidB rfl) rfl ?_
    simp (maxSteps := 4000000) only [d, machs, ho, pProg, pChs, pI, tvl, simprocAttr]
    repeat (first | refine ftS (by kernel_rfl) ?_ | refine And.intro (by omega) ?_)
    all_goals (first | rfl | trivial | skip)
theorem machs_at {rs : List Bt.C4} {h n : Int} {l : List Bt.Ch} : (0 ≤ n ∧ n < (machs rs h l).length → ∃ m, Bt.machAt rs h l n = some m ∧ (machs rs h l)[n.toNat]? = some (pMc m)) ∧ (¬ (0 ≤ n ∧ n < (machs rs h l).length) → Bt.machAt rs h l n = none) := by
  unfold machs Bt.machAt
  cases ho : Bt.runOk rs h l
  · simp
    try omega
  · simp only [if_true, alongTo, List.length_map, List.length_range]
    refine ⟨fun hh => ?_, fun hh => if_neg (by omega)⟩
    refine ⟨_, if_pos ⟨trivial, by omega, by omega⟩, ?_⟩
    rw [List.getElem?_map, List.getElem?_range (by omega)]
    rfl
theorem cells_mc : Try.prog.cellsOf 41 = 4 := by kernel_rfl
/-- an element of a row, with its memory -/
theorem Ow.elemAt {P : Program} {w : World} {S : Nat → Prop} {e : TypeId} {rows : List (List PV)} {r : List PV} {g n cap i : Nat} (h : Ow P w S (.lst e rows) (.slice (some ⟨g, 0, none⟩) n cap)) (hi : rows[i]? = some r) :
    ∃ xs : List Value, ∃ hl : xs.length = r.length, (∀ j (hj : j < xs.length), w.cell? ⟨g, i * P.cellsOf e + j, none⟩ = some xs[j]) ∧ Ow P w S (.agg r) (.agg xs.toArray) := by
  cases h with
  | lst _ _ _ _ xs f T ho hs hS hT hd hf hr =>
    obtain ⟨hil, rfl⟩ := List.getElem?_eq_some_iff.1 hi
    have hrl : rows[i].length = P.cellsOf e := hs _ (List.getElem_mem hil)
    rcases row_cells ho hf with ⟨h1, h2⟩ | ⟨g', cap', hv, _, hlt, hn, hcell⟩
    · rw [h2] at hil; omega
    injection hv with e1 e2 e3
    injection e1 with e1
    injection e1 with e1
    subst e1
    refine ⟨(List.range rows[i].length).map fun j => f (i * P.cellsOf e + j), by simp, fun j hj => ?_, ?_⟩
    · have hj' : j < P.cellsOf e := by simpa [hrl] using hj
      have := Nat.mul_le_mul_right (P.cellsOf e) (show i + 1 ≤ rows.length by omega)
      rw [Nat.add_mul, Nat.one_mul] at this
      rw [hcell _ (by omega)]
      simp
    · refine .agg S _ _ (fun j => T (i * P.cellsOf e + j)) (by simp) (fun j b hb => (hT _ b hb).1) (fun j j' b hb hb' => ?_) (fun j hj => ?_)
      · have := hd _ _ b hb hb'
        omega
      · simp only [List.getElem_map, List.getElem_range]
        exact hr i hil j hj
theorem cell_lt' {w : World} {a : Addr} {v : Value} (h : w.cell? a = some v) : a.block < w.heap.size := by
  unfold World.cell? at h
  by_cases hb : a.block < w.heap.size
  · exact hb
  · rw [Array.getElem?_eq_none (by omega)] at h
    cases h
theorem keepz {W w' : World} (hb : Below W.heap.size W w') {p : Addr} {v : Value} (h : W.cell? p = some v) (hz : W.frozen? p = false) : w'.frozen? p = false := by
  rw [hb.frozen (cell_lt' h), hz]
theorem rd_agg {P : Program} {w : World} {M : Nat → Prop} {cs : List PV} {v : Value} (h : Rd P w M (.agg cs) v) : ∃ vs : List Value, v = .agg vs.toArray ∧ ∃ hl : vs.length = cs.length, ∀ i (hi : i < cs.length), Rd P w M cs[i] (vs[i]'(by omega)) := by
  cases h with
  | agg _ vs hl h => exact ⟨vs, rfl, hl, h⟩
end Av
end Go.Proofs.Ytbkbppllcjcmhaa

set_option linter.unusedSimpArgs false
set_option linter.unusedVariables false
namespace Go.Proofs.Ytbkbppllcjcmhaa
open Go.RowKit
namespace Av
theorem allC_is (rs : List Bt.C4) (h : Int) (m : Bt.Mc) (n : Nat) : allC (fun a b => Bt.canDo rs h m ⟨a, b, 0⟩) n = ((List.range n).flatMap (Bt.chooseOf rs h m)).map pCh := by
  have e : ∀ i : Nat, part1 (fun a b => Bt.canDo rs h m ⟨a, b, 0⟩) i 2 = (Bt.chooseOf rs h m i).map pCh := fun i => by
    unfold part1 Bt.chooseOf
    cases h1 : Bt.canDo rs h m ⟨i, 0, 0⟩ <;> cases h2 : Bt.canDo rs h m ⟨i, 1, 0⟩ <;> simp [h1, h2, pCh, chRow, pI]
  rw [allC, List.map_flatMap]
  exact congrArg (fun f => (List.range n).flatMap f) (funext e)
end Av
end Go.Proofs.Ytbkbppllcjcmhaa
