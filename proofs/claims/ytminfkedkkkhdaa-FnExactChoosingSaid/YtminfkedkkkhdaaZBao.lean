/-
  Part of a proof: IChs. No condition.
-/
import Derived.Test.YtminfkedkkkhdaaZBaj
set_option linter.unusedSimpArgs false
set_option linter.unusedVariables false
namespace Go.Proofs.Ytminfkedkkkhdaa
open Go.RowKit
namespace Av
theorem allC_is (rs : List Bt.C4) (h : Int) (m : Bt.Mc) (n : Nat) : allC (fun a b => Bt.canDo rs h m ⟨a, b, 0⟩) n = ((List.range n).flatMap (Bt.chooseOf rs h m)).map pCh := by
 have e : ∀ i : Nat, part1 (fun a b => Bt.canDo rs h m ⟨a, b, 0⟩) i 2 = (Bt.chooseOf rs h m i).map pCh := fun i => by
  unfold part1 Bt.chooseOf
  cases h1 : Bt.canDo rs h m ⟨i, 0, 0⟩ <;> cases h2 : Bt.canDo rs h m ⟨i, 1, 0⟩ <;> simp [h1, h2, pCh, chRow, pI]
 rw [allC, List.map_flatMap]
 exact congrArg (fun f => (List.range n).flatMap f) (funext e)
theorem choosingB_ok {rs : List Bt.C4} {h : Int} {m : Bt.Mc} (hne : rs ≠ []) (hn : rs.length ≤ 1048576) (hm : Small m) (hf : m.ths.length ≤ 5) : FnOk Try.prog 68 [pProg rs h, .agg (pMc m)] (pChs (Bt.chooseAll rs h m)) true := by
 have := choosingIn_ok (rs.map pCode) h m.ths.length (m.ths.map pTh) (by simp) (by omega) (m.cells.map fun x => [pI x]) (m.locks.map fun x => [pI x]) (m.told.map fun x => [pI x]) (fun a b => Bt.canDo rs h m ⟨a, b, 0⟩) (fun a b => can_ok (rs := rs) (h := h) (m := m) (c := ⟨a, b, 0⟩) hne hn hm)
 rw [allC_is] at this
 exact this
set_option maxRecDepth 10000 in
set_option maxHeartbeats 8000000 in
theorem iChoosing_ok {rs : List Bt.C4} {h : Int} {l : List Bt.Ch} (hn : rs.length ≤ 1048576) (hl : l.length ≤ 1048576) : FnOk E.P 31 [pProg rs h, pChs l] (pChs (Bt.choosing rs h l)) true := by
 have hAt := (iMachineAt_ok (rs := rs) (h := h) (n := l.length) (l := l) hn hl).read
 have hsm := Small.of (Bt.machAt_sz rs h l l.length)
 have hfew := Bt.machAt_few rs h l l.length
 have hne0 := machAt_run (rs := rs) (h := h) (n := l.length) (l := l)
 have hz : (Bt.machAt rs h l l.length).isSome = false → ((Bt.machAt rs h l l.length).getD Bt.mcNil).ths = [] := fun e => by
  cases hh : Bt.machAt rs h l l.length with
  | none => rfl
  | some m => rw [hh] at e; cases e
 unfold Bt.choosing
 generalize (Bt.machAt rs h l l.length).getD Bt.mcNil = m at *
 generalize (Bt.machAt rs h l l.length).isSome = ok at *
 refine fn_ok mixed Try.func31 rfl (by kernel_rfl) _ Try.results31 _ Try.ntmps31 (by simp) (by kernel_rfl) ?_
 simp (config := { maxSteps := 4000000 }) only [List.length_map, pProg, pChs, pI, plainT, bne_self_eq_false, vcs, reduceIte, reduceCtorEq, Nat.reduceEqDiff, Nat.reduceAdd, Nat.reduceMul, Nat.reduceLeDiff, Nat.reduceLT, Int.reduceEq, Int.reduceLT, Int.reduceLE, Int.reduceAdd, Int.reduceSub, Int.reduceMul, Int.reduceNeg, Int.reduceToNat, Int.reduceNe, Nat.reduceBEq, tbs]
 repeat (first | (refine ⟨(by kernel_rfl : footOk _ _ _ _ = true), ?_⟩) | (refine ⟨(by omega : (_ : Prop)), ?_⟩))
 refine aops_callF (hAt) (by first | exact Nat.le_add_right _ _ | (simp only [introT, intro1, introL, intros, pI, pProg, pMc, pCh, pChs, pInts]; omega)) rfl ?_
 cases ok
 ·have e0 := hz rfl
  simp (config := { maxSteps := 4000000 }) only [List.length_map, Bt.chooseAll, e0, List.length_nil, List.range_zero, List.flatMap_nil, List.map_nil, pChs, pMc, pInts, pI, plainT, bne_self_eq_false, vcs, reduceIte, reduceCtorEq, Nat.reduceEqDiff, Nat.reduceAdd, Nat.reduceMul, Nat.reduceLeDiff, Nat.reduceLT, Int.reduceEq, Int.reduceLT, Int.reduceLE, Int.reduceAdd, Int.reduceSub, Int.reduceMul, Int.reduceNeg, Int.reduceToNat, Int.reduceNe, Nat.reduceBEq, tbs]
  repeat (first | (refine ⟨(by kernel_rfl : footOk _ _ _ _ = true), ?_⟩) | (refine ⟨(by omega : (_ : Prop)), ?_⟩))
  all_goals (first | rfl | trivial | skip)
 ·have hCh := choosingB_ok (rs := rs) (h := h) (m := m) (hne0 rfl) hn hsm hfew
  simp (config := { maxSteps := 4000000 }) only [List.length_map, pProg, pChs, pMc, pInts, pI, plainT, bne_self_eq_false, vcs, reduceIte, reduceCtorEq, Nat.reduceEqDiff, Nat.reduceAdd, Nat.reduceMul, Nat.reduceLeDiff, Nat.reduceLT, Int.reduceEq, Int.reduceLT, Int.reduceLE, Int.reduceAdd, Int.reduceSub, Int.reduceMul, Int.reduceNeg, Int.reduceToNat, Int.reduceNe, Nat.reduceBEq, tbs]
  repeat (first | (refine ⟨(by kernel_rfl : footOk _ _ _ _ = true), ?_⟩) | (refine ⟨(by omega : (_ : Prop)), ?_⟩))
  refine aops_fn (hCh) (by first | exact Nat.le_add_right _ _ | (simp only [introT, intro1, introL, intros, pI, pProg, pMc, pCh, pChs, pInts]; omega)) rfl ?_
  simp (config := { maxSteps := 4000000 }) only [List.length_map, pProg, pChs, pMc, pInts, pI, plainT, bne_self_eq_false, vcs, reduceIte, reduceCtorEq, Nat.reduceEqDiff, Nat.reduceAdd, Nat.reduceMul, Nat.reduceLeDiff, Nat.reduceLT, Int.reduceEq, Int.reduceLT, Int.reduceLE, Int.reduceAdd, Int.reduceSub, Int.reduceMul, Int.reduceNeg, Int.reduceToNat, Int.reduceNe, Nat.reduceBEq, tbs]
  repeat (first | (refine ⟨(by kernel_rfl : footOk _ _ _ _ = true), ?_⟩) | (refine ⟨(by omega : (_ : Prop)), ?_⟩))
  all_goals (first | rfl | trivial | skip)
end Av
end Go.Proofs.Ytminfkedkkkhdaa
