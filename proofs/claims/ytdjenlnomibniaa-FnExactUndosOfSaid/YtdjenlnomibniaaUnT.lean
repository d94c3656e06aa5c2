/-
  Chapter 7: TakeBack, the model's: what is done when there is something to be gone.
-/
import Derived.Test.YtdjenlnomibniaaUnP
import Derived.Test.YtdjenlnomibniaaAvC
import Derived.Test.YtdjenlnomibniaaC2V
set_option linter.unusedSimpArgs false
set_option linter.unusedVariables false
namespace Go.Proofs.Ytdjenlnomibniaa
open Go.RowKit
namespace Av
def tbT : List (Nat × AV) := [(3, .ptr 0 0), (4, .ptr 1 0), (5, .pv (.bool false)), (6, .ptr 6 0)]
def tbH (u : Bt.Un) (cells locks : List Int) (X1 : List Bt.Th) (X2 : List Int) : List (Nat × Blk) := [(0, .box [.pv (.int .i64 u.who), .pv (.int .i64 u.old.pl), .pv (.lst 3 (u.old.regs.map fun x => [.int .i64 x])), .pv (.lst 3 (u.old.stack.map fun x => [.int .i64 x])), .pv (.int .i64 u.old.st), .pv (.int .i64 u.cell), .pv (.int .i64 u.was), .pv (.int .i64 u.lock), .pv (.int .i64 u.held), .pv (.bool u.begun), .pv (.bool u.told)]),
  (1, .box [.nil 29, .nil 3, .nil 3, .nil 3]), (2, .row true 29 (X1.map pTh)), (3, .row true 3 (cells.map fun x => [.int .i64 x])), (4, .row true 3 (locks.map fun x => [.int .i64 x])), (5, .row true 3 (X2.map fun x => [.int .i64 x])), (6, .box [.sl 2, .sl 3, .sl 4, .sl 5])]
set_option maxRecDepth 10000 in
set_option maxHeartbeats 20000000 in
theorem tbRest {m : Bt.Mc} {u : Bt.Un} (hm : Small m) (h1 : u.old.regs.length ≤ 1048576) (h2 : u.old.stack.length ≤ 1048576) (k1 : u.begun = true → 0 < m.ths.length) (k2 : u.told = true → 0 < m.told.length) {w0 : W0} {N : Nat} {fn : Func} {c0 c : Code} {rs : List ResultVar}
    (hf : E.P.funcs[20]? = some fn) (hb : fn.body = some c0) (hc : seqAt 5 c0 = some c) (hrs : fn.results = rs.toArray) :
    awpS E.P w0 N c (FinG E false rs (.tup [.agg (pMc ((Bt.takeBack m u).getD Bt.mcNil)), .bool (Bt.takeBack m u).isSome])) (mkS tbT (tbH u m.cells m.locks (Bt.cutTh m u) (Bt.cutTold m u))) 7 := by
  obtain rfl := Option.some.inj (hf.symm.trans Try.func20)
  obtain rfl := Option.some.inj hb
  obtain rfl := Option.some.inj hc
  obtain rfl : rs = _ := congrArg Array.toList (hrs.symm.trans Try.results20)
  have hTh := sthread_ok (t := u.old) h1 h2
  have no : ¬ Bt.backIn m u → Bt.takeBack m u = none := fun h => if_neg h
  have m1 := hm.ths
  have m2 := hm.told
  have m3 := hm.cells
  have m4 := hm.locks
  have yes : Bt.backIn m u → Bt.takeBack m u = some ⟨(Bt.cutTh m u).set u.who.toNat u.old, Bt.setAt m.cells u.cell u.was, Bt.setAt m.locks u.lock u.held, Bt.cutTold m u⟩ := fun h => if_pos h
  have l1 : (Bt.cutTh m u).length ≤ 1048576 := by unfold Bt.cutTh; split <;> (try simp only [List.length_take]) <;> omega
  have l2 : (Bt.cutTold m u).length ≤ 1048576 := by unfold Bt.cutTold; split <;> (try simp only [List.length_take]) <;> omega
  have l3 : ∀ i (h : i < (Bt.cutTh m u).length), (Bt.cutTh m u)[i].regs.length ≤ 1048576 ∧ (Bt.cutTh m u)[i].stack.length ≤ 1048576 := by
    have : ∀ t ∈ Bt.cutTh m u, t.regs.length ≤ 1048576 ∧ t.stack.length ≤ 1048576 := fun t ht => by
      have : t ∈ m.ths := by unfold Bt.cutTh at ht; split at ht; exact List.mem_of_mem_take ht; exact ht
      obtain ⟨i, hi, rfl⟩ := List.getElem_of_mem this
      exact ⟨hm.regs i hi, hm.stack i hi⟩
    exact fun i hi => this _ (List.getElem_mem hi)
  unfold Bt.backIn at no yes
  generalize Bt.takeBack m u = res at no yes ⊢
  generalize Bt.cutTh m u = X at no yes l1 l3 ⊢
  generalize Bt.cutTold m u = Y at no yes l2 ⊢
  by_cases key : 0 ≤ u.who ∧ u.who < X.length ∧ -1 ≤ u.cell ∧ u.cell < m.cells.length ∧ -1 ≤ u.lock ∧ u.lock < m.locks.length
  rotate_left
  · refine awpS_seq mixed ?_
    unfold tbT tbH
    by_cases g0 : u.who < 0
    · have f0 : decide (u.who < 0) = true := by simp only [decide_eq_true_eq]; omega
      rw [no (fun h => by have := h.2.2.1; omega)]
      repeat (first | (refine aops_fnX rfl ?_ ?_; focus (simp (maxSteps := 4000000) only [sks, f0, pMc, pUn, pInts, pI, tvl, simprocAttr]; done)) | (simp (maxSteps := 4000000) only [f0, pMc, pUn, pInts, pI, tvl, simprocAttr]) | refine ftS (by kernel_rfl) ?_ | refine And.intro (by omega) ?_)
      refine ⟨.inr rfl, _, Gh.refl, ?_⟩
      repeat (first | (refine aops_fnX rfl ?_ ?_; focus (simp (maxSteps := 4000000) only [sks, Option.getD_none, Option.isSome_none, Bt.mcNil, List.map_nil, pMc, pUn, pInts, pI, tvl, simprocAttr]; done)) | (simp (maxSteps := 4000000) only [Option.getD_none, Option.isSome_none, Bt.mcNil, List.map_nil, pMc, pUn, pInts, pI, tvl, simprocAttr]) | refine ftS (by kernel_rfl) ?_ | refine And.intro (by omega) ?_)
      all_goals (first | rfl | trivial | skip)
    have f0 : decide (u.who < 0) = false := by simp only [decide_eq_false_iff_not]; omega
    by_cases g1 : u.who ≥ X.length
    · have f1 : decide (u.who ≥ (X.length : Int)) = true := by simp only [decide_eq_true_eq]; omega
      rw [no (fun h => by have := h.2.2.2.1; omega)]
      repeat (first | (refine aops_fnX rfl ?_ ?_; focus (simp (maxSteps := 4000000) only [sks, f0, f1, pMc, pUn, pInts, pI, tvl, simprocAttr]; done)) | (simp (maxSteps := 4000000) only [f0, f1, pMc, pUn, pInts, pI, tvl, simprocAttr]) | refine ftS (by kernel_rfl) ?_ | refine And.intro (by omega) ?_)
      refine ⟨.inr rfl, _, Gh.refl, ?_⟩
      repeat (first | (refine aops_fnX rfl ?_ ?_; focus (simp (maxSteps := 4000000) only [sks, Option.getD_none, Option.isSome_none, Bt.mcNil, List.map_nil, pMc, pUn, pInts, pI, tvl, simprocAttr]; done)) | (simp (maxSteps := 4000000) only [Option.getD_none, Option.isSome_none, Bt.mcNil, List.map_nil, pMc, pUn, pInts, pI, tvl, simprocAttr]) | refine ftS (by kernel_rfl) ?_ | refine And.intro (by omega) ?_)
      all_goals (first | rfl | trivial | skip)
    have f1 : decide (u.who ≥ (X.length : Int)) = false := by simp only [decide_eq_false_iff_not]; omega
    by_cases g2 : u.cell < -1
    · have f2 : decide (u.cell < -1) = true := by simp only [decide_eq_true_eq]; omega
      rw [no (fun h => by have := h.2.2.2.2.1; omega)]
      repeat (first | (refine aops_fnX rfl ?_ ?_; focus (simp (maxSteps := 4000000) only [sks, f0, f1, f2, pMc, pUn, pInts, pI, tvl, simprocAttr]; done)) | (simp (maxSteps := 4000000) only [f0, f1, f2, pMc, pUn, pInts, pI, tvl, simprocAttr]) | refine ftS (by kernel_rfl) ?_ | refine And.intro (by omega) ?_)
      refine ⟨.inr rfl, _, Gh.refl, ?_⟩
      repeat (first | (refine aops_fnX rfl ?_ ?_; focus (simp (maxSteps := 4000000) only [sks, Option.getD_none, Option.isSome_none, Bt.mcNil, List.map_nil, pMc, pUn, pInts, pI, tvl, simprocAttr]; done)) | (simp (maxSteps := 4000000) only [Option.getD_none, Option.isSome_none, Bt.mcNil, List.map_nil, pMc, pUn, pInts, pI, tvl, simprocAttr]) | refine ftS (by kernel_rfl) ?_ | refine And.intro (by omega) ?_)
      all_goals (first | rfl | trivial | skip)
    have f2 : decide (u.cell < -1) = false := by simp only [decide_eq_false_iff_not]; omega
    by_cases g3 : u.cell ≥ m.cells.length
    · have f3 : decide (u.cell ≥ (m.cells.length : Int)) = true := by simp only [decide_eq_true_eq]; omega
      rw [no (fun h => by have := h.2.2.2.2.2.1; omega)]
      repeat (first | (refine aops_fnX rfl ?_ ?_; focus (simp (maxSteps := 4000000) only [sks, f0, f1, f2, f3, pMc, pUn, pInts, pI, tvl, simprocAttr]; done)) | (simp (maxSteps := 4000000) only [f0, f1, f2, f3, pMc, pUn, pInts, pI, tvl, simprocAttr]) | refine ftS (by kernel_rfl) ?_ | refine And.intro (by omega) ?_)
      refine ⟨.inr rfl, _, Gh.refl, ?_⟩
      repeat (first | (refine aops_fnX rfl ?_ ?_; focus (simp (maxSteps := 4000000) only [sks, Option.getD_none, Option.isSome_none, Bt.mcNil, List.map_nil, pMc, pUn, pInts, pI, tvl, simprocAttr]; done)) | (simp (maxSteps := 4000000) only [Option.getD_none, Option.isSome_none, Bt.mcNil, List.map_nil, pMc, pUn, pInts, pI, tvl, simprocAttr]) | refine ftS (by kernel_rfl) ?_ | refine And.intro (by omega) ?_)
      all_goals (first | rfl | trivial | skip)
    have f3 : decide (u.cell ≥ (m.cells.length : Int)) = false := by simp only [decide_eq_false_iff_not]; omega
    by_cases g4 : u.lock < -1
    · have f4 : decide (u.lock < -1) = true := by simp only [decide_eq_true_eq]; omega
      rw [no (fun h => by have := h.2.2.2.2.2.2.1; omega)]
      repeat (first | (refine aops_fnX rfl ?_ ?_; focus (simp (maxSteps := 4000000) only [sks, f0, f1, f2, f3, f4, pMc, pUn, pInts, pI, tvl, simprocAttr]; done)) | (simp (maxSteps := 4000000) only [f0, f1, f2, f3, f4, pMc, pUn, pInts, pI, tvl, simprocAttr]) | refine ftS (by kernel_rfl) ?_ | refine And.intro (by omega) ?_)
      refine ⟨.inr rfl, _, Gh.refl, ?_⟩
      repeat (first | (refine aops_fnX rfl ?_ ?_; focus (simp (maxSteps := 4000000) only [sks, Option.getD_none, Option.isSome_none, Bt.mcNil, List.map_nil, pMc, pUn, pInts, pI, tvl, simprocAttr]; done)) | (simp (maxSteps := 4000000) only [Option.getD_none, Option.isSome_none, Bt.mcNil, List.map_nil, pMc, pUn, pInts, pI, tvl, simprocAttr]) | refine ftS (by kernel_rfl) ?_ | refine And.intro (by omega) ?_)
      all_goals (first | rfl | trivial | skip)
    have f4 : decide (u.lock < -1) = false := by simp only [decide_eq_false_iff_not]; omega
    by_cases g5 : u.lock ≥ m.locks.length
    · have f5 : decide (u.lock ≥ (m.locks.length : Int)) = true := by simp only [decide_eq_true_eq]; omega
      rw [no (fun h => by have := h.2.2.2.2.2.2.2; omega)]
      repeat (first | (refine aops_fnX rfl ?_ ?_; focus (simp (maxSteps := 4000000) only [sks, f0, f1, f2, f3, f4, f5, pMc, pUn, pInts, pI, tvl, simprocAttr]; done)) | (simp (maxSteps := 4000000) only [f0, f1, f2, f3, f4, f5, pMc, pUn, pInts, pI, tvl, simprocAttr]) | refine ftS (by kernel_rfl) ?_ | refine And.intro (by omega) ?_)
      refine ⟨.inr rfl, _, Gh.refl, ?_⟩
      repeat (first | (refine aops_fnX rfl ?_ ?_; focus (simp (maxSteps := 4000000) only [sks, Option.getD_none, Option.isSome_none, Bt.mcNil, List.map_nil, pMc, pUn, pInts, pI, tvl, simprocAttr]; done)) | (simp (maxSteps := 4000000) only [Option.getD_none, Option.isSome_none, Bt.mcNil, List.map_nil, pMc, pUn, pInts, pI, tvl, simprocAttr]) | refine ftS (by kernel_rfl) ?_ | refine And.intro (by omega) ?_)
      all_goals (first | rfl | trivial | skip)
    exact absurd ⟨by omega, by omega, by omega, by omega, by omega, by omega⟩ key
  obtain ⟨g0, g1, g2, g3, g4, g5⟩ := key
  rw [yes ⟨k1, k2, g0, g1, g2, g3, g4, g5⟩]
  clear yes no
  have f0 : decide (u.who < 0) = false := by simp only [decide_eq_false_iff_not]; omega
  have f1 : decide (u.who ≥ (X.length : Int)) = false := by simp only [decide_eq_false_iff_not]; omega
  have f2 : decide (u.cell < -1) = false := by simp only [decide_eq_false_iff_not]; omega
  have f3 : decide (u.cell ≥ (m.cells.length : Int)) = false := by simp only [decide_eq_false_iff_not]; omega
  have f4 : decide (u.lock < -1) = false := by simp only [decide_eq_false_iff_not]; omega
  have f5 : decide (u.lock ≥ (m.locks.length : Int)) = false := by simp only [decide_eq_false_iff_not]; omega
  refine awpS_cut mixed tbT (tbH u m.cells m.locks X Y) 7 ?_ ?_
  · unfold tbT tbH
    repeat (first | (refine aops_fnX rfl ?_ ?_; focus (simp (maxSteps := 4000000) only [sks, f0, f1, f2, f3, f4, f5, cqs, pMc, pUn, pInts, pI, tvl, simprocAttr]; done)) | (simp (maxSteps := 4000000) only [f0, f1, f2, f3, f4, f5, cqs, pMc, pUn, pInts, pI, tvl, simprocAttr]) | refine ftS (by kernel_rfl) ?_ | refine And.intro (by omega) ?_)
    unfold LessC
    simp (maxSteps := 4000000) only [pMc, pUn, pInts, pI, tvl, simprocAttr]
    all_goals (try simp)
  have hwn : u.who.toNat < X.length := by omega
  have e6 : (X.map pTh)[u.who.toNat]? = some (pTh X[u.who.toNat]) := by simp [hwn]
  have e7 : (X.map pTh).set u.who.toNat [PV.int .i64 u.old.pl, PV.lst 3 (u.old.regs.map fun x => [PV.int .i64 x]), PV.lst 3 (u.old.stack.map fun x => [PV.int .i64 x]), PV.int .i64 u.old.st] = (X.set u.who.toNat u.old).map pTh := by rw [List.map_set]; rfl
  have l4 : ∀ i (h : i < (X.set u.who.toNat u.old).length), (X.set u.who.toNat u.old)[i].regs.length ≤ 1048576 ∧ (X.set u.who.toNat u.old)[i].stack.length ≤ 1048576 := fun i hi => by
    simp only [List.length_set] at hi
    simp only [List.getElem_set]
    split
    · exact ⟨h1, h2⟩
    · exact l3 i hi
  have l5 : (X.set u.who.toNat u.old).length ≤ 1048576 := by simpa using l1
  generalize X[u.who.toNat] = t0 at e6
  refine awpS_cut mixed tbT (tbH u m.cells m.locks (X.set u.who.toNat u.old) Y) 7 ?_ ?_
  · unfold tbT tbH
    repeat (first | (refine aops_fnX rfl ?_ ?_; focus (simp (maxSteps := 4000000) only [sks, e6, e7, pMc, pUn, pTh, pInts, pI, tvl, simprocAttr]; done)) | (simp (maxSteps := 4000000) only [e6, e7, pMc, pUn, pTh, pInts, pI, tvl, simprocAttr]) | refine ftS (by kernel_rfl) ?_ | refine And.intro (by omega) ?_)
    refine aops_fn (hTh) (hidB rfl) rfl ?_
    repeat (first | (refine aops_fnX rfl ?_ ?_; focus (simp (maxSteps := 4000000) only [sks, e6, e7, cqs, pMc, pUn, pTh, pInts, pI, tvl, simprocAttr]; done)) | (simp (maxSteps := 4000000) only [e6, e7, cqs, pMc, pUn, pTh, pInts, pI, tvl, simprocAttr]) | refine ftS (by kernel_rfl) ?_ | refine And.intro (by omega) ?_)
    unfold LessC
    simp (maxSteps := 4000000) only [pMc, pUn, pInts, pI, tvl, simprocAttr]
    all_goals (try simp)
  clear e6 e7 l3 hTh
  generalize X.set u.who.toNat u.old = X at l4 l5 ⊢
  have q1 : (Bt.setAt m.cells u.cell u.was).length ≤ 1048576 := by unfold Bt.setAt; split <;> (try simp only [List.length_set]) <;> omega
  have q2 : (Bt.setAt m.locks u.lock u.held).length ≤ 1048576 := by unfold Bt.setAt; split <;> (try simp only [List.length_set]) <;> omega
  have hc2 := scopy_ok (m := ⟨X, Bt.setAt m.cells u.cell u.was, Bt.setAt m.locks u.lock u.held, Y⟩) ⟨l5, q1, q2, l2, fun i hi => (l4 i hi).1, fun i hi => (l4 i hi).2⟩
  refine awpS_cut mixed tbT (tbH u (Bt.setAt m.cells u.cell u.was) m.locks X Y) 7 ?_ ?_
  · unfold tbT tbH Bt.setAt
    by_cases v : u.cell = -1
    · have x0 : decide (u.cell ≥ 0) = false := by simp only [decide_eq_false_iff_not]; omega
      rw [if_pos v]
      repeat (first | (refine aops_fnX rfl ?_ ?_; focus (simp (maxSteps := 4000000) only [sks, x0, cqs, pMc, pUn, pInts, pI, tvl, simprocAttr]; done)) | (simp (maxSteps := 4000000) only [x0, cqs, pMc, pUn, pInts, pI, tvl, simprocAttr]) | refine ftS (by kernel_rfl) ?_ | refine And.intro (by omega) ?_)
      unfold LessC
      simp (maxSteps := 4000000) only [pMc, pUn, pInts, pI, tvl, simprocAttr]
      all_goals (try simp)
    · have x0 : decide (u.cell ≥ 0) = true := by simp only [decide_eq_true_eq]; omega
      have hcn : u.cell.toNat < m.cells.length := by omega
      have x1 : (m.cells.map fun x => [PV.int .i64 x])[u.cell.toNat]? = some [.int .i64 m.cells[u.cell.toNat]] := by simp [hcn]
      have x2 : (m.cells.map fun x => [PV.int .i64 x]).set u.cell.toNat [.int .i64 u.was] = (m.cells.set u.cell.toNat u.was).map fun x => [PV.int .i64 x] := by rw [List.map_set]
      rw [if_neg v]
      repeat (first | (refine aops_fnX rfl ?_ ?_; focus (simp (maxSteps := 4000000) only [sks, x0, x1, x2, cqs, pMc, pUn, pInts, pI, tvl, simprocAttr]; done)) | (simp (maxSteps := 4000000) only [x0, x1, x2, cqs, pMc, pUn, pInts, pI, tvl, simprocAttr]) | refine ftS (by kernel_rfl) ?_ | refine And.intro (by omega) ?_)
      unfold LessC
      simp (maxSteps := 4000000) only [x2, pMc, pUn, pInts, pI, tvl, simprocAttr]
      all_goals (try simp [x2])
  refine awpS_cut mixed tbT (tbH u (Bt.setAt m.cells u.cell u.was) (Bt.setAt m.locks u.lock u.held) X Y) 7 ?_ ?_
  · generalize Bt.setAt m.cells u.cell u.was = C
    unfold tbT tbH Bt.setAt
    by_cases v : u.lock = -1
    · have x0 : decide (u.lock ≥ 0) = false := by simp only [decide_eq_false_iff_not]; omega
      rw [if_pos v]
      repeat (first | (refine aops_fnX rfl ?_ ?_; focus (simp (maxSteps := 4000000) only [sks, x0, cqs, pMc, pUn, pInts, pI, tvl, simprocAttr]; done)) | (simp (maxSteps := 4000000) only [x0, cqs, pMc, pUn, pInts, pI, tvl, simprocAttr]) | refine ftS (by kernel_rfl) ?_ | refine And.intro (by omega) ?_)
      unfold LessC
      simp (maxSteps := 4000000) only [pMc, pUn, pInts, pI, tvl, simprocAttr]
      all_goals (try simp)
    · have x0 : decide (u.lock ≥ 0) = true := by simp only [decide_eq_true_eq]; omega
      have hcn : u.lock.toNat < m.locks.length := by omega
      have x1 : (m.locks.map fun x => [PV.int .i64 x])[u.lock.toNat]? = some [.int .i64 m.locks[u.lock.toNat]] := by simp [hcn]
      have x2 : (m.locks.map fun x => [PV.int .i64 x]).set u.lock.toNat [.int .i64 u.held] = (m.locks.set u.lock.toNat u.held).map fun x => [PV.int .i64 x] := by rw [List.map_set]
      rw [if_neg v]
      repeat (first | (refine aops_fnX rfl ?_ ?_; focus (simp (maxSteps := 4000000) only [sks, x0, x1, x2, cqs, pMc, pUn, pInts, pI, tvl, simprocAttr]; done)) | (simp (maxSteps := 4000000) only [x0, x1, x2, cqs, pMc, pUn, pInts, pI, tvl, simprocAttr]) | refine ftS (by kernel_rfl) ?_ | refine And.intro (by omega) ?_)
      unfold LessC
      simp (maxSteps := 4000000) only [x2, pMc, pUn, pInts, pI, tvl, simprocAttr]
      all_goals (try simp [x2])
  generalize Bt.setAt m.cells u.cell u.was = C at hc2 ⊢
  generalize Bt.setAt m.locks u.lock u.held = L at hc2 ⊢
  refine awpS_of mixed ?_
  unfold tbT tbH
  repeat (first | (refine aops_fnX rfl ?_ ?_; focus (simp (maxSteps := 4000000) only [sks, pMc, pUn, pInts, pI, tvl, simprocAttr]; done)) | (simp (maxSteps := 4000000) only [pMc, pUn, pInts, pI, tvl, simprocAttr]) | refine ftS (by kernel_rfl) ?_ | refine And.intro (by omega) ?_)
  refine aops_fn (hc2) (hidB rfl) rfl ?_
  repeat (first | (refine aops_fnX rfl ?_ ?_; focus (simp (maxSteps := 4000000) only [sks, pMc, pUn, pInts, pI, tvl, simprocAttr]; done)) | (simp (maxSteps := 4000000) only [pMc, pUn, pInts, pI, tvl, simprocAttr]) | refine ftS (by kernel_rfl) ?_ | refine And.intro (by omega) ?_)
  refine ⟨.inr rfl, _, Gh.refl, ?_⟩
  repeat (first | (refine aops_fnX rfl ?_ ?_; focus (simp (maxSteps := 4000000) only [sks, Option.getD_some, Option.isSome_some, pMc, pUn, pInts, pI, tvl, simprocAttr]; done)) | (simp (maxSteps := 4000000) only [Option.getD_some, Option.isSome_some, pMc, pUn, pInts, pI, tvl, simprocAttr]) | refine ftS (by kernel_rfl) ?_ | refine And.intro (by omega) ?_)
  all_goals (first | rfl | trivial | skip)
end Av
end Go.Proofs.Ytdjenlnomibniaa
