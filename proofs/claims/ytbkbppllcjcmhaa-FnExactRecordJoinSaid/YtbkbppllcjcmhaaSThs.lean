/-
  The machines along a run, told plainly: impl.machinesAlong.
  impl.RunLong, RunOk and Machines, told plainly.
  Contracts of the model's chapter 3, told plainly: RunLong, RunOk, MachineAt, Machines.
  Contracts of the model's chapter 3, told plainly: Machines, Choosing.
-/
import Derived.Test.YtbkbppllcjcmhaaC2M
import Derived.Test.YtbkbppllcjcmhaaPur
import Derived.Test.YtbkbppllcjcmhaaBrS
import Derived.Test.YtbkbppllcjcmhaaAvY
set_option linter.unusedSimpArgs false
set_option linter.unusedVariables false
namespace Go.Proofs.Ytbkbppllcjcmhaa
open Go.RowKit
namespace Av
/-- the machines up to one -/
def alongTo (rs : List Bt.C4) (h : Int) (l : List Bt.Ch) (k : Nat) : List (List PV) := (List.range (k + 1)).map fun j => pMc (Bt.after rs h Bt.mcNew (l.take j))
def along (rs : List Bt.C4) (h : Int) (l : List Bt.Ch) : List (List PV) := if Bt.progOk rs h then alongTo rs h l (Bt.goFrom rs h Bt.mcNew (l.take 300)) else []
theorem go_is {rs : List Bt.C4} {h : Int} {l : List Bt.Ch} {i : Nat} (h1 : i ≤ l.length) (h2 : i ≤ 300) (h3 : ∀ j (hj : j < l.length), j < i → (Bt.doM rs h (Bt.after rs h Bt.mcNew (l.take j)) l[j]).isSome = true)
    (h4 : ∀ hj : i < l.length, i < 300 → Bt.doM rs h (Bt.after rs h Bt.mcNew (l.take i)) l[i] = none) : Bt.goFrom rs h Bt.mcNew (l.take 300) = i := by
  refine Bt.goFrom_eq (by rw [List.length_take]; omega) (fun j hj hji => ?_) (fun hj => ?_)
  · have := h3 j (by omega) hji
    rw [List.take_take, Nat.min_eq_left (by omega), List.getElem_take]
    exact this
  · rw [List.length_take] at hj
    have := h4 (by omega) (by omega)
    rw [List.take_take, Nat.min_eq_left (by omega), List.getElem_take]
    exact this
theorem along_is {rs : List Bt.C4} {h : Int} {l : List Bt.Ch} {i : Nat} (hp : Bt.progOk rs h = true) (h1 : i ≤ l.length) (h2 : i ≤ 300) (h3 : ∀ j (hj : j < l.length), j < i → (Bt.doM rs h (Bt.after rs h Bt.mcNew (l.take j)) l[j]).isSome = true)
    (h4 : ∀ hj : i < l.length, i < 300 → Bt.doM rs h (Bt.after rs h Bt.mcNew (l.take i)) l[i] = none) : alongTo rs h l i = along rs h l := by
  unfold along
  rw [if_pos hp, go_is h1 h2 h3 h4]
set_option maxRecDepth 10000 in
set_option maxHeartbeats 4000000 in
theorem along_ok {rs : List Bt.C4} {h : Int} {l : List Bt.Ch} (hn : rs.length ≤ 1048576) (hl : l.length ≤ 1048576) : FnOk E.P 115 [pProg rs h, pChs l] (.lst 41 (along rs h l)) true := by
  have hp : FnOk E.P 123 [pProg rs h] (.bool (Bt.progOk rs h)) true := by
    cases rs with
    | nil => exact prog0_ok
    | cons a b => exact progN_ok (by simp) hn
  refine fn_ok mixed Try.func115 rfl (by kernel_rfl) _ Try.results115 _ Try.ntmps115 (by simp) (by kernel_rfl) ?_
  simp (maxSteps := 2000000) only [pProg, pI, pChs, condGo_bool, tvs, simprocAttr]
  refine ⟨by kernel_rfl, ?_⟩
  refine aops_call (sn := _) (by simp only [pProg, pI, condGo_bool, tvs, simprocAttr]; exact rfl) hp (by simp only [condGo_bool, tvs, simprocAttr]) rfl ?_
  clear hp
  cases hpo : Bt.progOk rs h
  · simp only [condGo_bool, tvs, simprocAttr]
    exact ⟨by kernel_rfl, by kernel_rfl, by simp [along, hpo]⟩
  · have hne : rs ≠ [] := by
      intro e
      rw [e] at hpo
      simp [Bt.progOk] at hpo
    simp (maxSteps := 2000000) only [condGo_bool, tvs, simprocAttr]
    refine ⟨by kernel_rfl, ?_⟩
    refine aops_call (sn := _) (by simp only [pProg, pI, condGo_bool, tvs, simprocAttr]; exact rfl) new_ok (by simp only [pMc, pInts, condGo_bool, tvs, simprocAttr]) rfl ?_
    simp (maxSteps := 2000000) only [pMc, pInts, condGo_bool, tvs, simprocAttr]
    refine ⟨by kernel_rfl, by kernel_rfl, ?_⟩
    refine awp_loop (X := Nat) (fun i => [(1, .pv (.lst 122 (l.map pCh))), (2, .ptr 0 0), (5, .sl 1), (6, .pv (.int .i64 i))])
      (fun i => [(0, .box [.pv (.lst 141 (rs.map pCode)), .pv (.int .i64 h)]), (1, .row true 41 (alongTo rs h l i))])
      (fun i => i ≤ l.length ∧ i ≤ 300 ∧ ∀ j (hj : j < l.length), j < i → (Bt.doM rs h (Bt.after rs h Bt.mcNew (l.take j)) l[j]).isSome = true) (fun i => 300 - i) 100 0 ⟨Nat.zero_le _, Nat.zero_le _, fun _ _ h => absurd h (Nat.not_lt_zero _)⟩ (by simp only [condGo_bool, tvs, simprocAttr]; simp [alongTo, Bt.after, pMc, pInts]) (fun i hi => ?_)
    obtain ⟨hi1, hi2, hi3⟩ := hi
    have e4 : (alongTo rs h l i).length = i + 1 := by simp [alongTo]
    by_cases c1 : i < l.length
    · by_cases c2 : i < 300
      · have d1 : decide ((i : Int) < (l.length : Int)) = true := by simpa using c1
        have d2 : decide ((i : Int) < 300) = true := by simp; omega
        have e3 : (alongTo rs h l i)[i]? = some (pMc (Bt.after rs h Bt.mcNew (l.take i))) := by simp [alongTo]
        have e5 : (l.map pCh)[i]? = some (pCh l[i]) := by simp [c1]
        have hdo := do_ok (rs := rs) (h := h) (m := Bt.after rs h Bt.mcNew (l.take i)) (c := l[i]) hne hn (Small.of (Bt.after_sz rs h _))
        simp (maxSteps := 2000000) only [d1, d2, e3, e4, e5, pMc, pCh, pInts, pI, condGo_bool, tvl, simprocAttr]
        refine ⟨by kernel_rfl, by omega, by omega, ?_⟩
        refine aops_call (sn := _) (by simp only [pProg, pMc, pCh, pInts, pI, condGo_bool, tvs, simprocAttr]; exact rfl) hdo (by simp only [pMc, pInts, condGo_bool, tvs, simprocAttr]) rfl ?_
        clear hdo
        cases hd : Bt.doM rs h (Bt.after rs h Bt.mcNew (l.take i)) l[i] with
        | none =>
          simp (maxSteps := 2000000) only [Option.getD_none, Option.isSome_none, pMc, pInts, condGo_bool, tvs, simprocAttr]
          exact ⟨by kernel_rfl, by kernel_rfl, by kernel_rfl, along_is hpo hi1 hi2 hi3 (fun _ _ => hd)⟩
        | some m' =>
          simp (maxSteps := 2000000) only [Option.getD_some, Option.isSome_some, e4, pMc, pInts, condGo_bool, tvs, simprocAttr]
          refine ⟨by kernel_rfl, by kernel_rfl, by omega, by kernel_rfl, by omega, by kernel_rfl, i + 1, ⟨by omega, by omega, fun j hj hji => ?_⟩, by omega, by omega, ?_⟩
          · by_cases e : j = i
            · subst e
              rw [hd]; rfl
            · exact hi3 j hj (by omega)
          · have e6 := Bt.after_take (rs := rs) (h := h) (m := Bt.mcNew) c1
            rw [hd] at e6
            simp only [alongTo, List.range_succ, List.map_append, List.map_cons, List.map_nil, Option.getD_some] at e6 ⊢
            rw [e6]
            simp only [pMc, pInts, List.append_assoc, List.cons_append, List.nil_append]
      · have d1 : decide ((i : Int) < (l.length : Int)) = true := by simpa using c1
        have d2 : decide ((i : Int) < 300) = false := by simp; omega
        simp (maxSteps := 2000000) only [d1, d2, condGo_bool, tvl, simprocAttr]
        exact ⟨by kernel_rfl, by kernel_rfl, along_is hpo hi1 hi2 hi3 (fun _ h => absurd h c2)⟩
    · have d1 : decide ((i : Int) < (l.length : Int)) = false := by simpa using c1
      simp (maxSteps := 2000000) only [d1, condGo_bool, tvl, simprocAttr]
      exact ⟨by kernel_rfl, by kernel_rfl, along_is hpo hi1 hi2 hi3 (fun h _ => absurd h c1)⟩
end Av
end Go.Proofs.Ytbkbppllcjcmhaa

namespace Go.Proofs.Ytbkbppllcjcmhaa
open Go.RowKit
namespace Av
theorem along_len {rs : List Bt.C4} {h : Int} {l : List Bt.Ch} : ((along rs h l).length : Int) - 1 = Bt.runLong rs h l := by
  unfold along Bt.runLong
  split <;> simp [alongTo]
theorem along_le {rs : List Bt.C4} {h : Int} {l : List Bt.Ch} : (along rs h l).length ≤ 301 := by
  have := Bt.goFrom_le rs h (l.take 300) Bt.mcNew
  rw [List.length_take] at this
  unfold along
  split
  · simp only [alongTo, List.length_map, List.length_range]; omega
  · simp
theorem runOk_is {rs : List Bt.C4} {h : Int} {l : List Bt.Ch} : (Bt.runLong rs h l == (l.length : Int)) = Bt.runOk rs h l := by
  unfold Bt.runOk
  by_cases h3 : l.length ≤ 300
  · simp [h3]
  · have e1 := along_le (rs := rs) (h := h) (l := l)
    have e2 := along_len (rs := rs) (h := h) (l := l)
    rw [decide_eq_false h3, Bool.false_and]
    exact beq_false_of_ne (by omega)
end Av
end Go.Proofs.Ytbkbppllcjcmhaa

set_option linter.unusedSimpArgs false
set_option linter.unusedVariables false
namespace Go.Proofs.Ytbkbppllcjcmhaa
open Go.RowKit
namespace Av

theorem progOk_ne {rs : List Bt.C4} {h : Int} (e : Bt.progOk rs h = true) : rs ≠ [] := by
  intro e0
  rw [e0] at e
  simp [Bt.progOk] at e
/-- a machine told plainly, in cells -/
def bMc (m : Bt.Mc) : List AV := (pMc m).map .pv
set_option maxRecDepth 10000 in
set_option maxHeartbeats 4000000 in
theorem slong_ok {rs : List Bt.C4} {h : Int} {l : List Bt.Ch} (hn : rs.length ≤ 1048576) (hl : l.length ≤ 1048576) : FnOk E.P 109 [pProg rs h, pChs l] (pI (Bt.runLong rs h l)) true := by
  refine fn_ok mixed Try.func109 rfl (by kernel_rfl) _ Try.results109 _ Try.ntmps109 (by simp) (by kernel_rfl) ?_
  simp (maxSteps := 4000000) only [pProg, pChs, pI, tvs, simprocAttr]
  repeat (first | refine ftS (by kernel_rfl) ?_ | refine And.intro (by omega) ?_)
  refine aops_fn (sprog_ok (rs := rs) (h := h) hn) (hidB rfl) rfl ?_
  cases hpo : Bt.progOk rs h
  · simp (maxSteps := 4000000) only [pProg, pChs, pI, tvs, simprocAttr]
    repeat (first | refine ftS (by kernel_rfl) ?_ | refine And.intro (by omega) ?_)
    all_goals (simp [Bt.runLong, hpo]; done)
  · have hne := progOk_ne hpo
    simp (maxSteps := 4000000) only [pProg, pChs, pI, tvs, simprocAttr]
    repeat (first | refine ftS (by kernel_rfl) ?_ | refine And.intro (by omega) ?_)
    refine aops_callF (snew_ok.read) (hidB rfl) rfl ?_
    simp (maxSteps := 4000000) only [pMc, pInts, tvs, simprocAttr]
    repeat (first | refine ftS (by kernel_rfl) ?_ | refine And.intro (by omega) ?_)
    refine awp_loop (X := Nat) (fun k => [(1, .pv (.lst 122 (l.map pCh))), (2, .ptr 0 0), (5, .ptr 1 0), (6, .pv (.int .i64 k))])
      (fun k => [(0, .box [.pv (.lst 141 (rs.map pCode)), .pv (.int .i64 h)]), (1, .box (bMc (Bt.after rs h Bt.mcNew (l.take k))))])
      (fun k => k ≤ l.length ∧ k ≤ 300 ∧ ∀ j (hj : j < l.length), j < k → (Bt.doM rs h (Bt.after rs h Bt.mcNew (l.take j)) l[j]).isSome = true) (fun k => 300 - k) 100 0 ⟨Nat.zero_le _, Nat.zero_le _, fun _ _ h => absurd h (Nat.not_lt_zero _)⟩ (by simp (maxSteps := 4000000) only [bMc, pMc, pInts, tvs, simprocAttr]; simp [Bt.after]) (fun k hk => ?_)
    obtain ⟨hk1, hk2, hk3⟩ := hk
    by_cases c1 : k < l.length
    · have d1 : decide ((k : Int) < (l.length : Int)) = true := by simpa using c1
      by_cases c2 : k < 300
      · have d2 : decide ((k : Int) < 300) = true := by simp; omega
        have e5 : (l.map pCh)[k]? = some (pCh l[k]) := by simp [c1]
        have hdo := sdo_ok (rs := rs) (h := h) (m := Bt.after rs h Bt.mcNew (l.take k)) (c := l[k]) hne hn (Small.of (Bt.after_sz rs h _))
        simp (maxSteps := 4000000) only [d1, d2, e5, bMc, pMc, pCh, pInts, pI, tvl, simprocAttr]
        repeat (first | refine ftS (by kernel_rfl) ?_ | refine And.intro (by omega) ?_)
        refine aops_callF (hdo) (hidB rfl) rfl ?_
        clear hdo
        cases hd : Bt.doM rs h (Bt.after rs h Bt.mcNew (l.take k)) l[k] with
        | none =>
          simp (maxSteps := 4000000) only [d1, d2, Option.getD_none, Option.isSome_none, pProg, pMc, pCh, pInts, pI, tvl, simprocAttr]
          repeat (first | refine ftS (by kernel_rfl) ?_ | refine And.intro (by omega) ?_)
          have := go_is (rs := rs) (h := h) hk1 hk2 hk3 (fun _ _ => hd)
          simp [Bt.runLong, hpo, this]
        | some m' =>
          simp (maxSteps := 4000000) only [d1, d2, Option.getD_some, Option.isSome_some, pProg, pMc, pCh, pInts, pI, tvl, simprocAttr]
          repeat (first | refine ftS (by kernel_rfl) ?_ | refine And.intro (by omega) ?_)
          refine ⟨k + 1, ⟨by omega, by omega, fun j hj hji => ?_⟩, by omega, ?_⟩
          · by_cases e : j = k
            · subst e
              rw [hd]; rfl
            · exact hk3 j hj (by omega)
          · have e6 := Bt.after_take (rs := rs) (h := h) (m := Bt.mcNew) c1
            rw [hd] at e6
            simp only [Option.getD_some] at e6
            rw [e6]
            simp [bMc, pMc, pInts, pI]
      · have d2 : decide ((k : Int) < 300) = false := by simp; omega
        simp (maxSteps := 4000000) only [d1, d2, pI, tvl, simprocAttr]
        repeat (first | refine ftS (by kernel_rfl) ?_ | refine And.intro (by omega) ?_)
        have e0 := go_is (rs := rs) (h := h) hk1 hk2 hk3 (fun _ h => absurd h c2)
        have : ¬ (300 : Int) > l.length := by omega
        simp [Bt.runLong, hpo, e0]
        omega
    · have d1 : decide ((k : Int) < (l.length : Int)) = false := by simpa using c1
      simp (maxSteps := 4000000) only [d1, pI, tvl, simprocAttr]
      repeat (first | refine ftS (by kernel_rfl) ?_ | refine And.intro (by omega) ?_)
      have e0 := go_is (rs := rs) (h := h) hk1 hk2 hk3 (fun h => absurd h c1)
      simp [Bt.runLong, hpo, e0]
      omega
set_option maxRecDepth 10000 in
set_option maxHeartbeats 4000000 in
theorem sok_ok {rs : List Bt.C4} {h : Int} {l : List Bt.Ch} (hn : rs.length ≤ 1048576) (hl : l.length ≤ 1048576) : FnOk E.P 82 [pProg rs h, pChs l] (.bool (Bt.runOk rs h l)) true := by
  by_cases c : l.length ≤ 300
  · have d : decide ((l.length : Int) ≤ 300) = true := by simp; omega
    refine fn_ok mixed Try.func82 rfl (by kernel_rfl) _ Try.results82 _ Try.ntmps82 (by simp) (by kernel_rfl) ?_
    simp (maxSteps := 4000000) only [d, pProg, pChs, pI, tvl, simprocAttr]
    repeat (first | refine ftS (by kernel_rfl) ?_ | refine And.intro (by omega) ?_)
    refine aops_fnG (slong_ok (rs := rs) (h := h) (l := l) hn hl) (hidB rfl) rfl rfl (by simp (maxSteps := 4000000) only [d, pProg, pChs, pI, tvl, simprocAttr]) ?_
    simp (maxSteps := 4000000) only [d, pProg, pChs, pI, tvl, simprocAttr]
    repeat (first | refine ftS (by kernel_rfl) ?_ | refine And.intro (by omega) ?_)
    all_goals (simp [Bt.runOk, c]; done)
  · have d : decide ((l.length : Int) ≤ 300) = false := by simp; omega
    refine fn_ok mixed Try.func82 rfl (by kernel_rfl) _ Try.results82 _ Try.ntmps82 (by simp) (by kernel_rfl) ?_
    simp (maxSteps := 4000000) only [d, pProg, pChs, pI, tvl, simprocAttr]
    repeat (first | refine ftS (by kernel_rfl) ?_ | refine And.intro (by omega) ?_)
    refine aops_fnN rfl (by simp (maxSteps := 4000000) only [d, pProg, pChs, pI, tvl, simprocAttr]) ?_
    simp (maxSteps := 4000000) only [d, pProg, pChs, pI, tvl, simprocAttr]
    repeat (first | refine ftS (by kernel_rfl) ?_ | refine And.intro (by omega) ?_)
    all_goals (simp [Bt.runOk, c]; done)
end Av
end Go.Proofs.Ytbkbppllcjcmhaa

set_option linter.unusedSimpArgs false
set_option linter.unusedVariables false
namespace Go.Proofs.Ytbkbppllcjcmhaa
open Go.RowKit
namespace Av
/-- the machines of a run -/
def machs (rs : List Bt.C4) (h : Int) (l : List Bt.Ch) : List (List PV) := if Bt.runOk rs h l then alongTo rs h l l.length else []
theorem machAt_run {rs : List Bt.C4} {h n : Int} {l : List Bt.Ch} (e : (Bt.machAt rs h l n).isSome = true) : rs ≠ [] := by
  unfold Bt.machAt at e
  split at e
  · rename_i hh
    exact progOk_ne (Bt.runOk_facts hh.1).1
  · cases e
end Av
end Go.Proofs.Ytbkbppllcjcmhaa
