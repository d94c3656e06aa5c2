/-
  What is kept of a step, told plainly.
-/
import Derived.Test.YtdjenlnomibniaaUnP
set_option linter.unusedSimpArgs false
set_option linter.unusedVariables false
namespace Go.Proofs.Ytdjenlnomibniaa
open Go.RowKit
namespace Bt
def unBase (who : Int) (t : Th) : Un := ⟨who, t, -1, 0, -1, 0, false, false⟩
def unStep (m : Mc) (who : Int) (t : Th) (x : C4) : Un :=
  ⟨who, t, if x.op = 8 then cellOf x t.regs else -1, if x.op = 8 then m.cells.getD (cellOf x t.regs).toNat 0 else 0, if x.op = 15 ∨ x.op = 16 then x.c else -1, if x.op = 15 ∨ x.op = 16 then m.locks.getD x.c.toNat 0 else 0, x.op == 17, x.op == 14⟩
def undoOf (rs : List C4) (h : Int) (m : Mc) (c : Ch) : Option Un := if canDo rs h m c then (match thAt m c.who with
  | none => none
  | some t => some (if c.kind = 1 then unBase c.who t else match instrOf rs h m c.who with
    | none => unBase c.who t
    | some x => if faultsI m c.who.toNat t x then unBase c.who t else unStep m c.who t x)) else none
theorem undoOf_no {rs : List C4} {h : Int} {m : Mc} {c : Ch} (hc : canDo rs h m c = false) : undoOf rs h m c = none := by unfold undoOf; rw [hc]; rfl
theorem undoOf_in {rs : List C4} {h : Int} {m : Mc} {k : Nat} {kd rep : Int} (hc : canDo rs h m ⟨(k : Int), kd, rep⟩ = true) (hk : k < m.ths.length) :
    undoOf rs h m ⟨(k : Int), kd, rep⟩ = some (if kd = 1 then unBase k m.ths[k] else match instrOf rs h m (k : Int) with
      | none => unBase k m.ths[k]
      | some x => if faultsI m k m.ths[k] x then unBase k m.ths[k] else unStep m k m.ths[k] x) := by
  unfold undoOf
  rw [if_pos hc]
  simp only
  rw [thAt_in hk]
  rfl
/-- what both packages see of a step -/
theorem undo_made {rs : List C4} {h : Int} {m : Mc} {k : Nat} {kd rep : Int} (hc : canDo rs h m ⟨(k : Int), kd, rep⟩ = true) (hk : k < m.ths.length) :
    ∃ m' u t', doM rs h m ⟨(k : Int), kd, rep⟩ = some m' ∧ undoOf rs h m ⟨(k : Int), kd, rep⟩ = some u ∧ m'.ths[k]? = some t' ∧ decide ((m'.ths.length : Int) > m.ths.length) = u.begun ∧ decide ((m'.told.length : Int) > m.told.length) = u.told ∧
      (instrOf rs h m (k : Int) = none → u = unBase k m.ths[k]) ∧ (kd = 1 → u = unBase k m.ths[k]) ∧
      (∀ x, instrOf rs h m (k : Int) = some x → kd ≠ 1 → (t'.st == 2) = faultsI m k m.ths[k] x ∧ (faultsI m k m.ths[k] x = true → u = unBase k m.ths[k]) ∧ (faultsI m k m.ths[k] x = false → u = unStep m k m.ths[k] x)) := by
  rw [doM_in hc hk, undoOf_in hc hk]
  have hst : m.ths[k].st = 0 := by have := (canDo_true hc).2; rw [runs_in hk, beq_iff_eq] at this; exact this
  by_cases c1 : kd = 1
  · rw [if_pos c1, if_pos c1]
    exact ⟨_, _, _, rfl, rfl, List.getElem?_set_self hk, by simp [unBase], by simp [unBase], fun _ => rfl, fun _ => rfl, fun x _ h => absurd c1 h⟩
  rw [if_neg c1, if_neg c1]
  cases hx : instrOf rs h m (k : Int) with
  | none => exact ⟨_, _, _, rfl, rfl, List.getElem?_set_self hk, by simp [unBase], by simp [unBase], fun _ => rfl, fun h => absurd h c1, fun x h => by cases h⟩
  | some x =>
    simp only
    cases hf : faultsI m k m.ths[k] x with
    | true =>
      rw [if_pos rfl, if_pos rfl]
      exact ⟨_, _, _, rfl, rfl, List.getElem?_set_self hk, by simp [unBase], by simp [unBase], fun h => (by cases h), fun h => absurd h c1, fun y hy _ => by cases hy; exact ⟨by rw [hf]; rfl, fun _ => rfl, fun h => by rw [hf] at h; cases h⟩⟩
    | false =>
      rw [if_neg (by decide), if_neg (by decide)]
      refine ⟨_, _, stepT m m.ths[k] x rep, rfl, rfl, ?_, ?_, ?_, fun h => (by cases h), fun h => absurd h c1, fun y hy _ => ?_⟩
      · unfold stepM thsI
        simp only
        rw [List.getElem?_append_left (by simpa using hk), List.getElem?_set_self hk]
        rfl
      · unfold stepM thsI unStep
        by_cases g : x.op = 17
        · simp [g]; omega
        · simp [g]
      · unfold stepM toldI unStep
        by_cases g : x.op = 14
        · simp [g]; omega
        · simp [g]
      · cases hy
        refine ⟨?_, fun h => (by rw [hf] at h; cases h), fun _ => rfl⟩
        rw [hf]
        unfold stepT stateI
        simp only
        split
        · rfl
        · rw [hst]; rfl
end Bt
end Go.Proofs.Ytdjenlnomibniaa
