/-
  Undos along a run, and the way back, told plainly.
-/
import Derived.Test.YtdjenlnomibniaaUnO
import Derived.Test.YtdjenlnomibniaaShM
import Derived.Test.YtdjenlnomibniaaSThs
set_option linter.unusedSimpArgs false
set_option linter.unusedVariables false
namespace Go.Proofs.Ytdjenlnomibniaa
open Go.RowKit
namespace Bt
def undoAt (rs : List C4) (h : Int) (l : List Ch) (k : Nat) : Un := match l[k]? with
  | some c => (undoOf rs h (after rs h mcNew (l.take k)) c).getD unNil
  | none => unNil
theorem undoAt_in {rs : List C4} {h : Int} {l : List Ch} {k : Nat} (hk : k < l.length) : undoAt rs h l k = (undoOf rs h (after rs h mcNew (l.take k)) l[k]).getD unNil := by
  unfold undoAt
  rw [List.getElem?_eq_getElem hk]
/-- the machine behind so many choices that were taken back -/
def backTo (rs : List C4) (h : Int) (l : List Ch) : Nat → Mc
  | 0 => after rs h mcNew l
  | j + 1 => (takeBack (backTo rs h l j) (undoAt rs h l (l.length - 1 - j))).getD mcNil
def backFrom (rs : List C4) (h : Int) (l : List Ch) (n : Int) : Option Mc := if runOk rs h l = true ∧ 0 ≤ n ∧ n ≤ l.length then some (backTo rs h l (l.length - n.toNat)) else none
end Bt
namespace Av
def undosTo (rs : List Bt.C4) (h : Int) (l : List Bt.Ch) (k : Nat) : List (List PV) := (List.range k).map fun j => pUn (Bt.undoAt rs h l j)
def undos (rs : List Bt.C4) (h : Int) (l : List Bt.Ch) : List (List PV) := if Bt.runOk rs h l then undosTo rs h l l.length else []
theorem undosTo_len (rs : List Bt.C4) (h : Int) (l : List Bt.Ch) (k : Nat) : (undosTo rs h l k).length = k := by simp [undosTo]
theorem undosTo_succ (rs : List Bt.C4) (h : Int) (l : List Bt.Ch) (k : Nat) : undosTo rs h l (k + 1) = undosTo rs h l k ++ [pUn (Bt.undoAt rs h l k)] := by simp [undosTo, List.range_succ]
theorem undosTo_at {rs : List Bt.C4} {h : Int} {l : List Bt.Ch} {k j : Nat} (hj : j < k) : (undosTo rs h l k)[j]? = some (pUn (Bt.undoAt rs h l j)) := by
  unfold undosTo
  rw [List.getElem?_map, List.getElem?_range hj]
  rfl
theorem smallN : Small Bt.mcNil := ⟨Nat.zero_le _, Nat.zero_le _, Nat.zero_le _, Nat.zero_le _, fun i hi => absurd hi (by simp [Bt.mcNil]), fun i hi => absurd hi (by simp [Bt.mcNil])⟩
theorem smallB {m : Bt.Mc} {u : Bt.Un} (hm : Small m) (h1 : u.old.regs.length ≤ 1048576) (h2 : u.old.stack.length ≤ 1048576) : Small ((Bt.takeBack m u).getD Bt.mcNil) := by
  unfold Bt.takeBack
  split
  rotate_left
  · exact smallN
  have m1 := hm.ths
  have m2 := hm.told
  have m3 := hm.cells
  have m4 := hm.locks
  have hth : ∀ t ∈ (Bt.cutTh m u).set u.who.toNat u.old, t.regs.length ≤ 1048576 ∧ t.stack.length ≤ 1048576 := fun t ht => by
    rcases List.mem_or_eq_of_mem_set ht with ht | rfl
    · have : t ∈ m.ths := by unfold Bt.cutTh at ht; split at ht; exact List.mem_of_mem_take ht; exact ht
      obtain ⟨i, hi, rfl⟩ := List.getElem_of_mem this
      exact ⟨hm.regs i hi, hm.stack i hi⟩
    · exact ⟨h1, h2⟩
  refine ⟨?_, ?_, ?_, ?_, fun i hi => (hth _ (List.getElem_mem hi)).1, fun i hi => (hth _ (List.getElem_mem hi)).2⟩
  · simp only [Option.getD_some, List.length_set]; unfold Bt.cutTh; split <;> (try simp only [List.length_take]) <;> omega
  · simp only [Option.getD_some]; unfold Bt.setAt; split <;> (try simp only [List.length_set]) <;> omega
  · simp only [Option.getD_some]; unfold Bt.setAt; split <;> (try simp only [List.length_set]) <;> omega
  · simp only [Option.getD_some]; unfold Bt.cutTold; split <;> (try simp only [List.length_take]) <;> omega
theorem smallU {rs : List Bt.C4} {h : Int} {m : Bt.Mc} {c : Bt.Ch} (hm : Small m) : ((Bt.undoOf rs h m c).getD Bt.unNil).old.regs.length ≤ 1048576 ∧ ((Bt.undoOf rs h m c).getD Bt.unNil).old.stack.length ≤ 1048576 := by
  obtain ⟨who, kd, rep⟩ := c
  cases hc : Bt.canDo rs h m ⟨who, kd, rep⟩ with
  | false =>
    rw [Bt.undoOf_no hc]
    exact ⟨Nat.zero_le _, Nat.zero_le _⟩
  | true =>
    obtain ⟨hmk, hru⟩ := Bt.canDo_true hc
    obtain ⟨w0, w1⟩ : 0 ≤ who ∧ who < m.ths.length := Bt.runs_lt hru
    obtain ⟨k, rfl⟩ : ∃ k : Nat, who = k := ⟨who.toNat, by omega⟩
    have hkl : k < m.ths.length := by omega
    have key : ∀ u : Bt.Un, u.old = m.ths[k] → u.old.regs.length ≤ 1048576 ∧ u.old.stack.length ≤ 1048576 := fun u e => by rw [e]; exact ⟨hm.regs k hkl, hm.stack k hkl⟩
    rw [Bt.undoOf_in hc hkl, Option.getD_some]
    apply key
    split
    · rfl
    · split
      · rfl
      · split <;> rfl
theorem smallA {rs : List Bt.C4} {h : Int} {l : List Bt.Ch} (k : Nat) : (Bt.undoAt rs h l k).old.regs.length ≤ 1048576 ∧ (Bt.undoAt rs h l k).old.stack.length ≤ 1048576 := by
  unfold Bt.undoAt
  split
  · exact smallU (Small.of (Bt.after_sz rs h _))
  · exact ⟨Nat.zero_le _, Nat.zero_le _⟩
theorem smallT (rs : List Bt.C4) (h : Int) (l : List Bt.Ch) : ∀ j, Small (Bt.backTo rs h l j)
  | 0 => Small.of (Bt.after_sz rs h _)
  | j + 1 => smallB (smallT rs h l j) (smallA _).1 (smallA _).2
end Av
end Go.Proofs.Ytdjenlnomibniaa
