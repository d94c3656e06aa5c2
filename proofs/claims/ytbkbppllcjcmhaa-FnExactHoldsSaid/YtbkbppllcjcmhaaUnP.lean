/-
  Steps taken back, told plainly.
-/
import Derived.Test.YtbkbppllcjcmhaaC1
set_option linter.unusedSimpArgs false
set_option linter.unusedVariables false
namespace Go.Proofs.Ytbkbppllcjcmhaa
open Go.RowKit
namespace Bt
/-- what is kept of a step -/
structure Un where
  who : Int
  old : Th
  cell : Int
  was : Int
  lock : Int
  held : Int
  begun : Bool
  told : Bool
def unNil : Un := ⟨0, ⟨0, [], [], 0⟩, 0, 0, 0, 0, false, false⟩
def setAt (xs : List Int) (k n : Int) : List Int := if k = -1 then xs else xs.set k.toNat n
def cutTh (m : Mc) (u : Un) : List Th := if u.begun then m.ths.take (m.ths.length - 1) else m.ths
def cutTold (m : Mc) (u : Un) : List Int := if u.told then m.told.take (m.told.length - 1) else m.told
def backIn (m : Mc) (u : Un) : Prop := (u.begun = true → 0 < m.ths.length) ∧ (u.told = true → 0 < m.told.length) ∧ 0 ≤ u.who ∧ u.who < (cutTh m u).length ∧ -1 ≤ u.cell ∧ u.cell < m.cells.length ∧ -1 ≤ u.lock ∧ u.lock < m.locks.length
instance (m : Mc) (u : Un) : Decidable (backIn m u) := by unfold backIn; exact inferInstance
/-- the machine with what an undo tells taken back -/
def takeBack (m : Mc) (u : Un) : Option Mc := if backIn m u then some ⟨(cutTh m u).set u.who.toNat u.old, setAt m.cells u.cell u.was, setAt m.locks u.lock u.held, cutTold m u⟩ else none
theorem cutTh_len (m : Mc) (u : Un) (h : u.begun = true → 0 < m.ths.length) : ((cutTh m u).length : Int) = m.ths.length - (if u.begun then 1 else 0) := by
  unfold cutTh
  cases hb : u.begun with
  | false => simp
  | true => have := h hb; simp; omega
theorem cutTh_take (m : Mc) (u : Un) {n : Int} (h : n = m.ths.length - (if u.begun then 1 else 0)) : cutTh m u = m.ths.take n.toNat := by
  unfold cutTh
  cases hb : u.begun with
  | false =>
    rw [hb] at h
    simp only [Bool.false_eq_true, if_false] at h ⊢
    rw [show n.toNat = m.ths.length by omega, List.take_length]
  | true =>
    rw [hb] at h
    simp only [if_true] at h ⊢
    rw [show n.toNat = m.ths.length - 1 by omega]
theorem cutTold_take (m : Mc) (u : Un) {n : Int} (h : n = m.told.length - (if u.told then 1 else 0)) : cutTold m u = m.told.take n.toNat := by
  unfold cutTold
  cases hb : u.told with
  | false =>
    rw [hb] at h
    simp only [Bool.false_eq_true, if_false] at h ⊢
    rw [show n.toNat = m.told.length by omega, List.take_length]
  | true =>
    rw [hb] at h
    simp only [if_true] at h ⊢
    rw [show n.toNat = m.told.length - 1 by omega]
end Bt
namespace Av
def pUn (u : Bt.Un) : List PV := [pI u.who, pI u.old.pl, pInts u.old.regs, pInts u.old.stack, pI u.old.st, pI u.cell, pI u.was, pI u.lock, pI u.held, .bool u.begun, .bool u.told]
end Av
end Go.Proofs.Ytbkbppllcjcmhaa
