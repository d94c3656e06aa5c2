/-
  Shapes of rows: numbers, instructions, choices, slices, threads, machines.
-/
import Derived.Test.YtbkbppllcjcmhaaTy
set_option linter.unusedSimpArgs false
set_option linter.unusedVariables false
namespace Go.Proofs.Ytbkbppllcjcmhaa
open Go.RowKit
namespace Av
def ShInt (r : List PV) : Prop := ∃ (a0 : Int), r = [pI a0]
def ShIntS (R : List (List PV)) : Prop := R.length ≤ 1048576 ∧ ∀ r ∈ R, ShInt r
def ShCode (r : List PV) : Prop := ∃ (a0 : Int) (a1 : Int) (a2 : Int) (a3 : Int), r = [pI a0, pI a1, pI a2, pI a3]
def ShCodeS (R : List (List PV)) : Prop := R.length ≤ 1048576 ∧ ∀ r ∈ R, ShCode r
def ShChoice (r : List PV) : Prop := ∃ (a0 : Int) (a1 : Int) (a2 : Int), r = [pI a0, pI a1, pI a2]
def ShChoiceS (R : List (List PV)) : Prop := R.length ≤ 1048576 ∧ ∀ r ∈ R, ShChoice r
def ShSlice (r : List PV) : Prop := ∃ (a0 : Int) (a1 : Int) (a2 : Int), r = [pI a0, pI a1, pI a2]
def ShSliceS (R : List (List PV)) : Prop := R.length ≤ 1048576 ∧ ∀ r ∈ R, ShSlice r
def ShThread (r : List PV) : Prop := ∃ (a0 : Int) (a1 : List (List PV)) (a2 : List (List PV)) (a3 : Int), r = [pI a0, .lst 3 a1, .lst 3 a2, pI a3] ∧ ShIntS a1 ∧ ShIntS a2
def ShThreadS (R : List (List PV)) : Prop := R.length ≤ 1048576 ∧ ∀ r ∈ R, ShThread r
def ShMachine (r : List PV) : Prop := ∃ (a0 : List (List PV)) (a1 : List (List PV)) (a2 : List (List PV)) (a3 : List (List PV)), r = [.lst 134 a0, .lst 3 a1, .lst 3 a2, .lst 3 a3] ∧ ShThreadS a0 ∧ ShIntS a1 ∧ ShIntS a2 ∧ ShIntS a3
def ShMachineS (R : List (List PV)) : Prop := R.length ≤ 1048576 ∧ ∀ r ∈ R, ShMachine r
end Av
end Go.Proofs.Ytbkbppllcjcmhaa
