/-
  More rules for running the plain machine.
-/
import Derived.Test.YtemogjmghgfdfaaAvY
set_option linter.unusedSimpArgs false
set_option linter.unusedVariables false
namespace Go.Proofs.Ytemogjmghgfdfaa
open Go.RowKit
namespace Av
section
variable {E : Tab} {S : ASt} {m : Nat} {ops : List Oper} {acc : List Foot} {KK : ASt → List Foot → Prop}
/-- a call that hangs on a guard, and is left out -/
theorem aops_fnN {f : FuncId} {args : Array Operand} {tys : Array TypeId} {ll : List Oper} {d : Option Tmp} {ty : TypeId} {pos : String} {af : Array Edge} {i d0 : Nat} {want : Bool} (hd : (ops[i]?).bind (·.dst) = some d0) (ht : S.t d0 = .pv (.bool (!want)))
    (h : aops E ops ll (m + 16) (app S d ⟨.out, []⟩) (⟨[d0], [], []⟩ :: acc) KK) : aops E ops (⟨d, .call ⟨.value (.func f), args, tys⟩, ty, pos, af, some (i, want)⟩ :: ll) m S acc KK :=
  aops_fnS hd ht (by cases want <;> decide) h
/-- a call that hangs on a guard that was left out itself -/
theorem aops_fnO {f : FuncId} {args : Array Operand} {tys : Array TypeId} {ll : List Oper} {d : Option Tmp} {ty : TypeId} {pos : String} {af : Array Edge} {i d0 : Nat} {want : Bool} (hd : (ops[i]?).bind (·.dst) = some d0) (ht : S.t d0 = .out)
    (h : aops E ops ll (m + 16) (app S d ⟨.out, []⟩) (⟨[d0], [], []⟩ :: acc) KK) : aops E ops (⟨d, .call ⟨.value (.func f), args, tys⟩, ty, pos, af, some (i, want)⟩ :: ll) m S acc KK := by
  show (guardQ ((ops[i]?).bind (·.dst)) want (aop E m _)).run S ⟨[], []⟩ _
  rw [hd]
  simp only [guardQ, Rq.run, ht]
  exact h
end
end Av
end Go.Proofs.Ytemogjmghgfdfaa
