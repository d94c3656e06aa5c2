/-
  What both packages' UndoOf answer.
-/
import Derived.Test.YtdjenlnomibniaaExactUndoOf
import Derived.Test.YtdjenlnomibniaaShN
import Derived.Test.YtdjenlnomibniaaUoI
import Derived.Test.YtdjenlnomibniaaUoS
set_option linter.unusedSimpArgs false
set_option linter.unusedVariables false
namespace Go.Proofs.Ytdjenlnomibniaa
open Go.RowKit
namespace Av
theorem small_un {rs : List Bt.C4} {h : Int} {m : Bt.Mc} {c : Bt.Ch} (hm : Small m) : ((Bt.undoOf rs h m c).getD Bt.unNil).old.regs.length ≤ 1048576 ∧ ((Bt.undoOf rs h m c).getD Bt.unNil).old.stack.length ≤ 1048576 := by
  obtain ⟨who, kd, rep⟩ := c
  cases hc : Bt.canDo rs h m ⟨who, kd, rep⟩ with
  | false =>
    rw [Bt.undoOf_no hc]
    exact ⟨Nat.zero_le _, Nat.zero_le _⟩
  | true =>
    obtain ⟨hmk, hru⟩ := Bt.canDo_true hc
    obtain ⟨w0, w1⟩ : 0 ≤ who ∧ who < m.ths.length := Bt.runs_lt hru
    obtain ⟨k, rfl⟩ : ∃ k : Nat, who = k := ⟨who.toNat, by omega⟩
    have hkl : k < m.ths.length := by omega
    have key : ∀ u : Bt.Un, u.old = m.ths[k] → u.old.regs.length ≤ 1048576 ∧ u.old.stack.length ≤ 1048576 := fun u e => by rw [e]; exact ⟨hm.regs k hkl, hm.stack k hkl⟩
    rw [Bt.undoOf_in hc hkl, Option.getD_some]
    apply key
    split
    · rfl
    · split
      · rfl
      · split <;> rfl
theorem both_UndoOf (P0 : List (List PV)) (h : Int) (R0 R1 R2 R3 : List (List PV)) (b0 b1 b2 : Int) (tp : ∀ r ∈ P0, ShCode r) (t0 : ∀ r ∈ R0, LoThread r) (t1 : ∀ r ∈ R1, ShInt r) (t2 : ∀ r ∈ R2, ShInt r) (t3 : ∀ r ∈ R3, ShInt r)
    (hh : P0.length + totR R0 + R1.length + R2.length + R3.length ≤ 1048576) : exactUndoOf_both P0 h R0 R1 R2 R3 b0 b1 b2 := by
  obtain ⟨rs, rfl⟩ := codes_of P0 tp
  simp only [List.length_map] at hh
  obtain ⟨m, hmc, hm, _⟩ := mc_of t0 t1 t2 t3 (by omega)
  have hn : rs.length ≤ 1048576 := by omega
  obtain ⟨q1, q2⟩ := small_un (rs := rs) (h := h) (m := m) (c := ⟨b0, b1, b2⟩) hm
  have HS := sUndoOf_ok (rs := rs) (h := h) (m := m) (c := ⟨b0, b1, b2⟩) hn hm
  have HI := iUndoOf_ok (rs := rs) (h := h) (m := m) (c := ⟨b0, b1, b2⟩) hn hm
  unfold exactUndoOf_both
  rw [hmc]
  refine ⟨_, _, _, _, _, _, _, _, _, _, _, _, HS, HI, sh_ints q1, sh_ints q2, ?_⟩
  have e1 := cnt_ints ((Bt.undoOf rs h m ⟨b0, b1, b2⟩).getD Bt.unNil).old.regs
  have e2 := cnt_ints ((Bt.undoOf rs h m ⟨b0, b1, b2⟩).getD Bt.unNil).old.stack
  omega
end Av
end Go.Proofs.Ytdjenlnomibniaa
