/-
  What both packages' TakeBack answer.
-/
import Derived.Test.YtdjenlnomibniaaExactTakeBack
import Derived.Test.YtdjenlnomibniaaShN
import Derived.Test.YtdjenlnomibniaaUnI
import Derived.Test.YtdjenlnomibniaaUnS
set_option linter.unusedSimpArgs false
set_option linter.unusedVariables false
namespace Go.Proofs.Ytdjenlnomibniaa
open Go.RowKit
namespace Av
theorem small_cnt {m : Bt.Mc} (hm : Small m) : cntR (m.ths.map pTh) + cntR (m.cells.map fun x => [pI x]) + cntR (m.locks.map fun x => [pI x]) + cntR (m.told.map fun x => [pI x]) ≤ 1152921504606846976 := by
  have e1 := cnt_ths m.ths
  have e2 := cnt_ints m.cells
  have e3 := cnt_ints m.locks
  have e4 := cnt_ints m.told
  have h1 := hm.ths
  have h2 := hm.cells
  have h3 := hm.locks
  have h4 := hm.told
  have h5 := Bt.sum_all (ts := m.ths) (q := 2097152) (fun t ht => by
    obtain ⟨i, hi, rfl⟩ := List.getElem_of_mem ht
    have := hm.regs i hi
    have := hm.stack i hi
    omega)
  have h6 : 2097152 * m.ths.length ≤ 2097152 * 1048576 := Nat.mul_le_mul_left _ h1
  omega
theorem small_nil : Small Bt.mcNil := ⟨Nat.zero_le _, Nat.zero_le _, Nat.zero_le _, Nat.zero_le _, fun i hi => absurd hi (by simp [Bt.mcNil]), fun i hi => absurd hi (by simp [Bt.mcNil])⟩
theorem small_back {m : Bt.Mc} {u : Bt.Un} (hm : Small m) (h1 : u.old.regs.length ≤ 1048576) (h2 : u.old.stack.length ≤ 1048576) : Small ((Bt.takeBack m u).getD Bt.mcNil) := by
  unfold Bt.takeBack
  split
  rotate_left
  · exact small_nil
  have m1 := hm.ths
  have m2 := hm.told
  have m3 := hm.cells
  have m4 := hm.locks
  have hth : ∀ t ∈ (Bt.cutTh m u).set u.who.toNat u.old, t.regs.length ≤ 1048576 ∧ t.stack.length ≤ 1048576 := fun t ht => by
    rcases List.mem_or_eq_of_mem_set ht with ht | rfl
    · have : t ∈ m.ths := by unfold Bt.cutTh at ht; split at ht; exact List.mem_of_mem_take ht; exact ht
      obtain ⟨i, hi, rfl⟩ := List.getElem_of_mem this
      exact ⟨hm.regs i hi, hm.stack i hi⟩
    · exact ⟨h1, h2⟩
  refine ⟨?_, ?_, ?_, ?_, fun i hi => (hth _ (List.getElem_mem hi)).1, fun i hi => (hth _ (List.getElem_mem hi)).2⟩
  · simp only [Option.getD_some, List.length_set]; unfold Bt.cutTh; split <;> (try simp only [List.length_take]) <;> omega
  · simp only [Option.getD_some]; unfold Bt.setAt; split <;> (try simp only [List.length_set]) <;> omega
  · simp only [Option.getD_some]; unfold Bt.setAt; split <;> (try simp only [List.length_set]) <;> omega
  · simp only [Option.getD_some]; unfold Bt.cutTold; split <;> (try simp only [List.length_take]) <;> omega
theorem both_TakeBack (R0 R1 R2 R3 : List (List PV)) (a0 a1 : Int) (S2 S3 : List (List PV)) (a4 a5 a6 a7 a8 : Int) (a9 a10 : Bool) (t0 : ∀ r ∈ R0, LoThread r) (t1 : ∀ r ∈ R1, ShInt r) (t2 : ∀ r ∈ R2, ShInt r) (t3 : ∀ r ∈ R3, ShInt r) (t4 : ∀ r ∈ S2, ShInt r) (t5 : ∀ r ∈ S3, ShInt r)
    (hh : totR R0 + R1.length + R2.length + R3.length + S2.length + S3.length ≤ 1048576) : exactTakeBack_both R0 R1 R2 R3 a0 a1 S2 S3 a4 a5 a6 a7 a8 a9 a10 := by
  obtain ⟨m, hmc, hm, _⟩ := mc_of t0 t1 t2 t3 (by omega)
  obtain ⟨regs, rfl⟩ := nums_of S2 t4
  obtain ⟨stack, rfl⟩ := nums_of S3 t5
  simp only [List.length_map] at hh
  have h1 : regs.length ≤ 1048576 := by omega
  have h2 : stack.length ≤ 1048576 := by omega
  have hs := small_back (u := ⟨a0, ⟨a1, regs, stack, a4⟩, a5, a6, a7, a8, a9, a10⟩) hm h1 h2
  have HS := sTakeBack_ok (u := ⟨a0, ⟨a1, regs, stack, a4⟩, a5, a6, a7, a8, a9, a10⟩) hm h1 h2
  have HI := iTakeBack_ok (u := ⟨a0, ⟨a1, regs, stack, a4⟩, a5, a6, a7, a8, a9, a10⟩) hm h1 h2
  unfold exactTakeBack_both
  rw [hmc]
  exact ⟨_, _, _, _, _, HS, HI, sh_ths hs, sh_ints hs.cells, sh_ints hs.locks, sh_ints hs.told, small_cnt hs⟩
end Av
end Go.Proofs.Ytdjenlnomibniaa
