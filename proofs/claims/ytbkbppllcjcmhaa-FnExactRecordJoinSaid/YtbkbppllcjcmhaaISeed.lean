/-
  What impl.RunOfSeed and spec.RunOfSeed hand back.
-/
import Derived.Test.YtbkbppllcjcmhaaIThr
import Derived.Test.YtbkbppllcjcmhaaBrS
set_option linter.unusedSimpArgs false
set_option linter.unusedVariables false
namespace Go.Proofs.Ytbkbppllcjcmhaa
open Go.RowKit
namespace Av
/-- what holds at the head of the loop: how many, the seed, the machine, the choices so far -/
def SeedInv (rs : List Bt.C4) (h : Int) (N : Nat) (s0 : Int) (x : Nat × Int × Bt.Mc × List Bt.Ch) : Prop :=
  x.1 ≤ N ∧ 0 ≤ x.2.1 ∧ x.2.1 ≤ 2147483646 ∧ Bt.mcSz x.2.2.1 ≤ 1048576 ∧ x.2.2.1.ths.length ≤ 5 ∧ x.2.2.2.length = x.1 ∧ x.2.2.2 ++ Bt.seedRun rs h (N - x.1) x.2.1 x.2.2.1 = Bt.seedRun rs h N s0 Bt.mcNew
theorem seed_start {rs : List Bt.C4} {h s0 : Int} {N : Nat} (h0 : 0 ≤ s0) (h1 : s0 ≤ 2147483646) : SeedInv rs h N s0 (0, s0, Bt.mcNew, []) := ⟨Nat.zero_le _, h0, h1, by show Bt.mcSz Bt.mcNew ≤ 1048576; decide, by show Bt.mcNew.ths.length ≤ 5; decide, rfl, by simp⟩
theorem seed_step {rs : List Bt.C4} {h s0 s : Int} {N i k : Nat} {m : Bt.Mc} {out : List Bt.Ch} (H : SeedInv rs h N s0 (i, s, m, out)) (hi : i < N) (ei : s * 16807 % 2147483647 % ((Bt.chooseAll rs h m).length : Int) = k) (hk : k < (Bt.chooseAll rs h m).length) :
    SeedInv rs h N s0 (i + 1, s * 16807 % 2147483647, (Bt.doM rs h m (Bt.seedPick rs h m (s * 16807 % 2147483647) (Bt.chooseAll rs h m)[k])).getD Bt.mcNil, out ++ [Bt.seedPick rs h m (s * 16807 % 2147483647) (Bt.chooseAll rs h m)[k]]) := by
  obtain ⟨h1, h2, h3, h4, h5, h6, h7⟩ := H
  simp only at h1 h2 h3 h4 h5 h6 h7
  refine ⟨hi, by simp only; omega, by simp only; omega, Bt.made_sz rs h m _, Bt.made_few rs h m _, by simp [h6], ?_⟩
  have e : N - i = (N - (i + 1)) + 1 := by omega
  rw [e, Bt.seedRun_some rfl rfl ei hk rfl] at h7
  simpa using h7
theorem seed_stop {rs : List Bt.C4} {h s0 s : Int} {N i : Nat} {m : Bt.Mc} {out : List Bt.Ch} (H : SeedInv rs h N s0 (i, s, m, out)) (hs : Bt.chooseAll rs h m = [] ∨ i = N) : Bt.seedRun rs h N s0 Bt.mcNew = out := by
  obtain ⟨h1, h2, h3, h4, h5, h6, h7⟩ := H
  simp only at h1 h2 h3 h4 h5 h6 h7
  rcases hs with e | e
  · rw [Bt.seedRun_none e] at h7
    simpa using h7.symm
  · subst e
    rw [Nat.sub_self] at h7
    simpa [Bt.seedRun] using h7.symm
end Av
end Go.Proofs.Ytbkbppllcjcmhaa
