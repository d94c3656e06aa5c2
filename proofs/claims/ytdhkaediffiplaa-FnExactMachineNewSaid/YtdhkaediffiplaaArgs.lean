/-
  Arguments of the laws, opened: rows of numbers, threads, machines.
-/
import Derived.Test.YtdhkaediffiplaaRows2
import Derived.Test.YtdhkaediffiplaaExactProgramOk
namespace Go.Proofs.Ytdhkaediffiplaa
open Go.ChangeShapes Go.WideShapes Go.ChangeAt Go.RowKit Go.Joins Go.Deep

theorem cellsInt : Try.prog.cellsOf 3 = 1 := by kernel_rfl

/-- an argument that is a slice of ints, opened -/
theorem open_nums {H : Type} {enc : TypeId × Value → H} {w : World} {base : Nat} {spare : Nat → Bool} {held : Bool} {fuel : Nat} {cs : List Value} {x : DataW H × List MemPlace}
    (h : DataW.trod enc Try.prog w base spare held fuel 26 cs = some x) :
    ∃ (v : Value) (xs : List Int), cs = [v] ∧ ArgInts w v xs ∧ xs.length ≤ maxLen := by
  rcases open_ints Try.underlying26 Try.underlying3 cellsInt h with ⟨rfl, _⟩ | ⟨a, len, cap, zs, rfl, _, hl, hm, hlen, _, hz, _⟩
  · exact ⟨_, [], rfl, ⟨none, 0, rfl, Nat.le_refl _, fun h => absurd rfl h⟩, Nat.zero_le _⟩
  · have hle : len ≤ zs.length := by rw [hlen]; split <;> omega
    have ht : (zs.take len).length = len := by rw [List.length_take]; omega
    refine ⟨_, zs.take len, rfl, ⟨some a, cap, by rw [ht], by rw [ht]; exact hl, fun hne => ?_⟩, by rw [ht]; omega⟩
    have h0 : 0 < len := by
      rcases Nat.eq_zero_or_pos len with h0 | h0
      · subst h0; exact absurd rfl hne
      · exact h0
    obtain ⟨b, o, rfl⟩ := plain_addr (hz 0 (by omega))
    refine ⟨b, o, rfl, fun i hi => ?_⟩
    rw [ht] at hi
    have h := hz i (by omega)
    rw [add_plain] at h
    rw [h]
    simp [List.getD_eq_getElem?_getD, List.getElem?_eq_getElem (show i < zs.length by omega)]
end Go.Proofs.Ytdhkaediffiplaa
