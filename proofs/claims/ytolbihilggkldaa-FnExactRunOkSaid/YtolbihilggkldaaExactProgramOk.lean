/-
  For every program, whatever its row and its handler, 'FnExactProgramOk' answers true: both packages' 'ProgramOk' answer alike, and the argument stays as it is. No condition.
-/
import Derived.Test.YtolbihilggkldaaPlaw
import Derived.Test.YtolbihilggkldaaStart
import Derived.Test.YtolbihilggkldaaOpen
import Derived.Deep.RegionHeld3
namespace Go.Proofs.Ytolbihilggkldaa
open Go.ChangeShapes Go.WideShapes Go.ChangeAt Go.RowKit Go.Joins

theorem cells_prog : Try.prog.cellsOf 24 = 2 := by kernel_rfl

theorem cellsCode : Try.prog.cellsOf 91 = 4 := by kernel_rfl

/-- an argument that is a slice of instructions, opened -/
theorem open_codes {H : Type} {enc : TypeId × Value → H} {w : World} {base : Nat} {spare : Nat → Bool} {held : Bool} {fuel : Nat} {cs : List Value} {x : DataW H × List MemPlace}
    (h : DataW.trod enc Try.prog w base spare held fuel 22 cs = some x) :
    ∃ (A : Option Addr) (cap : Nat) (rs : List Bt.C4), cs = [.slice A rs.length cap] ∧ ArgCodes w (.slice A rs.length cap) rs ∧ rs.length ≤ maxLen := by
  rcases open_rows Try.underlying22 Try.underlying91 (by kernel_rfl) cellsCode (by kernel_rfl) h with rfl | ⟨a, len, cap, z, rfl, hl, hm, hz⟩
  · exact ⟨none, 0, [], rfl, ⟨none, 0, rfl, Nat.le_refl _, fun h => absurd rfl h⟩, Nat.zero_le _⟩
  · refine ⟨some a, cap, (List.range len).map fun i => ⟨z i 0, z i 1, z i 2, z i 3⟩, by simp, ⟨some a, cap, rfl, by simpa using hl, fun hne => ?_⟩, by simp; omega⟩
    have hlen : 0 < len := by
      rcases Nat.eq_zero_or_pos len with h0 | h0
      · subst h0; exact absurd rfl hne
      · exact h0
    have h00 : w.cell? (a.add 0) = some (.int .i64 (z 0 0)) := hz 0 hlen 0 (by decide)
    obtain ⟨b, o, rfl⟩ := plain_addr h00
    refine ⟨b, o, rfl, fun i hi => ?_⟩
    have hi' : i < len := by simpa using hi
    have hc : ∀ j, j < 4 → w.cell? ⟨b, o + i * 4 + j, none⟩ = some (.int .i64 (z i j)) := fun j hj => by
      have h := hz i hi' j hj
      rw [add_plain] at h
      rw [Nat.add_assoc]
      exact h
    simp only [List.getElem_map, List.getElem_range]
    exact ⟨hc 0 (by decide), hc 1 (by decide), hc 2 (by decide), hc 3 (by decide)⟩

end Go.Proofs.Ytolbihilggkldaa
