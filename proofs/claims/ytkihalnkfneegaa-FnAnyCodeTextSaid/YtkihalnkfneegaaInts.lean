/-
  Slices of ints that a call made, and how the laws compare, mark and look at them: contracts.
-/
import Derived.Test.YtkihalnkfneegaaKit
import Derived.Test.YtkihalnkfneegaaRows
import Derived.Deep.OwnRows
namespace Go.Proofs.Ytkihalnkfneegaa
open Go.RowKit

/-- v is a slice of a call's own, from block base on, that holds these numbers -/
def IntRow (w : World) (base : Nat) (v : Value) (xs : List Int) : Prop := w.ownsRow base 3 1 v xs.length (xs.map (Value.int .i64))

/-- v is a slice that holds these numbers -/
def ArgInts (w : World) (v : Value) (xs : List Int) : Prop :=
  ∃ A cap, v = .slice A xs.length cap ∧ xs.length ≤ cap ∧ (xs ≠ [] → ∃ b o, A = some ⟨b, o, none⟩ ∧ ∀ i (h : i < xs.length), w.cell? ⟨b, o + i, none⟩ = some (.int .i64 xs[i]))

theorem ArgInts.keep {w w' : World} {v : Value} {xs : List Int} (h : ArgInts w v xs) (hb : Below w.heap.size w w') : ArgInts w' v xs := by
  obtain ⟨A, cap, hv, hc, hr⟩ := h
  refine ⟨A, cap, hv, hc, fun hne => ?_⟩
  obtain ⟨b, o, hA, hr⟩ := hr hne
  exact ⟨b, o, hA, fun i hi => keeps hb (hr i hi)⟩

theorem IntRow.nil (w : World) (base : Nat) : IntRow w base (.slice none 0 0) [] := World.ownsRow_nil w base _ 1

theorem IntRow.forms {w : World} {base : Nat} {v : Value} {xs : List Int} (h : IntRow w base v xs) :
    (v = .slice none 0 0 ∧ xs = []) ∨ ∃ g cap, v = .slice (some ⟨g, 0, none⟩) xs.length cap ∧ base ≤ g ∧ g < w.heap.size ∧ xs.length ≤ cap ∧ cap ≤ maxLen := by
  have h' : w.ownsRow base 3 1 v xs.length (xs.map (Value.int .i64)) := h
  rcases h'.2 with ⟨rfl, h0⟩ | ⟨g, cap, cur, rfl, hb, hg, hn, hm, _, _⟩
  · exact .inl ⟨rfl, by simpa using h0⟩
  · refine .inr ⟨g, cap, rfl, hb, ?_, hn, hm⟩
    exact (Array.getElem?_eq_some_iff.1 hg).1

theorem IntRow.cell {w : World} {base g cap : Nat} {xs : List Int} (h : IntRow w base (.slice (some ⟨g, 0, none⟩) xs.length cap) xs) (i : Nat) (hi : i < xs.length) :
    w.cell? ⟨g, i, none⟩ = some (.int .i64 xs[i]) := by
  have h' : w.ownsRow base 3 1 (.slice (some ⟨g, 0, none⟩) xs.length cap) xs.length (xs.map (Value.int .i64)) := h
  rw [h'.cellAt i (by omega)]
  simp [hi]

theorem IntRow.arg {w : World} {base : Nat} {v : Value} {xs : List Int} (h : IntRow w base v xs) : ArgInts w v xs := by
  rcases h.forms with ⟨rfl, rfl⟩ | ⟨g, cap, rfl, _, _, hc, _⟩
  · exact ⟨none, 0, rfl, Nat.le_refl _, fun h => absurd rfl h⟩
  · refine ⟨_, cap, rfl, hc, fun _ => ⟨g, 0, rfl, fun i hi => ?_⟩⟩
    rw [Nat.zero_add]
    exact h.cell i hi

/-- a row stays where only other blocks turn -/
theorem IntRow.grown {w w' : World} {base : Nat} {v : Value} {xs : List Int} {row : Option Nat} (h : IntRow w base v xs) (hg : w.grownBy w' row) (hne : v.ownBlock = none ∨ v.ownBlock ≠ row) : IntRow w' base v xs :=
  World.ownsRow.kept h hg hne
theorem grown_below {w w' : World} (hb : Below w.heap.size w w') : w.grownBy w' none := ⟨hb.os, hb.tape, hb.output, hb.size, fun k hk _ => hb.block k hk⟩
theorem IntRow.keep {w w' : World} {base : Nat} {v : Value} {xs : List Int} (h : IntRow w base v xs) (hb : Below w.heap.size w w') : IntRow w' base v xs := by
  refine h.grown (grown_below hb) ?_
  rcases h.forms with ⟨rfl, _⟩ | ⟨g, cap, rfl, _⟩
  · exact .inl rfl
  · exact .inr (by simp [Value.ownBlock])
theorem IntRow.mono {w : World} {base base' : Nat} {v : Value} {xs : List Int} (h : IntRow w base v xs) (hb : base' ≤ base) : IntRow w base' v xs := Joins.ownsRow_le h hb

/-- a literal slice -/
theorem IntRow.lit (w : World) (xs : List Int) (hn : xs.length ≤ maxLen) : IntRow (w.alloc (.cells (xs.map (Value.int .i64)).toArray 3)) w.heap.size (.slice (some ⟨w.heap.size, 0, none⟩) xs.length xs.length) xs := by
  have h := World.ownsRow_lit (base := w.heap.size) (e := 3) (size := 1) w (xs.map (Value.int .i64)).toArray xs.length (Nat.le_refl _) hn (by simp)
  simpa [IntRow] using h

theorem infoInt : (Try.prog.info? 3).map (fun i => (i.zero, i.size, i.bytes)) = some (some (.int .i64 0), 1, 8) := by kernel_rfl

end Go.Proofs.Ytkihalnkfneegaa
