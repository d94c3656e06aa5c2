/-
  When a program is one, in both packages: contracts for every row of instructions in memory.
-/
import Derived.Test.YtkihalnkfneegaaCodeC
import Derived.Deep.RegionHeld3
namespace Go.Proofs.Ytkihalnkfneegaa
open Go.RowKit

/-- a row of instructions, four cells each, from a cell on -/
def CodesAt (w : World) (b o : Nat) (rs : List Bt.C4) : Prop := ∀ (i : Nat) (h : i < rs.length),
  w.cell? ⟨b, o + i * 4, none⟩ = some (.int .i64 rs[i].op) ∧ w.cell? ⟨b, o + i * 4 + 1, none⟩ = some (.int .i64 rs[i].a) ∧
  w.cell? ⟨b, o + i * 4 + 2, none⟩ = some (.int .i64 rs[i].b) ∧ w.cell? ⟨b, o + i * 4 + 3, none⟩ = some (.int .i64 rs[i].c)

theorem CodesAt.keep {w w' : World} {b o : Nat} {rs : List Bt.C4} (h : CodesAt w b o rs) (hb : Below w.heap.size w w') : CodesAt w' b o rs := fun i hi =>
  ⟨keeps hb (h i hi).1, keeps hb (h i hi).2.1, keeps hb (h i hi).2.2.1, keeps hb (h i hi).2.2.2⟩

end Go.Proofs.Ytkihalnkfneegaa
