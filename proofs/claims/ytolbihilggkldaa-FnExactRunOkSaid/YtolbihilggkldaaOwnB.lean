/-
  The values of a machine of the call's own: where they lie, and that they are slices.
-/
import Derived.Test.YtolbihilggkldaaMarkM
namespace Go.Proofs.Ytolbihilggkldaa
open Go.RowKit

theorem OwnMc.bd {w : World} {B : Nat} {vt vc vl vd : Value} {xs : List (Value × Value)} {m : Bt.Mc} (h : OwnMc w B vt vc vl vd xs m) : ∀ u ∈ mcVals vt vc vl vd xs, ∀ k, u.ownBlock = some k → B ≤ k ∧ k < w.heap.size := by
  intro u hu k e
  unfold mcVals at hu
  simp only [List.mem_cons, List.mem_append, List.not_mem_nil, or_false] at hu
  rcases hu with rfl | hu | rfl | rfl | rfl
  · obtain ⟨L, hL, _⟩ := h.ths.row
    exact World.ownsRow.lt hL _ e
  · obtain ⟨i, hi, he⟩ := rowsOf_mem hu
    have hi' : i < m.ths.length := by rw [← h.ths.len]; exact hi
    have := h.ths.ints i hi' hi
    rcases he with rfl | rfl
    · exact this.1.bd _ e
    · exact this.2.bd _ e
  · exact h.cells.bd _ e
  · exact h.locks.bd _ e
  · exact h.told.bd _ e
/-- the four values of a machine of the call's own are slices -/
theorem OwnMc.slices {w : World} {B : Nat} {vt vc vl vd : Value} {xs : List (Value × Value)} {m : Bt.Mc} (h : OwnMc w B vt vc vl vd xs m) : ∃ AT ct AC cc AL cl AD cd, vt = .slice AT m.ths.length ct ∧ vc = .slice AC m.cells.length cc ∧ vl = .slice AL m.locks.length cl ∧ vd = .slice AD m.told.length cd := by
  obtain ⟨AC, cc, e1, _⟩ := h.cells.arg.form
  obtain ⟨AL, cl, e2, _⟩ := h.locks.arg.form
  obtain ⟨AD, cd, e3, _⟩ := h.told.arg.form
  rcases h.ths.forms with ⟨e, e'⟩ | ⟨g, cap, e, _⟩
  · exact ⟨none, 0, AC, cc, AL, cl, AD, cd, by rw [e, e']; rfl, e1, e2, e3⟩
  · exact ⟨some ⟨g, 0, none⟩, cap, AC, cc, AL, cl, AD, cd, e, e1, e2, e3⟩

theorem OwnMc.mono {w : World} {B B' : Nat} {vt vc vl vd : Value} {xs : List (Value × Value)} {m : Bt.Mc} (h : OwnMc w B vt vc vl vd xs m) (hB : B' ≤ B) : OwnMc w B' vt vc vl vd xs m := ⟨h.ths.mono hB, h.cells.mono hB, h.locks.mono hB, h.told.mono hB, h.apart⟩
theorem OwnMc.setOther {w : World} {B : Nat} {vt vc vl vd : Value} {xs : List (Value × Value)} {m : Bt.Mc} (h : OwnMc w B vt vc vl vd xs m) {p : Addr} (u : Value) (hp : p.block < B) : OwnMc (w.setCell p u) B vt vc vl vd xs m :=
  ⟨h.ths.setOther u hp, h.cells.setOther u (fun b e => by have := (h.cells.bd b e).1; omega), h.locks.setOther u (fun b e => by have := (h.locks.bd b e).1; omega), h.told.setOther u (fun b e => by have := (h.told.bd b e).1; omega), h.apart⟩
end Go.Proofs.Ytolbihilggkldaa
