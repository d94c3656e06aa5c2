/-
  Slices of structs of integers that came in, opened to their cells: over any program.
-/
import Derived.WalkKit
import Derived.ProofKit
import Derived.Deep.Slices
import Derived.Deep.Fields
namespace Go.Proofs.Ytolbihilggkldaa
open Go.ChangeShapes Go.WideShapes Go.ChangeAt Go.RowKit Go.Deep

section
variable {H : Type} {enc : TypeId × Value → H} {P : Program} {w : World} {base : Nat} {spare : Nat → Bool} {held : Bool}

/-- every field is an int -/
def intFields (P : Program) (fs : Array Field) : Bool := fs.all fun f => match P.underlying f.type with
  | some (.int .i64) => true
  | _ => false
theorem intFields_at {P : Program} {fs : Array Field} (h : intFields P fs = true) {j : Nat} {f : Field} (hj : fs[j]? = some f) : P.underlying f.type = some (.int .i64) := by
  unfold intFields at h
  rw [Array.all_eq_true_iff_forall_mem] at h
  have h1 := h f (Array.mem_of_getElem? hj)
  split at h1
  · assumption
  · cases h1

/-- every integer field of every element lies in its cell -/
theorem open_rows {t e : TypeId} {fs : Array Field} {fuel : Nat} {cs : List Value} {x : DataW H × List MemPlace} (ht : P.underlying t = some (.slice e)) (he : P.underlying e = some (.struct fs))
    (hone : oneCellFields P fs = true) (hC : P.cellsOf e = fs.size) (hint : intFields P fs = true) (h : DataW.trod enc P w base spare held fuel t cs = some x) :
    cs = [.slice none 0 0] ∨ ∃ (a : Addr) (len cap : Nat) (z : Nat → Nat → Int), cs = [.slice (some a) len cap] ∧ len ≤ cap ∧ cap ≤ maxLen ∧
      ∀ i, i < len → ∀ j, j < fs.size → w.cell? (a.add (i * fs.size + j)) = some (.int .i64 (z i j)) := by
  rcases open_slice ht h with ⟨h0, _⟩ | ⟨a, len, cap, m, n, D, Pl, hcs, _, hl, hm, hmm, _, hi⟩
  · exact .inl h0
  · refine .inr ?_
    have hle : len ≤ m := by rw [hmm]; split <;> omega
    have hcell : ∀ i j, i < len ∧ j < fs.size → ∃ q : Int, w.cell? (a.add (i * fs.size + j)) = some (.int .i64 q) := by
      intro i j ⟨hil, hjl⟩
      obtain ⟨cs', hc, ht'⟩ := hi i (by omega)
      rw [hC] at hc
      obtain ⟨ys, n', _, _, hlen, _, hf⟩ := DataW.trod_struct he ht'
      obtain ⟨_, hcl, hat⟩ := World.cells?_some hc
      have hj : fs[j]? = some fs[j] := Array.getElem?_eq_getElem hjl
      obtain ⟨ho, hk⟩ := hone_of hone j _ hj
      have h1 := hf j _ hj
      rw [ho, hk] at h1
      have h2 : (cs'.drop j).take 1 = [cs'[j]'(by omega)] := by
        rw [List.drop_eq_getElem_cons (by omega)]; rfl
      rw [h2] at h1
      obtain ⟨y, hy⟩ : ∃ y, ys[j]? = some y := by
        cases hys : ys[j]? with
        | none =>
          rename_i hyl
          rw [List.getElem?_eq_none_iff] at hys
          omega
        | some y => exact ⟨y, rfl⟩
      rw [hy] at h1
      obtain ⟨q, e0, _, _⟩ := DataW.trod_int (intFields_at hint hj) h1
      simp only [List.cons.injEq, and_true] at e0
      refine ⟨q, ?_⟩
      rw [← add_add, hat j hjl, List.getElem?_eq_getElem (by omega), e0]
    refine ⟨a, len, cap, fun i j => if hij : i < len ∧ j < fs.size then (hcell i j hij).choose else 0, hcs, hl, hm, fun i hil j hjl => ?_⟩
    show w.cell? (a.add (i * fs.size + j)) = some (.int .i64 (if hij : i < len ∧ j < fs.size then (hcell i j hij).choose else 0))
    rw [dif_pos (show i < len ∧ j < fs.size from ⟨hil, hjl⟩)]
    exact (hcell i j ⟨hil, hjl⟩).choose_spec

/-- a cell that holds something has a plain address -/
theorem plain_addr {a : Addr} {v : Value} (h : w.cell? a = some v) : ∃ b o, a = ⟨b, o, none⟩ := by
  obtain ⟨b, o, e⟩ := a
  cases e with
  | none => exact ⟨b, o, rfl⟩
  | some e =>
    unfold World.cell? at h
    split at h
    · simp at h
    · cases h
theorem add_zero (a : Addr) : a.add 0 = a := rfl
theorem add_plain (b o n : Nat) : (⟨b, o, none⟩ : Addr).add n = ⟨b, o + n, none⟩ := by
  unfold Addr.add
  split
  · rename_i h; subst h; rfl
  · rfl
end
end Go.Proofs.Ytolbihilggkldaa
