/-
  Parameters of laws, told plainly: rows of numbers, and rows of structs of numbers.
-/
import Derived.Test.YtbkbppllcjcmhaaTy
import Derived.Test.YtbkbppllcjcmhaaStart
set_option linter.unusedSimpArgs false
set_option linter.unusedVariables false
namespace Go.Proofs.Ytbkbppllcjcmhaa
open Go.ChangeShapes Go.WideShapes Go.ChangeAt Go.RowKit Go.Deep
namespace Av
section
variable {H : Type} {enc : TypeId × Value → H} {P : Program} {w : World} {base : Nat} {spare : Nat → Bool} {held : Bool}
theorem cell_there {a : Addr} {v : Value} (h : w.cell? a = some v) : a.block < w.heap.size := by
  unfold World.cell? at h
  by_cases hb : a.block < w.heap.size
  · exact hb
  · rw [Array.getElem?_eq_none (by omega)] at h
    cases h
/-- rows of numbers read so -/
theorem rows_rd {e : TypeId} {a : Addr} {len cap n : Nat} {z : Nat → Nat → Int} (hC : P.cellsOf e = n) (hn : 0 < n) (hl : len ≤ cap) (hz : ∀ i, i < len → ∀ j, j < n → w.cell? (a.add (i * n + j)) = some (.int .i64 (z i j))) :
    ∃ R : List (List PV), R.length = len ∧ Rd P w (fun _ => False) (.lst e R) (.slice (some a) len cap) ∧ ∀ r ∈ R, ∃ zs : List Int, zs.length = n ∧ r = zs.map pI := by
  refine ⟨(List.range len).map fun i => ((List.range n).map fun j => z i j).map pI, by simp, ?_, fun r hr => ?_⟩
  · rcases Nat.eq_zero_or_pos len with h0 | h0
    · subst h0
      exact .nil e _ _
    · have h1 := hz 0 h0 0 hn
      rw [Nat.zero_mul, Nat.zero_add, add_zero] at h1
      obtain ⟨b, o, rfl⟩ := plain_addr h1
      have := Rd.lst (P := P) (w := w) (M := fun _ => False) e ((List.range len).map fun i => ((List.range n).map fun j => z i j).map pI) b o cap (fun k => .int .i64 (z (k / n) (k % n))) (cell_there h1) (by simpa using hl) (fun h => h) (fun r hr => ?_) (fun k hk => ?_) (fun i hi j hj => ?_)
      · simpa using this
      · obtain ⟨i, _, rfl⟩ := List.mem_map.1 hr
        simp [hC]
      · have hk' : k < len * n := by simpa [hC] using hk
        have h2 := hz (k / n) (Nat.div_lt_of_lt_mul (by rw [Nat.mul_comm]; exact hk')) (k % n) (Nat.mod_lt _ hn)
        rw [add_plain, Nat.div_add_mod'] at h2
        exact h2
      · simp only [List.length_map, List.length_range] at hi
        simp only [List.getElem_map, List.getElem_range, List.length_map, List.length_range] at hj ⊢
        rw [hC]
        have e1 : (i * n + j) / n = i := by rw [Nat.mul_comm, Nat.mul_add_div hn, Nat.div_eq_of_lt hj, Nat.add_zero]
        have e2 : (i * n + j) % n = j := div_mod_row hj
        rw [e1, e2]
        exact .int _ _
  · obtain ⟨i, _, rfl⟩ := List.mem_map.1 hr
    exact ⟨_, by simp, rfl⟩
/-- a slice of structs of numbers -/
theorem open_rd {t e : TypeId} {fs : Array Field} {fuel : Nat} {cs : List Value} {x : DataW H × List MemPlace} (ht : P.underlying t = some (.slice e)) (he : P.underlying e = some (.struct fs))
    (hone : oneCellFields P fs = true) (hC : P.cellsOf e = fs.size) (hint : intFields P fs = true) (hn : 0 < fs.size) (h : DataW.trod enc P w base spare held fuel t cs = some x) :
    ∃ v R, cs = [v] ∧ Rd P w (fun _ => False) (.lst e R) v ∧ R.length ≤ maxLen ∧ ∀ r ∈ R, ∃ zs : List Int, zs.length = fs.size ∧ r = zs.map pI := by
  rcases open_rows ht he hone hC hint h with rfl | ⟨a, len, cap, z, rfl, hl, hm, hz⟩
  · exact ⟨_, [], rfl, .nil _ _ _, Nat.zero_le _, fun r hr => by cases hr⟩
  · obtain ⟨R, h1, h2, h3⟩ := rows_rd hC hn hl hz
    exact ⟨_, R, rfl, h2, by omega, h3⟩
/-- a slice of numbers -/
theorem open_rdn {t e : TypeId} {fuel : Nat} {cs : List Value} {x : DataW H × List MemPlace} (ht : P.underlying t = some (.slice e)) (he : P.underlying e = some (.int .i64)) (hC : P.cellsOf e = 1)
    (h : DataW.trod enc P w base spare held fuel t cs = some x) : ∃ v R, cs = [v] ∧ Rd P w (fun _ => False) (.lst e R) v ∧ R.length ≤ maxLen ∧ ∀ r ∈ R, ∃ zs : List Int, zs.length = 1 ∧ r = zs.map pI := by
  rcases open_ints ht he hC h with ⟨rfl, _⟩ | ⟨a, len, cap, zs, rfl, _, hl, hm, hlen, _, hz, _⟩
  · exact ⟨_, [], rfl, .nil _ _ _, Nat.zero_le _, fun r hr => by cases hr⟩
  · have hle : len ≤ zs.length := by rw [hlen]; split <;> omega
    obtain ⟨R, h1, h2, h3⟩ := rows_rd (w := w) (a := a) (cap := cap) (n := 1) (len := len) (z := fun i _ => zs.getD i 0) hC (by decide) hl (fun i hi j hj => by
      obtain rfl : j = 0 := by omega
      have := hz i (by omega)
      simpa using this)
    exact ⟨_, R, rfl, h2, by omega, h3⟩
theorem ints1 {r : List PV} (h : ∃ zs : List Int, zs.length = 1 ∧ r = zs.map pI) : ∃ a, r = [pI a] := by
  obtain ⟨zs, hl, rfl⟩ := h
  match zs, hl with
  | [a], _ => exact ⟨a, rfl⟩
theorem ints2 {r : List PV} (h : ∃ zs : List Int, zs.length = 2 ∧ r = zs.map pI) : ∃ a b, r = [pI a, pI b] := by
  obtain ⟨zs, hl, rfl⟩ := h
  match zs, hl with
  | [a, b], _ => exact ⟨a, b, rfl⟩
theorem ints3 {r : List PV} (h : ∃ zs : List Int, zs.length = 3 ∧ r = zs.map pI) : ∃ a b c, r = [pI a, pI b, pI c] := by
  obtain ⟨zs, hl, rfl⟩ := h
  match zs, hl with
  | [a, b, c], _ => exact ⟨a, b, c, rfl⟩
theorem ints4 {r : List PV} (h : ∃ zs : List Int, zs.length = 4 ∧ r = zs.map pI) : ∃ a b c d, r = [pI a, pI b, pI c, pI d] := by
  obtain ⟨zs, hl, rfl⟩ := h
  match zs, hl with
  | [a, b, c, d], _ => exact ⟨a, b, c, d, rfl⟩
theorem ints5 {r : List PV} (h : ∃ zs : List Int, zs.length = 5 ∧ r = zs.map pI) : ∃ a b c d e, r = [pI a, pI b, pI c, pI d, pI e] := by
  obtain ⟨zs, hl, rfl⟩ := h
  match zs, hl with
  | [a, b, c, d, e], _ => exact ⟨a, b, c, d, e, rfl⟩
end
end Av
end Go.Proofs.Ytbkbppllcjcmhaa
