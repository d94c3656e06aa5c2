/-
  Conditions, told plainly.
-/
import Derived.Test.YtbkbppllcjcmhaaGreatC1
set_option linter.unusedSimpArgs false
set_option linter.unusedVariables false
namespace Go.Proofs.YtbkbppllcjcmhaaGreat
open Go.RowKit
namespace Bt
/-- a classical truth value -/
noncomputable def tw (P : Prop) : Bool := @decide P (Classical.propDecidable P)
theorem tw_t {P : Prop} (h : P) : tw P = true := @decide_eq_true P (Classical.propDecidable P) h
theorem tw_f {P : Prop} (h : ¬ P) : tw P = false := @decide_eq_false P (Classical.propDecidable P) h
theorem tw_of {P : Prop} (h : tw P = true) : P := @of_decide_eq_true P (Classical.propDecidable P) h
/-- a part of an expression -/
structure Pt where
  kind : Int
  a : Int
  b : Int
/-- what A and B are below -/
def tops (k i : Int) : Int × Int := if k = 0 then (10000, 1) else if k = 1 then (4, 4) else if k = 2 then (8, 1) else if k = 3 then (4, 1) else if k = 4 then (4, 1) else if k = 5 then (4, 1) else if k = 6 then (1, 1) else if k = 7 then (i, i) else if k = 8 then (i, i) else if k = 9 then (i, i) else if k = 10 then (i, i) else if k = 11 then (i, 1) else (0, 0)
def partOk (x : Pt) (i : Int) : Prop := (0 ≤ x.a ∧ x.a < (tops x.kind i).1) ∧ (0 ≤ x.b ∧ x.b < (tops x.kind i).2)
theorem kinds (k : Int) : (k = 0 ∨ k = 1 ∨ k = 2 ∨ k = 3 ∨ k = 4 ∨ k = 5 ∨ k = 6 ∨ k = 7 ∨ k = 8 ∨ k = 9 ∨ k = 10 ∨ k = 11) ∨ ((k == 0) = false ∧ (k == 1) = false ∧ (k == 2) = false ∧ (k == 3) = false ∧ (k == 4) = false ∧ (k == 5) = false ∧ (k == 6) = false ∧ (k == 7) = false ∧ (k == 8) = false ∧ (k == 9) = false ∧ (k == 10) = false ∧ (k == 11) = false) := by
  simp only [beq_eq_false_iff_ne]
  omega
theorem tops_none {k : Int} (i : Int) (h : (k == 0) = false ∧ (k == 1) = false ∧ (k == 2) = false ∧ (k == 3) = false ∧ (k == 4) = false ∧ (k == 5) = false ∧ (k == 6) = false ∧ (k == 7) = false ∧ (k == 8) = false ∧ (k == 9) = false ∧ (k == 10) = false ∧ (k == 11) = false) : tops k i = (0, 0) := by
  simp only [beq_eq_false_iff_ne] at h
  unfold tops
  repeat (rw [if_neg (by omega)])
def allTo (l : List Pt) (k : Nat) : Prop := ∀ j (h : j < l.length), j < k → partOk l[j] j
theorem allTo_zero (l : List Pt) : allTo l 0 := fun j _ h => absurd h (Nat.not_lt_zero _)
theorem allTo_succ {l : List Pt} {k : Nat} (h : allTo l k) (hk : k < l.length) (hp : partOk l[k] k) : allTo l (k + 1) := fun j hj h1 => by
  rcases Nat.lt_or_ge j k with h2 | h2
  · exact h j hj h2
  · obtain rfl : j = k := by omega
    exact hp
theorem allTo_not {l : List Pt} {k : Nat} (hk : k < l.length) (hp : ¬ partOk l[k] k) : ¬ allTo l l.length := fun h => hp (h k hk hk)
/-- parts are an expression -/
noncomputable def whenOk (l : List Pt) : Bool := tw (1 ≤ l.length ∧ l.length ≤ 20 ∧ allTo l l.length)
theorem whenOk_facts {l : List Pt} (h : whenOk l = true) : 1 ≤ l.length ∧ l.length ≤ 20 ∧ allTo l l.length := tw_of h
/-- what it becomes behind so many other parts -/
def moved (n : Int) (x : Pt) : Pt := if 7 ≤ x.kind ∧ x.kind ≤ 10 then ⟨x.kind, x.a + n, x.b + n⟩ else if x.kind = 11 then ⟨x.kind, x.a + n, 0⟩ else x
theorem tops_le (k : Int) {i : Int} (h0 : 0 ≤ i) (h : i ≤ 20) : (tops k i).1 ≤ 10000 ∧ (tops k i).2 ≤ 20 := by
  rcases kinds k with h1 | h1
  · rcases h1 with rfl | rfl | rfl | rfl | rfl | rfl | rfl | rfl | rfl | rfl | rfl | rfl
    all_goals (simp [tops]; try omega)
  · rw [tops_none i h1]
    exact ⟨by decide, by decide⟩
theorem tops_eleven (i : Int) : tops 11 i = (i, 1) := by unfold tops; simp
theorem moved_zero {x : Pt} {i : Int} (h : partOk x i) : moved 0 x = x := by
  obtain ⟨k, a, b⟩ := x
  unfold moved
  split
  · simp
  · split
    · rename_i h2
      simp only at h2
      subst h2
      have h1 := h.2
      rw [tops_eleven] at h1
      simp only at h1
      simp only [Int.add_zero, Pt.mk.injEq, true_and]
      omega
    · rfl
theorem moved_map_zero {l : List Pt} (h : allTo l l.length) : l.map (moved 0) = l := by
  refine List.ext_getElem (by simp) (fun i h1 h2 => ?_)
  rw [List.getElem_map]
  exact moved_zero (h i h2 h2)
/-- the contrary of an expression -/
noncomputable def whenNot (l : List Pt) : List Pt := if whenOk l = true ∧ l.length < 20 then l ++ [⟨11, (l.length : Int) - 1, 0⟩] else []
/-- two expressions made one -/
noncomputable def whenBoth (a b : List Pt) : List Pt := if whenOk a = true ∧ whenOk b = true ∧ a.length + b.length < 20 then a ++ b.map (moved a.length) ++ [⟨10, (a.length : Int) - 1, (a.length : Int) + b.length - 1⟩] else []
def word (n : Int) : Int := if 0 ≤ n ∧ n < 10000 then n else 0
def thNum (t : Th) (x : Pt) : Int := if x.kind = 1 then t.regs.getD x.b.toNat 0 else if x.kind = 3 then t.pl else if x.kind = 4 then t.stack.length else t.st
def macNum (m : Mc) (x : Pt) : Int := if x.kind = 2 then m.cells.getD x.a.toNat 0 else if x.kind = 6 then m.told.length else if h : x.a.toNat < m.ths.length then thNum m.ths[x.a.toNat] x else 0
def yes (b : Bool) : Int := if b then 1 else 0
/-- the number of a part, by those ahead -/
def partVal (m : Mc) (x : Pt) (o : List Int) : Int :=
  if x.kind = 0 then x.a
  else if x.kind = 7 then (o.getD x.a.toNat 0 + o.getD x.b.toNat 0).tmod 10000
  else if x.kind = 8 then yes (decide (o.getD x.a.toNat 0 < o.getD x.b.toNat 0))
  else if x.kind = 9 then yes (o.getD x.a.toNat 0 == o.getD x.b.toNat 0)
  else if x.kind = 10 then yes (o.getD x.a.toNat 0 != 0 && o.getD x.b.toNat 0 != 0)
  else if x.kind = 11 then yes (o.getD x.a.toNat 0 == 0)
  else word (macNum m x)
theorem part_mac {m : Mc} {x : Pt} {o : List Int} (h : x.kind = 1 ∨ x.kind = 2 ∨ x.kind = 3 ∨ x.kind = 4 ∨ x.kind = 5 ∨ x.kind = 6) : partVal m x o = word (macNum m x) := by
  unfold partVal
  rw [if_neg (by omega), if_neg (by omega), if_neg (by omega), if_neg (by omega), if_neg (by omega), if_neg (by omega)]
theorem word_in (n : Int) : 0 ≤ word n ∧ word n < 10000 := by
  unfold word
  split <;> omega
theorem yes_in (b : Bool) : 0 ≤ yes b ∧ yes b < 10000 := by
  cases b <;> simp [yes]
theorem part_in {m : Mc} {x : Pt} {o : List Int} {i : Int} (h : partOk x i) (ho : ∀ v ∈ o, 0 ≤ v ∧ v < 10000) : 0 ≤ partVal m x o ∧ partVal m x o < 10000 := by
  have hg : ∀ j : Nat, 0 ≤ o.getD j 0 ∧ o.getD j 0 < 10000 := fun j => by
    rcases Nat.lt_or_ge j o.length with h1 | h1
    · have : o.getD j 0 = o[j] := by simp [h1]
      rw [this]
      exact ho _ (List.getElem_mem h1)
    · have : o.getD j 0 = 0 := by simp [h1]
      rw [this]
      omega
  unfold partVal
  split
  · rename_i hk
    have h1 := h.1
    unfold tops at h1
    rw [if_pos hk] at h1
    exact h1
  split
  · have h1 := hg x.a.toNat
    have h2 := hg x.b.toNat
    exact ⟨Int.tmod_nonneg _ (by omega), Int.tmod_lt_of_pos _ (by omega)⟩
  split
  · exact yes_in _
  split
  · exact yes_in _
  split
  · exact yes_in _
  split
  · exact yes_in _
  · exact word_in _
/-- the numbers of the first parts -/
def vals (m : Mc) (l : List Pt) : Nat → List Int
  | 0 => []
  | k + 1 => vals m l k ++ [match l[k]? with | some x => partVal m x (vals m l k) | none => 0]
theorem vals_len (m : Mc) (l : List Pt) : ∀ k, (vals m l k).length = k
  | 0 => rfl
  | k + 1 => by simp [vals, vals_len m l k]
theorem vals_succ {m : Mc} {l : List Pt} {k : Nat} (hk : k < l.length) : vals m l (k + 1) = vals m l k ++ [partVal m l[k] (vals m l k)] := by
  simp [vals, hk]
theorem vals_in {m : Mc} {l : List Pt} : ∀ {k : Nat}, allTo l k → ∀ v ∈ vals m l k, 0 ≤ v ∧ v < 10000
  | 0, _, v, hv => by cases hv
  | k + 1, h, v, hv => by
    have ih := vals_in (m := m) (l := l) (k := k) (fun j hj h1 => h j hj (by omega))
    unfold vals at hv
    rcases List.mem_append.1 hv with h1 | h1
    · exact ih v h1
    · obtain rfl := List.mem_singleton.1 h1
      split
      · rename_i x hx
        obtain ⟨hk, rfl⟩ := List.getElem?_eq_some_iff.1 hx
        exact part_in (h k hk (by omega)) ih
      · omega
/-- the number of an expression -/
noncomputable def whenValue (m : Mc) (l : List Pt) : Int := if whenOk l = true then (vals m l l.length).getD (l.length - 1) 0 else -1
noncomputable def holds (m : Mc) (l : List Pt) : Bool := decide (whenValue m l > 0)
end Bt
namespace Av
def pPt (x : Bt.Pt) : List PV := [pI x.kind, pI x.a, pI x.b]
def pPts (l : List Bt.Pt) : PV := .lst 75 (l.map pPt)
end Av
end Go.Proofs.YtbkbppllcjcmhaaGreat
