/-
  Chapter 5: what stands on a tape, told plainly.
-/
import Derived.Test.YtemogjmghgfdfaaTake
import Derived.Test.YtemogjmghgfdfaaIRec
set_option linter.unusedSimpArgs false
set_option linter.unusedVariables false
namespace Go.Proofs.Ytemogjmghgfdfaa
namespace Bt
theorem doM_isSome (rs : List C4) (h : Int) (m : Mc) (c : Ch) : (doM rs h m c).isSome = canDo rs h m c := by
  cases hc : canDo rs h m c with
  | false => rw [doM_no hc]; rfl
  | true =>
    unfold doM
    rw [if_pos hc]
    cases ht : thAt m c.who with
    | none =>
      unfold canDo at hc
      rw [ht] at hc
      simp at hc
    | some t =>
      simp only
      split
      · rfl
      · split
        · rfl
        · split <;> rfl
theorem takeNum_some {g : Nat → Nat} {len a v b : Nat} (e : takeNum g len a = some (v, b)) : a < b ∧ b ≤ len ∧ v ≤ 9223372036854775807 := by
  unfold takeNum at e
  split at e
  · rename_i hc
    simp only [Option.some.injEq, Prod.mk.injEq] at e
    have h1 := valTo_lt g a (conts g len a + 1)
    have h2 := pow_le9 (j := conts g len a + 1) (by omega)
    omega
  · cases e
theorem takeI_nat (g : Nat → Nat) (len a : Nat) : takeI g len (a : Int) = takeNum g len a := by
  unfold takeI
  rw [if_neg (by omega), Int.toNat_natCast]
/-- the slice that stands at a place -/
def takeSl (g : Nat → Nat) (len a : Nat) : Option (Nat × Nat × Nat) := match takeNum g len a with
  | none => none
  | some (t, b) => match takeNum g len b with
    | none => none
    | some (n, c) => some (t, n, c)
theorem takeSl_some {g : Nat → Nat} {len a t n c : Nat} (e : takeSl g len a = some (t, n, c)) : a < c ∧ c ≤ len ∧ t ≤ 9223372036854775807 ∧ n ≤ 9223372036854775807 := by
  unfold takeSl at e
  split at e
  · cases e
  · rename_i t' b h1
    split at e
    · cases e
    · rename_i n' c' h2
      simp only [Option.some.injEq, Prod.mk.injEq] at e
      obtain ⟨rfl, rfl, rfl⟩ := e
      have := takeNum_some h1
      have := takeNum_some h2
      omega
/-- the next choice of a slice -/
def takeCh (rs : List C4) (h : Int) (g : Nat → Nat) (len : Nat) (m : Mc) (who kind : Int) (a : Nat) : Option (Ch × Nat) :=
  if asks rs h m ⟨who, kind, 0⟩ then (match takeNum g len a with
    | none => none
    | some (v, b) => if canDo rs h m ⟨who, kind, v⟩ then some (⟨who, kind, v⟩, b) else none)
  else if canDo rs h m ⟨who, kind, 0⟩ then some (⟨who, kind, 0⟩, a) else none
theorem takeCh_some {rs : List C4} {h : Int} {g : Nat → Nat} {len : Nat} {m : Mc} {who kind : Int} {a b : Nat} {c : Ch} (e : takeCh rs h g len m who kind a = some (c, b)) (ha : a ≤ len) : a ≤ b ∧ b ≤ len ∧ canDo rs h m c = true := by
  unfold takeCh at e
  split at e
  · split at e
    · cases e
    · rename_i v b' h1
      split at e
      · rename_i h2
        simp only [Option.some.injEq, Prod.mk.injEq] at e
        obtain ⟨rfl, rfl⟩ := e
        have := takeNum_some h1
        exact ⟨by omega, by omega, h2⟩
      · cases e
  · split at e
    · rename_i h2
      simp only [Option.some.injEq, Prod.mk.injEq] at e
      obtain ⟨rfl, rfl⟩ := e
      exact ⟨Nat.le_refl _, ha, h2⟩
    · cases e
/-- the choices of a slice that stand there -/
def readSl (rs : List C4) (h : Int) (g : Nat → Nat) (len : Nat) (who kind : Int) : Nat → Nat → Mc → List Ch → (Nat × Mc × List Ch) × Bool
  | 0, a, m, o => ((a, m, o), true)
  | k + 1, a, m, o => match takeCh rs h g len m who kind a with
    | none => ((a, m, o), false)
    | some (c, b) => if o.length < 300 then readSl rs h g len who kind k b ((doM rs h m c).getD mcNil) (o ++ [c]) else ((a, m, o), false)
/-- what stands from a place on -/
def readTo (rs : List C4) (h : Int) (g : Nat → Nat) (len : Nat) : Nat → Nat → Mc → List Ch → List Ch
  | 0, _, _, o => o
  | f + 1, a, m, o => match takeSl g len a with
    | none => o
    | some (t, n, b) => match readSl rs h g len ((t / 2 : Nat) : Int) ((t % 2 : Nat) : Int) n b m o with
      | (x, false) => x.2.2
      | (x, true) => readTo rs h g len f x.1 x.2.1 x.2.2
/-- how it goes on within a slice -/
def readIn (rs : List C4) (h : Int) (g : Nat → Nat) (len : Nat) (who kind : Int) (f k a : Nat) (m : Mc) (o : List Ch) : List Ch := match readSl rs h g len who kind k a m o with
  | (x, false) => x.2.2
  | (x, true) => readTo rs h g len f x.1 x.2.1 x.2.2
theorem readTo_none {rs : List C4} {h : Int} {g : Nat → Nat} {len f a : Nat} {m : Mc} {o : List Ch} (e : takeSl g len a = none) : readTo rs h g len f a m o = o := by
  cases f with
  | zero => rfl
  | succ f => rw [readTo, e]
theorem readTo_some {rs : List C4} {h : Int} {g : Nat → Nat} {len f a t n b : Nat} {m : Mc} {o : List Ch} (e : takeSl g len a = some (t, n, b)) : readTo rs h g len (f + 1) a m o = readIn rs h g len ((t / 2 : Nat) : Int) ((t % 2 : Nat) : Int) f n b m o := by
  rw [readTo, e]
  rfl
theorem readIn_zero {rs : List C4} {h : Int} {g : Nat → Nat} {len f a : Nat} {who kind : Int} {m : Mc} {o : List Ch} : readIn rs h g len who kind f 0 a m o = readTo rs h g len f a m o := rfl
theorem readIn_none {rs : List C4} {h : Int} {g : Nat → Nat} {len f k a : Nat} {who kind : Int} {m : Mc} {o : List Ch} (e : takeCh rs h g len m who kind a = none) : readIn rs h g len who kind f (k + 1) a m o = o := by
  rw [readIn, readSl, e]
theorem readIn_full {rs : List C4} {h : Int} {g : Nat → Nat} {len f k a b : Nat} {who kind : Int} {m : Mc} {o : List Ch} {c : Ch} (e : takeCh rs h g len m who kind a = some (c, b)) (ho : ¬ o.length < 300) : readIn rs h g len who kind f (k + 1) a m o = o := by
  rw [readIn, readSl, e]
  simp only
  rw [if_neg ho]
theorem readIn_some {rs : List C4} {h : Int} {g : Nat → Nat} {len f k a b : Nat} {who kind : Int} {m : Mc} {o : List Ch} {c : Ch} (e : takeCh rs h g len m who kind a = some (c, b)) (ho : o.length < 300) : readIn rs h g len who kind f (k + 1) a m o = readIn rs h g len who kind f k b ((doM rs h m c).getD mcNil) (o ++ [c]) := by
  rw [readIn, readSl, e]
  simp only
  rw [if_pos ho]
  rfl
theorem readSl_le {rs : List C4} {h : Int} {g : Nat → Nat} {len : Nat} {who kind : Int} : ∀ (k a : Nat) (m : Mc) (o : List Ch), o.length ≤ 300 → (readSl rs h g len who kind k a m o).1.2.2.length ≤ 300
  | 0, a, m, o, ho => ho
  | k + 1, a, m, o, ho => by
    unfold readSl
    split
    · exact ho
    · split
      · exact readSl_le k _ _ _ (by simp; omega)
      · exact ho
theorem readTo_le {rs : List C4} {h : Int} {g : Nat → Nat} {len : Nat} : ∀ (f a : Nat) (m : Mc) (o : List Ch), o.length ≤ 300 → (readTo rs h g len f a m o).length ≤ 300
  | 0, a, m, o, ho => ho
  | f + 1, a, m, o, ho => by
    unfold readTo
    split
    · exact ho
    · rename_i t n b _
      have := readSl_le (rs := rs) (h := h) (g := g) (len := len) (who := ((t / 2 : Nat) : Int)) (kind := ((t % 2 : Nat) : Int)) n b m o ho
      split
      · rename_i x hx
        rw [hx] at this
        exact this
      · rename_i x hx
        rw [hx] at this
        exact readTo_le f _ _ _ this
/-- what ReadTape hands back -/
def readTape (rs : List C4) (h : Int) (g : Nat → Nat) (len : Nat) : List Ch := if progOk rs h then readTo rs h g len (len + 1) 0 mcNew [] else []
theorem readTape_le (rs : List C4) (h : Int) (g : Nat → Nat) (len : Nat) : (readTape rs h g len).length ≤ 300 := by
  unfold readTape
  split
  · exact readTo_le _ _ _ _ (by simp)
  · simp
end Bt
end Go.Proofs.Ytemogjmghgfdfaa
