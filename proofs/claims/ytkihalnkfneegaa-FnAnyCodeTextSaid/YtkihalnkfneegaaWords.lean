/-
  Words and numbers in texts, without any Go.
-/
import Derived.Test.YtkihalnkfneegaaCodeTextC
namespace Go.Proofs.Ytkihalnkfneegaa.Bt

/-- what is between the spaces of a text, behind what has been met of the first word -/
def spl : List UInt8 → List UInt8 → List (List UInt8)
  | cur, [] => [cur]
  | cur, c :: r => if c = 32 then cur :: spl [] r else spl (cur ++ [c]) r
/-- the words of a text -/
def words (s : List UInt8) : List (List UInt8) := spl [] s

theorem spl_end {w : List UInt8} (h : (32 : UInt8) ∉ w) : ∀ cur, spl cur w = [cur ++ w] := by
  induction w with
  | nil => intro cur; simp [spl]
  | cons c w ih =>
    intro cur
    have h1 : c ≠ 32 := fun e => h (by simp [e])
    have h2 : (32 : UInt8) ∉ w := fun e => h (by simp [e])
    rw [spl, if_neg h1, ih h2]
    simp
theorem spl_word {w r : List UInt8} (h : (32 : UInt8) ∉ w) : ∀ cur, spl cur (w ++ 32 :: r) = (cur ++ w) :: spl [] r := by
  induction w with
  | nil => intro cur; simp [spl]
  | cons c w ih =>
    intro cur
    have h1 : c ≠ 32 := fun e => h (by simp [e])
    have h2 : (32 : UInt8) ∉ w := fun e => h (by simp [e])
    rw [List.cons_append, spl, if_neg h1, ih h2]
    simp
/-- one byte more: a space opens a word, any other byte goes behind the last one -/
theorem spl_snoc (l : List UInt8) (c : UInt8) : ∀ cur, ∃ W x, spl cur l = W ++ [x] ∧ spl cur (l ++ [c]) = if c = 32 then W ++ [x] ++ [[]] else W ++ [x ++ [c]] := by
  induction l with
  | nil =>
    intro cur
    refine ⟨[], cur, rfl, ?_⟩
    by_cases h : c = 32 <;> simp [spl, h]
  | cons d l ih =>
    intro cur
    by_cases hd : d = 32
    · obtain ⟨W, x, h1, h2⟩ := ih []
      refine ⟨cur :: W, x, by rw [spl, if_pos hd, h1]; rfl, ?_⟩
      rw [List.cons_append, spl, if_pos hd, h2]
      split <;> rfl
    · obtain ⟨W, x, h1, h2⟩ := ih (cur ++ [d])
      exact ⟨W, x, by rw [spl, if_neg hd, h1], by rw [List.cons_append, spl, if_neg hd, h2]⟩

/-- a digit -/
def isDig (c : UInt8) : Bool := decide (48 ≤ c.toNat ∧ c.toNat ≤ 57)
/-- the number that digits tell -/
def numV (l : List UInt8) : Nat := l.foldl (fun n c => n * 10 + (c.toNat - 48)) 0
theorem numV_snoc (l : List UInt8) (c : UInt8) : numV (l ++ [c]) = numV l * 10 + (c.toNat - 48) := by simp [numV]
theorem digit_nat {m : Nat} (h : m < 10) : (digit m).toNat = 48 + m := by unfold digit; rw [UInt8.toNat_ofNat']; omega
theorem digit_dig {m : Nat} (h : m < 10) : isDig (digit m) = true := by unfold isDig; rw [digit_nat h]; simp; omega
theorem digit_ne {m : Nat} (h : m < 10) : digit m ≠ 32 := fun e => by
  have h1 := digit_nat h
  rw [e] at h1
  have h2 : (32 : UInt8).toNat = 32 := rfl
  omega
theorem numV_dec (f : Nat) : ∀ n, n < f → numV (dec n) = n ∧ (dec n).all isDig = true ∧ (32 : UInt8) ∉ dec n := by
  induction f with
  | zero => intro n h; omega
  | succ f ih =>
    intro n hn
    by_cases h : n < 10
    · rw [dec_small h]
      refine ⟨?_, by simp [digit_dig h], by simp [(digit_ne h).symm]⟩
      have e := numV_snoc [] (digit n)
      rw [List.nil_append] at e
      rw [e, digit_nat h]
      simp [numV]
    · rw [dec_big h]
      obtain ⟨h1, h2, h3⟩ := ih (n / 10) (by omega)
      have hm : n % 10 < 10 := by omega
      refine ⟨?_, ?_, ?_⟩
      · rw [numV_snoc, h1, digit_nat hm]; omega
      · simp [h2, digit_dig hm]
      · simp [h3, (digit_ne hm).symm]
theorem dec_len4 {n : Nat} (h : n < 10000) : 1 ≤ (dec n).length ∧ (dec n).length ≤ 4 ∧ (n < 10 → (dec n).length = 1) ∧ (n < 100 → (dec n).length ≤ 2) := by
  have one : ∀ m, m < 10 → (dec m).length = 1 := fun m hm => by rw [dec_small hm]; rfl
  have step : ∀ m, ¬ m < 10 → (dec m).length = (dec (m / 10)).length + 1 := fun m hm => by rw [dec_big hm]; simp
  by_cases h1 : n < 10
  · have := one n h1; omega
  · have s1 := step n h1
    by_cases h2 : n / 10 < 10
    · have := one _ h2; omega
    · have s2 := step _ h2
      by_cases h3 : n / 10 / 10 < 10
      · have := one _ h3; omega
      · have s3 := step _ h3
        have := one (n / 10 / 10 / 10) (by omega)
        omega
/-- no zero ahead -/
theorem dec_head (f : Nat) : ∀ n, n < f → 10 ≤ n → (dec n).head? ≠ some 48 := by
  induction f with
  | zero => intro n h; omega
  | succ f ih =>
    intro n hn h10
    rw [dec_big (by omega)]
    by_cases h : n / 10 < 10
    · rw [dec_small h]
      simp only [List.cons_append, List.head?_cons, ne_eq, Option.some.injEq]
      intro e
      have h1 := digit_nat h
      rw [e] at h1
      have h2 : (48 : UInt8).toNat = 48 := rfl
      omega
    · have h1 := ih (n / 10) (by omega) (by omega)
      rw [List.head?_append]
      cases h2 : (dec (n / 10)).head? with
      | none =>
        have h3 := List.head?_eq_none_iff.1 h2
        rw [h3] at h1
        have h4 := (numV_dec (n / 10 + 1) (n / 10) (by omega)).1
        rw [h3] at h4
        simp [numV] at h4
        omega
      | some c => rw [h2] at h1; simpa using h1

/-- the number that a word tells, by the program: -1 if it tells none -/
def numI (w : List UInt8) : Int := if 1 ≤ w.length ∧ w.length ≤ 4 ∧ w.all isDig = true then numV w else -1
/-- and by the model: a zero ahead is refused -/
def numS (w : List UInt8) : Int := if 1 ≤ w.length ∧ w.length ≤ 4 ∧ ¬ (1 < w.length ∧ w.head? = some 48) ∧ w.all isDig = true then numV w else -1
theorem numI_dec {n : Nat} (h : n < 10000) : numI (dec n) = n := by
  obtain ⟨h1, h2, _⟩ := dec_len4 h
  obtain ⟨e1, e2, _⟩ := numV_dec (n + 1) n (by omega)
  unfold numI
  rw [if_pos ⟨h1, h2, e2⟩, e1]
theorem numS_dec {n : Nat} (h : n < 10000) : numS (dec n) = n := by
  obtain ⟨h1, h2, h3, _⟩ := dec_len4 h
  obtain ⟨e1, e2, _⟩ := numV_dec (n + 1) n (by omega)
  have hno : ¬ (1 < (dec n).length ∧ (dec n).head? = some 48) := fun ⟨hl, hh⟩ => by
    by_cases h10 : n < 10
    · have := h3 h10; omega
    · exact dec_head (n + 1) n (by omega) (by omega) hh
  unfold numS
  rw [if_pos ⟨h1, h2, hno, e2⟩, e1]

theorem name_inj {i j : Int} (hi : 0 ≤ i ∧ i ≤ 17) (hj : 0 ≤ j ∧ j ≤ 17) (h : name i = name j) : i = j := by
  rcases (show i = 0 ∨ i = 1 ∨ i = 2 ∨ i = 3 ∨ i = 4 ∨ i = 5 ∨ i = 6 ∨ i = 7 ∨ i = 8 ∨ i = 9 ∨ i = 10 ∨ i = 11 ∨ i = 12 ∨ i = 13 ∨ i = 14 ∨ i = 15 ∨ i = 16 ∨ i = 17 by omega) with rfl | rfl | rfl | rfl | rfl | rfl | rfl | rfl | rfl | rfl | rfl | rfl | rfl | rfl | rfl | rfl | rfl | rfl
  all_goals
    rcases (show j = 0 ∨ j = 1 ∨ j = 2 ∨ j = 3 ∨ j = 4 ∨ j = 5 ∨ j = 6 ∨ j = 7 ∨ j = 8 ∨ j = 9 ∨ j = 10 ∨ j = 11 ∨ j = 12 ∨ j = 13 ∨ j = 14 ∨ j = 15 ∨ j = 16 ∨ j = 17 by omega) with rfl | rfl | rfl | rfl | rfl | rfl | rfl | rfl | rfl | rfl | rfl | rfl | rfl | rfl | rfl | rfl | rfl | rfl
    all_goals first | rfl | (exact absurd h (by decide))
theorem name_sp {op : Int} (h : 0 ≤ op ∧ op ≤ 17) : (32 : UInt8) ∉ name op := by
  rcases (show op = 0 ∨ op = 1 ∨ op = 2 ∨ op = 3 ∨ op = 4 ∨ op = 5 ∨ op = 6 ∨ op = 7 ∨ op = 8 ∨ op = 9 ∨ op = 10 ∨ op = 11 ∨ op = 12 ∨ op = 13 ∨ op = 14 ∨ op = 15 ∨ op = 16 ∨ op = 17 by omega) with rfl | rfl | rfl | rfl | rfl | rfl | rfl | rfl | rfl | rfl | rfl | rfl | rfl | rfl | rfl | rfl | rfl | rfl
  all_goals decide

/-- a field's word, if it is used -/
def fw (used : Bool) (n : Int) : List (List UInt8) := if used then [dec n.toNat] else []
theorem words_ft {w r : List UInt8} (hw : (32 : UInt8) ∉ w) (used : Bool) (n : Int) (R : List (List UInt8)) (hr : ∀ v : List UInt8, (32 : UInt8) ∉ v → spl [] (v ++ r) = v :: R) :
    spl [] (w ++ ft used n ++ r) = w :: (fw used n ++ R) := by
  cases used
  · simp [ft, fw, hr w hw]
  · have hd := (numV_dec (n.toNat + 1) n.toNat (by omega)).2.2
    have e : w ++ ft true n ++ r = w ++ 32 :: (dec n.toNat ++ r) := by simp [ft]
    rw [e, spl_word hw, hr _ hd]
    simp [fw]
theorem words_text {op a b c : Int} (h : codeOk op a b c = true) : words (codeText op a b c) = name op :: (fw (uA op) a ++ (fw (uB op) b ++ fw (decide (0 < uC op)) c)) := by
  have hop := codeOk_op h
  unfold words
  rw [text_of h]
  have h3 : ∀ v : List UInt8, (32 : UInt8) ∉ v → spl [] (v ++ ft (decide (0 < uC op)) c) = v :: fw (decide (0 < uC op)) c := fun v hv => by
    have e := words_ft hv (decide (0 < uC op)) c [] (r := []) (fun v hv => by rw [List.append_nil]; exact spl_end hv [])
    simpa using e
  have h2 : ∀ v : List UInt8, (32 : UInt8) ∉ v → spl [] (v ++ (ft (uB op) b ++ ft (decide (0 < uC op)) c)) = v :: (fw (uB op) b ++ fw (decide (0 < uC op)) c) := fun v hv => by
    have e := words_ft hv (uB op) b _ h3
    rw [List.append_assoc] at e
    exact e
  have e := words_ft (name_sp hop) (uA op) a _ h2
  simpa [List.append_assoc] using e
end Go.Proofs.Ytkihalnkfneegaa.Bt
