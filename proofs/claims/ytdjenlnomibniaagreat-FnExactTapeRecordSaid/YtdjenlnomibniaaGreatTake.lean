/-
  Chapter 5: numbers that are read from bytes, told plainly.
  Chapter 5: numbers that are read from bytes: the program's.
-/
import Derived.Test.YtdjenlnomibniaaGreatTy
import Derived.Test.YtdjenlnomibniaaGreatAvY
set_option linter.unusedSimpArgs false
set_option linter.unusedVariables false
namespace Go.Proofs.YtdjenlnomibniaaGreat
namespace Bt
/-- how many bytes from a place on tell that more follow -/
def contN (g : Nat → Nat) (len a : Nat) : Nat → Nat
  | 0 => 0
  | f + 1 => if a < len ∧ 128 ≤ g a then contN g len (a + 1) f + 1 else 0
def conts (g : Nat → Nat) (len a : Nat) : Nat := contN g len a (len - a)
/-- what the first bytes tell -/
def valTo (g : Nat → Nat) (a : Nat) : Nat → Nat
  | 0 => 0
  | j + 1 => valTo g a j + g (a + j) % 128 * 128 ^ j
/-- the number that stands at a place, and the place behind it -/
def takeNum (g : Nat → Nat) (len a : Nat) : Option (Nat × Nat) := if a + conts g len a < len ∧ conts g len a < 9 ∧ ¬ (g (a + conts g len a) = 0 ∧ 0 < conts g len a) then some (valTo g a (conts g len a + 1), a + conts g len a + 1) else none
theorem contN_lt (g : Nat → Nat) (len : Nat) : ∀ (f a j : Nat), j < contN g len a f → a + j < len ∧ 128 ≤ g (a + j)
  | 0, a, j, h => by simp [contN] at h
  | f + 1, a, j, h => by
    unfold contN at h
    split at h
    · rename_i hc
      cases j with
      | zero => exact hc
      | succ j =>
        have := contN_lt g len f (a + 1) j (by omega)
        rw [show a + (j + 1) = a + 1 + j by omega]
        exact this
    · omega
theorem contN_end (g : Nat → Nat) (len : Nat) : ∀ (f a : Nat), len - a ≤ f → ¬ (a + contN g len a f < len ∧ 128 ≤ g (a + contN g len a f))
  | 0, a, h => by simp only [contN]; omega
  | f + 1, a, h => by
    unfold contN
    split
    · rename_i hc
      have := contN_end g len f (a + 1) (by omega)
      rw [show a + (contN g len (a + 1) f + 1) = a + 1 + contN g len (a + 1) f by omega]
      exact this
    · rename_i hc
      exact hc
theorem conts_lt {g : Nat → Nat} {len a j : Nat} (h : j < conts g len a) : a + j < len ∧ 128 ≤ g (a + j) := contN_lt g len _ a j h
theorem conts_end (g : Nat → Nat) (len a : Nat) : ¬ (a + conts g len a < len ∧ 128 ≤ g (a + conts g len a)) := contN_end g len _ a (Nat.le_refl _)
/-- on the way through bytes that tell that more follow -/
theorem conts_at {g : Nat → Nat} {len a j : Nat} (h : j ≤ conts g len a) : (a + j < len ∧ 128 ≤ g (a + j)) ↔ j < conts g len a := by
  constructor
  · intro hc
    rcases Nat.lt_or_ge j (conts g len a) with h1 | h1
    · exact h1
    · obtain rfl : j = conts g len a := by omega
      exact absurd hc (conts_end g len a)
  · exact conts_lt
theorem valTo_lt (g : Nat → Nat) (a : Nat) : ∀ j, valTo g a j < 128 ^ j
  | 0 => by simp [valTo]
  | j + 1 => by
    have h1 := valTo_lt g a j
    have h2 : g (a + j) % 128 < 128 := Nat.mod_lt _ (by omega)
    have h3 : g (a + j) % 128 * 128 ^ j ≤ 127 * 128 ^ j := Nat.mul_le_mul_right _ (by omega)
    rw [valTo, Nat.pow_succ]
    omega
theorem valTo_ge {g : Nat → Nat} {a j : Nat} (h : 1 ≤ g (a + j) % 128) : 128 ^ j ≤ valTo g a (j + 1) := by
  rw [valTo]
  have := Nat.mul_le_mul_right (128 ^ j) h
  omega
theorem pow_le9 {j : Nat} (h : j ≤ 9) : 128 ^ j ≤ 9223372036854775808 := by
  have := Nat.pow_le_pow_right (n := 128) (by omega) h
  simpa using this
theorem pow_ge9 {j : Nat} (h : 9 ≤ j) : 9223372036854775808 ≤ 128 ^ j := by
  have := Nat.pow_le_pow_right (n := 128) (by omega) h
  simpa using this
/-- one byte less is left, read from the top -/
theorem valTo_step {g : Nat → Nat} {a r n V : Nat} (h : n * 128 ^ (r + 1) + valTo g a (r + 1) = V) : (n * 128 + g (a + r) % 128) * 128 ^ r + valTo g a r = V := by
  rw [← h, valTo, Nat.pow_succ, Nat.add_mul, Nat.mul_assoc, Nat.mul_comm 128 (128 ^ r)]
  omega
/-- what is too great is written with too many bytes -/
theorem too_great {g : Nat → Nat} {a r n J : Nat} (h : n * 128 ^ (r + 1) + valTo g a (r + 1) = valTo g a (J + 1)) (hn : 72057594037927935 < n) : 9 ≤ J := by
  rcases Nat.lt_or_ge J 9 with hj | hj
  · exfalso
    have h1 := valTo_lt g a (J + 1)
    have h2 := pow_le9 (j := J + 1) (by omega)
    have h3 : n * 128 ≤ n * 128 ^ (r + 1) := Nat.mul_le_mul_left _ (by
      have := Nat.pow_le_pow_right (n := 128) (by omega) (show 1 ≤ r + 1 by omega)
      simpa using this)
    omega
  · exact hj
/-- what is not too great is written with nine bytes at most -/
theorem few_bytes {g : Nat → Nat} {a J : Nat} (h : valTo g a (J + 1) < 9223372036854775808) (hd : 1 ≤ g (a + J) % 128 ∨ J = 0) : J < 9 := by
  rcases hd with hd | hd
  · rcases Nat.lt_or_ge J 9 with hj | hj
    · exact hj
    · have h1 := valTo_ge hd
      have h2 := pow_ge9 hj
      omega
  · omega
end Bt
end Go.Proofs.YtdjenlnomibniaaGreat

set_option linter.unusedSimpArgs false
set_option linter.unusedVariables false
namespace Go.Proofs.YtdjenlnomibniaaGreat
open Go.RowKit
namespace Bt
/-- the last byte of a number; -1 if there is none -/
def lastI (g : Nat → Nat) (len : Nat) (a : Int) : Int := if a < 0 then -1 else if a.toNat + conts g len a.toNat < len ∧ ¬ (g (a.toNat + conts g len a.toNat) = 0 ∧ 0 < conts g len a.toNat) then ((a.toNat + conts g len a.toNat : Nat) : Int) else -1
/-- what TakeNum hands back -/
def takeI (g : Nat → Nat) (len : Nat) (a : Int) : Option (Nat × Nat) := if a < 0 then none else takeNum g len a.toNat
end Bt
namespace Av
theorem byte_lt (s : ByteArray) (i : Nat) : byteAt s i ≤ 255 := by
  unfold byteAt
  cases h : s[i]? with
  | none => simp
  | some b => have := b.toNat_lt; simp; omega
set_option maxHeartbeats 8000000 in
theorem last_ok {s : ByteArray} {a : Int} (hs : s.size ≤ 1048576) : FnOk E.P 149 [.str s, pI a] (pI (Bt.lastI (byteAt s) s.size a)) true := by
  refine fn_ok mixed Tryz.func149 rfl (by kernel_rfl) _ Tryz.results149 _ Tryz.ntmps149 (by simp) (by kernel_rfl) ?_
  by_cases c0 : a < 0
  · have d0 : decide (a < 0) = true := by simpa using c0
    have e : Bt.lastI (byteAt s) s.size a = -1 := if_pos c0
    simp (maxSteps := 4000000) only [d0, e, pI, tvs, simprocAttr]
    repeat (first | refine ftS (by kernel_rfl) ?_ | refine And.intro (by omega) ?_)
    all_goals (first | rfl | trivial | skip)
  have d0 : decide (a < 0) = false := by simpa using c0
  obtain ⟨p, rfl⟩ : ∃ p : Nat, a = p := ⟨a.toNat, by omega⟩
  unfold Bt.lastI
  rw [if_neg c0, Int.toNat_natCast]
  have hcl := @Bt.conts_at (byteAt s) s.size p
  have hend := Bt.conts_end (byteAt s) s.size p
  generalize Bt.conts (byteAt s) s.size p = J at *
  simp (maxSteps := 4000000) only [d0, pI, tvs, simprocAttr]
  repeat (first | refine ftS (by kernel_rfl) ?_ | refine And.intro (by omega) ?_)
  refine awp_loop (X := Nat) (fun j => [(0, .pv (.str s)), (1, .pv (.int .i64 p)), (5, .pv (.int .i64 ((p + j : Nat) : Int)))]) (fun _ => [])
    (fun j => j ≤ J) (fun j => J - j) 100 0 (Nat.zero_le _) (by simp (maxSteps := 4000000) only [Nat.add_zero, pI, tvs, simprocAttr]; try simp [pI]) (fun j hj => ?_)
  have key := hcl hj
  by_cases c1 : p + j < s.size
  · have d1 : decide (((p + j : Nat) : Int) < (s.size : Int)) = true := by rw [decide_eq_true_eq]; omega
    by_cases c2 : 128 ≤ byteAt s (p + j)
    · have d2 : decide (((byteAt s (p + j) : Nat) : Int) ≥ 128) = true := by rw [decide_eq_true_eq]; omega
      have hlt := key.1 ⟨c1, c2⟩
      simp (maxSteps := 4000000) only [d1, d2, pI, tvs, simprocAttr]
      repeat (first | refine ftS (by kernel_rfl) ?_ | refine And.intro (by omega) ?_)
      refine ⟨j + 1, by omega, by omega, ?_⟩
      simp
      omega
    · have d2 : decide (((byteAt s (p + j) : Nat) : Int) ≥ 128) = false := by rw [decide_eq_false_iff_not]; omega
      obtain rfl : j = J := by
        rcases Nat.lt_or_ge j J with h | h
        · exact absurd (key.2 h).2 c2
        · omega
      have d3 : decide (((p + j : Nat) : Int) ≥ (s.size : Int)) = false := by rw [decide_eq_false_iff_not]; omega
      by_cases c3 : 0 < j
      · have d4 : decide (((p + j : Nat) : Int) > (p : Int)) = true := by rw [decide_eq_true_eq]; omega
        by_cases c4 : byteAt s (p + j) = 0
        · have d5 : (((byteAt s (p + j) : Nat) : Int) == 0) = true := by rw [beq_iff_eq]; omega
          rw [if_neg (fun h => h.2 ⟨c4, c3⟩)]
          simp (maxSteps := 4000000) only [d1, d2, d3, d4, d5, pI, tvs, simprocAttr]
          repeat (first | refine ftS (by kernel_rfl) ?_ | refine And.intro (by omega) ?_)
          all_goals (first | rfl | trivial | skip)
        · have d5 : (((byteAt s (p + j) : Nat) : Int) == 0) = false := by rw [beq_eq_false_iff_ne]; omega
          rw [if_pos ⟨c1, fun h => c4 h.1⟩]
          simp (maxSteps := 4000000) only [d1, d2, d3, d4, d5, pI, tvs, simprocAttr]
          repeat (first | refine ftS (by kernel_rfl) ?_ | refine And.intro (by omega) ?_)
          all_goals (first | rfl | trivial | skip)
      · have d4 : decide (((p + j : Nat) : Int) > (p : Int)) = false := by rw [decide_eq_false_iff_not]; omega
        rw [if_pos ⟨c1, fun h => c3 h.2⟩]
        simp (maxSteps := 4000000) only [d1, d2, d3, d4, pI, tvs, simprocAttr]
        repeat (first | refine ftS (by kernel_rfl) ?_ | refine And.intro (by omega) ?_)
        all_goals (first | rfl | trivial | skip)
  · have d1 : decide (((p + j : Nat) : Int) < (s.size : Int)) = false := by rw [decide_eq_false_iff_not]; omega
    have d3 : decide (((p + j : Nat) : Int) ≥ (s.size : Int)) = true := by rw [decide_eq_true_eq]; omega
    have hj0 : ¬ p + J < s.size := by
      intro h
      rcases Nat.lt_or_ge j J with h1 | h1
      · exact c1 (key.2 h1).1
      · have : j = J := by omega
        rw [this] at c1
        exact c1 h
    rw [if_neg (fun h => hj0 h.1)]
    simp (maxSteps := 4000000) only [d1, d3, pI, tvs, simprocAttr]
    repeat (first | refine ftS (by kernel_rfl) ?_ | refine And.intro (by omega) ?_)
    all_goals (first | rfl | trivial | skip)
theorem take_none {g : Nat → Nat} {len : Nat} {a : Int} (h : Bt.lastI g len a = -1) (ha : 0 ≤ a) : Bt.takeNum g len a.toNat = none := by
  unfold Bt.lastI at h
  rw [if_neg (by omega)] at h
  split at h
  · omega
  · rename_i hc
    unfold Bt.takeNum
    rw [if_neg (fun hh => hc ⟨hh.1, hh.2.2⟩)]
set_option maxHeartbeats 8000000 in
theorem itake_ok {s : ByteArray} {a : Int} (hs : s.size ≤ 1048576) : FnOk E.P 126 [.str s, pI a]
    (.tup [pI ((Bt.takeI (byteAt s) s.size a).getD (0, 0)).1, pI ((Bt.takeI (byteAt s) s.size a).getD (0, 0)).2, .bool (Bt.takeI (byteAt s) s.size a).isSome]) true := by
  have hL := last_ok (s := s) (a := a) hs
  have hb := byte_lt s
  by_cases c0 : Bt.lastI (byteAt s) s.size a = -1
  · rw [c0] at hL
    have e : Bt.takeI (byteAt s) s.size a = none := by
      unfold Bt.takeI
      split
      · rfl
      · exact take_none c0 (by omega)
    rw [e]
    refine fn_ok mixed Tryz.func126 rfl (by kernel_rfl) _ Tryz.results126 _ Tryz.ntmps126 (by simp) (by kernel_rfl) ?_
    simp (maxSteps := 4000000) only [pI, tvs, simprocAttr]
    repeat (first | refine ftS (by kernel_rfl) ?_ | refine And.intro (by omega) ?_)
    refine aops_fn (hL) (hidB rfl) rfl ?_
    simp (maxSteps := 4000000) only [Option.getD_none, Option.isSome_none, decide_true, Int.reduceNeg, Int.reduceLT, pI, tvs, simprocAttr]
    repeat (first | refine ftS (by kernel_rfl) ?_ | refine And.intro (by omega) ?_)
    all_goals (first | rfl | trivial | skip)
  have hc : 0 ≤ a ∧ a.toNat + Bt.conts (byteAt s) s.size a.toNat < s.size ∧ ¬ (byteAt s (a.toNat + Bt.conts (byteAt s) s.size a.toNat) = 0 ∧ 0 < Bt.conts (byteAt s) s.size a.toNat) ∧ Bt.lastI (byteAt s) s.size a = ((a.toNat + Bt.conts (byteAt s) s.size a.toNat : Nat) : Int) := by
    unfold Bt.lastI at c0 ⊢
    split at c0
    · exact absurd rfl c0
    · split at c0
      · rename_i h1 h2
        exact ⟨by omega, h2.1, h2.2, by rw [if_neg h1, if_pos h2]⟩
      · exact absurd rfl c0
  obtain ⟨h0, h1, h2, h3⟩ := hc
  obtain ⟨p, rfl⟩ : ∃ p : Nat, a = p := ⟨a.toNat, by omega⟩
  rw [Int.toNat_natCast] at h1 h2 h3
  rw [h3] at hL
  have hT : Bt.takeI (byteAt s) s.size p = Bt.takeNum (byteAt s) s.size p := by unfold Bt.takeI; rw [if_neg (by omega), Int.toNat_natCast]
  rw [hT]
  have hend := Bt.conts_end (byteAt s) s.size p
  unfold Bt.takeNum
  generalize Bt.conts (byteAt s) s.size p = J at *
  have hlow : byteAt s (p + J) < 128 := by
    rcases Nat.lt_or_ge (byteAt s (p + J)) 128 with h | h
    · exact h
    · exact absurd ⟨h1, h⟩ hend
  have d0 : decide (((p + J : Nat) : Int) < 0) = false := by rw [decide_eq_false_iff_not]; omega
  have n0 : (0 : Int) = ((0 : Nat) : Int) := rfl
  refine fn_ok mixed Tryz.func126 rfl (by kernel_rfl) _ Tryz.results126 _ Tryz.ntmps126 (by simp) (by kernel_rfl) ?_
  simp (maxSteps := 4000000) only [pI, tvs, simprocAttr]
  repeat (first | refine ftS (by kernel_rfl) ?_ | refine And.intro (by omega) ?_)
  refine aops_fn (hL) (hidB rfl) rfl ?_
  simp (maxSteps := 4000000) only [d0, pI, tvs, simprocAttr]
  repeat (first | refine ftS (by kernel_rfl) ?_ | refine And.intro (by omega) ?_)
  refine awp_loop (X := Nat × Nat × Int) (fun x => [(0, .pv (.str s)), (1, .pv (.int .i64 p)), (7, .pv (.int .i64 ((p + J : Nat) : Int))), (8, .pv (.int .i64 x.2.1)), (9, .pv (.int .i64 x.2.2))]) (fun _ => [])
    (fun x => x.1 ≤ J + 1 ∧ x.2.1 * 128 ^ x.1 + Bt.valTo (byteAt s) p x.1 = Bt.valTo (byteAt s) p (J + 1) ∧ x.2.1 < 9223372036854775808 ∧ x.2.2 = (p : Int) + x.1 - 1) (fun x => x.1) 100 (J + 1, 0, ((p + J : Nat) : Int)) ⟨Nat.le_refl _, by simp, by simp only; omega, by simp only; omega⟩ (by simp (maxSteps := 4000000) only [pI, tvs, simprocAttr]; try simp [pI]; try omega) (fun x H => ?_)
  obtain ⟨r, n, i⟩ := x
  obtain ⟨i1, i2, i3, i4⟩ := H
  simp only at i1 i2 i3 i4
  cases r with
  | zero =>
    have d1 : decide (i ≥ (p : Int)) = false := by rw [decide_eq_false_iff_not]; omega
    have hn : n = Bt.valTo (byteAt s) p (J + 1) := by simpa [Bt.valTo] using i2
    have hJ := Bt.few_bytes (g := byteAt s) (a := p) (J := J) (by omega) (by
      by_cases hz : J = 0
      · exact .inr hz
      · refine .inl ?_
        have : byteAt s (p + J) ≠ 0 := fun e => h2 ⟨e, by omega⟩
        omega)
    rw [if_pos ⟨h1, hJ, h2⟩, ← hn]
    simp (maxSteps := 4000000) only [d1, Option.getD_some, Option.isSome_some, pI, tvs, simprocAttr]
    repeat (first | refine ftS (by kernel_rfl) ?_ | refine And.intro (by omega) ?_)
    all_goals (first | rfl | trivial | skip)
  | succ r =>
    have d1 : decide (i ≥ (p : Int)) = true := by rw [decide_eq_true_eq]; omega
    by_cases c2 : 72057594037927935 < n
    · have d2 : decide ((n : Int) > 72057594037927935) = true := by rw [decide_eq_true_eq]; omega
      have hJ := Bt.too_great i2 c2
      rw [if_neg (fun h => by omega)]
      simp (maxSteps := 4000000) only [d1, d2, Option.getD_none, Option.isSome_none, pI, tvs, simprocAttr]
      repeat (first | refine ftS (by kernel_rfl) ?_ | refine And.intro (by omega) ?_)
      all_goals (first | rfl | trivial | skip)
    · have d2 : decide ((n : Int) > 72057594037927935) = false := by rw [decide_eq_false_iff_not]; omega
      obtain rfl : i = ((p + r : Nat) : Int) := by omega
      have hbr := hb (p + r)
      have e2 : ((byteAt s (p + r) : Nat) : Int).tmod 128 = ((byteAt s (p + r) % 128 : Nat) : Int) := by rw [Int.tmod_eq_emod_of_nonneg (by omega)]; omega
      have hst := Bt.valTo_step i2
      have hm : byteAt s (p + r) % 128 < 128 := Nat.mod_lt _ (by omega)
      have mw : mulW .i64 (n : Int) 128 = (n : Int) * 128 := mulW_in ⟨by omega, by omega⟩
      simp (maxSteps := 4000000) only [d1, d2, e2, mw, pI, tvs, simprocAttr]
      repeat (first | refine ftS (by kernel_rfl) ?_ | refine And.intro (by omega) ?_)
      refine ⟨(r, n * 128 + byteAt s (p + r) % 128, ((p + r : Nat) : Int) - 1), ⟨by simp only; omega, hst, by simp only; omega, by simp only; omega⟩, by simp only; omega, ?_⟩
      simp
theorem mulW_nat {a b : Nat} (h : a * b ≤ 9223372036854775807) : mulW .i64 (a : Int) (b : Int) = ((a * b : Nat) : Int) := by
  rw [mulW_in]
  · exact (Int.natCast_mul a b).symm
  · show -9223372036854775808 ≤ (a : Int) * (b : Int) ∧ (a : Int) * (b : Int) ≤ 9223372036854775807
    rw [← Int.natCast_mul]
    omega
set_option maxHeartbeats 8000000 in
theorem stake_ok {s : ByteArray} {a : Int} (hs : s.size ≤ 1048576) : FnOk E.P 91 [.str s, pI a]
    (.tup [pI ((Bt.takeI (byteAt s) s.size a).getD (0, 0)).1, pI ((Bt.takeI (byteAt s) s.size a).getD (0, 0)).2, .bool (Bt.takeI (byteAt s) s.size a).isSome]) true := by
  have hb := byte_lt s
  by_cases c0 : a < 0
  · have d0 : decide (a < 0) = true := by simpa using c0
    have e : Bt.takeI (byteAt s) s.size a = none := if_pos c0
    rw [e]
    refine fn_ok mixed Tryz.func91 rfl (by kernel_rfl) _ Tryz.results91 _ Tryz.ntmps91 (by simp) (by kernel_rfl) ?_
    simp (maxSteps := 4000000) only [d0, Option.getD_none, Option.isSome_none, pI, tvs, simprocAttr]
    repeat (first | refine ftS (by kernel_rfl) ?_ | refine And.intro (by omega) ?_)
    all_goals (first | rfl | trivial | skip)
  have d0 : decide (a < 0) = false := by simpa using c0
  obtain ⟨p, rfl⟩ : ∃ p : Nat, a = p := ⟨a.toNat, by omega⟩
  have hT : Bt.takeI (byteAt s) s.size p = Bt.takeNum (byteAt s) s.size p := by unfold Bt.takeI; rw [if_neg (by omega), Int.toNat_natCast]
  rw [hT]
  have hcl := @Bt.conts_at (byteAt s) s.size p
  have hend := Bt.conts_end (byteAt s) s.size p
  unfold Bt.takeNum
  generalize Bt.conts (byteAt s) s.size p = J at *
  refine fn_ok mixed Tryz.func91 rfl (by kernel_rfl) _ Tryz.results91 _ Tryz.ntmps91 (by simp) (by kernel_rfl) ?_
  simp (maxSteps := 4000000) only [d0, pI, tvs, simprocAttr]
  repeat (first | refine ftS (by kernel_rfl) ?_ | refine And.intro (by omega) ?_)
  refine awp_loop (X := Nat × Int) (fun x => [(0, .pv (.str s)), (1, .pv (.int .i64 p)), (7, .pv (.int .i64 ((Bt.valTo (byteAt s) p x.1 : Nat) : Int))), (8, .pv (.int .i64 x.2)), (9, .pv (.int .i64 ((p + x.1 : Nat) : Int)))]) (fun _ => [])
    (fun x => x.1 ≤ J ∧ x.1 ≤ 9 ∧ (x.1 < 9 → x.2 = ((128 ^ x.1 : Nat) : Int))) (fun x => 9 - x.1) 100 (0, 1) ⟨Nat.zero_le _, Nat.zero_le _, fun _ => rfl⟩ (by simp (maxSteps := 4000000) only [Bt.valTo, Nat.add_zero, pI, tvs, simprocAttr]; try simp [pI]) (fun x H => ?_)
  obtain ⟨j, y⟩ := x
  obtain ⟨i1, i2, i3⟩ := H
  simp only at i1 i2 i3
  have key := hcl i1
  have ej : ((p + j : Nat) : Int) - (p : Int) = (j : Int) := by omega
  by_cases c1 : p + j < s.size
  · have d1 : decide (((p + j : Nat) : Int) < (s.size : Int)) = true := by rw [decide_eq_true_eq]; omega
    by_cases c2 : j < 9
    · have d2 : decide ((j : Int) < 9) = true := by rw [decide_eq_true_eq]; omega
      obtain rfl := i3 c2
      have hbr := hb (p + j)
      have hm : byteAt s (p + j) % 128 < 128 := Nat.mod_lt _ (by omega)
      have e2 : ((byteAt s (p + j) : Nat) : Int).tmod 128 = ((byteAt s (p + j) % 128 : Nat) : Int) := by rw [Int.tmod_eq_emod_of_nonneg (by omega)]; omega
      have hp := Bt.pow_le9 (j := j + 1) (by omega)
      have hp2 : byteAt s (p + j) % 128 * 128 ^ j ≤ 127 * 128 ^ j := Nat.mul_le_mul_right _ (by omega)
      have hp3 : 128 ^ j * 128 ≤ 9223372036854775808 := by rw [Nat.pow_succ] at hp; exact hp
      have mw : mulW .i64 ((byteAt s (p + j) % 128 : Nat) : Int) ((128 ^ j : Nat) : Int) = ((byteAt s (p + j) % 128 * 128 ^ j : Nat) : Int) := mulW_nat (by omega)
      have hv1 := Bt.valTo_lt (byteAt s) p (j + 1)
      have e3 : ((Bt.valTo (byteAt s) p j : Nat) : Int) + ((byteAt s (p + j) % 128 * 128 ^ j : Nat) : Int) = ((Bt.valTo (byteAt s) p (j + 1) : Nat) : Int) := by rw [Bt.valTo]; exact (Int.natCast_add _ _).symm
      by_cases c3 : byteAt s (p + j) < 128
      · have d3 : decide (((byteAt s (p + j) : Nat) : Int) < 128) = true := by rw [decide_eq_true_eq]; omega
        obtain rfl : j = J := by
          rcases Nat.lt_or_ge j J with h | h
          · have := (key.2 h).2
            omega
          · omega
        by_cases c4 : byteAt s (p + j) = 0
        · have d4 : (((byteAt s (p + j) : Nat) : Int) == 0) = true := by rw [beq_iff_eq]; omega
          by_cases c5 : 0 < j
          · have d5 : decide (((p + j : Nat) : Int) > (p : Int)) = true := by rw [decide_eq_true_eq]; omega
            rw [if_neg (fun h => h.2.2 ⟨c4, c5⟩)]
            simp (maxSteps := 4000000) only [d1, d2, d3, d4, d5, ej, e2, mw, e3, Option.getD_none, Option.isSome_none, pI, tvs, simprocAttr]
            repeat (first | refine ftS (by kernel_rfl) ?_ | refine And.intro (by omega) ?_)
            all_goals (first | rfl | trivial | skip)
          · have d5 : decide (((p + j : Nat) : Int) > (p : Int)) = false := by rw [decide_eq_false_iff_not]; omega
            rw [if_pos ⟨c1, c2, fun h => c5 h.2⟩]
            simp (maxSteps := 4000000) only [d1, d2, d3, d4, d5, ej, e2, mw, e3, Option.getD_some, Option.isSome_some, pI, tvs, simprocAttr]
            repeat (first | refine ftS (by kernel_rfl) ?_ | refine And.intro (by omega) ?_)
            all_goals (first | rfl | trivial | skip)
        · have d4 : (((byteAt s (p + j) : Nat) : Int) == 0) = false := by rw [beq_eq_false_iff_ne]; omega
          rw [if_pos ⟨c1, c2, fun h => c4 h.1⟩]
          simp (maxSteps := 4000000) only [d1, d2, d3, d4, ej, e2, mw, e3, Option.getD_some, Option.isSome_some, pI, tvs, simprocAttr]
          repeat (first | refine ftS (by kernel_rfl) ?_ | refine And.intro (by omega) ?_)
          all_goals (first | rfl | trivial | skip)
      · have d3 : decide (((byteAt s (p + j) : Nat) : Int) < 128) = false := by rw [decide_eq_false_iff_not]; omega
        have hlt := key.1 ⟨c1, by omega⟩
        simp (maxSteps := 4000000) only [d1, d2, d3, ej, e2, mw, e3, pI, tvs, simprocAttr]
        repeat (first | refine ftS (by kernel_rfl) ?_ | refine And.intro (by omega) ?_)
        refine ⟨(j + 1, mulW .i64 ((128 ^ j : Nat) : Int) 128), ⟨by simp only; omega, by simp only; omega, fun h => ?_⟩, by simp only; omega, ?_⟩
        · simp only at h ⊢
          have hq := Bt.pow_le9 (j := j + 2) (by omega)
          have h8 : 128 ^ j * 128 * 128 ≤ 9223372036854775808 := by rw [Nat.pow_succ, Nat.pow_succ] at hq; exact hq
          rw [show (128 : Int) = ((128 : Nat) : Int) from rfl, mulW_nat (by omega), Nat.pow_succ]
        · simp
          omega
    · have d2 : decide ((j : Int) < 9) = false := by rw [decide_eq_false_iff_not]; omega
      rw [if_neg (fun h => by omega)]
      simp (maxSteps := 4000000) only [d1, d2, ej, Option.getD_none, Option.isSome_none, pI, tvs, simprocAttr]
      repeat (first | refine ftS (by kernel_rfl) ?_ | refine And.intro (by omega) ?_)
      all_goals (first | rfl | trivial | skip)
  · have d1 : decide (((p + j : Nat) : Int) < (s.size : Int)) = false := by rw [decide_eq_false_iff_not]; omega
    rw [if_neg (fun h => by omega)]
    simp (maxSteps := 4000000) only [d1, ej, Option.getD_none, Option.isSome_none, pI, tvs, simprocAttr]
    repeat (first | refine ftS (by kernel_rfl) ?_ | refine And.intro (by omega) ?_)
    all_goals (first | rfl | trivial | skip)
end Av
end Go.Proofs.YtdjenlnomibniaaGreat
