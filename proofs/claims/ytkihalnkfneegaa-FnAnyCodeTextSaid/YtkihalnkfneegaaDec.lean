/-
  Decimal numbers as bytes, without any Go.
-/
namespace Go.Proofs.Ytkihalnkfneegaa.Bt
/-- a digit as a byte -/
def digit (m : Nat) : UInt8 := UInt8.ofNat (48 + m)
/-- the digits of a number, by at most so many steps -/
def decF : Nat → Nat → List UInt8
  | 0, _ => []
  | f + 1, n => if n < 10 then [digit n] else decF f (n / 10) ++ [digit (n % 10)]
/-- a number in decimal -/
def dec (n : Nat) : List UInt8 := decF (n + 1) n
theorem decF_enough : ∀ (f g n : Nat), n < f → n < g → decF f n = decF g n
  | 0, _, _, h, _ => absurd h (by omega)
  | _, 0, _, _, h => absurd h (by omega)
  | f + 1, g + 1, n, hf, hg => by
    unfold decF
    split
    · rfl
    · rw [decF_enough f g (n / 10) (by omega) (by omega)]
theorem dec_small {n : Nat} (h : n < 10) : dec n = [digit n] := by
  unfold dec decF; rw [if_pos h]
theorem dec_big {n : Nat} (h : ¬ n < 10) : dec n = dec (n / 10) ++ [digit (n % 10)] := by
  unfold dec
  rw [decF, if_neg h, decF_enough n (n / 10 + 1) (n / 10) (by omega) (by omega)]
theorem decF_len : ∀ (f n : Nat), (decF f n).length ≤ n + 1
  | 0, _ => by simp [decF]
  | f + 1, n => by
    unfold decF
    split
    · simp
    · have h := decF_len f (n / 10)
      simp only [List.length_append, List.length_singleton]
      omega
theorem dec_len (n : Nat) : (dec n).length ≤ n + 1 := decF_len _ _
end Go.Proofs.Ytkihalnkfneegaa.Bt
