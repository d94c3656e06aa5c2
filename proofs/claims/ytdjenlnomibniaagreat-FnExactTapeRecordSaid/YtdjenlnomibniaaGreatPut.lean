/-
  Chapter 5: numbers in bytes: what both packages write.
-/
import Derived.Test.YtdjenlnomibniaaGreatTy
import Derived.Test.YtdjenlnomibniaaGreatAvY
set_option linter.unusedSimpArgs false
set_option linter.unusedVariables false
namespace Go.Proofs.YtdjenlnomibniaaGreat
open Go.RowKit
namespace Bt
/-- a number in bytes -/
def putN (n : Nat) : List Int := if n < 128 then [(n : Int)] else ((n % 128 + 128 : Nat) : Int) :: putN (n / 128)
termination_by n
decreasing_by omega
/-- numbers as bytes -/
def bytes (l : List Int) : ByteArray := ⟨(l.map fun x => UInt8.ofNat x.toNat).toArray⟩
def putNum (n : Int) : List Int := if n < 0 then [] else putN n.toNat
theorem putN_small {n : Nat} (h : n < 128) : putN n = [(n : Int)] := by rw [putN, if_pos h]
theorem putN_more {n : Nat} (h : ¬ n < 128) : putN n = ((n % 128 + 128 : Nat) : Int) :: putN (n / 128) := by rw [putN, if_neg h]
theorem putN_in (n : Nat) : ∀ x ∈ putN n, 0 ≤ x ∧ x ≤ 255 := by
  induction n using Nat.strongRecOn with
  | _ n ih =>
    intro x hx
    by_cases h : n < 128
    · rw [putN_small h] at hx
      obtain rfl := List.mem_singleton.1 hx
      omega
    · rw [putN_more h] at hx
      rcases List.mem_cons.1 hx with rfl | hx
      · omega
      · exact ih _ (by omega) x hx
end Bt
namespace Av
/-- bytes told plainly -/
def pBy (x : Int) : List PV := [.int .u8 x]
theorem strOf_bytes (l : List Int) : strOf (l.map pBy) = Bt.bytes l := by simp [strOf, Bt.bytes, byteOf, pBy, Function.comp_def]
theorem allBy_bytes {l : List Int} (h : ∀ x ∈ l, 0 ≤ x ∧ x ≤ 255) : allBy (l.map pBy) = true := by
  unfold allBy
  rw [List.all_eq_true]
  intro r hr
  obtain ⟨x, hx, rfl⟩ := List.mem_map.1 hr
  have := h x hx
  simp [isByte, pBy, this]
theorem bytes_nil : (⟨#[]⟩ : ByteArray) = Bt.bytes [] := rfl
set_option maxHeartbeats 8000000 in
theorem iput_ok {n : Int} (hn : n ≤ 9223372036854775807) : FnOk E.P 94 [pI n] (.str (Bt.bytes (Bt.putNum n))) true := by
  refine fn_ok mixed Tryz.func94 rfl (by kernel_rfl) _ Tryz.results94 _ Tryz.ntmps94 (by simp) (by kernel_rfl) ?_
  by_cases c0 : n < 0
  · have d0 : decide (n < 0) = true := by simpa using c0
    have e : Bt.putNum n = [] := if_pos c0
    simp (maxSteps := 4000000) only [d0, e, bytes_nil, pI, tvs, simprocAttr]
    repeat (first | refine ftS (by kernel_rfl) ?_ | refine And.intro (by omega) ?_)
    all_goals (first | rfl | trivial | skip)
  have d0 : decide (n < 0) = false := by simpa using c0
  have e : Bt.putNum n = Bt.putN n.toNat := if_neg c0
  rw [e]
  obtain ⟨q, rfl⟩ : ∃ q : Nat, n = q := ⟨n.toNat, by omega⟩
  have hq : q < 128 ^ (8 + 1) := by
    have : (128 : Nat) ^ (8 + 1) = 9223372036854775808 := by decide
    omega
  rw [Int.toNat_natCast]
  simp (maxSteps := 4000000) only [d0, pI, tvs, simprocAttr]
  repeat (first | refine ftS (by kernel_rfl) ?_ | refine And.intro (by omega) ?_)
  refine awp_loop (X := Nat × List Int × Nat) (fun x => [(0, .pv (.int .i64 x.1)), (3, .sl 0)]) (fun x => [(0, .row true 5 (x.2.1.map pBy))])
    (fun x => x.2.1.length + x.2.2 = 8 ∧ x.1 < 128 ^ (x.2.2 + 1) ∧ x.2.1 ++ Bt.putN x.1 = Bt.putN q ∧ x.1 ≤ q) (fun x => x.1) 100 (q, [], 8) ⟨rfl, hq, rfl, Nat.le_refl _⟩ (by simp (maxSteps := 4000000) only [List.map_nil, pI, tvs, simprocAttr]; try simp [pI]) (fun x H => ?_)
  obtain ⟨p, l, k⟩ := x
  obtain ⟨h1, h2, h3, h4⟩ := H
  simp only at h1 h2 h3 h4
  have hlen : (l.map pBy).length = l.length := by simp
  by_cases c1 : 128 ≤ p
  · have d1 : decide ((p : Int) ≥ 128) = true := by simp; omega
    obtain ⟨k', rfl⟩ : ∃ k', k = k' + 1 := by
      cases k with
      | zero => exact absurd h2 (by simp; omega)
      | succ k => exact ⟨k, rfl⟩
    have m1 : (p : Int).tmod 128 + 128 = ((p % 128 + 128 : Nat) : Int) := by rw [Int.tmod_eq_emod_of_nonneg (by omega)]; omega
    have m2 : (p : Int).tdiv 128 = ((p / 128 : Nat) : Int) := by rw [Int.tdiv_eq_ediv_of_nonneg (by omega)]; omega
    have m3 : p % 128 < 128 := Nat.mod_lt _ (by omega)
    have hd : p / 128 < 128 ^ (k' + 1) := by
      rw [Nat.div_lt_iff_lt_mul (by omega)]
      rw [Nat.pow_succ] at h2
      exact h2
    rw [Bt.putN_more (by omega)] at h3
    simp (maxSteps := 4000000) only [d1, m1, m2, hlen, pI, tvs, simprocAttr]
    repeat (first | refine ftS (by kernel_rfl) ?_ | refine And.intro (by omega) ?_)
    refine ⟨(p / 128, l ++ [((p % 128 + 128 : Nat) : Int)], k'), ⟨by simp only [List.length_append, List.length_cons, List.length_nil]; omega, hd, by simpa using h3, by simp only; omega⟩, by simp only; omega, ?_⟩
    simp [pBy]
  · have d1 : decide ((p : Int) ≥ 128) = false := by simp; omega
    rw [Bt.putN_small (by omega)] at h3
    have hin := Bt.putN_in q
    rw [← h3] at hin ⊢
    have e1 : l.map pBy ++ [[PV.int .u8 (p : Int)]] = (l ++ [(p : Int)]).map pBy := by simp [pBy]
    have e2 := strOf_bytes (l ++ [(p : Int)])
    have e3 := allBy_bytes hin
    simp (maxSteps := 4000000) only [d1, hlen, e1, e2, e3, pI, tvs, simprocAttr]
    repeat (first | refine ftS (by kernel_rfl) ?_ | refine And.intro (by omega) ?_)
    all_goals (first | rfl | trivial | skip)
set_option maxHeartbeats 8000000 in
theorem sput_ok {n : Int} (hn : n ≤ 9223372036854775807) : FnOk E.P 123 [pI n] (.str (Bt.bytes (Bt.putNum n))) true := by
  refine fn_ok mixed Tryz.func123 rfl (by kernel_rfl) _ Tryz.results123 _ Tryz.ntmps123 (by simp) (by kernel_rfl) ?_
  by_cases c0 : n < 0
  · have d0 : decide (n < 0) = true := by simpa using c0
    have e : Bt.putNum n = [] := if_pos c0
    simp (maxSteps := 4000000) only [d0, e, bytes_nil, pI, tvs, simprocAttr]
    repeat (first | refine ftS (by kernel_rfl) ?_ | refine And.intro (by omega) ?_)
    all_goals (first | rfl | trivial | skip)
  have d0 : decide (n < 0) = false := by simpa using c0
  have e : Bt.putNum n = Bt.putN n.toNat := if_neg c0
  rw [e]
  obtain ⟨q, rfl⟩ : ∃ q : Nat, n = q := ⟨n.toNat, by omega⟩
  have hq : q < 128 ^ (8 + 1) := by
    have : (128 : Nat) ^ (8 + 1) = 9223372036854775808 := by decide
    omega
  rw [Int.toNat_natCast]
  simp (maxSteps := 4000000) only [d0, pI, tvs, simprocAttr]
  repeat (first | refine ftS (by kernel_rfl) ?_ | refine And.intro (by omega) ?_)
  refine awp_loop (X := Nat × List Int × Nat) (fun x => [(0, .pv (.int .i64 x.1)), (3, .sl 0)]) (fun x => [(0, .row true 5 (x.2.1.map pBy))])
    (fun x => x.2.1.length + x.2.2 = 8 ∧ x.1 < 128 ^ (x.2.2 + 1) ∧ x.2.1 ++ Bt.putN x.1 = Bt.putN q ∧ x.1 ≤ q) (fun x => x.1) 100 (q, [], 8) ⟨rfl, hq, rfl, Nat.le_refl _⟩ (by simp (maxSteps := 4000000) only [List.map_nil, pI, tvs, simprocAttr]; try simp [pI]) (fun x H => ?_)
  obtain ⟨p, l, k⟩ := x
  obtain ⟨h1, h2, h3, h4⟩ := H
  simp only at h1 h2 h3 h4
  have hlen : (l.map pBy).length = l.length := by simp
  by_cases c1 : 128 ≤ p
  · have d1 : decide ((p : Int) ≥ 128) = true := by simp; omega
    obtain ⟨k', rfl⟩ : ∃ k', k = k' + 1 := by
      cases k with
      | zero => exact absurd h2 (by simp; omega)
      | succ k => exact ⟨k, rfl⟩
    have m1 : (p : Int).tmod 128 + 128 = ((p % 128 + 128 : Nat) : Int) := by rw [Int.tmod_eq_emod_of_nonneg (by omega)]; omega
    have m2 : (p : Int).tdiv 128 = ((p / 128 : Nat) : Int) := by rw [Int.tdiv_eq_ediv_of_nonneg (by omega)]; omega
    have m3 : p % 128 < 128 := Nat.mod_lt _ (by omega)
    have hd : p / 128 < 128 ^ (k' + 1) := by
      rw [Nat.div_lt_iff_lt_mul (by omega)]
      rw [Nat.pow_succ] at h2
      exact h2
    rw [Bt.putN_more (by omega)] at h3
    simp (maxSteps := 4000000) only [d1, m1, m2, hlen, pI, tvs, simprocAttr]
    repeat (first | refine ftS (by kernel_rfl) ?_ | refine And.intro (by omega) ?_)
    refine ⟨(p / 128, l ++ [((p % 128 + 128 : Nat) : Int)], k'), ⟨by simp only [List.length_append, List.length_cons, List.length_nil]; omega, hd, by simpa using h3, by simp only; omega⟩, by simp only; omega, ?_⟩
    simp [pBy]
  · have d1 : decide ((p : Int) ≥ 128) = false := by simp; omega
    rw [Bt.putN_small (by omega)] at h3
    have hin := Bt.putN_in q
    rw [← h3] at hin ⊢
    have e1 : l.map pBy ++ [[PV.int .u8 (p : Int)]] = (l ++ [(p : Int)]).map pBy := by simp [pBy]
    have e2 := strOf_bytes (l ++ [(p : Int)])
    have e3 := allBy_bytes hin
    simp (maxSteps := 4000000) only [d1, hlen, e1, e2, e3, pI, tvs, simprocAttr]
    repeat (first | refine ftS (by kernel_rfl) ?_ | refine And.intro (by omega) ?_)
    all_goals (first | rfl | trivial | skip)
end Av
end Go.Proofs.YtdjenlnomibniaaGreat
