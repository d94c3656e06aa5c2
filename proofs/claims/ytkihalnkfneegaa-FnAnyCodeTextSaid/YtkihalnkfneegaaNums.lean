/-
  How a word is read as a number, in both packages: contracts for every word.
-/
import Derived.Test.YtkihalnkfneegaaWords
namespace Go.Proofs.Ytkihalnkfneegaa
open Go.RowKit

namespace Bt
theorem fold_lt (l : List UInt8) : ∀ n : Nat, l.all isDig = true → l.foldl (fun n c => n * 10 + (c.toNat - 48)) n < (n + 1) * 10 ^ l.length := by
  induction l with
  | nil => intro n _; simp
  | cons c l ih =>
    intro n h
    simp only [List.all_cons, Bool.and_eq_true] at h
    have h2 := of_decide_eq_true h.1
    have h1 := ih (n * 10 + (c.toNat - 48)) h.2
    rw [List.foldl_cons, List.length_cons, Nat.pow_succ]
    refine Nat.lt_of_lt_of_le h1 ?_
    rw [Nat.mul_comm (10 ^ l.length) 10, ← Nat.mul_assoc]
    exact Nat.mul_le_mul_right _ (by omega)
theorem numV_lt (l : List UInt8) (h : l.all isDig = true) : numV l < 10 ^ l.length := by
  have h1 := fold_lt l 0 h
  simpa [numV] using h1
theorem take_one_more (s : ByteArray) (k : Nat) (h : k < s.size) : s.data.toList.take (k + 1) = s.data.toList.take k ++ [s[k]] := by
  rw [List.take_succ_eq_append_getElem (by simpa using h)]; rfl
theorem head_of (s : ByteArray) (h : 0 < s.size) : s.data.toList.head? = some s[0] := by
  rw [List.head?_eq_getElem?, List.getElem?_eq_getElem (by simpa using h)]; rfl
theorem not_all {s : ByteArray} {k : Nat} (h : k < s.size) (hd : isDig s[k] = false) : s.data.toList.all isDig = false := by
  rw [List.all_eq_false]
  refine ⟨s[k], ?_, by simp [hd]⟩
  exact List.getElem_mem (l := s.data.toList) (by simpa using h)
theorem numI_bad {w : List UInt8} (h : w.all isDig = false) : numI w = -1 := by
  unfold numI; rw [if_neg (by rw [h]; simp)]
theorem numI_len {w : List UInt8} (h : ¬ (1 ≤ w.length ∧ w.length ≤ 4)) : numI w = -1 := by
  unfold numI; rw [if_neg (fun ⟨a, b, _⟩ => h ⟨a, b⟩)]
theorem numI_ok {w : List UInt8} (h1 : 1 ≤ w.length) (h4 : w.length ≤ 4) (h : w.all isDig = true) : numI w = numV w := by
  unfold numI; rw [if_pos ⟨h1, h4, h⟩]
theorem numS_bad {w : List UInt8} (h : w.all isDig = false) : numS w = -1 := by
  unfold numS; rw [if_neg (by rw [h]; simp)]
theorem numS_len {w : List UInt8} (h : ¬ (1 ≤ w.length ∧ w.length ≤ 4)) : numS w = -1 := by
  unfold numS; rw [if_neg (fun ⟨a, b, _⟩ => h ⟨a, b⟩)]
theorem numS_zero {w : List UInt8} (h : 1 < w.length ∧ w.head? = some 48) : numS w = -1 := by
  unfold numS; rw [if_neg (fun ⟨_, _, c, _⟩ => c h)]
theorem numS_ok {w : List UInt8} (h1 : 1 ≤ w.length) (h4 : w.length ≤ 4) (h0 : ¬ (1 < w.length ∧ w.head? = some 48)) (h : w.all isDig = true) : numS w = numV w := by
  unfold numS; rw [if_pos ⟨h1, h4, h0, h⟩]
end Bt

set_option maxHeartbeats 1000000 in
theorem numberIn_any (s : ByteArray) (w : World) (hs : s.size ≤ 1099511627776) :
    Calls Try.prog 22 #[.string s] w fun e w' => e = .returned (.int .i64 (Bt.numI s.data.toList)) ∧ w = w' := by
  by_cases h1 : 1 ≤ s.size
  · by_cases h4 : s.size ≤ 4
    · go_enter Try.func22, Try.ntmps22
      go_wp2
      go_loop [3, 4] (fun n i => ∃ k : Nat, k ≤ s.size ∧ i = .int .i64 k ∧ n = .int .i64 (Bt.numV (s.data.toList.take k)) ∧ (s.data.toList.take k).all Bt.isDig = true) (fun _ i => s.size - (intOf i).toNat)
      case atStart => exact ⟨0, Nat.zero_le _, rfl, rfl, rfl⟩
      case round =>
        obtain ⟨k, hk, rfl, rfl, hall⟩ := hrel
        have hb := Bt.numV_lt _ hall
        have hlen : (s.data.toList.take k).length ≤ 4 := by rw [List.length_take]; omega
        have hb4 : Bt.numV (s.data.toList.take k) < 10000 := Nat.lt_of_lt_of_le hb (Nat.le_trans (Nat.pow_le_pow_right (by decide) hlen) (by decide))
        have HA := Lib.hid hall; clear hall hb hlen
        by_cases hlt : k < s.size
        · by_cases hd : 48 ≤ (s[k].toNat : Int)
          · by_cases hd2 : (s[k].toNat : Int) ≤ 57
            · have HS := Lib.hid (Bt.take_one_more s k hlt)
              have HV := Lib.hid (Bt.numV_snoc (s.data.toList.take k) s[k])
              have HD : Hid (Bt.isDig s[k] = true) := Lib.hid (by unfold Bt.isDig; rw [decide_eq_true_eq]; omega)
              go_wp2
              go_round
              case rel => exact ⟨k + 1, by omega, by go_num, by rw [HS.out, HV.out]; go_num, by rw [HS.out, List.all_append, HA.out]; simp [HD.out]⟩
              case measure => simp [intOf]; omega
            · have HF : Hid (Bt.numI s.data.toList = -1) := Lib.hid (Bt.numI_bad (Bt.not_all hlt (by unfold Bt.isDig; rw [decide_eq_false_iff_not]; omega)))
              go_wp2
              go_ret
              exact ⟨ret_int HF.out.symm, rfl⟩
          · have HF : Hid (Bt.numI s.data.toList = -1) := Lib.hid (Bt.numI_bad (Bt.not_all hlt (by unfold Bt.isDig; rw [decide_eq_false_iff_not]; omega)))
            go_wp2
            go_ret
            exact ⟨ret_int HF.out.symm, rfl⟩
        · have e : s.data.toList.take k = s.data.toList := List.take_of_length_le (by simp; omega)
          have HE := Lib.hid e; clear e
          have HF : Hid (Bt.numI s.data.toList = Bt.numV s.data.toList) := Lib.hid (Bt.numI_ok (by simpa using h1) (by simpa using h4) (by have h := HA.out; rw [HE.out] at h; exact h))
          go_wp2
          go_ret
          exact ⟨ret_int (by rw [HE.out, HF.out]), rfl⟩
    · have HF : Hid (Bt.numI s.data.toList = -1) := Lib.hid (Bt.numI_len (by simp; omega))
      go_enter Try.func22, Try.ntmps22
      go_wp2
      go_ret
      exact ⟨ret_int HF.out.symm, rfl⟩
  · have HF : Hid (Bt.numI s.data.toList = -1) := Lib.hid (Bt.numI_len (by simp; omega))
    go_enter Try.func22, Try.ntmps22
    go_wp2
    go_ret
    exact ⟨ret_int HF.out.symm, rfl⟩

end Go.Proofs.Ytkihalnkfneegaa
