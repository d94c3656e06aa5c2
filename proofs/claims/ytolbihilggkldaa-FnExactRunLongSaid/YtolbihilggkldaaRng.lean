/-
  How both packages look whether numbers lie between bounds, whether two rows are equal, and which cell an instruction uses: contracts.
-/
import Derived.Test.YtolbihilggkldaaMach
import Derived.Test.YtolbihilggkldaaCodeC
import Derived.Test.YtolbihilggkldaaInts
namespace Go.Proofs.Ytolbihilggkldaa
open Go.RowKit

theorem ArgInts.at_ {w : World} {A : Option Addr} {n cap : Nat} {xs : List Int} (h : ArgInts w (.slice A n cap) xs) (hN : xs.length = n) : n ≤ cap ∧ ∀ i (hi : i < xs.length), ∃ b o, A = some ⟨b, o, none⟩ ∧ w.cell? ⟨b, o + i, none⟩ = some (.int .i64 xs[i]) := by
  obtain ⟨A', cap', hv, hc, hr⟩ := h
  injection hv with e1 e2 e3
  subst e1 e2 e3
  refine ⟨hc, fun i hi => ?_⟩
  obtain ⟨b, o, hA, h⟩ := hr (by intro e; rw [e] at hi; simp at hi)
  exact ⟨b, o, hA, h i hi⟩
theorem ArgInts.form {w : World} {v : Value} {xs : List Int} (h : ArgInts w v xs) : ∃ A cap, v = .slice A xs.length cap ∧ ArgInts w (.slice A xs.length cap) xs := by
  have h' := h
  obtain ⟨A, cap, rfl, _, _⟩ := h
  exact ⟨A, cap, rfl, h'⟩

set_option maxHeartbeats 1000000 in
theorem l2n_any (v : Value) (xs : List Int) (many : Int) (w : World) (hn : xs.length ≤ 1099511627776) (hv : ArgInts w v xs) :
    Calls Try.prog 83 #[v, .int .i64 many] w fun e w' => e = .returned (.bool (Bt.inR 0 10000 xs && ((xs.length : Int) == many))) ∧ w = w' := by
  obtain ⟨A, cap, rfl, hv⟩ := hv.form
  generalize hN : xs.length = n at *
  obtain ⟨hc, hr⟩ := hv.at_ hN
  have HN := Lib.hid hN; clear hN
  have HR := Lib.hid hr; clear hr hv
  go_enter Try.func83, Try.ntmps83
  go_wp2
  go_loop [5] (fun i => ∃ k : Nat, k ≤ n ∧ i = .int .i64 k ∧ ∀ j (hj : j < xs.length), j < k → 0 ≤ xs[j] ∧ xs[j] < 10000) (fun i => n - (intOf i).toNat)
  case atStart => exact ⟨0, Nat.zero_le _, rfl, fun _ _ hj => absurd hj (by omega)⟩
  case round =>
    obtain ⟨k, hk, rfl, hall⟩ := hrel
    have HA := Lib.hid hall; clear hall
    by_cases hlt : k < n
    · have hlt' : k < xs.length := by rw [HN.out]; exact hlt
      obtain ⟨b, o, rfl, f0⟩ := HR.out k hlt'
      generalize hq : xs[k] = q at *
      have HQ := Lib.hid hq; clear hq
      by_cases h1 : q < 0
      · have HF : Hid (Bt.inR 0 10000 xs = false) := Lib.hid (Bt.inR_false hlt' (by rw [HQ.out]; omega))
        go_wp2
        go_ret
        exact ⟨ret_bool (by rw [HF.out]; rfl), rfl⟩
      · by_cases h2 : 10000 ≤ q
        · have HF : Hid (Bt.inR 0 10000 xs = false) := Lib.hid (Bt.inR_false hlt' (by rw [HQ.out]; omega))
          go_wp2
          go_ret
          exact ⟨ret_bool (by rw [HF.out]; rfl), rfl⟩
        · go_wp2
          go_round
          case rel => exact ⟨k + 1, by omega, by go_num, fun j hj hjk => by
            by_cases hjk' : j < k
            · exact HA.out j hj hjk'
            · obtain rfl : j = k := by omega
              rw [HQ.out]; omega⟩
          case measure => simp [intOf]; omega
    · obtain rfl : k = n := by omega
      have HF : Hid (Bt.inR 0 10000 xs = true) := Lib.hid (Bt.inR_true (fun j hj => HA.out j hj (by have := HN.out; omega)))
      go_wp2
      go_ret
      exact ⟨ret_bool (by rw [HF.out]; simp), rfl⟩

set_option maxHeartbeats 1000000 in
theorem within_any (v : Value) (xs : List Int) (lo hi : Int) (w : World) (hn : xs.length ≤ 1099511627776) (hv : ArgInts w v xs) :
    Calls Try.prog 96 #[v, .int .i64 lo, .int .i64 hi] w fun e w' => e = .returned (.bool (Bt.inR lo hi xs)) ∧ w = w' := by
  obtain ⟨A, cap, rfl, hv⟩ := hv.form
  generalize hN : xs.length = n at *
  obtain ⟨hc, hr⟩ := hv.at_ hN
  have HN := Lib.hid hN; clear hN
  have HR := Lib.hid hr; clear hr hv
  go_enter Try.func96, Try.ntmps96
  go_wp2
  go_loop [11] (fun i => ∃ k : Nat, k ≤ n ∧ i = .int .i64 k ∧ ∀ j (hj : j < xs.length), j < k → lo ≤ xs[j] ∧ xs[j] < hi) (fun i => n - (intOf i).toNat)
  case atStart => exact ⟨0, Nat.zero_le _, rfl, fun _ _ hj => absurd hj (by omega)⟩
  case round =>
    obtain ⟨k, hk, rfl, hall⟩ := hrel
    have HA := Lib.hid hall; clear hall
    by_cases hlt : k < n
    · have hlt' : k < xs.length := by rw [HN.out]; exact hlt
      obtain ⟨b, o, rfl, f0⟩ := HR.out k hlt'
      generalize hq : xs[k] = q at *
      have HQ := Lib.hid hq; clear hq
      by_cases h1 : q < lo
      · have HF : Hid (Bt.inR lo hi xs = false) := Lib.hid (Bt.inR_false hlt' (by rw [HQ.out]; omega))
        go_wp2
        go_ret
        exact ⟨ret_bool HF.out.symm, rfl⟩
      · by_cases h2 : hi ≤ q
        · have HF : Hid (Bt.inR lo hi xs = false) := Lib.hid (Bt.inR_false hlt' (by rw [HQ.out]; omega))
          go_wp2
          go_ret
          exact ⟨ret_bool HF.out.symm, rfl⟩
        · go_wp2
          go_round
          case rel => exact ⟨k + 1, by omega, by go_num, fun j hj hjk => by
            by_cases hjk' : j < k
            · exact HA.out j hj hjk'
            · obtain rfl : j = k := by omega
              rw [HQ.out]; omega⟩
          case measure => simp [intOf]; omega
    · obtain rfl : k = n := by omega
      have HF : Hid (Bt.inR lo hi xs = true) := Lib.hid (Bt.inR_true (fun j hj => HA.out j hj (by have := HN.out; omega)))
      go_wp2
      go_ret
      exact ⟨ret_bool HF.out.symm, rfl⟩

set_option maxHeartbeats 1000000 in
theorem regsOk_any (v : Value) (xs : List Int) (w : World) (hn : xs.length ≤ 1099511627776) (hv : ArgInts w v xs) :
    Calls Try.prog 106 #[v] w fun e w' => e = .returned (.bool (Bt.regsOk xs)) ∧ w = w' := by
  rw [Bt.regsOk_eq]
  obtain ⟨A, cap, rfl, hv⟩ := hv.form
  have HV := Lib.hid hv; clear hv
  have HNN := Lib.hid hn; clear hn
  by_cases h4 : xs.length = 4
  · have HE : Hid ((((xs.length : Int) == 4)) = true) := Lib.hid (by rw [beq_iff_eq]; omega)
    rw [HE.out, Bool.true_and]
    have hb : ((xs.length : Int) == 4) = true := HE.out
    clear h4
    go_enter Try.func106, Try.ntmps106
    go_wp2_with (go_at_call 96; refine (within_any _ xs _ _ _ HNN.out HV.out).mono ?_; rintro e w' ⟨rfl, rfl⟩)
    go_ret
    exact ⟨rfl, rfl⟩
  · have hb : ((xs.length : Int) == 4) = false := by rw [beq_eq_false_iff_ne]; omega
    rw [hb, Bool.false_and]
    go_enter Try.func106, Try.ntmps106
    go_wp2
    go_ret
    exact ⟨rfl, rfl⟩
end Go.Proofs.Ytolbihilggkldaa
