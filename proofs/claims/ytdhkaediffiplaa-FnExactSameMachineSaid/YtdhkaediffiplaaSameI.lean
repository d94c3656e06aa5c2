/-
  Whether two rows of numbers are equal, in both packages: contracts.
-/
import Derived.Test.YtdhkaediffiplaaRng
import Derived.Test.YtdhkaediffiplaaMarks
namespace Go.Proofs.Ytdhkaediffiplaa
open Go.RowKit

set_option maxHeartbeats 1000000 in
theorem l2Same_any (v v' : Value) (xs ys : List Int) (w : World) (hx : xs.length ≤ 1048576) (hy : ys.length ≤ 1048576) (hv : ArgInts w v xs) (hv' : ArgInts w v' ys) :
    Calls Try.prog 65 #[v, v'] w fun e w' => e = .returned (.bool (xs == ys)) ∧ Below w.heap.size w w' := by
  obtain ⟨A, cap, rfl, hv⟩ := hv.form
  obtain ⟨A', cap', rfl, hv'⟩ := hv'.form
  generalize hN : xs.length = n at *
  generalize hN' : ys.length = n' at *
  obtain ⟨hc, hr⟩ := hv.at_ hN
  obtain ⟨hc', hr'⟩ := hv'.at_ hN'
  have HN := Lib.hid hN; clear hN
  have HN' := Lib.hid hN'; clear hN'
  have HR := Lib.hid hr; clear hr hv
  have HR' := Lib.hid hr'; clear hr' hv'
  by_cases hne : n = n'
  · subst hne
    go_enter Try.func65, Try.ntmps65
    go_wp2
    go_loopw [5] (fun i wr => ∃ k : Nat, k ≤ n ∧ i = .int .i64 k ∧ (∀ j (hj : j < xs.length) (hj' : j < ys.length), j < k → xs[j] = ys[j]) ∧ Below w.heap.size w wr) (fun i _ => n - (intOf i).toNat)
    case atStart => exact ⟨0, Nat.zero_le _, rfl, fun _ _ _ hj => absurd hj (by omega), Below.refl _ _⟩
    case round =>
      obtain ⟨k, hk, rfl, hall, hb⟩ := hrel
      have HA := Lib.hid hall; clear hall
      by_cases hlt : k < n
      · have hlt' : k < xs.length := by rw [HN.out]; exact hlt
        have hlt'' : k < ys.length := by rw [HN'.out]; exact hlt
        obtain ⟨b, o, rfl, f0⟩ := HR.out k hlt'
        obtain ⟨b', o', rfl, f0'⟩ := HR'.out k hlt''
        have f1 := keeps hb f0
        have f1' := keeps hb f0'
        clear f0 f0'
        generalize hq : xs[k] = q at *
        generalize hp : ys[k] = p at *
        have HQ := Lib.hid hq; clear hq
        have HP := Lib.hid hp; clear hp
        by_cases hqp : q = p
        · subst hqp
          go_wp2
          go_quiet (fail)
          go_wp2
          go_roundw
          case rel => exact ⟨k + 1, by omega, by go_num, fun j hj hj' hjk => by
            by_cases hjk' : j < k
            · exact HA.out j hj hj' hjk'
            · obtain rfl : j = k := by omega
              rw [HQ.out, HP.out], bDrewN hb _⟩
          case measure => simp [intOf]; omega
        · have HF : Hid ((xs == ys) = false) := Lib.hid (by
            rw [beq_eq_false_iff_ne]
            intro e
            apply hqp
            rw [← HQ.out, ← HP.out]
            simp only [e])
          have hqp' : (q != p) = true := by rw [bne_iff_ne]; exact hqp
          clear hqp
          go_wp2
          go_quiet (fail)
          go_wp2
          go_ret
          exact ⟨ret_bool HF.out.symm, bDrewN hb _⟩
      · obtain rfl : k = n := by omega
        have HE : Hid ((xs == ys) = true) := Lib.hid (by
          rw [beq_iff_eq]
          exact List.ext_getElem (by rw [HN.out, HN'.out]) (fun j hj hj' => HA.out j hj hj' (by have := HN.out; omega)))
        go_wp2
        go_ret
        exact ⟨ret_bool HE.out.symm, hb⟩
  · have HF : Hid ((xs == ys) = false) := Lib.hid (by
      rw [beq_eq_false_iff_ne]
      intro e
      apply hne
      rw [← HN.out, ← HN'.out, e])
    have hne' : ((n : Int) != (n' : Int)) = true := by rw [bne_iff_ne]; omega
    go_enter Try.func65, Try.ntmps65
    go_wp2
    go_ret
    exact ⟨ret_bool HF.out.symm, Below.refl _ _⟩

set_option maxHeartbeats 1000000 in
theorem sameNums_any (v v' : Value) (xs ys : List Int) (w : World) (hx : xs.length ≤ 1048576) (hy : ys.length ≤ 1048576) (hv : ArgInts w v xs) (hv' : ArgInts w v' ys) :
    Calls Try.prog 67 #[v, v'] w fun e w' => e = .returned (.bool (xs == ys)) ∧ Below w.heap.size w w' := by
  obtain ⟨A, cap, rfl, hv⟩ := hv.form
  obtain ⟨A', cap', rfl, hv'⟩ := hv'.form
  generalize hN : xs.length = n at *
  generalize hN' : ys.length = n' at *
  obtain ⟨hc, hr⟩ := hv.at_ hN
  obtain ⟨hc', hr'⟩ := hv'.at_ hN'
  have HN := Lib.hid hN; clear hN
  have HN' := Lib.hid hN'; clear hN'
  have HR := Lib.hid hr; clear hr hv
  have HR' := Lib.hid hr'; clear hr' hv'
  by_cases hne : n = n'
  · subst hne
    go_enter Try.func67, Try.ntmps67
    go_wp2
    go_loopw [13] (fun i wr => ∃ k : Nat, k ≤ n ∧ i = .int .i64 k ∧ (∀ j (hj : j < xs.length) (hj' : j < ys.length), j < k → xs[j] = ys[j]) ∧ Below w.heap.size w wr) (fun i _ => n - (intOf i).toNat)
    case atStart => exact ⟨0, Nat.zero_le _, rfl, fun _ _ _ hj => absurd hj (by omega), Below.refl _ _⟩
    case round =>
      obtain ⟨k, hk, rfl, hall, hb⟩ := hrel
      have HA := Lib.hid hall; clear hall
      by_cases hlt : k < n
      · have hlt' : k < xs.length := by rw [HN.out]; exact hlt
        have hlt'' : k < ys.length := by rw [HN'.out]; exact hlt
        obtain ⟨b, o, rfl, f0⟩ := HR.out k hlt'
        obtain ⟨b', o', rfl, f0'⟩ := HR'.out k hlt''
        have f1 := keeps hb f0
        have f1' := keeps hb f0'
        clear f0 f0'
        generalize hq : xs[k] = q at *
        generalize hp : ys[k] = p at *
        have HQ := Lib.hid hq; clear hq
        have HP := Lib.hid hp; clear hp
        by_cases hqp : q = p
        · subst hqp
          go_wp2
          go_quiet (fail)
          go_wp2
          go_roundw
          case rel => exact ⟨k + 1, by omega, by go_num, fun j hj hj' hjk => by
            by_cases hjk' : j < k
            · exact HA.out j hj hj' hjk'
            · obtain rfl : j = k := by omega
              rw [HQ.out, HP.out], bDrewN hb _⟩
          case measure => simp [intOf]; omega
        · have HF : Hid ((xs == ys) = false) := Lib.hid (by
            rw [beq_eq_false_iff_ne]
            intro e
            apply hqp
            rw [← HQ.out, ← HP.out]
            simp only [e])
          have hqp' : (q != p) = true := by rw [bne_iff_ne]; exact hqp
          clear hqp
          go_wp2
          go_quiet (fail)
          go_wp2
          go_ret
          exact ⟨ret_bool HF.out.symm, bDrewN hb _⟩
      · obtain rfl : k = n := by omega
        have HE : Hid ((xs == ys) = true) := Lib.hid (by
          rw [beq_iff_eq]
          exact List.ext_getElem (by rw [HN.out, HN'.out]) (fun j hj hj' => HA.out j hj hj' (by have := HN.out; omega)))
        go_wp2
        go_ret
        exact ⟨ret_bool HE.out.symm, hb⟩
  · have HF : Hid ((xs == ys) = false) := Lib.hid (by
      rw [beq_eq_false_iff_ne]
      intro e
      apply hne
      rw [← HN.out, ← HN'.out, e])
    have hne' : ((n : Int) != (n' : Int)) = true := by rw [bne_iff_ne]; omega
    go_enter Try.func67, Try.ntmps67
    go_wp2
    go_ret
    exact ⟨ret_bool HF.out.symm, Below.refl _ _⟩
end Go.Proofs.Ytdhkaediffiplaa
