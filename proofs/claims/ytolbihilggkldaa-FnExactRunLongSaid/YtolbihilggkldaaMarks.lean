/-
  How the laws mark and look at slices: contracts.
-/
import Derived.Test.YtolbihilggkldaaInts
import Derived.Test.YtolbihilggkldaaToProg
namespace Go.Proofs.Ytolbihilggkldaa
open Go.RowKit

/-- the marks from k on -/
def marks (k : Int) (n : Nat) : List Int := (List.range n).map fun (i : Nat) => k + (i : Int)
theorem marks_length (k : Int) (n : Nat) : (marks k n).length = n := by simp [marks]
theorem marks_at (k : Int) (n i : Nat) (h : i < (marks k n).length) : (marks k n)[i] = k + i := by simp [marks]

theorem grown_refl (w : World) (row : Option Nat) : w.grownBy w row := ⟨rfl, rfl, rfl, Nat.le_refl _, fun _ _ _ => rfl⟩
theorem grown_set {a w : World} {g : Nat} (h : a.grownBy w (some g)) (i : Nat) (u : Value) : a.grownBy (w.setCell ⟨g, i, none⟩ u) (some g) :=
  ⟨h.os, h.tape, h.output, by simpa [World.setCell] using h.size, fun k hk hne => (Below.heap_setCell w ⟨g, i, none⟩ u k (fun e => hne (by rw [e]))).trans (h.block k hk hne)⟩

theorem IntRow.stored {w : World} {base g cap n : Nat} {xs : List Int} (h : IntRow w base (.slice (some ⟨g, 0, none⟩) n cap) xs) (hn : xs.length = n) (j : Nat) (u : Int) :
    IntRow (w.setCell ⟨g, j, none⟩ (.int .i64 u)) base (.slice (some ⟨g, 0, none⟩) n cap) (xs.set j u) := by
  subst hn
  have h' : w.ownsRow base 3 1 (.slice (some ⟨g, 0, none⟩) xs.length cap) xs.length (xs.map (Value.int .i64)) := h
  have h1 := (h'.stored j (.int .i64 u)).1
  unfold IntRow
  rw [List.length_set, List.map_set]
  exact h1

set_option maxHeartbeats 1000000 in
theorem markInts_nil (A : Option Addr) (c : Nat) (k : Int) (w : World) :
    Calls Try.prog 50 #[.slice A 0 c, .int .i64 k] w fun e w' => e = .returned (.int .i64 k) ∧ w = w' := by
  go_enter Try.func50, Try.ntmps50
  go_wp2
  go_loop [1, 5] (fun t i => t = .int .i64 k ∧ i = .int .i64 0) (fun _ _ => 0)
  case atStart => exact ⟨rfl, rfl⟩
  case round =>
    obtain ⟨rfl, rfl⟩ := hrel
    go_wp2
    go_ret
    exact ⟨rfl, rfl⟩

set_option maxHeartbeats 1000000 in
theorem markInts_some (base g cap n : Nat) (xs : List Int) (k : Int) (w : World) (hN : xs.length = n) (hn : n ≤ 1099511627776) (hc : n ≤ cap) (h0 : 0 ≤ k) (h1 : k ≤ 1099511627776) (h : IntRow w base (.slice (some ⟨g, 0, none⟩) n cap) xs) :
    Calls Try.prog 50 #[.slice (some ⟨g, 0, none⟩) n cap, .int .i64 k] w fun e w' => e = .returned (.int .i64 (k + n)) ∧ w.grownBy w' (some g) ∧ IntRow w' base (.slice (some ⟨g, 0, none⟩) n cap) (marks k n) := by
  have HN := Lib.hid hN; clear hN
  have H1 := Lib.hid h; clear h
  go_enter Try.func50, Try.ntmps50
  go_wp2
  go_loopw [1, 5] (fun t i wr => ∃ m : Nat, m ≤ n ∧ i = .int .i64 m ∧ t = .int .i64 (k + m) ∧ w.grownBy wr (some g) ∧ ∃ ys : List Int, ys.length = n ∧ IntRow wr base (.slice (some ⟨g, 0, none⟩) n cap) ys ∧ ∀ j (hj : j < ys.length), j < m → ys[j] = k + j) (fun _ i _ => n - (intOf i).toNat)
  case atStart => exact ⟨0, Nat.zero_le _, rfl, by simp, grown_refl _ _, xs, HN.out, H1.out, fun _ _ hj => absurd hj (by omega)⟩
  case round =>
    obtain ⟨m, hm, rfl, rfl, hg, ys, hys, hrow, hall⟩ := hrel
    have HY := Lib.hid hys; clear hys
    have HR := Lib.hid hrow; clear hrow
    have HA := Lib.hid hall; clear hall
    have HG := Lib.hid hg; clear hg
    by_cases hlt : m < n
    · have hlt' : m < ys.length := by rw [HY.out]; exact hlt
      obtain ⟨c0, hc0⟩ : ∃ c0, wr.cell? ⟨g, m, none⟩ = some c0 := ⟨_, IntRow.cell (by rw [HY.out]; exact HR.out) m hlt'⟩
      have hz : wr.frozen? ⟨g, m, none⟩ = false := World.ownsRow.frozenAt (HY.out ▸ HR.out) m
      go_wp2
      go_roundw
      case rel =>
        refine ⟨m + 1, by omega, by go_num, by go_num, grown_set HG.out _ _, ys.set m (k + m), by rw [List.length_set]; exact HY.out, IntRow.stored HR.out HY.out _ _, fun j hj hjm => ?_⟩
        rw [List.length_set] at hj
        by_cases e : j = m
        · subst e; simp
        · rw [List.getElem_set_ne (by omega)]
          exact HA.out j hj (by omega)
      case measure => simp [intOf]; omega
    · obtain rfl : m = n := by omega
      have e : ys = marks k m := List.ext_getElem (by rw [marks_length]; exact HY.out) (fun j hj hj' => by rw [marks_at]; exact HA.out j hj (by have := HY.out; omega))
      have HE := Lib.hid e; clear e
      go_wp2
      go_ret
      exact ⟨rfl, HG.out, HE.out ▸ HR.out⟩

theorem markInts_any (base : Nat) (v : Value) (xs : List Int) (k : Int) (w : World) (hn : xs.length ≤ 1099511627776) (h0 : 0 ≤ k) (h1 : k ≤ 1099511627776) (h : IntRow w base v xs) :
    Calls Try.prog 50 #[v, .int .i64 k] w fun e w' => e = .returned (.int .i64 (k + xs.length)) ∧ w.grownBy w' v.ownBlock ∧ IntRow w' base v (marks k xs.length) := by
  rcases h.forms with ⟨rfl, rfl⟩ | ⟨g, cap, rfl, _, _, hc, _⟩
  · refine (markInts_nil none 0 k w).mono fun e w' ⟨he, hw⟩ => ?_
    subst hw
    exact ⟨by rw [he]; simp, grown_refl _ _, IntRow.nil _ _⟩
  · exact markInts_some base g cap xs.length xs k w rfl hn hc h0 h1 h

set_option maxHeartbeats 1000000 in
theorem heldInts_nil (A : Option Addr) (c : Nat) (k : Int) (w : World) :
    Calls Try.prog 52 #[.slice A 0 c, .int .i64 k] w fun e w' => e = .returned (.int .i64 k) ∧ w = w' := by
  go_enter Try.func52, Try.ntmps52
  go_wp2
  go_loop [1, 5] (fun t i => t = .int .i64 k ∧ i = .int .i64 0) (fun _ _ => 0)
  case atStart => exact ⟨rfl, rfl⟩
  case round =>
    obtain ⟨rfl, rfl⟩ := hrel
    go_wp2
    go_ret
    exact ⟨rfl, rfl⟩

set_option maxHeartbeats 1000000 in
theorem heldInts_some (b o cap n : Nat) (k : Int) (w : World) (hn : n ≤ 1099511627776) (hc : n ≤ cap) (h0 : 0 ≤ k) (h1 : k ≤ 1099511627776) (h : ∀ i (_ : i < n), w.cell? ⟨b, o + i, none⟩ = some (.int .i64 (k + i))) :
    Calls Try.prog 52 #[.slice (some ⟨b, o, none⟩) n cap, .int .i64 k] w fun e w' => e = .returned (.int .i64 (k + n)) ∧ w = w' := by
  have H1 := Lib.hid h; clear h
  go_enter Try.func52, Try.ntmps52
  go_wp2
  go_loop [1, 5] (fun t i => ∃ m : Nat, m ≤ n ∧ i = .int .i64 m ∧ t = .int .i64 (k + m)) (fun _ i => n - (intOf i).toNat)
  case atStart => exact ⟨0, Nat.zero_le _, rfl, by simp⟩
  case round =>
    obtain ⟨m, hm, rfl, rfl⟩ := hrel
    by_cases hlt : m < n
    · have f0 := H1.out m hlt
      go_wp2
      go_round
      case rel => exact ⟨m + 1, by omega, by go_num, by go_num⟩
      case measure => simp [intOf]; omega
    · obtain rfl : m = n := by omega
      go_wp2
      go_ret
      exact ⟨rfl, rfl⟩

theorem heldInts_any (v : Value) (k : Int) (n : Nat) (w : World) (hn : n ≤ 1099511627776) (h0 : 0 ≤ k) (h1 : k ≤ 1099511627776) (h : ArgInts w v (marks k n)) :
    Calls Try.prog 52 #[v, .int .i64 k] w fun e w' => e = .returned (.int .i64 (k + n)) ∧ w = w' := by
  obtain ⟨A, c, rfl, hc, hr⟩ := h
  rw [marks_length] at hc ⊢
  by_cases hne : n = 0
  · subst hne
    simpa using heldInts_nil A c k w
  · obtain ⟨b, o, rfl, hr'⟩ := hr (fun e => hne (by rw [← marks_length k n, e]; rfl))
    exact heldInts_some b o c n k w hn hc h0 h1 (fun i hi => by
      have h := hr' i (by rw [marks_length]; exact hi)
      rw [marks_at] at h
      exact h)

set_option maxHeartbeats 1000000 in
theorem markCodes_any (g cap n : Nat) (f : Nat → Value) (k : Int) (w : World) (hn : n ≤ 1048576) (hc : n ≤ cap) (h0 : 0 ≤ k) (h1 : k ≤ 1099511627776) (h : w.rowIs g 77 (n * 4) f) :
    Calls Try.prog 48 #[.slice (some ⟨g, 0, none⟩) n cap, .int .i64 k] w fun e w' => e = .returned (.int .i64 (k + 4 * n)) ∧ w.grownBy w' (some g) := by
  have H1 := Lib.hid h; clear h
  go_enter Try.func48, Try.ntmps48
  go_wp2
  go_loopw [1, 5] (fun t i wr => ∃ m : Nat, m ≤ n ∧ i = .int .i64 m ∧ t = .int .i64 (k + 4 * m) ∧ w.grownBy wr (some g) ∧ ∃ f, wr.rowIs g 77 (n * 4) f) (fun _ i _ => n - (intOf i).toNat)
  case atStart => exact ⟨0, Nat.zero_le _, rfl, by simp, grown_refl _ _, f, H1.out⟩
  case round =>
    obtain ⟨m, hm, rfl, rfl, hg, f, hf⟩ := hrel
    have HG := Lib.hid hg; clear hg
    by_cases hlt : m < n
    · have r0 := hf.cell (show m * 4 < n * 4 by omega)
      have r1 := hf.cell (show m * 4 + 1 < n * 4 by omega)
      have r2 := hf.cell (show m * 4 + 2 < n * 4 by omega)
      have r3 := hf.cell (show m * 4 + 3 < n * 4 by omega)
      have z0 := hf.frozen (m * 4)
      have z1 := hf.frozen (m * 4 + 1)
      have z2 := hf.frozen (m * 4 + 2)
      have z3 := hf.frozen (m * 4 + 3)
      have HF := Lib.hid hf; clear hf
      go_wp2
      go_roundw
      case rel => exact ⟨m + 1, by omega, by go_num, by go_num, grown_set (grown_set (grown_set (grown_set HG.out _ _) _ _) _ _) _ _, _, row_set4 HF.out (m * 4) _ _ _ _⟩
      case measure => simp [intOf]; omega
    · obtain rfl : m = n := by omega
      go_wp2
      go_ret
      exact ⟨rfl, HG.out⟩
end Go.Proofs.Ytolbihilggkldaa
