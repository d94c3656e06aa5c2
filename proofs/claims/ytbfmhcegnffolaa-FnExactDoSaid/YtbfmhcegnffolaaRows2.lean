/-
  Rows of numbers that are copied, and rows that are held against one another, in both packages and in the laws: contracts.
-/
import Derived.Test.YtbfmhcegnffolaaRng
import Derived.Test.YtbfmhcegnffolaaMarks
import Derived.Laws.OwnMore
namespace Go.Proofs.Ytbfmhcegnffolaa
open Go.RowKit

/-- make of ints, whatever their number -/
theorem run_make_ints (n : Nat) (hn : n ≤ 1048576) (w : World) :
    (Instr.makeSlice 26 (.int .i64 (n : Int)) (.int .i64 (n : Int))).run Try.prog w = .ok (.slice (some ⟨w.heap.size, 0, none⟩) n n) (w.alloc (.cells (madeCells #[.int .i64 0] n) 3)) := by
  obtain ⟨i, hi, hz⟩ := Option.map_eq_some_iff.1 infoInt
  simp only [Prod.mk.injEq] at hz
  obtain ⟨hz, hs, hb⟩ := hz
  have h := run_make (P := Try.prog) w 26 3 i _ Try.underlying26 hi hz .i64 .i64 (n : Int) (n : Int) (by omega) (Int.le_refl _) (by rw [hb]; omega) (by omega)
  simp only [Int.toNat_natCast, hs, Nat.mul_one] at h
  exact h

theorem IntRow.made (w : World) (n : Nat) (hn : n ≤ 1048576) : IntRow (w.alloc (.cells (madeCells #[.int .i64 0] n) 3)) w.heap.size (.slice (some ⟨w.heap.size, 0, none⟩) n n) (List.replicate n 0) := by
  have h := World.ownsRow_lit (base := w.heap.size) (e := 3) (size := 1) w (madeCells #[.int .i64 0] n) n (Nat.le_refl _) (by unfold maxLen; omega) (by rw [size_madeCells]; omega)
  rw [toList_madeCells_one] at h
  unfold IntRow
  rw [List.length_replicate, List.map_replicate]
  exact h

/-- a row of the call's own, made first of all: what a copy of numbers is -/
def CopyInts (xs : List Int) (w : World) (e : Ending) (w' : World) : Prop :=
  e = .returned (.slice (some ⟨w.heap.size, 0, none⟩) xs.length xs.length) ∧ Below w.heap.size w w' ∧ IntRow w' w.heap.size (.slice (some ⟨w.heap.size, 0, none⟩) xs.length xs.length) xs

set_option maxHeartbeats 1000000 in
theorem toInts_any (v : Value) (xs : List Int) (w : World) (hn : xs.length ≤ 1048576) (hv : ArgInts w v xs) :
    Calls Try.prog 32 #[v] w (CopyInts xs w) := by
  obtain ⟨A, cap, rfl, hv⟩ := hv.form
  unfold CopyInts
  generalize hN : xs.length = n at *
  obtain ⟨hc, hr⟩ := hv.at_ hN
  have HN := Lib.hid hN; clear hN
  have HR := Lib.hid hr; clear hr hv
  have hmk := run_make_ints n hn
  go_enter Try.func32, Try.ntmps32
  go_wp2
  clear hmk
  go_loopw [4] (fun i wr => ∃ k : Nat, k ≤ n ∧ i = .int .i64 k ∧ Below w.heap.size w wr ∧ ∃ ys : List Int, ys.length = n ∧ IntRow wr w.heap.size (.slice (some ⟨w.heap.size, 0, none⟩) n n) ys ∧ ∀ j (hj : j < xs.length) (hj' : j < ys.length), j < k → ys[j] = xs[j]) (fun i _ => n - (intOf i).toNat)
  case atStart => exact ⟨0, Nat.zero_le _, rfl, (Below.refl _ _).alloc (Nat.le_refl _) _, _, by simp, IntRow.made w n hn, fun _ _ _ hj => absurd hj (by omega)⟩
  case round =>
    obtain ⟨k, hk, rfl, hb, ys, hys, hrow, hall⟩ := hrel
    have HA := Lib.hid hall; clear hall
    have HB := Lib.hid hb
    have HY := Lib.hid hys; clear hys
    have HW := Lib.hid hrow; clear hrow
    by_cases hlt : k < n
    · have hlt' : k < xs.length := by rw [HN.out]; exact hlt
      have hly' : k < ys.length := by rw [HY.out]; exact hlt
      obtain ⟨b, o, rfl, f0⟩ := HR.out k hlt'
      have f1 := keeps hb f0
      clear f0
      generalize hq : xs[k] = q at *
      have HQ := Lib.hid hq; clear hq
      have c0 : wr.cell? ⟨w.heap.size, k, none⟩ = some (.int .i64 ys[k]) := IntRow.cell (by rw [HY.out]; exact HW.out) k hly'
      have hz : wr.frozen? ⟨w.heap.size, k, none⟩ = false := World.ownsRow.frozenAt (HY.out ▸ HW.out) k
      clear hb
      go_wp2
      go_roundw
      case rel =>
        refine ⟨k + 1, by omega, by go_num, HB.out.setCell (Nat.le_refl _) _, ys.set k q, by rw [List.length_set]; exact HY.out, IntRow.stored HW.out HY.out _ _, fun j hj hj' hjk => ?_⟩
        rw [List.length_set] at hj'
        by_cases e : j = k
        · subst e; rw [List.getElem_set_self, HQ.out]
        · rw [List.getElem_set_ne (by omega)]
          exact HA.out j hj hj' (by omega)
      case measure => simp [intOf]; omega
    · obtain rfl : k = n := by omega
      have HE : Hid (ys = xs) := Lib.hid (List.ext_getElem (by rw [HY.out, HN.out]) (fun j hj hj' => HA.out j hj' hj (by have := HN.out; omega)))
      clear hb
      go_wp2
      go_ret
      exact ⟨rfl, HB.out, HE.out ▸ HW.out⟩
end Go.Proofs.Ytbfmhcegnffolaa
