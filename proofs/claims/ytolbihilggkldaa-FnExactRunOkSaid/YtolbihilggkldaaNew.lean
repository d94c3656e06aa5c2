/-
  The machine at first, in the program's own package: contracts.
-/
import Derived.Test.YtolbihilggkldaaMarkM
namespace Go.Proofs.Ytolbihilggkldaa
open Go.RowKit

/-- a row of numbers that a call made -/
def NumsMade (xs : List Int) (w : World) (e : Ending) (w' : World) : Prop := ∃ v, e = .returned v ∧ IntRow w' w.heap.size v xs ∧ Below w.heap.size w w'

theorem grown_below_of {B : Nat} {w w' : World} {row : Option Nat} (h : w.grownBy w' row) (hr : ∀ k, row = some k → B ≤ k) (hB : B ≤ w.heap.size) : Below B w w' :=
  ⟨h.os, h.tape, h.output, h.size, fun k hk => h.block k (by omega) (fun e => by have := hr k e.symm; omega)⟩

set_option maxRecDepth 100000 in
set_option maxHeartbeats 2000000 in
theorem numbersOf_any (many : Nat) (q : Int) (w : World) (hn : many ≤ 1048576) :
    Calls Try.prog 74 #[.int .i64 (many : Int), .int .i64 q] w (NumsMade (List.replicate many q) w) := by
  have H0 := Lib.hid (IntRow.lit w [] (by simp))
  unfold NumsMade
  go_enter Try.func74, Try.ntmps74
  go_wp2
  go_loopw [5, 6] (fun o i wr => ∃ k : Nat, k ≤ many ∧ i = .int .i64 k ∧ (∃ v, v = o ∧ IntRow wr w.heap.size v (List.replicate k q)) ∧ Below w.heap.size w wr) (fun _ i _ => many - (intOf i).toNat)
  case atStart => exact ⟨0, Nat.zero_le _, rfl, ⟨_, rfl, by simpa using H0.out⟩, (Below.refl _ _).alloc (Nat.le_refl _) _⟩
  case round =>
    obtain ⟨k, hk, rfl, ⟨v, hv, hr⟩, hb⟩ := hrel
    subst hv
    have HR := Lib.hid hr; clear hr
    have HB := Lib.hid hb
    have hsz := hb.size
    clear hb
    by_cases hlt : k < many
    · go_wp2_with (at_builtin; refine wp_app_int rfl _ _ rfl w.heap.size v (List.replicate k q) rfl ?ca _ 1 q rfl ?cb ?cc ?cd ?_; (case ca => exact HR.out.keep ((Below.refl _ _).alloc (Nat.le_refl _) _)); (case cb => simp); (case cc => simp; omega); (case cd => simp; omega); intro v2 w2 hr2 hg2; have HR2 := Lib.hid hr2; clear hr2; have HG2 := Lib.hid hg2; clear hg2)
      go_roundw
      case rel =>
        refine ⟨k + 1, by omega, by go_num, ?_, ?_⟩
        · exact ⟨_, rfl, by rw [List.replicate_succ']; exact HR2.out⟩
        · exact (HB.out.alloc hsz _).trans (grown_below_of HG2.out (fun j e => (HR.out.bd j e).1) (by simp; omega))
      case measure => simp [intOf]; omega
    · obtain rfl : k = many := by omega
      go_wp2
      go_ret
      exact ⟨_, rfl, HR.out, HB.out⟩
set_option maxHeartbeats 1000000 in
theorem copyNums_any (v : Value) (xs : List Int) (w : World) (hn : xs.length ≤ 1048576) (hv : ArgInts w v xs) :
    Calls Try.prog 88 #[v] w (CopyInts xs w) := by
  obtain ⟨A, cap, rfl, hv⟩ := hv.form
  unfold CopyInts
  generalize hN : xs.length = n at *
  obtain ⟨hc, hr⟩ := hv.at_ hN
  have HN := Lib.hid hN; clear hN
  have HR := Lib.hid hr; clear hr hv
  have hmk := run_make_ints n hn
  go_enter Try.func88, Try.ntmps88
  go_wp2
  clear hmk
  go_loopw [10] (fun i wr => ∃ k : Nat, k ≤ n ∧ i = .int .i64 k ∧ Below w.heap.size w wr ∧ ∃ ys : List Int, ys.length = n ∧ IntRow wr w.heap.size (.slice (some ⟨w.heap.size, 0, none⟩) n n) ys ∧ ∀ j (hj : j < xs.length) (hj' : j < ys.length), j < k → ys[j] = xs[j]) (fun i _ => n - (intOf i).toNat)
  case atStart => exact ⟨0, Nat.zero_le _, rfl, (Below.refl _ _).alloc (Nat.le_refl _) _, _, by simp, IntRow.made w n hn, fun _ _ _ hj => absurd hj (by omega)⟩
  case round =>
    obtain ⟨k, hk, rfl, hb, ys, hys, hrow, hall⟩ := hrel
    have HA := Lib.hid hall; clear hall
    have HB := Lib.hid hb
    have HY := Lib.hid hys; clear hys
    have HW := Lib.hid hrow; clear hrow
    by_cases hlt : k < n
    · have hlt' : k < xs.length := by rw [HN.out]; exact hlt
      have hly' : k < ys.length := by rw [HY.out]; exact hlt
      obtain ⟨b, o, rfl, f0⟩ := HR.out k hlt'
      have f1 := keeps hb f0
      clear f0
      generalize hq : xs[k] = q at *
      have HQ := Lib.hid hq; clear hq
      have c0 : wr.cell? ⟨w.heap.size, k, none⟩ = some (.int .i64 ys[k]) := IntRow.cell (by rw [HY.out]; exact HW.out) k hly'
      have hz : wr.frozen? ⟨w.heap.size, k, none⟩ = false := World.ownsRow.frozenAt (HY.out ▸ HW.out) k
      clear hb
      go_wp2
      go_roundw
      case rel =>
        refine ⟨k + 1, by omega, by go_num, HB.out.setCell (Nat.le_refl _) _, ys.set k q, by rw [List.length_set]; exact HY.out, IntRow.stored HW.out HY.out _ _, fun j hj hj' hjk => ?_⟩
        rw [List.length_set] at hj'
        by_cases e : j = k
        · subst e; rw [List.getElem_set_self, HQ.out]
        · rw [List.getElem_set_ne (by omega)]
          exact HA.out j hj hj' (by omega)
      case measure => simp [intOf]; omega
    · obtain rfl : k = n := by omega
      have HE : Hid (ys = xs) := Lib.hid (List.ext_getElem (by rw [HY.out, HN.out]) (fun j hj hj' => HA.out j hj' hj (by have := HN.out; omega)))
      clear hb
      go_wp2
      go_ret
      exact ⟨rfl, HB.out, HE.out ▸ HW.out⟩

theorem copyNums_n {v : Value} {xs : List Int} {n : Nat} {w : World} (h : xs.length = n) (hn : n ≤ 1048576) (hv : ArgInts w v xs) :
    Calls Try.prog 88 #[v] w fun e w' => e = .returned (.slice (some ⟨w.heap.size, 0, none⟩) n n) ∧ Below w.heap.size w w' ∧ IntRow w' w.heap.size (.slice (some ⟨w.heap.size, 0, none⟩) n n) xs := by
  subst h
  exact copyNums_any v xs w hn hv

set_option maxHeartbeats 1000000 in
theorem threadAt_any (at' : Int) (v : Value) (xs : List Int) (n : Nat) (w : World) (h : xs.length = n) (hn : n ≤ 1048576) (hv : ArgInts w v xs) :
    Calls Try.prog 73 #[.int .i64 at', v] w fun e w' => e = .returned (.agg #[.int .i64 at', .slice (some ⟨w.heap.size + 1, 0, none⟩) n n, .slice none 0 0, .int .i64 0]) ∧ Below w.heap.size w w' ∧ IntRow w' (w.heap.size + 1) (.slice (some ⟨w.heap.size + 1, 0, none⟩) n n) xs := by
  have HV := Lib.hid hv; clear hv
  have HN := Lib.hid h; clear h
  go_enter Try.func73, Try.ntmps73
  go_wp2_with fail
  refine (copyNums_n HN.out hn (HV.out.keep ((Below.refl _ _).alloc (Nat.le_refl _) _))).mono ?_
  rintro e w1 ⟨rfl, hb1, hr1⟩
  obtain ⟨hc1, hf1⟩ := bcell hb1
  have R1 : Hid (IntRow w1 (w.heap.size + 1) (.slice (some ⟨w.heap.size + 1, 0, none⟩) n n) xs) := Lib.hid (by simpa using hr1)
  have W1 : Below w.heap.size w w1 := ((Below.refl w.heap.size w).alloc (Nat.le_refl _) _).trans (hb1.mono (by simp))
  have hz : w.heap.size < w1.heap.size := by have := hb1.size; simp at this; omega
  have e0 : w1.cell? ⟨w.heap.size, 0, none⟩ = some (.int .i64 0) := keeps hb1 (by simp)
  have e1 : w1.cell? ⟨w.heap.size, 1, none⟩ = some (.slice none 0 0) := keeps hb1 (by simp)
  have e2 : w1.cell? ⟨w.heap.size, 2, none⟩ = some (.slice none 0 0) := keeps hb1 (by simp)
  have e3 : w1.cell? ⟨w.heap.size, 3, none⟩ = some (.int .i64 0) := keeps hb1 (by simp)
  clear hr1
  go_wp2
  refine bodyPost_ret (v := .agg #[.int .i64 at', .slice (some ⟨w.heap.size + 1, 0, none⟩) n n, .slice none 0 0, .int .i64 0]) (by simp [results, Try.results73, go_sem, e0, e1, e2, e3]) rfl ⟨rfl, ?_, ?_⟩
  · repeat (refine Below.setCell ?_ (by simp; try omega) _)
    exact W1
  · repeat (refine IntRow.setOther ?_ _ (by intro b hb; simp [Value.ownBlock] at hb; simp; omega))
    exact R1.out
end Go.Proofs.Ytolbihilggkldaa
