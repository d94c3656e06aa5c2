/-
  When a machine is stuck, in both packages: contracts.
-/
import Derived.Test.YtdhkaediffiplaaCanDB
namespace Go.Proofs.Ytdhkaediffiplaa
open Go.RowKit

namespace Bt
/-- one of the first threads runs -/
def runsTo (m : Mc) (k : Nat) : Bool := (m.ths.take k).any fun t => t.st == 0
theorem runsTo_zero (m : Mc) : runsTo m 0 = false := by simp [runsTo]
theorem runsTo_succ {m : Mc} {k : Nat} (h : k < m.ths.length) : runsTo m (k + 1) = (runsTo m k || m.ths[k].st == 0) := by
  unfold runsTo
  rw [List.take_succ_eq_append_getElem h, List.any_append]
  simp
/-- a machine is stuck -/
def stuck (rs : List C4) (h : Int) (m : Mc) : Bool := machOk rs h m && (((List.range m.ths.length).all fun j => !canDo rs h m ⟨(j : Int), 0, 0⟩) && runsTo m m.ths.length)
theorem stuck_no {rs : List C4} {h : Int} {m : Mc} (hm : machOk rs h m = false) : stuck rs h m = false := by unfold stuck; rw [hm, Bool.false_and]
theorem stuck_goes {rs : List C4} {h : Int} {m : Mc} {k : Nat} (hk : k < m.ths.length) (hc : canDo rs h m ⟨(k : Int), 0, 0⟩ = true) : stuck rs h m = false := by
  unfold stuck
  have : ((List.range m.ths.length).all fun j => !canDo rs h m ⟨(j : Int), 0, 0⟩) = false := by
    rw [List.all_eq_false]
    exact ⟨k, List.mem_range.2 hk, by rw [hc]; simp⟩
  rw [this, Bool.false_and, Bool.and_false]
theorem stuck_end {rs : List C4} {h : Int} {m : Mc} (hm : machOk rs h m = true) (hc : ∀ j, j < m.ths.length → canDo rs h m ⟨(j : Int), 0, 0⟩ = false) : stuck rs h m = runsTo m m.ths.length := by
  unfold stuck
  have : ((List.range m.ths.length).all fun j => !canDo rs h m ⟨(j : Int), 0, 0⟩) = true := by
    rw [List.all_eq_true]
    intro j hj
    rw [hc j (List.mem_range.1 hj)]
    rfl
  rw [hm, this, Bool.true_and, Bool.true_and]
end Bt
theorem ret_run {a b : Bool} (h : b = a) : Value.bool a = .bool b := by rw [h]

set_option maxRecDepth 100000 in
set_option maxHeartbeats 2000000 in
theorem specStuck_any {AT AC AL AD : Option Addr} {nt ct nc cc nl cl nd cd b o n cap : Nat} {m : Bt.Mc} {rs : List Bt.C4} (h : Int) (w : World) (P : ArgPr w b o n cap rs)
    (H : ArgMc w AT nt ct AC nc cc AL nl cl AD nd cd m) (S : Small m) :
    Calls Try.prog 40 #[.agg #[.slice (some ⟨b, o, none⟩) n cap, .int .i64 h], .agg #[.slice AT nt ct, .slice AC nc cc, .slice AL nl cl, .slice AD nd cd]] w fun e w' => e = .returned (.bool (Bt.stuck rs h m)) ∧ Below w.heap.size w w' := by
  have hT := Lib.hid H.nT
  have hle := H.ths.2.1
  have hnt : nt ≤ 1048576 := H.nT ▸ S.ths
  have hcp := P.cap
  have HP := Lib.hid P; clear P
  have HH := Lib.hid H; clear H
  have HS := Lib.hid S; clear S
  obtain ⟨W0, hW0⟩ : ∃ W0 : World, W0 = (w.alloc (.cells #[.slice (some ⟨b, o, none⟩) n cap, .int .i64 h] 34)).alloc (.cells #[.slice AT nt ct, .slice AC nc cc, .slice AL nl cl, .slice AD nd cd] 38) := ⟨_, rfl⟩
  have B0 := Lib.hid (show Below w.heap.size w W0 by rw [hW0]; exact ((Below.refl _ _).alloc (Nat.le_refl _) _).alloc (by simp) _)
  have p0 : W0.cell? ⟨w.heap.size, 0, none⟩ = some (.slice (some ⟨b, o, none⟩) n cap) := by rw [hW0]; go_simp
  have p1 : W0.cell? ⟨w.heap.size, 1, none⟩ = some (.int .i64 h) := by rw [hW0]; go_simp
  have m0 : W0.cell? ⟨w.heap.size + 1, 0, none⟩ = some (.slice AT nt ct) := by rw [hW0]; go_simp
  have m1 : W0.cell? ⟨w.heap.size + 1, 1, none⟩ = some (.slice AC nc cc) := by rw [hW0]; go_simp
  have m2 : W0.cell? ⟨w.heap.size + 1, 2, none⟩ = some (.slice AL nl cl) := by rw [hW0]; go_simp
  have m3 : W0.cell? ⟨w.heap.size + 1, 3, none⟩ = some (.slice AD nd cd) := by rw [hW0]; go_simp
  have HW := Lib.hid hW0; clear hW0
  have H0 := Lib.hid (HH.out.keep B0.out)
  have P0 := Lib.hid (HP.out.keep B0.out)
  go_enter Try.func40, Try.ntmps40
  go_wp2
  rw [← HW.out]
  go_loopw [5, 6] (fun r i wr => ∃ k : Nat, k ≤ nt ∧ i = .int .i64 k ∧ r = .bool (Bt.runsTo m k) ∧ (∀ j, j < k → Bt.canDo rs h m ⟨(j : Int), 0, 0⟩ = false) ∧ (0 < k → Bt.machOk rs h m = true) ∧ Below W0.heap.size W0 wr) (fun _ i _ => nt - (intOf i).toNat)
  case atStart => exact ⟨0, Nat.zero_le _, rfl, by rw [Bt.runsTo_zero], fun _ hj => absurd hj (by omega), fun hj => absurd hj (by omega), Below.refl _ _⟩
  case round =>
    obtain ⟨k, hk, rfl, rfl, hall, hmk, hb⟩ := hrel
    have HA := Lib.hid hall; clear hall
    have HM := Lib.hid hmk; clear hmk
    have HB := Lib.hid hb
    have p0r := keeps hb p0
    have p1r := keeps hb p1
    have m0r := keeps hb m0
    have m1r := keeps hb m1
    have m2r := keeps hb m2
    have m3r := keeps hb m3
    clear p0 p1 m0 m1 m2 m3
    by_cases hlt : k < nt
    · have hlt' : k < m.ths.length := by rw [hT.out]; exact hlt
      have dlt : decide ((k : Int) < (nt : Int)) = true := by rw [decide_eq_true_eq]; omega
      cases hp : Bt.machOk rs h m
      · have HF := Lib.hid (Bt.stuck_no hp)
        obtain rfl : k = 0 := by
          rcases Nat.eq_zero_or_pos k with e | e
          · exact e
          · rw [HM.out e] at hp; cases hp
        rw [Bt.runsTo_zero]
        go_wp2_with fail
        refine (specMachineOk_any h _ (P0.out.keep HB.out) (H0.out.keep HB.out) HS.out).mono ?_
        rw [hp]
        rintro e w1 ⟨rfl, hb1⟩
        go_wp2
        go_ret
        exact ⟨ret_bool HF.out.symm, B0.out.trans ((HB.out.trans (hb1.mono HB.out.size)).mono B0.out.size)⟩
      · go_wp2_with fail
        refine (specMachineOk_any h _ (P0.out.keep HB.out) (H0.out.keep HB.out) HS.out).mono ?_
        rw [hp]
        rintro e w1 ⟨rfl, hb1⟩
        have HB1 := Lib.hid (HB.out.trans (hb1.mono HB.out.size))
        have p0s := keeps hb1 p0r
        have p1s := keeps hb1 p1r
        have m0s := keeps hb1 m0r
        have m1s := keeps hb1 m1r
        have m2s := keeps hb1 m2r
        have m3s := keeps hb1 m3r
        clear p0r p1r m0r m1r m2r m3r
        go_wp2_with fail
        refine (specCanDo_any h ⟨(k : Int), 0, 0⟩ _ (P0.out.keep HB1.out) (H0.out.keep HB1.out) HS.out).mono ?_
        cases hc : Bt.canDo rs h m ⟨(k : Int), 0, 0⟩
        · rintro e w2 ⟨rfl, hb2⟩
          have HB2 := Lib.hid (HB1.out.trans (hb2.mono HB1.out.size))
          have p0t := keeps hb2 p0s
          have p1t := keeps hb2 p1s
          have m0t := keeps hb2 m0s
          have m1t := keeps hb2 m1s
          have m2t := keeps hb2 m2s
          have m3t := keeps hb2 m3s
          clear p0s p1s m0s m1s m2s m3s
          obtain ⟨bt, ot, rfl, ht⟩ := (H0.out.keep HB2.out).ths.2.2 k hlt'
          obtain ⟨AR, cr, AS, cs, HT, f0, f1, f2, f3⟩ := ht.open
          clear ht HT f0 f1 f2
          cases hr : Bt.runsTo m k
          · have HN1 : Hid (Bt.runsTo m (k + 1) = (m.ths[k].st == 0)) := Lib.hid (by rw [Bt.runsTo_succ hlt', hr, Bool.false_or])
            generalize m.ths[k].st = st at *
            go_wp2
            go_roundw
            case rel => exact ⟨k + 1, by omega, by go_num, ret_run HN1.out, fun j hj => by
              by_cases hjk : j < k
              · exact HA.out j hjk
              · obtain rfl : j = k := by omega
                exact hc, fun _ => (by first | exact hp | trivial), HB2.out⟩
            case measure => simp [intOf]; omega
          · have HN1 : Hid (Bt.runsTo m (k + 1) = true) := Lib.hid (by rw [Bt.runsTo_succ hlt', hr, Bool.true_or])
            clear f3
            go_wp2
            go_roundw
            case rel => exact ⟨k + 1, by omega, by go_num, ret_run HN1.out, fun j hj => by
              by_cases hjk : j < k
              · exact HA.out j hjk
              · obtain rfl : j = k := by omega
                exact hc, fun _ => (by first | exact hp | trivial), HB2.out⟩
            case measure => simp [intOf]; omega
        · have HF := Lib.hid (Bt.stuck_goes hlt' hc)
          rintro e w2 ⟨rfl, hb2⟩
          go_wp2
          go_ret
          exact ⟨ret_bool HF.out.symm, B0.out.trans ((HB1.out.trans (hb2.mono HB1.out.size)).mono B0.out.size)⟩
    · obtain rfl : k = nt := by omega
      have dlt : decide ((k : Int) < (k : Int)) = false := by rw [decide_eq_false_iff_not]; omega
      have HF : Hid (Bt.stuck rs h m = Bt.runsTo m k) := Lib.hid (by
        by_cases hk0 : 0 < k
        · rw [Bt.stuck_end (HM.out hk0) (fun j hj => HA.out j (by have := hT.out; omega)), hT.out]
        · have hk0 : k = 0 := by omega
          rw [hk0, Bt.runsTo_zero]
          refine Bt.stuck_no (Bt.machOk_no (.inr (.inl ?_)))
          have := hT.out
          omega)
      go_wp2
      go_ret
      exact ⟨ret_bool HF.out.symm, B0.out.trans (HB.out.mono B0.out.size)⟩

set_option maxRecDepth 100000 in
set_option maxHeartbeats 2000000 in
theorem implStuck_any {AT AC AL AD : Option Addr} {nt ct nc cc nl cl nd cd b o n cap : Nat} {m : Bt.Mc} {rs : List Bt.C4} (h : Int) (w : World) (P : ArgPr w b o n cap rs)
    (H : ArgMc w AT nt ct AC nc cc AL nl cl AD nd cd m) (S : Small m) :
    Calls Try.prog 41 #[.agg #[.slice (some ⟨b, o, none⟩) n cap, .int .i64 h], .agg #[.slice AT nt ct, .slice AC nc cc, .slice AL nl cl, .slice AD nd cd]] w fun e w' => e = .returned (.bool (Bt.stuck rs h m)) ∧ Below w.heap.size w w' := by
  have hT := Lib.hid H.nT
  have hle := H.ths.2.1
  have hnt : nt ≤ 1048576 := H.nT ▸ S.ths
  have hcp := P.cap
  have HP := Lib.hid P; clear P
  have HH := Lib.hid H; clear H
  have HS := Lib.hid S; clear S
  obtain ⟨W0, hW0⟩ : ∃ W0 : World, W0 = (w.alloc (.cells #[.slice (some ⟨b, o, none⟩) n cap, .int .i64 h] 34)).alloc (.cells #[.slice AT nt ct, .slice AC nc cc, .slice AL nl cl, .slice AD nd cd] 38) := ⟨_, rfl⟩
  have B0 := Lib.hid (show Below w.heap.size w W0 by rw [hW0]; exact ((Below.refl _ _).alloc (Nat.le_refl _) _).alloc (by simp) _)
  have p0 : W0.cell? ⟨w.heap.size, 0, none⟩ = some (.slice (some ⟨b, o, none⟩) n cap) := by rw [hW0]; go_simp
  have p1 : W0.cell? ⟨w.heap.size, 1, none⟩ = some (.int .i64 h) := by rw [hW0]; go_simp
  have m0 : W0.cell? ⟨w.heap.size + 1, 0, none⟩ = some (.slice AT nt ct) := by rw [hW0]; go_simp
  have m1 : W0.cell? ⟨w.heap.size + 1, 1, none⟩ = some (.slice AC nc cc) := by rw [hW0]; go_simp
  have m2 : W0.cell? ⟨w.heap.size + 1, 2, none⟩ = some (.slice AL nl cl) := by rw [hW0]; go_simp
  have m3 : W0.cell? ⟨w.heap.size + 1, 3, none⟩ = some (.slice AD nd cd) := by rw [hW0]; go_simp
  have HW := Lib.hid hW0; clear hW0
  have H0 := Lib.hid (HH.out.keep B0.out)
  have P0 := Lib.hid (HP.out.keep B0.out)
  go_enter Try.func41, Try.ntmps41
  go_wp2_with fail
  rw [← HW.out]
  refine (implMachineOk_any h _ P0.out H0.out HS.out).mono ?_
  cases hp : Bt.machOk rs h m
  · have HF := Lib.hid (Bt.stuck_no hp)
    rintro e w1 ⟨rfl, hb1⟩
    go_wp2
    go_ret
    exact ⟨ret_bool HF.out.symm, B0.out.trans (hb1.mono B0.out.size)⟩
  · rintro e w1 ⟨rfl, hb1⟩
    have HB1 := Lib.hid hb1
    have p0a := keeps hb1 p0
    have p1a := keeps hb1 p1
    have m0a := keeps hb1 m0
    have m1a := keeps hb1 m1
    have m2a := keeps hb1 m2
    have m3a := keeps hb1 m3
    clear p0 p1 m0 m1 m2 m3
    clear hb1
    go_wp2
    go_loopw [5, 14] (fun r i wr => ∃ k : Nat, k ≤ nt ∧ i = .int .i64 k ∧ r = .bool (Bt.runsTo m k) ∧ (∀ j, j < k → Bt.canDo rs h m ⟨(j : Int), 0, 0⟩ = false) ∧ Below w1.heap.size w1 wr) (fun _ i _ => nt - (intOf i).toNat)
    case atStart => exact ⟨0, Nat.zero_le _, rfl, by rw [Bt.runsTo_zero], fun _ hj => absurd hj (by omega), Below.refl _ _⟩
    case round =>
      obtain ⟨k, hk, rfl, rfl, hall, hb⟩ := hrel
      have HA := Lib.hid hall; clear hall
      have HB := Lib.hid (HB1.out.trans (hb.mono HB1.out.size))
      have HX := Lib.hid hb
      have p0r := keeps hb p0a
      have p1r := keeps hb p1a
      have m0r := keeps hb m0a
      have m1r := keeps hb m1a
      have m2r := keeps hb m2a
      have m3r := keeps hb m3a
      clear p0a p1a m0a m1a m2a m3a
      by_cases hlt : k < nt
      · have hlt' : k < m.ths.length := by rw [hT.out]; exact hlt
        go_wp2_with fail
        refine (implCanDo_any h ⟨(k : Int), 0, 0⟩ _ (P0.out.keep HB.out) (H0.out.keep HB.out) HS.out).mono ?_
        cases hc : Bt.canDo rs h m ⟨(k : Int), 0, 0⟩
        · rintro e w2 ⟨rfl, hb2⟩
          have HB2 := Lib.hid (HB.out.trans (hb2.mono HB.out.size))
          have HX2 := Lib.hid (HX.out.trans (hb2.mono HX.out.size))
          have p0t := keeps hb2 p0r
          have p1t := keeps hb2 p1r
          have m0t := keeps hb2 m0r
          have m1t := keeps hb2 m1r
          have m2t := keeps hb2 m2r
          have m3t := keeps hb2 m3r
          clear p0r p1r m0r m1r m2r m3r
          cases hr : Bt.runsTo m k
          · have HN1 : Hid (Bt.runsTo m (k + 1) = (m.ths[k].st == 0)) := Lib.hid (by rw [Bt.runsTo_succ hlt', hr, Bool.false_or])
            go_wp2_with fail
            refine (threadRuns_any (k : Int) (H0.out.keep HB2.out)).mono ?_
            rw [Bt.runs_in hlt']
            rintro e w3 ⟨rfl, hb3⟩
            have HX3 := Lib.hid (HX2.out.trans (hb3.mono HX2.out.size))
            go_wp2
            go_roundw
            case rel => exact ⟨k + 1, by omega, by go_num, ret_run HN1.out, fun j hj => by
              by_cases hjk : j < k
              · exact HA.out j hjk
              · obtain rfl : j = k := by omega
                exact hc, HX3.out⟩
            case measure => simp [intOf]; omega
          · have HN1 : Hid (Bt.runsTo m (k + 1) = true) := Lib.hid (by rw [Bt.runsTo_succ hlt', hr, Bool.true_or])
            go_wp2
            go_roundw
            case rel => exact ⟨k + 1, by omega, by go_num, ret_run HN1.out, fun j hj => by
              by_cases hjk : j < k
              · exact HA.out j hjk
              · obtain rfl : j = k := by omega
                exact hc, HX2.out⟩
            case measure => simp [intOf]; omega
        · have HF := Lib.hid (Bt.stuck_goes hlt' hc)
          rintro e w2 ⟨rfl, hb2⟩
          go_wp2
          go_ret
          exact ⟨ret_bool HF.out.symm, B0.out.trans ((HB.out.trans (hb2.mono HB.out.size)).mono B0.out.size)⟩
      · obtain rfl : k = nt := by omega
        have HF : Hid (Bt.stuck rs h m = Bt.runsTo m k) := Lib.hid (by
          rw [Bt.stuck_end hp (fun j hj => HA.out j (by have := hT.out; omega)), hT.out])
        go_wp2
        go_ret
        exact ⟨ret_bool HF.out.symm, B0.out.trans (HB.out.mono B0.out.size)⟩
end Go.Proofs.Ytdhkaediffiplaa
