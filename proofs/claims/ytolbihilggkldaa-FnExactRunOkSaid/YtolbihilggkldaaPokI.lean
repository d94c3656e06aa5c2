/-
  When a program is one, in both packages: contracts for every row of instructions in memory.
  When a program is one, in the program's own package: a contract for every row of instructions in memory.
-/
import Derived.Test.YtolbihilggkldaaCodeC
import Derived.Deep.RegionHeld3
namespace Go.Proofs.Ytolbihilggkldaa
open Go.RowKit

/-- a row of instructions, four cells each, from a cell on -/
def CodesAt (w : World) (b o : Nat) (rs : List Bt.C4) : Prop := ∀ (i : Nat) (h : i < rs.length),
  w.cell? ⟨b, o + i * 4, none⟩ = some (.int .i64 rs[i].op) ∧ w.cell? ⟨b, o + i * 4 + 1, none⟩ = some (.int .i64 rs[i].a) ∧
  w.cell? ⟨b, o + i * 4 + 2, none⟩ = some (.int .i64 rs[i].b) ∧ w.cell? ⟨b, o + i * 4 + 3, none⟩ = some (.int .i64 rs[i].c)

theorem CodesAt.keep {w w' : World} {b o : Nat} {rs : List Bt.C4} (h : CodesAt w b o rs) (hb : Below w.heap.size w w') : CodesAt w' b o rs := fun i hi =>
  ⟨keeps hb (h i hi).1, keeps hb (h i hi).2.1, keeps hb (h i hi).2.2.1, keeps hb (h i hi).2.2.2⟩

set_option maxHeartbeats 1000000 in
theorem specProgramOk_any (b o cap : Nat) (rs : List Bt.C4) (h : Int) (w : World) (hn : rs.length ≤ 1048576) (hcap : rs.length ≤ cap) (hrs : CodesAt w b o rs) :
    Calls Try.prog 37 #[.agg #[.slice (some ⟨b, o, none⟩) rs.length cap, .int .i64 h]] w fun e w' => e = .returned (.bool (Bt.progOk rs h)) ∧ Below w.heap.size w w' := by
  generalize hN : rs.length = n at *
  have HN := Lib.hid hN; clear hN
  have HC := Lib.hid hrs; clear hrs
  go_enter Try.func37, Try.ntmps37
  go_wp2
  go_loopw [3, 4, 5, 6, 7] (fun i _ _ _ _ wr => ∃ k : Nat, k ≤ n ∧ i = .int .i64 k ∧ (∀ j (hj : j < rs.length), j < k → Bt.good n rs[j] = true) ∧ Below (w.heap.size + 1) (w.alloc (.cells #[.slice (some ⟨b, o, none⟩) n cap, .int .i64 h] 31)) wr) (fun i _ _ _ _ _ => n - (intOf i).toNat)
  case atStart => exact ⟨0, Nat.zero_le _, rfl, fun _ _ hj => absurd hj (by omega), Below.refl _ _⟩
  case round =>
    obtain ⟨k, hk, rfl, hall, hb⟩ := hrel
    have HA := Lib.hid hall; clear hall
    have hw1 : wr.cell? ⟨w.heap.size, 0, none⟩ = some (.slice (some ⟨b, o, none⟩) n cap) := by rw [hb.cell (p := ⟨w.heap.size, 0, none⟩) (by simp)]; simp
    have hw2 : wr.cell? ⟨w.heap.size, 1, none⟩ = some (.int .i64 h) := by rw [hb.cell (p := ⟨w.heap.size, 1, none⟩) (by simp)]; simp
    have hws : w.heap.size < wr.heap.size := by have := hb.size; simp at this; omega
    by_cases hlt : k < n
    · have hlt' : k < rs.length := by rw [HN.out]; exact hlt
      obtain ⟨f0, f1, f2, f3⟩ := (CodesAt.keep (HC.out) (((Below.refl w.heap.size w).alloc (Nat.le_refl _) _).trans (hb.mono (by omega)))) k hlt'
      generalize hr0 : rs[k].op = op at *
      generalize hr1 : rs[k].a = xa at *
      generalize hr2 : rs[k].b = xb at *
      generalize hr3 : rs[k].c = xc at *
      have HR : Hid (rs[k].op = op ∧ rs[k].a = xa ∧ rs[k].b = xb ∧ rs[k].c = xc) := Lib.hid ⟨hr0, hr1, hr2, hr3⟩
      clear hr0 hr1 hr2 hr3
      have q0 := Cls.keeps hw1
      have q1 := Cls.keeps f0
      have q2 := Cls.keeps f1
      have q3 := Cls.keeps f2
      have q4 := Cls.keeps f3
      cases hok : Bt.codeOk op xa xb xc
      · have HF : Hid (Bt.progOk rs h = false) := Lib.hid (Bt.progOk_false hlt' (by rw [HN.out]; obtain ⟨e0, e1, e2, e3⟩ := HR.out; simp [Bt.good, e0, e1, e2, e3, hok]))
        go_wp2_with (go_at_call 61; refine (uses_any _ _).mono ?_; rintro e w' ⟨rfl, rfl⟩)
        refine wp_region_cls (by kernel_rfl) (by kernel_rfl) ?_
        repeat (go_big_quiet_step ((go_at_call 62; exact cls_of (specCodeOk_any _ _ _ _ _))))
        refine wpQuiet_nil ?_
        intro w2' hw2'
        obtain ⟨⟨w2, hb2⟩, rfl⟩ := hw2'
        go_wp2
        go_ret
        exact ⟨ret_bool HF.out.symm, (((Below.refl _ _).alloc (Nat.le_refl _) _).trans (hb.mono (by omega))).trans (hb2.mono (by omega))⟩
      · by_cases hu : Bt.uC op = 3
        · by_cases hc : (n : Int) ≤ xc
          · have HF : Hid (Bt.progOk rs h = false) := Lib.hid (Bt.progOk_false hlt' (by rw [HN.out]; obtain ⟨e0, e1, e2, e3⟩ := HR.out; simp [Bt.good, e0, e3, hu, hc]))
            go_wp2_with (go_at_call 61; refine (uses_any _ _).mono ?_; rintro e w' ⟨rfl, rfl⟩)
            refine wp_region_cls (by kernel_rfl) (by kernel_rfl) ?_
            repeat (go_big_quiet_step ((go_at_call 62; exact cls_of (specCodeOk_any _ _ _ _ _))))
            refine wpQuiet_nil ?_
            intro w2' hw2'
            obtain ⟨⟨w2, hb2⟩, rfl⟩ := hw2'
            go_wp2
            go_ret
            exact ⟨ret_bool HF.out.symm, (((Below.refl _ _).alloc (Nat.le_refl _) _).trans (hb.mono (by omega))).trans (hb2.mono (by omega))⟩
          · have HG : Hid (Bt.good n rs[k] = true) := Lib.hid (by obtain ⟨e0, e1, e2, e3⟩ := HR.out; simp [Bt.good, e0, e1, e2, e3, hok]; omega)
            go_wp2_with (go_at_call 61; refine (uses_any _ _).mono ?_; rintro e w' ⟨rfl, rfl⟩)
            refine wp_region_cls (by kernel_rfl) (by kernel_rfl) ?_
            repeat (go_big_quiet_step ((go_at_call 62; exact cls_of (specCodeOk_any _ _ _ _ _))))
            refine wpQuiet_nil ?_
            intro w2' hw2'
            obtain ⟨⟨w2, hb2⟩, rfl⟩ := hw2'
            go_wp2
            go_roundw
            case rel => exact ⟨k + 1, by omega, by go_num, fun j hj hjk => by
              by_cases hjk' : j < k
              · exact HA.out j hj hjk'
              · obtain rfl : j = k := by omega
                exact HG.out, hb.trans (hb2.mono (by omega))⟩
            case measure => simp [intOf]; omega
        · have HG : Hid (Bt.good n rs[k] = true) := Lib.hid (by obtain ⟨e0, e1, e2, e3⟩ := HR.out; simp [Bt.good, e0, e1, e2, e3, hok, hu])
          have hu' : (Bt.uC op == 3) = false := by rw [beq_eq_false_iff_ne]; exact hu
          go_wp2_with (go_at_call 61; refine (uses_any _ _).mono ?_; rintro e w' ⟨rfl, rfl⟩)
          refine wp_region_cls (by kernel_rfl) (by kernel_rfl) ?_
          repeat (go_big_quiet_step ((go_at_call 62; exact cls_of (specCodeOk_any _ _ _ _ _))))
          refine wpQuiet_nil ?_
          intro w2' hw2'
          obtain ⟨⟨w2, hb2⟩, rfl⟩ := hw2'
          go_wp2
          go_roundw
          case rel => exact ⟨k + 1, by omega, by go_num, fun j hj hjk => by
            by_cases hjk' : j < k
            · exact HA.out j hj hjk'
            · obtain rfl : j = k := by omega
              exact HG.out, hb.trans (hb2.mono (by omega))⟩
          case measure => simp [intOf]; omega
    · obtain rfl : k = n := by omega
      have HP : Hid (Bt.progOk rs h = decide (1 ≤ k ∧ k ≤ 60 ∧ -1 ≤ h ∧ h < k)) := Lib.hid (Bt.progOk_all HN.out (fun j hj => HA.out j hj (by have := HN.out; omega)))
      by_cases c1 : 1 ≤ k
      · by_cases c2 : k ≤ 60
        · by_cases c3 : -1 ≤ h
          · by_cases c4 : h < k
            · have HF : Hid (Bt.progOk rs h = true) := Lib.hid (by rw [HP.out, decide_eq_true_eq]; omega)
              go_wp2
              go_ret
              exact ⟨ret_bool HF.out.symm, ((Below.refl _ _).alloc (Nat.le_refl _) _).trans (hb.mono (by omega))⟩
            · have HF : Hid (Bt.progOk rs h = false) := Lib.hid (by rw [HP.out, decide_eq_false_iff_not]; omega)
              go_wp2
              go_ret
              exact ⟨ret_bool HF.out.symm, ((Below.refl _ _).alloc (Nat.le_refl _) _).trans (hb.mono (by omega))⟩
          · have HF : Hid (Bt.progOk rs h = false) := Lib.hid (by rw [HP.out, decide_eq_false_iff_not]; omega)
            go_wp2
            go_ret
            exact ⟨ret_bool HF.out.symm, ((Below.refl _ _).alloc (Nat.le_refl _) _).trans (hb.mono (by omega))⟩
        · have HF : Hid (Bt.progOk rs h = false) := Lib.hid (by rw [HP.out, decide_eq_false_iff_not]; omega)
          go_wp2
          go_ret
          exact ⟨ret_bool HF.out.symm, ((Below.refl _ _).alloc (Nat.le_refl _) _).trans (hb.mono (by omega))⟩
      · have HF : Hid (Bt.progOk rs h = false) := Lib.hid (by rw [HP.out, decide_eq_false_iff_not]; omega)
        go_wp2
        go_ret
        exact ⟨ret_bool HF.out.symm, ((Below.refl _ _).alloc (Nat.le_refl _) _).trans (hb.mono (by omega))⟩
end Go.Proofs.Ytolbihilggkldaa

namespace Go.Proofs.Ytolbihilggkldaa
open Go.RowKit

namespace Bt
theorem fC_place {op : Int} : fC op = 4 ↔ uC op = 3 := by unfold fC; split <;> omega
theorem progOk_out {rs : List C4} {h : Int} {n : Nat} (hn : rs.length = n) (hno : ¬ (1 ≤ n ∧ n ≤ 60 ∧ -1 ≤ h ∧ h < n)) : progOk rs h = false := by
  subst hn
  simp only [progOk, Bool.and_eq_false_iff, decide_eq_false_iff_not]
  exact .inr hno
end Bt

theorem run_form_c (x y z t : Value) (w : World) : (Instr.field 96 (.agg #[x, y, z, t]) 3).run Try.prog w = .ok t w := by kernel_rfl

set_option maxHeartbeats 1000000 in
theorem implProgramOk_any (b o cap : Nat) (rs : List Bt.C4) (h : Int) (w : World) (hn : rs.length ≤ 1048576) (hcap : rs.length ≤ cap) (hrs : CodesAt w b o rs) :
    Calls Try.prog 56 #[.agg #[.slice (some ⟨b, o, none⟩) rs.length cap, .int .i64 h]] w fun e w' => e = .returned (.bool (Bt.progOk rs h)) ∧ Below w.heap.size w w' := by
  generalize hN : rs.length = n at *
  have HN := Lib.hid hN; clear hN
  have HC := Lib.hid hrs; clear hrs
  have hfld := run_form_c
  by_cases c1 : 1 ≤ n
  · by_cases c2 : n ≤ 60
    · by_cases c3 : -1 ≤ h
      · by_cases c4 : h < n
        · go_enter Try.func56, Try.ntmps56
          go_wp2
          go_loopw [27] (fun i wr => ∃ k : Nat, k ≤ n ∧ i = .int .i64 k ∧ (∀ j (hj : j < rs.length), j < k → Bt.good n rs[j] = true) ∧ Below (w.heap.size + 1) (w.alloc (.cells #[.slice (some ⟨b, o, none⟩) n cap, .int .i64 h] 31)) wr) (fun i _ => n - (intOf i).toNat)
          case atStart => exact ⟨0, Nat.zero_le _, rfl, fun _ _ hj => absurd hj (by omega), Below.refl _ _⟩
          case round =>
            obtain ⟨k, hk, rfl, hall, hb⟩ := hrel
            have HA := Lib.hid hall; clear hall
            have hws : w.heap.size < wr.heap.size := by have := hb.size; simp at this; omega
            by_cases hlt : k < n
            · have hlt' : k < rs.length := by rw [HN.out]; exact hlt
              obtain ⟨f0, f1, f2, f3⟩ := (CodesAt.keep (HC.out) (((Below.refl w.heap.size w).alloc (Nat.le_refl _) _).trans (hb.mono (by omega)))) k hlt'
              generalize hr0 : rs[k].op = op at *
              generalize hr1 : rs[k].a = xa at *
              generalize hr2 : rs[k].b = xb at *
              generalize hr3 : rs[k].c = xc at *
              have HR : Hid (rs[k].op = op ∧ rs[k].a = xa ∧ rs[k].b = xb ∧ rs[k].c = xc) := Lib.hid ⟨hr0, hr1, hr2, hr3⟩
              clear hr0 hr1 hr2 hr3
              cases hok : Bt.codeOk op xa xb xc
              · have HF : Hid (Bt.progOk rs h = false) := Lib.hid (Bt.progOk_false hlt' (by rw [HN.out]; obtain ⟨e0, e1, e2, e3⟩ := HR.out; simp [Bt.good, e0, e1, e2, e3, hok]))
                go_wp2_with (go_at_call 71; refine (implCodeOk_any _ _ _ _ _).mono ?_; rintro e w2 ⟨rfl, hb2⟩)
                go_ret
                exact ⟨ret_bool HF.out.symm, ((((Below.refl _ _).alloc (Nat.le_refl _) _).trans (hb.mono (by omega))).alloc (by omega) _).trans (hb2.mono (by simp; omega))⟩
              · by_cases hu : Bt.fC op = 4
                · by_cases hc : (n : Int) ≤ xc
                  · have HF : Hid (Bt.progOk rs h = false) := Lib.hid (Bt.progOk_false hlt' (by rw [HN.out]; obtain ⟨e0, e1, e2, e3⟩ := HR.out; simp [Bt.good, e0, e3, Bt.fC_place.1 hu, hc]))
                    go_wp2_with (first | (go_at_call 71; refine (implCodeOk_any _ _ _ _ _).mono ?_; rintro e w2 ⟨rfl, hb2⟩; obtain ⟨hc2, hf2⟩ := bcell hb2; have hz2 : wr.heap.size < w2.heap.size := (by have := hb2.size; simp at this; omega)) | (go_at_call 72; refine (formOf_any _ _).mono ?_; rintro e w3 ⟨rfl, hb3⟩; obtain ⟨hc3, hf3⟩ := bcell hb3; have hz3 : wr.heap.size < w3.heap.size := (by have := hb3.size; omega)))
                    go_ret
                    exact ⟨ret_bool HF.out.symm, (((((Below.refl _ _).alloc (Nat.le_refl _) _).trans (hb.mono (by omega))).alloc (by omega) _).trans (hb2.mono (by simp; omega))).trans (hb3.mono (by omega))⟩
                  · have HG : Hid (Bt.good n rs[k] = true) := Lib.hid (by obtain ⟨e0, e1, e2, e3⟩ := HR.out; simp [Bt.good, e0, e1, e2, e3, hok]; omega)
                    go_wp2_with (first | (go_at_call 71; refine (implCodeOk_any _ _ _ _ _).mono ?_; rintro e w2 ⟨rfl, hb2⟩; obtain ⟨hc2, hf2⟩ := bcell hb2; have hz2 : wr.heap.size < w2.heap.size := (by have := hb2.size; simp at this; omega)) | (go_at_call 72; refine (formOf_any _ _).mono ?_; rintro e w3 ⟨rfl, hb3⟩; obtain ⟨hc3, hf3⟩ := bcell hb3; have hz3 : wr.heap.size < w3.heap.size := (by have := hb3.size; omega)))
                    go_roundw
                    case rel => exact ⟨k + 1, by omega, by go_num, fun j hj hjk => by
                      by_cases hjk' : j < k
                      · exact HA.out j hj hjk'
                      · obtain rfl : j = k := by omega
                        exact HG.out, ((hb.alloc (by omega) _).trans (hb2.mono (by simp; omega))).trans (hb3.mono (by omega))⟩
                    case measure => simp [intOf]; omega
                · have HG : Hid (Bt.good n rs[k] = true) := Lib.hid (by obtain ⟨e0, e1, e2, e3⟩ := HR.out; simp [Bt.good, e0, e1, e2, e3, hok, mt Bt.fC_place.2 hu])
                  have hu' : (Bt.fC op == 4) = false := by rw [beq_eq_false_iff_ne]; exact hu
                  go_wp2_with (first | (go_at_call 71; refine (implCodeOk_any _ _ _ _ _).mono ?_; rintro e w2 ⟨rfl, hb2⟩; obtain ⟨hc2, hf2⟩ := bcell hb2; have hz2 : wr.heap.size < w2.heap.size := (by have := hb2.size; simp at this; omega)) | (go_at_call 72; refine (formOf_any _ _).mono ?_; rintro e w3 ⟨rfl, hb3⟩; obtain ⟨hc3, hf3⟩ := bcell hb3; have hz3 : wr.heap.size < w3.heap.size := (by have := hb3.size; omega)))
                  go_roundw
                  case rel => exact ⟨k + 1, by omega, by go_num, fun j hj hjk => by
                    by_cases hjk' : j < k
                    · exact HA.out j hj hjk'
                    · obtain rfl : j = k := by omega
                      exact HG.out, ((hb.alloc (by omega) _).trans (hb2.mono (by simp; omega))).trans (hb3.mono (by omega))⟩
                  case measure => simp [intOf]; omega
            · obtain rfl : k = n := by omega
              have HF : Hid (Bt.progOk rs h = true) := Lib.hid (by rw [Bt.progOk_all HN.out (fun j hj => HA.out j hj (by have := HN.out; omega)), decide_eq_true_eq]; omega)
              go_wp2
              go_ret
              exact ⟨ret_bool HF.out.symm, ((Below.refl _ _).alloc (Nat.le_refl _) _).trans (hb.mono (by omega))⟩
        · have HF : Hid (Bt.progOk rs h = false) := Lib.hid (Bt.progOk_out HN.out (by omega))
          go_enter Try.func56, Try.ntmps56
          go_wp2
          go_ret
          exact ⟨ret_bool HF.out.symm, (Below.refl _ _).alloc (Nat.le_refl _) _⟩
      · have HF : Hid (Bt.progOk rs h = false) := Lib.hid (Bt.progOk_out HN.out (by omega))
        go_enter Try.func56, Try.ntmps56
        go_wp2
        go_ret
        exact ⟨ret_bool HF.out.symm, (Below.refl _ _).alloc (Nat.le_refl _) _⟩
    · have HF : Hid (Bt.progOk rs h = false) := Lib.hid (Bt.progOk_out HN.out (by omega))
      go_enter Try.func56, Try.ntmps56
      go_wp2
      go_ret
      exact ⟨ret_bool HF.out.symm, (Below.refl _ _).alloc (Nat.le_refl _) _⟩
  · have HF : Hid (Bt.progOk rs h = false) := Lib.hid (Bt.progOk_out HN.out (by omega))
    go_enter Try.func56, Try.ntmps56
    go_wp2
    go_ret
    exact ⟨ret_bool HF.out.symm, (Below.refl _ _).alloc (Nat.le_refl _) _⟩
end Go.Proofs.Ytolbihilggkldaa
