/-
  For every two machines, 'FnExactSameMachine' answers true: both packages' 'SameMachine' answer alike, and the arguments stay as they are. No condition.
-/
import Derived.Test.YtdhkaediffiplaaSz
import Derived.Test.YtdhkaediffiplaaSame
namespace Go.Proofs.Ytdhkaediffiplaa
open Go.ChangeShapes Go.WideShapes Go.ChangeAt Go.RowKit Go.Joins

set_option maxRecDepth 100000 in
set_option maxHeartbeats 4000000 in
theorem exactSameMachine_walk {AT0 AC0 AL0 AD0 : Option Addr} {nt0 ct0 nc0 cc0 nl0 cl0 nd0 cd0 : Nat} {m0 : Bt.Mc} {AT1 AC1 AL1 AD1 : Option Addr} {nt1 ct1 nc1 cc1 nl1 cl1 nd1 cd1 : Nat} {m1 : Bt.Mc}  (w : World) (H0 : ArgMc w AT0 nt0 ct0 AC0 nc0 cc0 AL0 nl0 cl0 AD0 nd0 cd0 m0) (hL0 : Lens m0) (H1 : ArgMc w AT1 nt1 ct1 AC1 nc1 cc1 AL1 nl1 cl1 AD1 nd1 cd1 m1) (hL1 : Lens m1) :
    Calls Try.prog 5 #[.agg #[.slice AT0 nt0 ct0, .slice AC0 nc0 cc0, .slice AL0 nl0 cl0, .slice AD0 nd0 cd0], .agg #[.slice AT1 nt1 ct1, .slice AC1 nc1 cc1, .slice AL1 nl1 cl1, .slice AD1 nd1 cd1]] w fun e w' => e = .returned (.bool true) ∧ Below w.heap.size w w' := by
  have HM0 := Lib.hid H0; clear H0
  have HL0 := Lib.hid hL0; clear hL0
  have HM1 := Lib.hid H1; clear H1
  have HL1 := Lib.hid hL1; clear hL1
  have BB := Lib.hid (((Below.refl w.heap.size w).alloc (Nat.le_refl _) (.cells #[.slice AT0 nt0 ct0, .slice AC0 nc0 cc0, .slice AL0 nl0 cl0, .slice AD0 nd0 cd0] 28)).alloc (by simp) (.cells #[.slice AT1 nt1 ct1, .slice AC1 nc1 cc1, .slice AL1 nl1 cl1, .slice AD1 nd1 cd1] 28))
  have lo0 : (0 : Int) ≤ 1048576 := (by omega)
  have hi0 : 1048576 ≤ (1048576 : Int) := (by omega)
  by_cases hs0 : (1048576 : Int) < ((Bt.mcSz m0) : Nat)
  · have E0 := Lib.hid (rest_neg hs0)
    go_enter Try.func5, Try.ntmps5
    go_wp2_with fail
    refine (szMachine_any _ _ (HM0.out.keep BB.out) HL0.out lo0 hi0).mono ?_
    rw [E0.out]
    rintro e wz0 ⟨rfl, hbz0⟩
    have Bz0 := Lib.hid (BB.out.trans (hbz0.mono (by simp; try omega)))
    go_wp2
    go_ret
    exact ⟨rfl, Bz0.out⟩
  · have E0 := Lib.hid (rest_pos hs0)
    have SM0 := Lib.hid (Small.of (m := m0) (by omega))
    have lo1 : (0 : Int) ≤ 1048576 - ((Bt.mcSz m0) : Nat) := (by omega)
    have hi1 : 1048576 - ((Bt.mcSz m0) : Nat) ≤ (1048576 : Int) := (by omega)
    by_cases hs1 : (1048576 - ((Bt.mcSz m0) : Nat) : Int) < ((Bt.mcSz m1) : Nat)
    · have E1 := Lib.hid (rest_neg hs1)
      go_enter Try.func5, Try.ntmps5
      go_wp2_with fail
      refine (szMachine_any _ _ (HM0.out.keep BB.out) HL0.out lo0 hi0).mono ?_
      rw [E0.out]
      rintro e wz0 ⟨rfl, hbz0⟩
      have Bz0 := Lib.hid (BB.out.trans (hbz0.mono (by simp; try omega)))
      have p2_0 : wz0.cell? ⟨w.heap.size, 0, none⟩ = some (.slice AT0 nt0 ct0) := keeps hbz0 (by go_simp)
      have p2_1 : wz0.cell? ⟨w.heap.size, 1, none⟩ = some (.slice AC0 nc0 cc0) := keeps hbz0 (by go_simp)
      have p2_2 : wz0.cell? ⟨w.heap.size, 2, none⟩ = some (.slice AL0 nl0 cl0) := keeps hbz0 (by go_simp)
      have p2_3 : wz0.cell? ⟨w.heap.size, 3, none⟩ = some (.slice AD0 nd0 cd0) := keeps hbz0 (by go_simp)
      have p3_0 : wz0.cell? ⟨w.heap.size + 1, 0, none⟩ = some (.slice AT1 nt1 ct1) := keeps hbz0 (by go_simp)
      have p3_1 : wz0.cell? ⟨w.heap.size + 1, 1, none⟩ = some (.slice AC1 nc1 cc1) := keeps hbz0 (by go_simp)
      have p3_2 : wz0.cell? ⟨w.heap.size + 1, 2, none⟩ = some (.slice AL1 nl1 cl1) := keeps hbz0 (by go_simp)
      have p3_3 : wz0.cell? ⟨w.heap.size + 1, 3, none⟩ = some (.slice AD1 nd1 cd1) := keeps hbz0 (by go_simp)
      go_wp2_with fail
      refine (szMachine_any _ _ (HM1.out.keep Bz0.out) HL1.out lo1 hi1).mono ?_
      rw [E1.out]
      rintro e wz1 ⟨rfl, hbz1⟩
      have Bz1 := Lib.hid (Bz0.out.trans (hbz1.mono Bz0.out.size))
      go_wp2
      go_ret
      exact ⟨rfl, Bz1.out⟩
    · have E1 := Lib.hid (rest_pos hs1)
      have SM1 := Lib.hid (Small.of (m := m1) (by omega))
      have loe : (0 : Int) ≤ 1048576 - ((Bt.mcSz m0) : Nat) - ((Bt.mcSz m1) : Nat) := (by omega)
      go_enter Try.func5, Try.ntmps5
      go_wp2_with fail
      refine (szMachine_any _ _ (HM0.out.keep BB.out) HL0.out lo0 hi0).mono ?_
      rw [E0.out]
      rintro e wz0 ⟨rfl, hbz0⟩
      have Bz0 := Lib.hid (BB.out.trans (hbz0.mono (by simp; try omega)))
      have p2_0 : wz0.cell? ⟨w.heap.size, 0, none⟩ = some (.slice AT0 nt0 ct0) := keeps hbz0 (by go_simp)
      have p2_1 : wz0.cell? ⟨w.heap.size, 1, none⟩ = some (.slice AC0 nc0 cc0) := keeps hbz0 (by go_simp)
      have p2_2 : wz0.cell? ⟨w.heap.size, 2, none⟩ = some (.slice AL0 nl0 cl0) := keeps hbz0 (by go_simp)
      have p2_3 : wz0.cell? ⟨w.heap.size, 3, none⟩ = some (.slice AD0 nd0 cd0) := keeps hbz0 (by go_simp)
      have p3_0 : wz0.cell? ⟨w.heap.size + 1, 0, none⟩ = some (.slice AT1 nt1 ct1) := keeps hbz0 (by go_simp)
      have p3_1 : wz0.cell? ⟨w.heap.size + 1, 1, none⟩ = some (.slice AC1 nc1 cc1) := keeps hbz0 (by go_simp)
      have p3_2 : wz0.cell? ⟨w.heap.size + 1, 2, none⟩ = some (.slice AL1 nl1 cl1) := keeps hbz0 (by go_simp)
      have p3_3 : wz0.cell? ⟨w.heap.size + 1, 3, none⟩ = some (.slice AD1 nd1 cd1) := keeps hbz0 (by go_simp)
      go_wp2_with fail
      refine (szMachine_any _ _ (HM1.out.keep Bz0.out) HL1.out lo1 hi1).mono ?_
      rw [E1.out]
      rintro e wz1 ⟨rfl, hbz1⟩
      have Bz1 := Lib.hid (Bz0.out.trans (hbz1.mono Bz0.out.size))
      have p2_0'1 := keeps hbz1 p2_0
      have p2_1'1 := keeps hbz1 p2_1
      have p2_2'1 := keeps hbz1 p2_2
      have p2_3'1 := keeps hbz1 p2_3
      have p3_0'1 := keeps hbz1 p3_0
      have p3_1'1 := keeps hbz1 p3_1
      have p3_2'1 := keeps hbz1 p3_2
      have p3_3'1 := keeps hbz1 p3_3
      clear p2_0 p2_1 p2_2 p2_3 p3_0 p3_1 p3_2 p3_3
      go_wp2_with fail
      refine wp_region_ord_cls [Fact.is 20 (.agg #[.slice AT0 nt0 ct0, .slice AC0 nc0 cc0, .slice AL0 nl0 cl0, .slice AD0 nd0 cd0]),
          Fact.upto 21 4 (fun v w' => ∃ gT gC gL gD, v = .agg #[.slice (some ⟨gT, 0, none⟩) nt0 nt0, .slice (some ⟨gC, 0, none⟩) nc0 nc0, .slice (some ⟨gL, 0, none⟩) nl0 nl0, .slice (some ⟨gD, 0, none⟩) nd0 nd0] ∧ ArgMc w' (some ⟨gT, 0, none⟩) nt0 nt0 (some ⟨gC, 0, none⟩) nc0 nc0 (some ⟨gL, 0, none⟩) nl0 nl0 (some ⟨gD, 0, none⟩) nd0 nd0 m0),
          Fact.is 22 (.agg #[.slice AT1 nt1 ct1, .slice AC1 nc1 cc1, .slice AL1 nl1 cl1, .slice AD1 nd1 cd1]),
          Fact.upto 23 4 (fun v w' => ∃ gT gC gL gD, v = .agg #[.slice (some ⟨gT, 0, none⟩) nt1 nt1, .slice (some ⟨gC, 0, none⟩) nc1 nc1, .slice (some ⟨gL, 0, none⟩) nl1 nl1, .slice (some ⟨gD, 0, none⟩) nd1 nd1] ∧ ArgMc w' (some ⟨gT, 0, none⟩) nt1 nt1 (some ⟨gC, 0, none⟩) nc1 nc1 (some ⟨gL, 0, none⟩) nl1 nl1 (some ⟨gD, 0, none⟩) nd1 nd1 m1),
          Fact.is 24 (.bool (Bt.mcSame m0 m1)),
          Fact.is 6 (.bool (Bt.mcSame m0 m1))]
        (by kernel_rfl) (by kernel_rfl) ?_ ?_ ?_
      · exact ⟨Fact.is_stable _ _, Fact.upto_stable (fun v w w' hb ⟨gT, gC, gL, gD, e, h⟩ => ⟨gT, gC, gL, gD, e, h.keep hb⟩), Fact.is_stable _ _, Fact.upto_stable (fun v w w' hb ⟨gT, gC, gL, gD, e, h⟩ => ⟨gT, gC, gL, gD, e, h.keep hb⟩), Fact.is_stable _ _, Fact.is_stable _ _, trivial⟩
      · have HBX := Lib.hid Bz1.out
        have q_p2_0_1 := Cls.keeps p2_0'1
        have q_p2_1_1 := Cls.keeps p2_1'1
        have q_p2_2_1 := Cls.keeps p2_2'1
        have q_p2_3_1 := Cls.keeps p2_3'1
        have q_p3_0_1 := Cls.keeps p3_0'1
        have q_p3_1_1 := Cls.keeps p3_1'1
        have q_p3_2_1 := Cls.keeps p3_2'1
        have q_p3_3_1 := Cls.keeps p3_3'1
        refine ⟨?_, ?_, ?_, ?_, ?_, ?_, trivial⟩
        · intro A' x hoff hdep _hdif
          have a2 : A'.eval (.tmp 2) = .pointer (some ⟨w.heap.size, 0, none⟩) := off_of hoff 2 (by kernel_rfl)
          exact good_is rfl rfl (by generalize A'.eval = ev at *; simp [go_sem, a2, q_p2_0_1, q_p2_1_1, q_p2_2_1, q_p2_3_1])
        · intro A' x hoff hdep _hdif
          have ef : ∀ f, A'.eval (.func f) = .func (.func f) #[] #[] := fun _ => rfl
          have a20 := is_of (ask_of hdep (j := 0) (by kernel_rfl)) rfl
          exact good_call_upto rfl rfl (by generalize A'.eval = ev at *; simp [go_sem, ef, a20]) ((toMachine_any (HM0.out.keep (HBX.out.trans (x.below.mono HBX.out.size))) SM0.out).mono fun e w4 ⟨gT4, gC4, gL4, gD4, xs4, h1, hb4, ho4⟩ => ⟨_, h1, hb4, gT4, gC4, gL4, gD4, rfl, ho4.arg HM0.out.nT HM0.out.nC HM0.out.nL HM0.out.nD⟩)
        · intro A' x hoff hdep _hdif
          have a3 : A'.eval (.tmp 3) = .pointer (some ⟨w.heap.size + 1, 0, none⟩) := off_of hoff 3 (by kernel_rfl)
          exact good_is rfl rfl (by generalize A'.eval = ev at *; simp [go_sem, a3, q_p3_0_1, q_p3_1_1, q_p3_2_1, q_p3_3_1])
        · intro A' x hoff hdep _hdif
          have ef : ∀ f, A'.eval (.func f) = .func (.func f) #[] #[] := fun _ => rfl
          have a22 := is_of (ask_of hdep (j := 2) (by kernel_rfl)) rfl
          exact good_call_upto rfl rfl (by generalize A'.eval = ev at *; simp [go_sem, ef, a22]) ((toMachine_any (HM1.out.keep (HBX.out.trans (x.below.mono HBX.out.size))) SM1.out).mono fun e w4 ⟨gT4, gC4, gL4, gD4, xs4, h1, hb4, ho4⟩ => ⟨_, h1, hb4, gT4, gC4, gL4, gD4, rfl, ho4.arg HM1.out.nT HM1.out.nC HM1.out.nL HM1.out.nD⟩)
        · intro A' x hoff hdep _hdif
          have ef : ∀ f, A'.eval (.func f) = .func (.func f) #[] #[] := fun _ => rfl
          obtain ⟨gT_21, gC_21, gL_21, gD_21, a21, p21⟩ := upto_of (ask_of hdep (j := 1) (by kernel_rfl)) rfl
          obtain ⟨gT_23, gC_23, gL_23, gD_23, a23, p23⟩ := upto_of (ask_of hdep (j := 3) (by kernel_rfl)) rfl
          exact good_call_is rfl rfl (by generalize A'.eval = ev at *; simp [go_sem, ef, a21, a23]) (specSame_any _ p21 p23 SM0.out SM1.out)
        · intro A' x hoff hdep _hdif
          have a24 := is_of (ask_of hdep (j := 4) (by kernel_rfl)) rfl
          exact good_is rfl rfl (by generalize A'.eval = ev at *; simp [go_sem, a24])
      · intro s w1 hb1 hf _hdf
        have e6 := val_of (hf 5 (by decide) rfl) rfl
        clear hf
        simp only [putAll, Act.put, List.setIfInBounds_toArray, List.set_cons_succ, List.set_cons_zero, e6]
        have B1 := Lib.hid (Bz1.out.trans (hb1.mono Bz1.out.size))
        have p2_0'2 := keeps hb1 p2_0'1
        have p2_1'2 := keeps hb1 p2_1'1
        have p2_2'2 := keeps hb1 p2_2'1
        have p2_3'2 := keeps hb1 p2_3'1
        have p3_0'2 := keeps hb1 p3_0'1
        have p3_1'2 := keeps hb1 p3_1'1
        have p3_2'2 := keeps hb1 p3_2'1
        have p3_3'2 := keeps hb1 p3_3'1
        clear p2_0'1 p2_1'1 p2_2'1 p2_3'1 p3_0'1 p3_1'1 p3_2'1 p3_3'1
        go_wp2_with fail
        refine (toMachine_any (HM0.out.keep (B1.out)) SM0.out).mono ?_
        rintro e w2 ⟨gT2, gC2, gL2, gD2, xs2, rfl, hb2, ho2⟩
        have B2 := Lib.hid (B1.out.trans (hb2.mono B1.out.size))
        have p2_0'3 := keeps hb2 p2_0'2
        have p2_1'3 := keeps hb2 p2_1'2
        have p2_2'3 := keeps hb2 p2_2'2
        have p2_3'3 := keeps hb2 p2_3'2
        have p3_0'3 := keeps hb2 p3_0'2
        have p3_1'3 := keeps hb2 p3_1'2
        have p3_2'3 := keeps hb2 p3_2'2
        have p3_3'3 := keeps hb2 p3_3'2
        clear p2_0'2 p2_1'2 p2_2'2 p2_3'2 p3_0'2 p3_1'2 p3_2'2 p3_3'2
        have RP2 : Hid (ArgMc w2 (some ⟨gT2, 0, none⟩) nt0 nt0 (some ⟨gC2, 0, none⟩) nc0 nc0 (some ⟨gL2, 0, none⟩) nl0 nl0 (some ⟨gD2, 0, none⟩) nd0 nd0 m0) := Lib.hid (ho2.arg HM0.out.nT HM0.out.nC HM0.out.nL HM0.out.nD)
        clear ho2
        have l3_1 : w.heap.size < w2.heap.size := cell_lt p2_0'3
        have l3_2 : w.heap.size + 1 < w2.heap.size := cell_lt p3_0'3
        go_wp2_with fail
        obtain ⟨w3, hW3⟩ : ∃ W : World, W = w2.alloc (.cells #[.slice (some ⟨gT2, 0, none⟩) nt0 nt0, .slice (some ⟨gC2, 0, none⟩) nc0 nc0, .slice (some ⟨gL2, 0, none⟩) nl0 nl0, .slice (some ⟨gD2, 0, none⟩) nd0 nd0] 38) := ⟨_, rfl⟩
        have hb3 : Below w2.heap.size w2 w3 := by rw [hW3]; exact (Below.refl _ _).alloc (Nat.le_refl _) _
        have p7_0 : w3.cell? ⟨w2.heap.size, 0, none⟩ = some (.slice (some ⟨gT2, 0, none⟩) nt0 nt0) := by rw [hW3]; go_simp
        have p7_1 : w3.cell? ⟨w2.heap.size, 1, none⟩ = some (.slice (some ⟨gC2, 0, none⟩) nc0 nc0) := by rw [hW3]; go_simp
        have p7_2 : w3.cell? ⟨w2.heap.size, 2, none⟩ = some (.slice (some ⟨gL2, 0, none⟩) nl0 nl0) := by rw [hW3]; go_simp
        have p7_3 : w3.cell? ⟨w2.heap.size, 3, none⟩ = some (.slice (some ⟨gD2, 0, none⟩) nd0 nd0) := by rw [hW3]; go_simp
        have HW3 := Lib.hid hW3; clear hW3
        have B3 := Lib.hid (B2.out.trans (hb3.mono B2.out.size))
        have p2_0'4 := keeps hb3 p2_0'3
        have p2_1'4 := keeps hb3 p2_1'3
        have p2_2'4 := keeps hb3 p2_2'3
        have p2_3'4 := keeps hb3 p2_3'3
        have p3_0'4 := keeps hb3 p3_0'3
        have p3_1'4 := keeps hb3 p3_1'3
        have p3_2'4 := keeps hb3 p3_2'3
        have p3_3'4 := keeps hb3 p3_3'3
        clear p2_0'3 p2_1'3 p2_2'3 p2_3'3 p3_0'3 p3_1'3 p3_2'3 p3_3'3
        have RP2'4 := Lib.hid (RP2.out.keep hb3)
        rw [← HW3.out]
        clear l3_1 l3_2
        refine (toMachine_any (HM1.out.keep (B3.out)) SM1.out).mono ?_
        rintro e w4 ⟨gT4, gC4, gL4, gD4, xs4, rfl, hb4, ho4⟩
        have B4 := Lib.hid (B3.out.trans (hb4.mono B3.out.size))
        have p2_0'5 := keeps hb4 p2_0'4
        have p2_1'5 := keeps hb4 p2_1'4
        have p2_2'5 := keeps hb4 p2_2'4
        have p2_3'5 := keeps hb4 p2_3'4
        have p3_0'5 := keeps hb4 p3_0'4
        have p3_1'5 := keeps hb4 p3_1'4
        have p3_2'5 := keeps hb4 p3_2'4
        have p3_3'5 := keeps hb4 p3_3'4
        have p7_0'5 := keeps hb4 p7_0
        have p7_1'5 := keeps hb4 p7_1
        have p7_2'5 := keeps hb4 p7_2
        have p7_3'5 := keeps hb4 p7_3
        clear p2_0'4 p2_1'4 p2_2'4 p2_3'4 p3_0'4 p3_1'4 p3_2'4 p3_3'4 p7_0 p7_1 p7_2 p7_3
        have RP2'5 := Lib.hid (RP2'4.out.keep hb4)
        have RP4 : Hid (ArgMc w4 (some ⟨gT4, 0, none⟩) nt1 nt1 (some ⟨gC4, 0, none⟩) nc1 nc1 (some ⟨gL4, 0, none⟩) nl1 nl1 (some ⟨gD4, 0, none⟩) nd1 nd1 m1) := Lib.hid (ho4.arg HM1.out.nT HM1.out.nC HM1.out.nL HM1.out.nD)
        clear ho4
        have l5_1 : w.heap.size < w4.heap.size := cell_lt p2_0'5
        have l5_2 : w.heap.size + 1 < w4.heap.size := cell_lt p3_0'5
        have l5_3 : w2.heap.size < w4.heap.size := cell_lt p7_0'5
        go_wp2_with fail
        obtain ⟨w5, hW5⟩ : ∃ W : World, W = w4.alloc (.cells #[.slice (some ⟨gT4, 0, none⟩) nt1 nt1, .slice (some ⟨gC4, 0, none⟩) nc1 nc1, .slice (some ⟨gL4, 0, none⟩) nl1 nl1, .slice (some ⟨gD4, 0, none⟩) nd1 nd1] 38) := ⟨_, rfl⟩
        have hb5 : Below w4.heap.size w4 w5 := by rw [hW5]; exact (Below.refl _ _).alloc (Nat.le_refl _) _
        have p8_0 : w5.cell? ⟨w4.heap.size, 0, none⟩ = some (.slice (some ⟨gT4, 0, none⟩) nt1 nt1) := by rw [hW5]; go_simp
        have p8_1 : w5.cell? ⟨w4.heap.size, 1, none⟩ = some (.slice (some ⟨gC4, 0, none⟩) nc1 nc1) := by rw [hW5]; go_simp
        have p8_2 : w5.cell? ⟨w4.heap.size, 2, none⟩ = some (.slice (some ⟨gL4, 0, none⟩) nl1 nl1) := by rw [hW5]; go_simp
        have p8_3 : w5.cell? ⟨w4.heap.size, 3, none⟩ = some (.slice (some ⟨gD4, 0, none⟩) nd1 nd1) := by rw [hW5]; go_simp
        have HW5 := Lib.hid hW5; clear hW5
        have B5 := Lib.hid (B4.out.trans (hb5.mono B4.out.size))
        have p2_0'6 := keeps hb5 p2_0'5
        have p2_1'6 := keeps hb5 p2_1'5
        have p2_2'6 := keeps hb5 p2_2'5
        have p2_3'6 := keeps hb5 p2_3'5
        have p3_0'6 := keeps hb5 p3_0'5
        have p3_1'6 := keeps hb5 p3_1'5
        have p3_2'6 := keeps hb5 p3_2'5
        have p3_3'6 := keeps hb5 p3_3'5
        have p7_0'6 := keeps hb5 p7_0'5
        have p7_1'6 := keeps hb5 p7_1'5
        have p7_2'6 := keeps hb5 p7_2'5
        have p7_3'6 := keeps hb5 p7_3'5
        clear p2_0'5 p2_1'5 p2_2'5 p2_3'5 p3_0'5 p3_1'5 p3_2'5 p3_3'5 p7_0'5 p7_1'5 p7_2'5 p7_3'5
        have RP2'6 := Lib.hid (RP2'5.out.keep hb5)
        have RP4'6 := Lib.hid (RP4.out.keep hb5)
        rw [← HW5.out]
        clear l5_1 l5_2 l5_3
        refine (implSame_any _ RP2'6.out RP4'6.out SM0.out SM1.out).mono ?_
        rintro e w6 ⟨rfl, hb6⟩
        have B6 := Lib.hid (B5.out.trans (hb6.mono B5.out.size))
        have p2_0'7 := keeps hb6 p2_0'6
        have p2_1'7 := keeps hb6 p2_1'6
        have p2_2'7 := keeps hb6 p2_2'6
        have p2_3'7 := keeps hb6 p2_3'6
        have p3_0'7 := keeps hb6 p3_0'6
        have p3_1'7 := keeps hb6 p3_1'6
        have p3_2'7 := keeps hb6 p3_2'6
        have p3_3'7 := keeps hb6 p3_3'6
        have p7_0'7 := keeps hb6 p7_0'6
        have p7_1'7 := keeps hb6 p7_1'6
        have p7_2'7 := keeps hb6 p7_2'6
        have p7_3'7 := keeps hb6 p7_3'6
        have p8_0'7 := keeps hb6 p8_0
        have p8_1'7 := keeps hb6 p8_1
        have p8_2'7 := keeps hb6 p8_2
        have p8_3'7 := keeps hb6 p8_3
        clear p2_0'6 p2_1'6 p2_2'6 p2_3'6 p3_0'6 p3_1'6 p3_2'6 p3_3'6 p7_0'6 p7_1'6 p7_2'6 p7_3'6 p8_0 p8_1 p8_2 p8_3
        have RP2'7 := Lib.hid (RP2'6.out.keep hb6)
        have RP4'7 := Lib.hid (RP4'6.out.keep hb6)
        generalize Bt.mcSame m0 m1 = q at *
        go_wp2_with fail
        refine wp_region_ord_cls [Fact.is 35 (.agg #[.slice (some ⟨gT2, 0, none⟩) nt0 nt0, .slice (some ⟨gC2, 0, none⟩) nc0 nc0, .slice (some ⟨gL2, 0, none⟩) nl0 nl0, .slice (some ⟨gD2, 0, none⟩) nd0 nd0]),
            Fact.is 36 (.agg #[.slice AT0 nt0 ct0, .slice AC0 nc0 cc0, .slice AL0 nl0 cl0, .slice AD0 nd0 cd0]),
            Fact.upto 37 3 (fun v w' => ∃ gT gC gL gD, v = .agg #[.slice (some ⟨gT, 0, none⟩) nt0 nt0, .slice (some ⟨gC, 0, none⟩) nc0 nc0, .slice (some ⟨gL, 0, none⟩) nl0 nl0, .slice (some ⟨gD, 0, none⟩) nd0 nd0] ∧ ArgMc w' (some ⟨gT, 0, none⟩) nt0 nt0 (some ⟨gC, 0, none⟩) nc0 nc0 (some ⟨gL, 0, none⟩) nl0 nl0 (some ⟨gD, 0, none⟩) nd0 nd0 m0),
            Fact.is 38 (.bool true),
            Fact.is 39 (.bool false)]
          (by kernel_rfl) (by kernel_rfl) ?_ ?_ ?_
        · exact ⟨Fact.is_stable _ _, Fact.is_stable _ _, Fact.upto_stable (fun v w w' hb ⟨gT, gC, gL, gD, e, h⟩ => ⟨gT, gC, gL, gD, e, h.keep hb⟩), Fact.is_stable _ _, Fact.is_stable _ _, trivial⟩
        · have HBX := Lib.hid B6.out
          have q_p2_0_7 := Cls.keeps p2_0'7
          have q_p2_1_7 := Cls.keeps p2_1'7
          have q_p2_2_7 := Cls.keeps p2_2'7
          have q_p2_3_7 := Cls.keeps p2_3'7
          have q_p7_0_7 := Cls.keeps p7_0'7
          have q_p7_1_7 := Cls.keeps p7_1'7
          have q_p7_2_7 := Cls.keeps p7_2'7
          have q_p7_3_7 := Cls.keeps p7_3'7
          refine ⟨?_, ?_, ?_, ?_, ?_, trivial⟩
          · intro A' x hoff hdep _hdif
            have a7 : A'.eval (.tmp 7) = .pointer (some ⟨w2.heap.size, 0, none⟩) := off_of hoff 7 (by kernel_rfl)
            exact good_is rfl rfl (by generalize A'.eval = ev at *; simp [go_sem, a7, q_p7_0_7, q_p7_1_7, q_p7_2_7, q_p7_3_7])
          · intro A' x hoff hdep _hdif
            have a2 : A'.eval (.tmp 2) = .pointer (some ⟨w.heap.size, 0, none⟩) := off_of hoff 2 (by kernel_rfl)
            exact good_is rfl rfl (by generalize A'.eval = ev at *; simp [go_sem, a2, q_p2_0_7, q_p2_1_7, q_p2_2_7, q_p2_3_7])
          · intro A' x hoff hdep _hdif
            have ef : ∀ f, A'.eval (.func f) = .func (.func f) #[] #[] := fun _ => rfl
            have a36 := is_of (ask_of hdep (j := 1) (by kernel_rfl)) rfl
            exact good_call_upto rfl rfl (by generalize A'.eval = ev at *; simp [go_sem, ef, a36]) ((toMachine_any (HM0.out.keep (HBX.out.trans (x.below.mono HBX.out.size))) SM0.out).mono fun e w4 ⟨gT4, gC4, gL4, gD4, xs4, h1, hb4, ho4⟩ => ⟨_, h1, hb4, gT4, gC4, gL4, gD4, rfl, ho4.arg HM0.out.nT HM0.out.nC HM0.out.nL HM0.out.nD⟩)
          · intro A' x hoff hdep _hdif
            have ef : ∀ f, A'.eval (.func f) = .func (.func f) #[] #[] := fun _ => rfl
            have a35 := is_of (ask_of hdep (j := 0) (by kernel_rfl)) rfl
            obtain ⟨gT_37, gC_37, gL_37, gD_37, a37, p37⟩ := upto_of (ask_of hdep (j := 2) (by kernel_rfl)) rfl
            exact good_call_is rfl rfl (by generalize A'.eval = ev at *; simp [go_sem, ef, a35, a37]) (eqMachine_same (RP2'7.out.keep x.below) (p37) SM0.out)
          · intro A' x hoff hdep _hdif
            have a38 := is_of (ask_of hdep (j := 3) (by kernel_rfl)) rfl
            exact good_is rfl rfl (by generalize A'.eval = ev at *; simp [go_sem, a38])
        · intro s w7 hb7 hf _hdf
          have e39 := val_of (hf 4 (by decide) rfl) rfl
          clear hf
          simp only [putAll, Act.put, List.setIfInBounds_toArray, List.set_cons_succ, List.set_cons_zero, e39]
          have B7 := Lib.hid (B6.out.trans (hb7.mono B6.out.size))
          have p2_0'8 := keeps hb7 p2_0'7
          have p2_1'8 := keeps hb7 p2_1'7
          have p2_2'8 := keeps hb7 p2_2'7
          have p2_3'8 := keeps hb7 p2_3'7
          have p3_0'8 := keeps hb7 p3_0'7
          have p3_1'8 := keeps hb7 p3_1'7
          have p3_2'8 := keeps hb7 p3_2'7
          have p3_3'8 := keeps hb7 p3_3'7
          have p7_0'8 := keeps hb7 p7_0'7
          have p7_1'8 := keeps hb7 p7_1'7
          have p7_2'8 := keeps hb7 p7_2'7
          have p7_3'8 := keeps hb7 p7_3'7
          have p8_0'8 := keeps hb7 p8_0'7
          have p8_1'8 := keeps hb7 p8_1'7
          have p8_2'8 := keeps hb7 p8_2'7
          have p8_3'8 := keeps hb7 p8_3'7
          clear p2_0'7 p2_1'7 p2_2'7 p2_3'7 p3_0'7 p3_1'7 p3_2'7 p3_3'7 p7_0'7 p7_1'7 p7_2'7 p7_3'7 p8_0'7 p8_1'7 p8_2'7 p8_3'7
          have RP2'8 := Lib.hid (RP2'7.out.keep hb7)
          have RP4'8 := Lib.hid (RP4'7.out.keep hb7)
          go_wp2_with fail
          refine wp_region_ord_cls [Fact.is 40 (.agg #[.slice (some ⟨gT4, 0, none⟩) nt1 nt1, .slice (some ⟨gC4, 0, none⟩) nc1 nc1, .slice (some ⟨gL4, 0, none⟩) nl1 nl1, .slice (some ⟨gD4, 0, none⟩) nd1 nd1]),
              Fact.is 41 (.agg #[.slice AT1 nt1 ct1, .slice AC1 nc1 cc1, .slice AL1 nl1 cl1, .slice AD1 nd1 cd1]),
              Fact.upto 42 3 (fun v w' => ∃ gT gC gL gD, v = .agg #[.slice (some ⟨gT, 0, none⟩) nt1 nt1, .slice (some ⟨gC, 0, none⟩) nc1 nc1, .slice (some ⟨gL, 0, none⟩) nl1 nl1, .slice (some ⟨gD, 0, none⟩) nd1 nd1] ∧ ArgMc w' (some ⟨gT, 0, none⟩) nt1 nt1 (some ⟨gC, 0, none⟩) nc1 nc1 (some ⟨gL, 0, none⟩) nl1 nl1 (some ⟨gD, 0, none⟩) nd1 nd1 m1),
              Fact.is 43 (.bool true),
              Fact.is 44 (.bool false)]
            (by kernel_rfl) (by kernel_rfl) ?_ ?_ ?_
          · exact ⟨Fact.is_stable _ _, Fact.is_stable _ _, Fact.upto_stable (fun v w w' hb ⟨gT, gC, gL, gD, e, h⟩ => ⟨gT, gC, gL, gD, e, h.keep hb⟩), Fact.is_stable _ _, Fact.is_stable _ _, trivial⟩
          · have HBX := Lib.hid B7.out
            have q_p3_0_8 := Cls.keeps p3_0'8
            have q_p3_1_8 := Cls.keeps p3_1'8
            have q_p3_2_8 := Cls.keeps p3_2'8
            have q_p3_3_8 := Cls.keeps p3_3'8
            have q_p8_0_8 := Cls.keeps p8_0'8
            have q_p8_1_8 := Cls.keeps p8_1'8
            have q_p8_2_8 := Cls.keeps p8_2'8
            have q_p8_3_8 := Cls.keeps p8_3'8
            refine ⟨?_, ?_, ?_, ?_, ?_, trivial⟩
            · intro A' x hoff hdep _hdif
              have a8 : A'.eval (.tmp 8) = .pointer (some ⟨w4.heap.size, 0, none⟩) := off_of hoff 8 (by kernel_rfl)
              exact good_is rfl rfl (by generalize A'.eval = ev at *; simp [go_sem, a8, q_p8_0_8, q_p8_1_8, q_p8_2_8, q_p8_3_8])
            · intro A' x hoff hdep _hdif
              have a3 : A'.eval (.tmp 3) = .pointer (some ⟨w.heap.size + 1, 0, none⟩) := off_of hoff 3 (by kernel_rfl)
              exact good_is rfl rfl (by generalize A'.eval = ev at *; simp [go_sem, a3, q_p3_0_8, q_p3_1_8, q_p3_2_8, q_p3_3_8])
            · intro A' x hoff hdep _hdif
              have ef : ∀ f, A'.eval (.func f) = .func (.func f) #[] #[] := fun _ => rfl
              have a41 := is_of (ask_of hdep (j := 1) (by kernel_rfl)) rfl
              exact good_call_upto rfl rfl (by generalize A'.eval = ev at *; simp [go_sem, ef, a41]) ((toMachine_any (HM1.out.keep (HBX.out.trans (x.below.mono HBX.out.size))) SM1.out).mono fun e w4 ⟨gT4, gC4, gL4, gD4, xs4, h1, hb4, ho4⟩ => ⟨_, h1, hb4, gT4, gC4, gL4, gD4, rfl, ho4.arg HM1.out.nT HM1.out.nC HM1.out.nL HM1.out.nD⟩)
            · intro A' x hoff hdep _hdif
              have ef : ∀ f, A'.eval (.func f) = .func (.func f) #[] #[] := fun _ => rfl
              have a40 := is_of (ask_of hdep (j := 0) (by kernel_rfl)) rfl
              obtain ⟨gT_42, gC_42, gL_42, gD_42, a42, p42⟩ := upto_of (ask_of hdep (j := 2) (by kernel_rfl)) rfl
              exact good_call_is rfl rfl (by generalize A'.eval = ev at *; simp [go_sem, ef, a40, a42]) (eqMachine_same (RP4'8.out.keep x.below) (p42) SM1.out)
            · intro A' x hoff hdep _hdif
              have a43 := is_of (ask_of hdep (j := 3) (by kernel_rfl)) rfl
              exact good_is rfl rfl (by generalize A'.eval = ev at *; simp [go_sem, a43])
          · intro s w8 hb8 hf _hdf
            have e44 := val_of (hf 4 (by decide) rfl) rfl
            clear hf
            simp only [putAll, Act.put, List.setIfInBounds_toArray, List.set_cons_succ, List.set_cons_zero, e44]
            have B8 := Lib.hid (B7.out.trans (hb8.mono B7.out.size))
            have p2_0'9 := keeps hb8 p2_0'8
            have p2_1'9 := keeps hb8 p2_1'8
            have p2_2'9 := keeps hb8 p2_2'8
            have p2_3'9 := keeps hb8 p2_3'8
            have p3_0'9 := keeps hb8 p3_0'8
            have p3_1'9 := keeps hb8 p3_1'8
            have p3_2'9 := keeps hb8 p3_2'8
            have p3_3'9 := keeps hb8 p3_3'8
            have p7_0'9 := keeps hb8 p7_0'8
            have p7_1'9 := keeps hb8 p7_1'8
            have p7_2'9 := keeps hb8 p7_2'8
            have p7_3'9 := keeps hb8 p7_3'8
            have p8_0'9 := keeps hb8 p8_0'8
            have p8_1'9 := keeps hb8 p8_1'8
            have p8_2'9 := keeps hb8 p8_2'8
            have p8_3'9 := keeps hb8 p8_3'8
            clear p2_0'8 p2_1'8 p2_2'8 p2_3'8 p3_0'8 p3_1'8 p3_2'8 p3_3'8 p7_0'8 p7_1'8 p7_2'8 p7_3'8 p8_0'8 p8_1'8 p8_2'8 p8_3'8
            have RP2'9 := Lib.hid (RP2'8.out.keep hb8)
            have RP4'9 := Lib.hid (RP4'8.out.keep hb8)
            go_wp2
            go_ret
            exact ⟨rfl, B8.out⟩

set_option maxRecDepth 100000 in
theorem exactSameMachine_lifted (os : Os) (started : os.Started) (H : Type) (enc : TypeId × Value → H) :
    ReturnsInHanded {} Try.checked os 5 .any (Rows.fnExactSameMachineSpec.pre6 enc Try.prog Try.f5 Rows.fnExactSameMachineRow.domain false) (Rows.fnExactSameMachineSpec.post enc Try.prog Try.f5 false true false false) := by
  refine law_lifted (C := Try.checked) (tb := 4) own started (by kernel_rfl) Try.func5
    (ChangeSpec.witness6 (enc := enc) (C := Try.checked) false ⟨#[], #[.agg #[.slice none 0 0, .slice none 0 0, .slice none 0 0, .slice none 0 0], .agg #[.slice none 0 0, .slice none 0 0, .slice none 0 0, .slice none 0 0]], []⟩ 8 (by kernel_rfl) (by kernel_rfl) (by kernel_rfl) (by kernel_rfl))
    laidOut (fun t ht => ?_) rfl Try.underlying4 rfl (fun ds hds => ?_) ?_
  · have hp : t ∈ [28, 28] := ht
    simp only [List.mem_cons, List.not_mem_nil, or_false] at hp
    rcases hp with rfl | rfl
    · exact ⟨by kernel_rfl, of_decide_eq_true (by kernel_rfl)⟩
    · exact ⟨by kernel_rfl, of_decide_eq_true (by kernel_rfl)⟩
  · match ds, hds with
    | [d0, d1], _ => rfl
  · intro W base args ds p hval0 hA0
    have hval : ∀ (j : Nat) t v, Try.f5.params[j]? = some t → args[j]? = some v → Value.okWide Try.prog W .any base t v := hval0
    have hA : DataW.TrodAll enc Try.prog W 0 (fun _ => true) true Try.f5.params.toList args.toList ds p := hA0
    rw [Try.params5] at hA hval
    obtain ⟨v0, v1, d0, d1, p0, p1, rfl, rfl, rfl, h0, h1⟩ := trodAll_two hA
    obtain ⟨AT0, nt0, ct0, AC0, nc0, cc0, AL0, nl0, cl0, AD0, nd0, cd0, mc0, rfl, HM0, HL0⟩ := open_machine (hval 0 28 v0 rfl rfl) h0
    obtain ⟨AT1, nt1, ct1, AC1, nc1, cc1, AL1, nl1, cl1, AD1, nd1, cd1, mc1, rfl, HM1, HL1⟩ := open_machine (hval 1 28 v1 rfl rfl) h1
    exact exactSameMachine_walk  W HM0 HL0 HM1 HL1

theorem exactSameMachine_holds : Rows.FnExactSameMachineSaid :=
  OpenClaim.holds_of_wide 5 Try.f5 rfl rfl rfl rfl rfl rfl rfl ⟨rfl, rfl, rfl, rfl, rfl⟩ rfl rfl rfl rfl rfl (by kernel_rfl) Try.func5 (by kernel_rfl)
    (of_decide_eq_true (by kernel_rfl)) (by unfold Func.isWrapper; rw [if_neg (of_decide_eq_false (by kernel_rfl))]; exact ⟨rfl, rfl⟩)
    (fun os started H enc _ => exactSameMachine_lifted os started H enc)
#print axioms exactSameMachine_holds
end Go.Proofs.Ytdhkaediffiplaa
