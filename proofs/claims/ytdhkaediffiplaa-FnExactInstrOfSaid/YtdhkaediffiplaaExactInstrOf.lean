/-
  For every program, every machine and every number, 'FnExactInstrOf' answers true: both packages' 'InstrOf' answer alike, and the arguments stay as they are. No condition.
-/
import Derived.Test.YtdhkaediffiplaaSz
import Derived.Test.YtdhkaediffiplaaInstrB
namespace Go.Proofs.Ytdhkaediffiplaa
open Go.ChangeShapes Go.WideShapes Go.ChangeAt Go.RowKit Go.Joins

theorem codeVal_form (q : Option Bt.C4) : ∃ a b c d k, codeVal q = .tuple #[.agg #[.int .i64 a, .int .i64 b, .int .i64 c, .int .i64 d], .bool k] := by
  cases q with
  | none => exact ⟨_, _, _, _, _, rfl⟩
  | some r => exact ⟨_, _, _, _, _, rfl⟩

set_option maxRecDepth 100000 in
set_option maxHeartbeats 4000000 in
theorem exactInstrOf_walk {AT1 AC1 AL1 AD1 : Option Addr} {nt1 ct1 nc1 cc1 nl1 cl1 nd1 cd1 : Nat} {m1 : Bt.Mc} (A0 : Option Addr) (cap0 : Nat) (h0 : Int) (rs0 : List Bt.C4) (n2 : Int) (w : World) (hv0 : ArgCodes w (.slice A0 rs0.length cap0) rs0) (hm0 : rs0.length ≤ maxLen) (H1 : ArgMc w AT1 nt1 ct1 AC1 nc1 cc1 AL1 nl1 cl1 AD1 nd1 cd1 m1) (hL1 : Lens m1) :
    Calls Try.prog 6 #[.agg #[.slice A0 rs0.length cap0, .int .i64 h0], .agg #[.slice AT1 nt1 ct1, .slice AC1 nc1 cc1, .slice AL1 nl1 cl1, .slice AD1 nd1 cd1], .int .i64 n2] w fun e w' => e = .returned (.bool true) ∧ Below w.heap.size w w' := by
  have HV0 := Lib.hid hv0; clear hv0
  have HM1 := Lib.hid H1; clear H1
  have HL1 := Lib.hid hL1; clear hL1
  have BB := Lib.hid (((Below.refl w.heap.size w).alloc (Nat.le_refl _) (.cells #[.slice A0 rs0.length cap0, .int .i64 h0] 24)).alloc (by simp) (.cells #[.slice AT1 nt1 ct1, .slice AC1 nc1 cc1, .slice AL1 nl1 cl1, .slice AD1 nd1 cd1] 28))
  obtain ⟨i0, i1, i2, i3, bb, hcv⟩ := codeVal_form (Bt.instrOf rs0 h0 m1 n2)
  have HCV := Lib.hid hcv; clear hcv
  have lo0 : (0 : Int) ≤ 1048576 := (by omega)
  have hi0 : 1048576 ≤ (1048576 : Int) := (by omega)
  by_cases hs0 : (1048576 : Int) < (rs0.length : Nat)
  · have E0 := Lib.hid (rest_neg hs0)
    go_enter Try.func6, Try.ntmps6
    go_wp2_with fail
    refine (szProg_rest _ _ _ _ _ _ hm0 lo0 hi0).mono ?_
    rw [E0.out]
    rintro e wz0 ⟨rfl, hbz0⟩
    have Bz0 := Lib.hid (BB.out.trans (hbz0.mono (by simp; try omega)))
    go_wp2
    go_ret
    exact ⟨rfl, Bz0.out⟩
  · have E0 := Lib.hid (rest_pos hs0)
    have hn0 : rs0.length ≤ 1048576 := (by omega)
    have lo1 : (0 : Int) ≤ 1048576 - (rs0.length : Nat) := (by omega)
    have hi1 : 1048576 - (rs0.length : Nat) ≤ (1048576 : Int) := (by omega)
    by_cases hs1 : (1048576 - (rs0.length : Nat) : Int) < ((Bt.mcSz m1) : Nat)
    · have E1 := Lib.hid (rest_neg hs1)
      go_enter Try.func6, Try.ntmps6
      go_wp2_with fail
      refine (szProg_rest _ _ _ _ _ _ hm0 lo0 hi0).mono ?_
      rw [E0.out]
      rintro e wz0 ⟨rfl, hbz0⟩
      have Bz0 := Lib.hid (BB.out.trans (hbz0.mono (by simp; try omega)))
      have p3_0 : wz0.cell? ⟨w.heap.size, 0, none⟩ = some (.slice A0 rs0.length cap0) := keeps hbz0 (by simp)
      have p3_1 : wz0.cell? ⟨w.heap.size, 1, none⟩ = some (.int .i64 h0) := keeps hbz0 (by simp)
      have p4_0 : wz0.cell? ⟨w.heap.size + 1, 0, none⟩ = some (.slice AT1 nt1 ct1) := keeps hbz0 (by simp)
      have p4_1 : wz0.cell? ⟨w.heap.size + 1, 1, none⟩ = some (.slice AC1 nc1 cc1) := keeps hbz0 (by simp)
      have p4_2 : wz0.cell? ⟨w.heap.size + 1, 2, none⟩ = some (.slice AL1 nl1 cl1) := keeps hbz0 (by simp)
      have p4_3 : wz0.cell? ⟨w.heap.size + 1, 3, none⟩ = some (.slice AD1 nd1 cd1) := keeps hbz0 (by simp)
      go_wp2_with fail
      refine (szMachine_any _ _ (HM1.out.keep Bz0.out) HL1.out lo1 hi1).mono ?_
      rw [E1.out]
      rintro e wz1 ⟨rfl, hbz1⟩
      have Bz1 := Lib.hid (Bz0.out.trans (hbz1.mono Bz0.out.size))
      go_wp2
      go_ret
      exact ⟨rfl, Bz1.out⟩
    · have E1 := Lib.hid (rest_pos hs1)
      have SM1 := Lib.hid (Small.of (m := m1) (by omega))
      have loe : (0 : Int) ≤ 1048576 - (rs0.length : Nat) - ((Bt.mcSz m1) : Nat) := (by omega)
      go_enter Try.func6, Try.ntmps6
      go_wp2_with fail
      refine (szProg_rest _ _ _ _ _ _ hm0 lo0 hi0).mono ?_
      rw [E0.out]
      rintro e wz0 ⟨rfl, hbz0⟩
      have Bz0 := Lib.hid (BB.out.trans (hbz0.mono (by simp; try omega)))
      have p3_0 : wz0.cell? ⟨w.heap.size, 0, none⟩ = some (.slice A0 rs0.length cap0) := keeps hbz0 (by simp)
      have p3_1 : wz0.cell? ⟨w.heap.size, 1, none⟩ = some (.int .i64 h0) := keeps hbz0 (by simp)
      have p4_0 : wz0.cell? ⟨w.heap.size + 1, 0, none⟩ = some (.slice AT1 nt1 ct1) := keeps hbz0 (by simp)
      have p4_1 : wz0.cell? ⟨w.heap.size + 1, 1, none⟩ = some (.slice AC1 nc1 cc1) := keeps hbz0 (by simp)
      have p4_2 : wz0.cell? ⟨w.heap.size + 1, 2, none⟩ = some (.slice AL1 nl1 cl1) := keeps hbz0 (by simp)
      have p4_3 : wz0.cell? ⟨w.heap.size + 1, 3, none⟩ = some (.slice AD1 nd1 cd1) := keeps hbz0 (by simp)
      go_wp2_with fail
      refine (szMachine_any _ _ (HM1.out.keep Bz0.out) HL1.out lo1 hi1).mono ?_
      rw [E1.out]
      rintro e wz1 ⟨rfl, hbz1⟩
      have Bz1 := Lib.hid (Bz0.out.trans (hbz1.mono Bz0.out.size))
      have p3_0'1 := keeps hbz1 p3_0
      have p3_1'1 := keeps hbz1 p3_1
      have p4_0'1 := keeps hbz1 p4_0
      have p4_1'1 := keeps hbz1 p4_1
      have p4_2'1 := keeps hbz1 p4_2
      have p4_3'1 := keeps hbz1 p4_3
      clear p3_0 p3_1 p4_0 p4_1 p4_2 p4_3
      go_wp2_with fail
      refine wp_region_ord_cls [Fact.is 25 (.agg #[.slice A0 rs0.length cap0, .int .i64 h0]),
          Fact.upto 26 5 (fun v w' => ∃ g, v = .agg #[.slice (some ⟨g, 0, none⟩) rs0.length rs0.length, .int .i64 h0] ∧ ArgPr w' g 0 rs0.length rs0.length rs0),
          Fact.is 27 (.agg #[.slice AT1 nt1 ct1, .slice AC1 nc1 cc1, .slice AL1 nl1 cl1, .slice AD1 nd1 cd1]),
          Fact.upto 28 5 (fun v w' => ∃ gT gC gL gD, v = .agg #[.slice (some ⟨gT, 0, none⟩) nt1 nt1, .slice (some ⟨gC, 0, none⟩) nc1 nc1, .slice (some ⟨gL, 0, none⟩) nl1 nl1, .slice (some ⟨gD, 0, none⟩) nd1 nd1] ∧ ArgMc w' (some ⟨gT, 0, none⟩) nt1 nt1 (some ⟨gC, 0, none⟩) nc1 nc1 (some ⟨gL, 0, none⟩) nl1 nl1 (some ⟨gD, 0, none⟩) nd1 nd1 m1),
          Fact.is 29 (.int .i64 n2),
          Fact.is 30 (.tuple #[.agg #[.int .i64 i0, .int .i64 i1, .int .i64 i2, .int .i64 i3], .bool bb]),
          Fact.is 24 (.tuple #[.agg #[.int .i64 i0, .int .i64 i1, .int .i64 i2, .int .i64 i3], .bool bb]),
          Fact.is 31 (.agg #[.int .i64 i0, .int .i64 i1, .int .i64 i2, .int .i64 i3]),
          Fact.is 32 (.bool bb),
          Fact.upto 8 10 (fun v w' => ∃ g, v = .pointer (some ⟨g, 0, none⟩) ∧ wz1.heap.size ≤ g ∧ Four w' g (.int .i64 0) (.int .i64 0) (.int .i64 0) (.int .i64 0)),
          Fact.keep 8 (fun v w' => ∃ g, v = .pointer (some ⟨g, 0, none⟩) ∧ wz1.heap.size ≤ g ∧ Four w' g (.int .i64 i0) (.int .i64 i1) (.int .i64 i2) (.int .i64 i3)),
          Fact.is 9 (.bool bb)]
        (by kernel_rfl) (by kernel_rfl) ?_ ?_ ?_
      · exact ⟨Fact.is_stable _ _, Fact.upto_stable (fun v w w' hb ⟨g, e, h⟩ => ⟨g, e, h.keep hb⟩), Fact.is_stable _ _, Fact.upto_stable (fun v w w' hb ⟨gT, gC, gL, gD, e, h⟩ => ⟨gT, gC, gL, gD, e, h.keep hb⟩), Fact.is_stable _ _, Fact.is_stable _ _, Fact.is_stable _ _, Fact.is_stable _ _, Fact.is_stable _ _, Fact.upto_stable (fun v w w' hb ⟨g, e, l, h⟩ => ⟨g, e, l, h.keep hb⟩), Fact.keep_stable (fun v w w' hb ⟨g, e, l, h⟩ => ⟨g, e, l, h.keep hb⟩), Fact.is_stable _ _, trivial⟩
      · have HBX := Lib.hid Bz1.out
        have q_p3_0_1 := Cls.keeps p3_0'1
        have q_p3_1_1 := Cls.keeps p3_1'1
        have q_p4_0_1 := Cls.keeps p4_0'1
        have q_p4_1_1 := Cls.keeps p4_1'1
        have q_p4_2_1 := Cls.keeps p4_2'1
        have q_p4_3_1 := Cls.keeps p4_3'1
        refine ⟨?_, ?_, ?_, ?_, ?_, ?_, ?_, ?_, ?_, ?_, ?_, ?_, trivial⟩
        · intro A' x hoff hdep
          have a3 : A'.eval (.tmp 3) = .pointer (some ⟨w.heap.size, 0, none⟩) := off_of hoff 3 (by kernel_rfl)
          exact good_is rfl rfl (by generalize A'.eval = ev at *; simp [go_sem, a3, q_p3_0_1, q_p3_1_1])
        · intro A' x hoff hdep
          have ef : ∀ f, A'.eval (.func f) = .func (.func f) #[] #[] := fun _ => rfl
          have a25 := is_of (ask_of hdep (j := 0) (by kernel_rfl)) rfl
          exact good_call_upto rfl rfl (by generalize A'.eval = ev at *; simp [go_sem, ef, a25]) ((toProgram_any _ _ rs0 _ hn0 (HV0.out.keep (HBX.out.trans (x.below.mono HBX.out.size)))).mono fun e w3 ⟨g3, h1, hg3, hb3, ho3⟩ => ⟨_, h1, hb3, g3, rfl, ProgMade.pr ho3 hn0⟩)
        · intro A' x hoff hdep
          have a4 : A'.eval (.tmp 4) = .pointer (some ⟨w.heap.size + 1, 0, none⟩) := off_of hoff 4 (by kernel_rfl)
          exact good_is rfl rfl (by generalize A'.eval = ev at *; simp [go_sem, a4, q_p4_0_1, q_p4_1_1, q_p4_2_1, q_p4_3_1])
        · intro A' x hoff hdep
          have ef : ∀ f, A'.eval (.func f) = .func (.func f) #[] #[] := fun _ => rfl
          have a27 := is_of (ask_of hdep (j := 2) (by kernel_rfl)) rfl
          exact good_call_upto rfl rfl (by generalize A'.eval = ev at *; simp [go_sem, ef, a27]) ((toMachine_any (HM1.out.keep (HBX.out.trans (x.below.mono HBX.out.size))) SM1.out).mono fun e w4 ⟨gT4, gC4, gL4, gD4, xs4, h1, hb4, ho4⟩ => ⟨_, h1, hb4, gT4, gC4, gL4, gD4, rfl, ho4.arg HM1.out.nT HM1.out.nC HM1.out.nL HM1.out.nD⟩)
        · intro A' x hoff hdep
          have a2 : A'.eval (.tmp 2) = .int .i64 n2 := off_of hoff 2 (by kernel_rfl)
          exact good_is rfl rfl (by generalize A'.eval = ev at *; simp [go_sem, a2])
        · intro A' x hoff hdep
          have ef : ∀ f, A'.eval (.func f) = .func (.func f) #[] #[] := fun _ => rfl
          obtain ⟨g_26, a26, p26⟩ := upto_of (ask_of hdep (j := 1) (by kernel_rfl)) rfl
          obtain ⟨gT_28, gC_28, gL_28, gD_28, a28, p28⟩ := upto_of (ask_of hdep (j := 3) (by kernel_rfl)) rfl
          have a29 := is_of (ask_of hdep (j := 4) (by kernel_rfl)) rfl
          have hh := specInstrOf_any h0 n2 x.val p26 p28 SM1.out
          rw [HCV.out] at hh
          exact good_call_is rfl rfl (by generalize A'.eval = ev at *; simp [go_sem, ef, a26, a28, a29]) (hh)
        · intro A' x hoff hdep
          have a30 := is_of (ask_of hdep (j := 5) (by kernel_rfl)) rfl
          exact good_is rfl rfl (by generalize A'.eval = ev at *; simp [go_sem, a30])
        · intro A' x hoff hdep
          have a24 := is_of (ask_of hdep (j := 6) (by kernel_rfl)) rfl
          exact good_is rfl rfl (by generalize A'.eval = ev at *; simp [go_sem, a24])
        · intro A' x hoff hdep
          have a24 := is_of (ask_of hdep (j := 6) (by kernel_rfl)) rfl
          exact good_is rfl rfl (by generalize A'.eval = ev at *; simp [go_sem, a24])
        · intro A' x hoff hdep
          refine good_run (v := .pointer (some ⟨x.val.heap.size, 0, none⟩)) (w' := x.val.alloc (.cells #[.int .i64 0, .int .i64 0, .int .i64 0, .int .i64 0] 48)) (by generalize A'.eval = ev at *; simp [go_sem]) (leaves_below ((Below.refl _ _).alloc (Nat.le_refl _) _) (upto_to rfl rfl ⟨x.val.heap.size, rfl, x.below.size, ?_⟩))
          clear hoff hdep
          unfold Four
          go_simp
        · intro A' x hoff hdep
          obtain ⟨g, a8, l8, k0, k1, k2, k3, f0, f1, f2, f3⟩ := upto_of (ask_of hdep (j := 9) (by kernel_rfl)) rfl
          have a31 := is_of (ask_of hdep (j := 7) (by kernel_rfl)) rfl
          refine good_skip (w' := (((x.val.setCell ⟨g, 0, none⟩ (.int .i64 i0)).setCell ⟨g, 1, none⟩ (.int .i64 i1)).setCell ⟨g, 2, none⟩ (.int .i64 i2)).setCell ⟨g, 3, none⟩ (.int .i64 i3)) (by generalize A'.eval = ev at *; simp [go_sem, a8, a31, k0, k1, k2, k3, f0, f1, f2, f3]) ⟨⟨⟨_, ((((x.below.setCell l8 _).setCell l8 _).setCell l8 _).setCell l8 _)⟩, rfl⟩, .inr ?_, keep_to rfl (by simp) a8 ⟨g, rfl, l8, ?_⟩⟩
          · intro j hj hk s' hf
            match j, hj, hk, hf with
            | 0, _, _, hf => exact hf
            | 1, _, hk, _ => exact absurd (List.contains_iff_mem.1 (by kernel_rfl)) (hk 5 rfl).2
            | 2, _, _, hf => exact hf
            | 3, _, hk, _ => exact absurd (List.contains_iff_mem.1 (by kernel_rfl)) (hk 5 rfl).2
            | 4, _, _, hf => exact hf
            | 5, _, _, hf => exact hf
            | 6, _, _, hf => exact hf
            | 7, _, _, hf => exact hf
            | 8, _, _, hf => exact hf
            | 9, _, hk, _ => exact absurd rfl (hk 10 rfl).1
            | 10, hj, _, _ => exact absurd rfl hj
            | 11, _, _, hf => exact hf
            | _ + 12, _, _, _ => trivial
          · clear hoff hdep
            unfold Four
            go_simp
        · intro A' x hoff hdep
          have a32 := is_of (ask_of hdep (j := 8) (by kernel_rfl)) rfl
          exact good_is rfl rfl (by generalize A'.eval = ev at *; simp [go_sem, a32])
      · intro s w1 hb1 hf
        obtain ⟨gb1, e8, lb1, fb1⟩ := keep_of (hf 10 (by decide) rfl) rfl
        have e9 := val_of (hf 11 (by decide) rfl) rfl
        clear hf
        simp only [putAll, Act.put, List.setIfInBounds_toArray, List.set_cons_succ, List.set_cons_zero, e9, e8]
        have B1 := Lib.hid (Bz1.out.trans (hb1.mono Bz1.out.size))
        have p3_0'2 := keeps hb1 p3_0'1
        have p3_1'2 := keeps hb1 p3_1'1
        have p4_0'2 := keeps hb1 p4_0'1
        have p4_1'2 := keeps hb1 p4_1'1
        have p4_2'2 := keeps hb1 p4_2'1
        have p4_3'2 := keeps hb1 p4_3'1
        clear p3_0'1 p3_1'1 p4_0'1 p4_1'1 p4_2'1 p4_3'1
        obtain ⟨p8_0, p8_1, p8_2, p8_3, _, _, _, _⟩ := fb1
        go_wp2_with fail
        refine (toProgram_any _ _ rs0 _ hn0 (HV0.out.keep (B1.out))).mono ?_
        rintro e w2 ⟨g2, rfl, hg2, hb2, ho2⟩
        have B2 := Lib.hid (B1.out.trans (hb2.mono B1.out.size))
        have p3_0'3 := keeps hb2 p3_0'2
        have p3_1'3 := keeps hb2 p3_1'2
        have p4_0'3 := keeps hb2 p4_0'2
        have p4_1'3 := keeps hb2 p4_1'2
        have p4_2'3 := keeps hb2 p4_2'2
        have p4_3'3 := keeps hb2 p4_3'2
        have p8_0'3 := keeps hb2 p8_0
        have p8_1'3 := keeps hb2 p8_1
        have p8_2'3 := keeps hb2 p8_2
        have p8_3'3 := keeps hb2 p8_3
        clear p3_0'2 p3_1'2 p4_0'2 p4_1'2 p4_2'2 p4_3'2 p8_0 p8_1 p8_2 p8_3
        have RP2 : Hid (ArgPr w2 g2 0 rs0.length rs0.length rs0) := Lib.hid (ProgMade.pr ho2 hn0)
        clear ho2
        have l3_1 : w.heap.size < w2.heap.size := cell_lt p3_0'3
        have l3_2 : w.heap.size + 1 < w2.heap.size := cell_lt p4_0'3
        have l3_3 : gb1 < w2.heap.size := cell_lt p8_0'3
        go_wp2_with fail
        obtain ⟨w3, hW3⟩ : ∃ W : World, W = w2.alloc (.cells #[.slice (some ⟨g2, 0, none⟩) rs0.length rs0.length, .int .i64 h0] 34) := ⟨_, rfl⟩
        have hb3 : Below w2.heap.size w2 w3 := by rw [hW3]; exact (Below.refl _ _).alloc (Nat.le_refl _) _
        have p10_0 : w3.cell? ⟨w2.heap.size, 0, none⟩ = some (.slice (some ⟨g2, 0, none⟩) rs0.length rs0.length) := by rw [hW3]; go_simp
        have p10_1 : w3.cell? ⟨w2.heap.size, 1, none⟩ = some (.int .i64 h0) := by rw [hW3]; go_simp
        have HW3 := Lib.hid hW3; clear hW3
        have B3 := Lib.hid (B2.out.trans (hb3.mono B2.out.size))
        have p3_0'4 := keeps hb3 p3_0'3
        have p3_1'4 := keeps hb3 p3_1'3
        have p4_0'4 := keeps hb3 p4_0'3
        have p4_1'4 := keeps hb3 p4_1'3
        have p4_2'4 := keeps hb3 p4_2'3
        have p4_3'4 := keeps hb3 p4_3'3
        have p8_0'4 := keeps hb3 p8_0'3
        have p8_1'4 := keeps hb3 p8_1'3
        have p8_2'4 := keeps hb3 p8_2'3
        have p8_3'4 := keeps hb3 p8_3'3
        clear p3_0'3 p3_1'3 p4_0'3 p4_1'3 p4_2'3 p4_3'3 p8_0'3 p8_1'3 p8_2'3 p8_3'3
        have RP2'4 := Lib.hid (RP2.out.keep hb3)
        rw [← HW3.out]
        clear l3_1 l3_2 l3_3
        refine (toMachine_any (HM1.out.keep (B3.out)) SM1.out).mono ?_
        rintro e w4 ⟨gT4, gC4, gL4, gD4, xs4, rfl, hb4, ho4⟩
        have B4 := Lib.hid (B3.out.trans (hb4.mono B3.out.size))
        have p3_0'5 := keeps hb4 p3_0'4
        have p3_1'5 := keeps hb4 p3_1'4
        have p4_0'5 := keeps hb4 p4_0'4
        have p4_1'5 := keeps hb4 p4_1'4
        have p4_2'5 := keeps hb4 p4_2'4
        have p4_3'5 := keeps hb4 p4_3'4
        have p8_0'5 := keeps hb4 p8_0'4
        have p8_1'5 := keeps hb4 p8_1'4
        have p8_2'5 := keeps hb4 p8_2'4
        have p8_3'5 := keeps hb4 p8_3'4
        have p10_0'5 := keeps hb4 p10_0
        have p10_1'5 := keeps hb4 p10_1
        clear p3_0'4 p3_1'4 p4_0'4 p4_1'4 p4_2'4 p4_3'4 p8_0'4 p8_1'4 p8_2'4 p8_3'4 p10_0 p10_1
        have RP2'5 := Lib.hid (RP2'4.out.keep hb4)
        have RP4 : Hid (ArgMc w4 (some ⟨gT4, 0, none⟩) nt1 nt1 (some ⟨gC4, 0, none⟩) nc1 nc1 (some ⟨gL4, 0, none⟩) nl1 nl1 (some ⟨gD4, 0, none⟩) nd1 nd1 m1) := Lib.hid (ho4.arg HM1.out.nT HM1.out.nC HM1.out.nL HM1.out.nD)
        clear ho4
        have l5_1 : w.heap.size < w4.heap.size := cell_lt p3_0'5
        have l5_2 : w.heap.size + 1 < w4.heap.size := cell_lt p4_0'5
        have l5_3 : gb1 < w4.heap.size := cell_lt p8_0'5
        have l5_4 : w2.heap.size < w4.heap.size := cell_lt p10_0'5
        go_wp2_with fail
        obtain ⟨w5, hW5⟩ : ∃ W : World, W = w4.alloc (.cells #[.slice (some ⟨gT4, 0, none⟩) nt1 nt1, .slice (some ⟨gC4, 0, none⟩) nc1 nc1, .slice (some ⟨gL4, 0, none⟩) nl1 nl1, .slice (some ⟨gD4, 0, none⟩) nd1 nd1] 38) := ⟨_, rfl⟩
        have hb5 : Below w4.heap.size w4 w5 := by rw [hW5]; exact (Below.refl _ _).alloc (Nat.le_refl _) _
        have p11_0 : w5.cell? ⟨w4.heap.size, 0, none⟩ = some (.slice (some ⟨gT4, 0, none⟩) nt1 nt1) := by rw [hW5]; go_simp
        have p11_1 : w5.cell? ⟨w4.heap.size, 1, none⟩ = some (.slice (some ⟨gC4, 0, none⟩) nc1 nc1) := by rw [hW5]; go_simp
        have p11_2 : w5.cell? ⟨w4.heap.size, 2, none⟩ = some (.slice (some ⟨gL4, 0, none⟩) nl1 nl1) := by rw [hW5]; go_simp
        have p11_3 : w5.cell? ⟨w4.heap.size, 3, none⟩ = some (.slice (some ⟨gD4, 0, none⟩) nd1 nd1) := by rw [hW5]; go_simp
        have HW5 := Lib.hid hW5; clear hW5
        have B5 := Lib.hid (B4.out.trans (hb5.mono B4.out.size))
        have p3_0'6 := keeps hb5 p3_0'5
        have p3_1'6 := keeps hb5 p3_1'5
        have p4_0'6 := keeps hb5 p4_0'5
        have p4_1'6 := keeps hb5 p4_1'5
        have p4_2'6 := keeps hb5 p4_2'5
        have p4_3'6 := keeps hb5 p4_3'5
        have p8_0'6 := keeps hb5 p8_0'5
        have p8_1'6 := keeps hb5 p8_1'5
        have p8_2'6 := keeps hb5 p8_2'5
        have p8_3'6 := keeps hb5 p8_3'5
        have p10_0'6 := keeps hb5 p10_0'5
        have p10_1'6 := keeps hb5 p10_1'5
        clear p3_0'5 p3_1'5 p4_0'5 p4_1'5 p4_2'5 p4_3'5 p8_0'5 p8_1'5 p8_2'5 p8_3'5 p10_0'5 p10_1'5
        have RP2'6 := Lib.hid (RP2'5.out.keep hb5)
        have RP4'6 := Lib.hid (RP4.out.keep hb5)
        rw [← HW5.out]
        clear l5_1 l5_2 l5_3 l5_4
        refine (implInstrOf_any h0 n2 _ RP2'6.out RP4'6.out SM1.out).mono ?_
        rw [HCV.out]
        rintro e w6 ⟨rfl, hb6⟩
        have B6 := Lib.hid (B5.out.trans (hb6.mono B5.out.size))
        have p3_0'7 := keeps hb6 p3_0'6
        have p3_1'7 := keeps hb6 p3_1'6
        have p4_0'7 := keeps hb6 p4_0'6
        have p4_1'7 := keeps hb6 p4_1'6
        have p4_2'7 := keeps hb6 p4_2'6
        have p4_3'7 := keeps hb6 p4_3'6
        have p8_0'7 := keeps hb6 p8_0'6
        have p8_1'7 := keeps hb6 p8_1'6
        have p8_2'7 := keeps hb6 p8_2'6
        have p8_3'7 := keeps hb6 p8_3'6
        have p10_0'7 := keeps hb6 p10_0'6
        have p10_1'7 := keeps hb6 p10_1'6
        have p11_0'7 := keeps hb6 p11_0
        have p11_1'7 := keeps hb6 p11_1
        have p11_2'7 := keeps hb6 p11_2
        have p11_3'7 := keeps hb6 p11_3
        clear p3_0'6 p3_1'6 p4_0'6 p4_1'6 p4_2'6 p4_3'6 p8_0'6 p8_1'6 p8_2'6 p8_3'6 p10_0'6 p10_1'6 p11_0 p11_1 p11_2 p11_3
        have RP2'7 := Lib.hid (RP2'6.out.keep hb6)
        have RP4'7 := Lib.hid (RP4'6.out.keep hb6)
        have l7_1 : w.heap.size < w6.heap.size := cell_lt p3_0'7
        have l7_2 : w.heap.size + 1 < w6.heap.size := cell_lt p4_0'7
        have l7_3 : gb1 < w6.heap.size := cell_lt p8_0'7
        have l7_4 : w2.heap.size < w6.heap.size := cell_lt p10_0'7
        have l7_5 : w4.heap.size < w6.heap.size := cell_lt p11_0'7
        go_wp2_with fail
        obtain ⟨w7, hW7⟩ : ∃ W : World, W = w6.alloc (.cells #[.int .i64 i0, .int .i64 i1, .int .i64 i2, .int .i64 i3] 48) := ⟨_, rfl⟩
        have hb7 : Below w6.heap.size w6 w7 := by rw [hW7]; exact (Below.refl _ _).alloc (Nat.le_refl _) _
        have p12_0 : w7.cell? ⟨w6.heap.size, 0, none⟩ = some (.int .i64 i0) := by rw [hW7]; go_simp
        have p12_1 : w7.cell? ⟨w6.heap.size, 1, none⟩ = some (.int .i64 i1) := by rw [hW7]; go_simp
        have p12_2 : w7.cell? ⟨w6.heap.size, 2, none⟩ = some (.int .i64 i2) := by rw [hW7]; go_simp
        have p12_3 : w7.cell? ⟨w6.heap.size, 3, none⟩ = some (.int .i64 i3) := by rw [hW7]; go_simp
        have HW7 := Lib.hid hW7; clear hW7
        have B7 := Lib.hid (B6.out.trans (hb7.mono B6.out.size))
        have p3_0'8 := keeps hb7 p3_0'7
        have p3_1'8 := keeps hb7 p3_1'7
        have p4_0'8 := keeps hb7 p4_0'7
        have p4_1'8 := keeps hb7 p4_1'7
        have p4_2'8 := keeps hb7 p4_2'7
        have p4_3'8 := keeps hb7 p4_3'7
        have p8_0'8 := keeps hb7 p8_0'7
        have p8_1'8 := keeps hb7 p8_1'7
        have p8_2'8 := keeps hb7 p8_2'7
        have p8_3'8 := keeps hb7 p8_3'7
        have p10_0'8 := keeps hb7 p10_0'7
        have p10_1'8 := keeps hb7 p10_1'7
        have p11_0'8 := keeps hb7 p11_0'7
        have p11_1'8 := keeps hb7 p11_1'7
        have p11_2'8 := keeps hb7 p11_2'7
        have p11_3'8 := keeps hb7 p11_3'7
        clear p3_0'7 p3_1'7 p4_0'7 p4_1'7 p4_2'7 p4_3'7 p8_0'7 p8_1'7 p8_2'7 p8_3'7 p10_0'7 p10_1'7 p11_0'7 p11_1'7 p11_2'7 p11_3'7
        have RP2'8 := Lib.hid (RP2'7.out.keep hb7)
        have RP4'8 := Lib.hid (RP4'7.out.keep hb7)
        rw [← HW7.out]
        clear l7_1 l7_2 l7_3 l7_4 l7_5
        refine (eqCode_same _ _ _ _ _).mono ?_
        rintro e w8 ⟨rfl, hb8⟩
        have B8 := Lib.hid (B7.out.trans (hb8.mono B7.out.size))
        have p3_0'9 := keeps hb8 p3_0'8
        have p3_1'9 := keeps hb8 p3_1'8
        have p4_0'9 := keeps hb8 p4_0'8
        have p4_1'9 := keeps hb8 p4_1'8
        have p4_2'9 := keeps hb8 p4_2'8
        have p4_3'9 := keeps hb8 p4_3'8
        have p8_0'9 := keeps hb8 p8_0'8
        have p8_1'9 := keeps hb8 p8_1'8
        have p8_2'9 := keeps hb8 p8_2'8
        have p8_3'9 := keeps hb8 p8_3'8
        have p10_0'9 := keeps hb8 p10_0'8
        have p10_1'9 := keeps hb8 p10_1'8
        have p11_0'9 := keeps hb8 p11_0'8
        have p11_1'9 := keeps hb8 p11_1'8
        have p11_2'9 := keeps hb8 p11_2'8
        have p11_3'9 := keeps hb8 p11_3'8
        have p12_0'9 := keeps hb8 p12_0
        have p12_1'9 := keeps hb8 p12_1
        have p12_2'9 := keeps hb8 p12_2
        have p12_3'9 := keeps hb8 p12_3
        clear p3_0'8 p3_1'8 p4_0'8 p4_1'8 p4_2'8 p4_3'8 p8_0'8 p8_1'8 p8_2'8 p8_3'8 p10_0'8 p10_1'8 p11_0'8 p11_1'8 p11_2'8 p11_3'8 p12_0 p12_1 p12_2 p12_3
        have RP2'9 := Lib.hid (RP2'8.out.keep hb8)
        have RP4'9 := Lib.hid (RP4'8.out.keep hb8)
        go_wp2_with fail
        refine wp_region_ord_cls [Fact.is 53 (.agg #[.slice (some ⟨g2, 0, none⟩) rs0.length rs0.length, .int .i64 h0]),
            Fact.is 54 (.agg #[.slice A0 rs0.length cap0, .int .i64 h0]),
            Fact.upto 55 3 (fun v w' => ∃ g, v = .agg #[.slice (some ⟨g, 0, none⟩) rs0.length rs0.length, .int .i64 h0] ∧ ArgPr w' g 0 rs0.length rs0.length rs0),
            Fact.is 56 (.bool true),
            Fact.is 57 (.bool false)]
          (by kernel_rfl) (by kernel_rfl) ?_ ?_ ?_
        · exact ⟨Fact.is_stable _ _, Fact.is_stable _ _, Fact.upto_stable (fun v w w' hb ⟨g, e, h⟩ => ⟨g, e, h.keep hb⟩), Fact.is_stable _ _, Fact.is_stable _ _, trivial⟩
        · have HBX := Lib.hid B8.out
          have q_p3_0_9 := Cls.keeps p3_0'9
          have q_p3_1_9 := Cls.keeps p3_1'9
          have q_p10_0_9 := Cls.keeps p10_0'9
          have q_p10_1_9 := Cls.keeps p10_1'9
          refine ⟨?_, ?_, ?_, ?_, ?_, trivial⟩
          · intro A' x hoff hdep
            have a10 : A'.eval (.tmp 10) = .pointer (some ⟨w2.heap.size, 0, none⟩) := off_of hoff 10 (by kernel_rfl)
            exact good_is rfl rfl (by generalize A'.eval = ev at *; simp [go_sem, a10, q_p10_0_9, q_p10_1_9])
          · intro A' x hoff hdep
            have a3 : A'.eval (.tmp 3) = .pointer (some ⟨w.heap.size, 0, none⟩) := off_of hoff 3 (by kernel_rfl)
            exact good_is rfl rfl (by generalize A'.eval = ev at *; simp [go_sem, a3, q_p3_0_9, q_p3_1_9])
          · intro A' x hoff hdep
            have ef : ∀ f, A'.eval (.func f) = .func (.func f) #[] #[] := fun _ => rfl
            have a54 := is_of (ask_of hdep (j := 1) (by kernel_rfl)) rfl
            exact good_call_upto rfl rfl (by generalize A'.eval = ev at *; simp [go_sem, ef, a54]) ((toProgram_any _ _ rs0 _ hn0 (HV0.out.keep (HBX.out.trans (x.below.mono HBX.out.size)))).mono fun e w3 ⟨g3, h1, hg3, hb3, ho3⟩ => ⟨_, h1, hb3, g3, rfl, ProgMade.pr ho3 hn0⟩)
          · intro A' x hoff hdep
            have ef : ∀ f, A'.eval (.func f) = .func (.func f) #[] #[] := fun _ => rfl
            have a53 := is_of (ask_of hdep (j := 0) (by kernel_rfl)) rfl
            obtain ⟨g_55, a55, p55⟩ := upto_of (ask_of hdep (j := 2) (by kernel_rfl)) rfl
            exact good_call_is rfl rfl (by generalize A'.eval = ev at *; simp [go_sem, ef, a53, a55]) (eqProgram_same _ _ _ _ _ _ rs0 h0 _ hn0 (Nat.le_refl _) (Nat.le_refl _) (RP2'9.out.keep x.below).codes (p55).codes)
          · intro A' x hoff hdep
            have a56 := is_of (ask_of hdep (j := 3) (by kernel_rfl)) rfl
            exact good_is rfl rfl (by generalize A'.eval = ev at *; simp [go_sem, a56])
        · intro s w9 hb9 hf
          have e57 := val_of (hf 4 (by decide) rfl) rfl
          clear hf
          simp only [putAll, Act.put, List.setIfInBounds_toArray, List.set_cons_succ, List.set_cons_zero, e57]
          have B9 := Lib.hid (B8.out.trans (hb9.mono B8.out.size))
          have p3_0'10 := keeps hb9 p3_0'9
          have p3_1'10 := keeps hb9 p3_1'9
          have p4_0'10 := keeps hb9 p4_0'9
          have p4_1'10 := keeps hb9 p4_1'9
          have p4_2'10 := keeps hb9 p4_2'9
          have p4_3'10 := keeps hb9 p4_3'9
          have p8_0'10 := keeps hb9 p8_0'9
          have p8_1'10 := keeps hb9 p8_1'9
          have p8_2'10 := keeps hb9 p8_2'9
          have p8_3'10 := keeps hb9 p8_3'9
          have p10_0'10 := keeps hb9 p10_0'9
          have p10_1'10 := keeps hb9 p10_1'9
          have p11_0'10 := keeps hb9 p11_0'9
          have p11_1'10 := keeps hb9 p11_1'9
          have p11_2'10 := keeps hb9 p11_2'9
          have p11_3'10 := keeps hb9 p11_3'9
          have p12_0'10 := keeps hb9 p12_0'9
          have p12_1'10 := keeps hb9 p12_1'9
          have p12_2'10 := keeps hb9 p12_2'9
          have p12_3'10 := keeps hb9 p12_3'9
          clear p3_0'9 p3_1'9 p4_0'9 p4_1'9 p4_2'9 p4_3'9 p8_0'9 p8_1'9 p8_2'9 p8_3'9 p10_0'9 p10_1'9 p11_0'9 p11_1'9 p11_2'9 p11_3'9 p12_0'9 p12_1'9 p12_2'9 p12_3'9
          have RP2'10 := Lib.hid (RP2'9.out.keep hb9)
          have RP4'10 := Lib.hid (RP4'9.out.keep hb9)
          go_wp2_with fail
          refine wp_region_ord_cls [Fact.is 58 (.agg #[.slice (some ⟨gT4, 0, none⟩) nt1 nt1, .slice (some ⟨gC4, 0, none⟩) nc1 nc1, .slice (some ⟨gL4, 0, none⟩) nl1 nl1, .slice (some ⟨gD4, 0, none⟩) nd1 nd1]),
              Fact.is 59 (.agg #[.slice AT1 nt1 ct1, .slice AC1 nc1 cc1, .slice AL1 nl1 cl1, .slice AD1 nd1 cd1]),
              Fact.upto 60 3 (fun v w' => ∃ gT gC gL gD, v = .agg #[.slice (some ⟨gT, 0, none⟩) nt1 nt1, .slice (some ⟨gC, 0, none⟩) nc1 nc1, .slice (some ⟨gL, 0, none⟩) nl1 nl1, .slice (some ⟨gD, 0, none⟩) nd1 nd1] ∧ ArgMc w' (some ⟨gT, 0, none⟩) nt1 nt1 (some ⟨gC, 0, none⟩) nc1 nc1 (some ⟨gL, 0, none⟩) nl1 nl1 (some ⟨gD, 0, none⟩) nd1 nd1 m1),
              Fact.is 61 (.bool true),
              Fact.is 62 (.bool false)]
            (by kernel_rfl) (by kernel_rfl) ?_ ?_ ?_
          · exact ⟨Fact.is_stable _ _, Fact.is_stable _ _, Fact.upto_stable (fun v w w' hb ⟨gT, gC, gL, gD, e, h⟩ => ⟨gT, gC, gL, gD, e, h.keep hb⟩), Fact.is_stable _ _, Fact.is_stable _ _, trivial⟩
          · have HBX := Lib.hid B9.out
            have q_p4_0_10 := Cls.keeps p4_0'10
            have q_p4_1_10 := Cls.keeps p4_1'10
            have q_p4_2_10 := Cls.keeps p4_2'10
            have q_p4_3_10 := Cls.keeps p4_3'10
            have q_p11_0_10 := Cls.keeps p11_0'10
            have q_p11_1_10 := Cls.keeps p11_1'10
            have q_p11_2_10 := Cls.keeps p11_2'10
            have q_p11_3_10 := Cls.keeps p11_3'10
            refine ⟨?_, ?_, ?_, ?_, ?_, trivial⟩
            · intro A' x hoff hdep
              have a11 : A'.eval (.tmp 11) = .pointer (some ⟨w4.heap.size, 0, none⟩) := off_of hoff 11 (by kernel_rfl)
              exact good_is rfl rfl (by generalize A'.eval = ev at *; simp [go_sem, a11, q_p11_0_10, q_p11_1_10, q_p11_2_10, q_p11_3_10])
            · intro A' x hoff hdep
              have a4 : A'.eval (.tmp 4) = .pointer (some ⟨w.heap.size + 1, 0, none⟩) := off_of hoff 4 (by kernel_rfl)
              exact good_is rfl rfl (by generalize A'.eval = ev at *; simp [go_sem, a4, q_p4_0_10, q_p4_1_10, q_p4_2_10, q_p4_3_10])
            · intro A' x hoff hdep
              have ef : ∀ f, A'.eval (.func f) = .func (.func f) #[] #[] := fun _ => rfl
              have a59 := is_of (ask_of hdep (j := 1) (by kernel_rfl)) rfl
              exact good_call_upto rfl rfl (by generalize A'.eval = ev at *; simp [go_sem, ef, a59]) ((toMachine_any (HM1.out.keep (HBX.out.trans (x.below.mono HBX.out.size))) SM1.out).mono fun e w4 ⟨gT4, gC4, gL4, gD4, xs4, h1, hb4, ho4⟩ => ⟨_, h1, hb4, gT4, gC4, gL4, gD4, rfl, ho4.arg HM1.out.nT HM1.out.nC HM1.out.nL HM1.out.nD⟩)
            · intro A' x hoff hdep
              have ef : ∀ f, A'.eval (.func f) = .func (.func f) #[] #[] := fun _ => rfl
              have a58 := is_of (ask_of hdep (j := 0) (by kernel_rfl)) rfl
              obtain ⟨gT_60, gC_60, gL_60, gD_60, a60, p60⟩ := upto_of (ask_of hdep (j := 2) (by kernel_rfl)) rfl
              exact good_call_is rfl rfl (by generalize A'.eval = ev at *; simp [go_sem, ef, a58, a60]) (eqMachine_same (RP4'10.out.keep x.below) (p60) SM1.out)
            · intro A' x hoff hdep
              have a61 := is_of (ask_of hdep (j := 3) (by kernel_rfl)) rfl
              exact good_is rfl rfl (by generalize A'.eval = ev at *; simp [go_sem, a61])
          · intro s w10 hb10 hf
            have e62 := val_of (hf 4 (by decide) rfl) rfl
            clear hf
            simp only [putAll, Act.put, List.setIfInBounds_toArray, List.set_cons_succ, List.set_cons_zero, e62]
            have B10 := Lib.hid (B9.out.trans (hb10.mono B9.out.size))
            have p3_0'11 := keeps hb10 p3_0'10
            have p3_1'11 := keeps hb10 p3_1'10
            have p4_0'11 := keeps hb10 p4_0'10
            have p4_1'11 := keeps hb10 p4_1'10
            have p4_2'11 := keeps hb10 p4_2'10
            have p4_3'11 := keeps hb10 p4_3'10
            have p8_0'11 := keeps hb10 p8_0'10
            have p8_1'11 := keeps hb10 p8_1'10
            have p8_2'11 := keeps hb10 p8_2'10
            have p8_3'11 := keeps hb10 p8_3'10
            have p10_0'11 := keeps hb10 p10_0'10
            have p10_1'11 := keeps hb10 p10_1'10
            have p11_0'11 := keeps hb10 p11_0'10
            have p11_1'11 := keeps hb10 p11_1'10
            have p11_2'11 := keeps hb10 p11_2'10
            have p11_3'11 := keeps hb10 p11_3'10
            have p12_0'11 := keeps hb10 p12_0'10
            have p12_1'11 := keeps hb10 p12_1'10
            have p12_2'11 := keeps hb10 p12_2'10
            have p12_3'11 := keeps hb10 p12_3'10
            clear p3_0'10 p3_1'10 p4_0'10 p4_1'10 p4_2'10 p4_3'10 p8_0'10 p8_1'10 p8_2'10 p8_3'10 p10_0'10 p10_1'10 p11_0'10 p11_1'10 p11_2'10 p11_3'10 p12_0'10 p12_1'10 p12_2'10 p12_3'10
            have RP2'11 := Lib.hid (RP2'10.out.keep hb10)
            have RP4'11 := Lib.hid (RP4'10.out.keep hb10)
            go_wp2
            go_ret
            exact ⟨rfl, B10.out⟩

set_option maxRecDepth 100000 in
theorem exactInstrOf_lifted (os : Os) (started : os.Started) (H : Type) (enc : TypeId × Value → H) :
    ReturnsInHanded {} Try.checked os 6 .any (Rows.fnExactInstrOfSpec.pre6 enc Try.prog Try.f6 Rows.fnExactInstrOfRow.domain false) (Rows.fnExactInstrOfSpec.post enc Try.prog Try.f6 false true false false) := by
  refine law_lifted (C := Try.checked) (tb := 4) own started (by kernel_rfl) Try.func6
    (ChangeSpec.witness6 (enc := enc) (C := Try.checked) false ⟨#[], #[.agg #[.slice none 0 0, .int .i64 0], .agg #[.slice none 0 0, .slice none 0 0, .slice none 0 0, .slice none 0 0], .int .i64 0], []⟩ 8 (by kernel_rfl) (by kernel_rfl) (by kernel_rfl) (by kernel_rfl))
    laidOut (fun t ht => ?_) rfl Try.underlying4 rfl (fun ds hds => ?_) ?_
  · have hp : t ∈ [24, 28, 3] := ht
    simp only [List.mem_cons, List.not_mem_nil, or_false] at hp
    rcases hp with rfl | rfl | rfl
    · exact ⟨by kernel_rfl, of_decide_eq_true (by kernel_rfl)⟩
    · exact ⟨by kernel_rfl, of_decide_eq_true (by kernel_rfl)⟩
    · exact ⟨by kernel_rfl, of_decide_eq_true (by kernel_rfl)⟩
  · match ds, hds with
    | [d0, d1, d2], _ => rfl
  · intro W base args ds p hval0 hA0
    have hval : ∀ (j : Nat) t v, Try.f6.params[j]? = some t → args[j]? = some v → Value.okWide Try.prog W .any base t v := hval0
    have hA : DataW.TrodAll enc Try.prog W 0 (fun _ => true) true Try.f6.params.toList args.toList ds p := hA0
    rw [Try.params6] at hA hval
    obtain ⟨v0, v1, v2, d0, d1, d2, p0, p1, p2, rfl, rfl, rfl, h0, h1, h2⟩ := trodAll_three hA
    obtain ⟨c0, c1, y0, y1, m, rfl, _, _, hy0, hy1⟩ := open_agg2 Try.underlying24 (by kernel_rfl) cells_prog (hval 0 24 v0 rfl rfl) h0
    obtain ⟨A0, cap0, rs0, e0, hv0, hm0⟩ := open_codes hy0
    obtain ⟨hd0, e1, _, _⟩ := DataW.trod_int Try.underlying3 hy1
    simp at e0 e1
    subst e0 e1
    obtain ⟨AT1, nt1, ct1, AC1, nc1, cc1, AL1, nl1, cl1, AD1, nd1, cd1, mc1, rfl, HM1, HL1⟩ := open_machine (hval 1 28 v1 rfl rfl) h1
    obtain ⟨n2, rfl, _, _, _⟩ := open_int Try.underlying3 (hval 2 3 v2 rfl rfl) h2
    exact exactInstrOf_walk A0 cap0 hd0 rs0 n2 W hv0 hm0 HM1 HL1

theorem exactInstrOf_holds : Rows.FnExactInstrOfSaid :=
  OpenClaim.holds_of_wide 6 Try.f6 rfl rfl rfl rfl rfl rfl rfl ⟨rfl, rfl, rfl, rfl, rfl⟩ rfl rfl rfl rfl rfl (by kernel_rfl) Try.func6 (by kernel_rfl)
    (of_decide_eq_true (by kernel_rfl)) (by unfold Func.isWrapper; rw [if_neg (of_decide_eq_false (by kernel_rfl))]; exact ⟨rfl, rfl⟩)
    (fun os started H enc _ => exactInstrOf_lifted os started H enc)
#print axioms exactInstrOf_holds
end Go.Proofs.Ytdhkaediffiplaa
