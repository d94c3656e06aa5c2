/-
  For every program and every row of choices, 'FnExactRunLong' answers true: both packages' 'RunLong' answer alike, and the arguments stay as they are. No condition.
-/
import Derived.Test.YtolbihilggkldaaChsO
import Derived.Test.YtolbihilggkldaaRunS
import Derived.Test.YtolbihilggkldaaRunQ
namespace Go.Proofs.Ytolbihilggkldaa
open Go.ChangeShapes Go.WideShapes Go.ChangeAt Go.RowKit Go.Joins

set_option maxRecDepth 100000 in
set_option maxHeartbeats 4000000 in
theorem exactRunLong_walk (A0 : Option Addr) (cap0 : Nat) (h0 : Int) (rs0 : List Bt.C4) (A1 : Option Addr) (cap1 : Nat) (l1 : List Bt.Ch) (w : World) (hv0 : ArgCodes w (.slice A0 rs0.length cap0) rs0) (hm0 : rs0.length ≤ maxLen) (hv1 : ArgChs w (.slice A1 l1.length cap1) l1) (hm1 : l1.length ≤ maxLen) :
    Calls Try.prog 3 #[.agg #[.slice A0 rs0.length cap0, .int .i64 h0], .slice A1 l1.length cap1] w fun e w' => e = .returned (.bool true) ∧ Below w.heap.size w w' := by
  have HV0 := Lib.hid hv0; clear hv0
  have HV1 := Lib.hid hv1; clear hv1
  have BB := Lib.hid ((Below.refl w.heap.size w).alloc (Nat.le_refl _) (.cells #[.slice A0 rs0.length cap0, .int .i64 h0] 24))
  have lo0 : (0 : Int) ≤ 1048576 := (by omega)
  have hi0 : 1048576 ≤ (1048576 : Int) := (by omega)
  by_cases hs0 : (1048576 : Int) < (rs0.length : Nat)
  · have E0 := Lib.hid (rest_neg hs0)
    go_enter Try.func3, Try.ntmps3
    go_wp2_with fail
    refine (szProg_rest _ _ _ _ _ _ hm0 lo0 hi0).mono ?_
    rw [E0.out]
    rintro e wz0 ⟨rfl, hbz0⟩
    have Bz0 := Lib.hid (BB.out.trans (hbz0.mono (by simp; try omega)))
    go_wp2
    go_ret
    exact ⟨rfl, Bz0.out⟩
  · have E0 := Lib.hid (rest_pos hs0)
    have hn0 : rs0.length ≤ 1048576 := (by omega)
    have lo1 : (0 : Int) ≤ 1048576 - (rs0.length : Nat) := (by omega)
    have hi1 : 1048576 - (rs0.length : Nat) ≤ (1048576 : Int) := (by omega)
    by_cases hs1 : (1048576 - (rs0.length : Nat) : Int) < (l1.length : Nat)
    · have E1 := Lib.hid (rest_neg hs1)
      go_enter Try.func3, Try.ntmps3
      go_wp2_with fail
      refine (szProg_rest _ _ _ _ _ _ hm0 lo0 hi0).mono ?_
      rw [E0.out]
      rintro e wz0 ⟨rfl, hbz0⟩
      have Bz0 := Lib.hid (BB.out.trans (hbz0.mono (by simp; try omega)))
      have p2_0 : wz0.cell? ⟨w.heap.size, 0, none⟩ = some (.slice A0 rs0.length cap0) := keeps hbz0 (by go_simp)
      have p2_1 : wz0.cell? ⟨w.heap.size, 1, none⟩ = some (.int .i64 h0) := keeps hbz0 (by go_simp)
      go_wp2_with fail
      refine (szChs_any _ _ _ _ _ hm1 lo1 hi1).mono ?_
      rw [E1.out]
      rintro e wz1 ⟨rfl, hbz1⟩
      have Bz1 := Lib.hid (Bz0.out.trans (hbz1.mono Bz0.out.size))
      go_wp2
      go_ret
      exact ⟨rfl, Bz1.out⟩
    · have E1 := Lib.hid (rest_pos hs1)
      have hn1 : l1.length ≤ 1048576 := (by omega)
      have loe : (0 : Int) ≤ 1048576 - (rs0.length : Nat) - (l1.length : Nat) := (by omega)
      go_enter Try.func3, Try.ntmps3
      go_wp2_with fail
      refine (szProg_rest _ _ _ _ _ _ hm0 lo0 hi0).mono ?_
      rw [E0.out]
      rintro e wz0 ⟨rfl, hbz0⟩
      have Bz0 := Lib.hid (BB.out.trans (hbz0.mono (by simp; try omega)))
      have p2_0 : wz0.cell? ⟨w.heap.size, 0, none⟩ = some (.slice A0 rs0.length cap0) := keeps hbz0 (by go_simp)
      have p2_1 : wz0.cell? ⟨w.heap.size, 1, none⟩ = some (.int .i64 h0) := keeps hbz0 (by go_simp)
      go_wp2_with fail
      refine (szChs_any _ _ _ _ _ hm1 lo1 hi1).mono ?_
      rw [E1.out]
      rintro e wz1 ⟨rfl, hbz1⟩
      have Bz1 := Lib.hid (Bz0.out.trans (hbz1.mono Bz0.out.size))
      have p2_0'1 := keeps hbz1 p2_0
      have p2_1'1 := keeps hbz1 p2_1
      clear p2_0 p2_1
      go_wp2_with fail
      refine (toProgram_any _ _ rs0 _ hn0 (HV0.out.keep (Bz1.out))).mono ?_
      rintro e w1 ⟨ga, rfl, hga, hb1, hoa⟩
      have B1 := Lib.hid (Bz1.out.trans (hb1.mono Bz1.out.size))
      have p2_0'2 := keeps hb1 p2_0'1
      have p2_1'2 := keeps hb1 p2_1'1
      clear p2_0'1 p2_1'1
      have RPa : Hid (ArgPr w1 ga 0 rs0.length rs0.length rs0) := Lib.hid (ProgMade.pr hoa hn0)
      clear hoa
      go_wp2_with fail
      refine (toChs_any _ l1 _ hn1 (HV1.out.keep B1.out)).mono ?_
      rintro e w2 ⟨rfl, hb2, hcb⟩
      have B2 := Lib.hid (B1.out.trans (hb2.mono B1.out.size))
      have p2_0'3 := keeps hb2 p2_0'2
      have p2_1'3 := keeps hb2 p2_1'2
      clear p2_0'2 p2_1'2
      have RPa'3 := Lib.hid (RPa.out.keep hb2)
      obtain ⟨gxb, hgxb⟩ : ∃ g, g = w1.heap.size := ⟨_, rfl⟩
      rw [← hgxb] at hcb ⊢
      clear hgxb
      have RCb : Hid (ArgChs w2 (.slice (some ⟨gxb, 0, none⟩) l1.length l1.length) l1) := Lib.hid hcb.arg
      clear hcb
      go_wp2_with fail
      refine (specRunLong_any h0 _ RPa'3.out RCb.out rfl hn1).mono ?_
      rintro e w3 ⟨rfl, hb3⟩
      have B3 := Lib.hid (B2.out.trans (hb3.mono B2.out.size))
      have p2_0'4 := keeps hb3 p2_0'3
      have p2_1'4 := keeps hb3 p2_1'3
      clear p2_0'3 p2_1'3
      have RPa'4 := Lib.hid (RPa'3.out.keep hb3)
      have RCb'4 := Lib.hid (RCb.out.keep hb3)
      go_wp2_with fail
      refine (toProgram_any _ _ rs0 _ hn0 (HV0.out.keep (B3.out))).mono ?_
      rintro e w4 ⟨gx, rfl, hgx, hb4, hox⟩
      have B4 := Lib.hid (B3.out.trans (hb4.mono B3.out.size))
      have p2_0'5 := keeps hb4 p2_0'4
      have p2_1'5 := keeps hb4 p2_1'4
      clear p2_0'4 p2_1'4
      have RPx : Hid (ArgPr w4 gx 0 rs0.length rs0.length rs0) := Lib.hid (ProgMade.pr hox hn0)
      clear hox
      have l5_1 : w.heap.size < w4.heap.size := cell_lt p2_0'5
      go_wp2_with fail
      obtain ⟨w5, hW5⟩ : ∃ W : World, W = w4.alloc (.cells #[.slice (some ⟨gx, 0, none⟩) rs0.length rs0.length, .int .i64 h0] 31) := ⟨_, rfl⟩
      have hb5 : Below w4.heap.size w4 w5 := by rw [hW5]; exact (Below.refl _ _).alloc (Nat.le_refl _) _
      have p7_0 : w5.cell? ⟨w4.heap.size, 0, none⟩ = some (.slice (some ⟨gx, 0, none⟩) rs0.length rs0.length) := by rw [hW5]; go_simp
      have p7_1 : w5.cell? ⟨w4.heap.size, 1, none⟩ = some (.int .i64 h0) := by rw [hW5]; go_simp
      have HW5 := Lib.hid hW5; clear hW5
      have B5 := Lib.hid (B4.out.trans (hb5.mono B4.out.size))
      have p2_0'6 := keeps hb5 p2_0'5
      have p2_1'6 := keeps hb5 p2_1'5
      clear p2_0'5 p2_1'5
      have RPx'6 := Lib.hid (RPx.out.keep hb5)
      rw [← HW5.out]
      clear l5_1
      refine (toChs_any _ l1 _ hn1 (HV1.out.keep B5.out)).mono ?_
      rintro e w6 ⟨rfl, hb6, hcy⟩
      have B6 := Lib.hid (B5.out.trans (hb6.mono B5.out.size))
      have p2_0'7 := keeps hb6 p2_0'6
      have p2_1'7 := keeps hb6 p2_1'6
      have p7_0'7 := keeps hb6 p7_0
      have p7_1'7 := keeps hb6 p7_1
      clear p2_0'6 p2_1'6 p7_0 p7_1
      have RPx'7 := Lib.hid (RPx'6.out.keep hb6)
      obtain ⟨gxy, hgxy⟩ : ∃ g, g = w5.heap.size := ⟨_, rfl⟩
      rw [← hgxy] at hcy ⊢
      clear hgxy
      have RCy : Hid (ArgChs w6 (.slice (some ⟨gxy, 0, none⟩) l1.length l1.length) l1) := Lib.hid hcy.arg
      clear hcy
      go_wp2_with fail
      refine (implRunLong_any h0 _ RPx'7.out RCy.out rfl hn1).mono ?_
      rintro e w7 ⟨rfl, hb7⟩
      have B7 := Lib.hid (B6.out.trans (hb7.mono B6.out.size))
      have p2_0'8 := keeps hb7 p2_0'7
      have p2_1'8 := keeps hb7 p2_1'7
      have p7_0'8 := keeps hb7 p7_0'7
      have p7_1'8 := keeps hb7 p7_1'7
      clear p2_0'7 p2_1'7 p7_0'7 p7_1'7
      have RPx'8 := Lib.hid (RPx'7.out.keep hb7)
      have RCy'8 := Lib.hid (RCy.out.keep hb7)
      generalize Bt.runLong rs0 h0 l1 = q at *
      go_wp2_with fail
      refine wp_region_ord_cls [Fact.is 35 (.agg #[.slice (some ⟨gx, 0, none⟩) rs0.length rs0.length, .int .i64 h0]),
          Fact.is 36 (.agg #[.slice A0 rs0.length cap0, .int .i64 h0]),
          Fact.upto 37 3 (fun v w' => ∃ g, v = .agg #[.slice (some ⟨g, 0, none⟩) rs0.length rs0.length, .int .i64 h0] ∧ ArgPr w' g 0 rs0.length rs0.length rs0),
          Fact.is 38 (.bool true),
          Fact.is 39 (.bool false)]
        (by kernel_rfl) (by kernel_rfl) ?_ ?_ ?_
      · exact ⟨Fact.is_stable _ _, Fact.is_stable _ _, Fact.upto_stable (fun v w w' hb ⟨g, e, h⟩ => ⟨g, e, h.keep hb⟩), Fact.is_stable _ _, Fact.is_stable _ _, trivial⟩
      · have HBX := Lib.hid B7.out
        have q_p2_0_8 := Cls.keeps p2_0'8
        have q_p2_1_8 := Cls.keeps p2_1'8
        have q_p7_0_8 := Cls.keeps p7_0'8
        have q_p7_1_8 := Cls.keeps p7_1'8
        refine ⟨?_, ?_, ?_, ?_, ?_, trivial⟩
        · intro A' x hoff hdep _hdif
          have a7 : A'.eval (.tmp 7) = .pointer (some ⟨w4.heap.size, 0, none⟩) := off_of hoff 7 (by kernel_rfl)
          exact good_is rfl rfl (by generalize A'.eval = ev at *; simp [go_sem, a7, q_p7_0_8, q_p7_1_8])
        · intro A' x hoff hdep _hdif
          have a2 : A'.eval (.tmp 2) = .pointer (some ⟨w.heap.size, 0, none⟩) := off_of hoff 2 (by kernel_rfl)
          exact good_is rfl rfl (by generalize A'.eval = ev at *; simp [go_sem, a2, q_p2_0_8, q_p2_1_8])
        · intro A' x hoff hdep _hdif
          have ef : ∀ f, A'.eval (.func f) = .func (.func f) #[] #[] := fun _ => rfl
          have a36 := is_of (ask_of hdep (j := 1) (by kernel_rfl)) rfl
          exact good_call_upto rfl rfl (by generalize A'.eval = ev at *; simp [go_sem, ef, a36]) ((toProgram_any _ _ rs0 _ hn0 (HV0.out.keep (HBX.out.trans (x.below.mono HBX.out.size)))).mono fun e w3 ⟨g3, h1, hg3, hb3, ho3⟩ => ⟨_, h1, hb3, g3, rfl, ProgMade.pr ho3 hn0⟩)
        · intro A' x hoff hdep _hdif
          have ef : ∀ f, A'.eval (.func f) = .func (.func f) #[] #[] := fun _ => rfl
          have a35 := is_of (ask_of hdep (j := 0) (by kernel_rfl)) rfl
          obtain ⟨g_37, a37, p37⟩ := upto_of (ask_of hdep (j := 2) (by kernel_rfl)) rfl
          exact good_call_is rfl rfl (by generalize A'.eval = ev at *; simp [go_sem, ef, a35, a37]) (eqProgram_same _ _ _ _ _ _ rs0 h0 _ hn0 (Nat.le_refl _) (Nat.le_refl _) (RPx'8.out.keep x.below).codes (p37).codes)
        · intro A' x hoff hdep _hdif
          have a38 := is_of (ask_of hdep (j := 3) (by kernel_rfl)) rfl
          exact good_is rfl rfl (by generalize A'.eval = ev at *; simp [go_sem, a38])
      · intro s w8 hb8 hf _hdf
        have e39 := val_of (hf 4 (by decide) rfl) rfl
        clear hf
        simp only [putAll, Act.put, List.setIfInBounds_toArray, List.set_cons_succ, List.set_cons_zero, e39]
        have B8 := Lib.hid (B7.out.trans (hb8.mono B7.out.size))
        have p2_0'9 := keeps hb8 p2_0'8
        have p2_1'9 := keeps hb8 p2_1'8
        have p7_0'9 := keeps hb8 p7_0'8
        have p7_1'9 := keeps hb8 p7_1'8
        clear p2_0'8 p2_1'8 p7_0'8 p7_1'8
        have RCy'9 := Lib.hid (RCy'8.out.keep hb8)
        have RPx'9 := Lib.hid (RPx'8.out.keep hb8)
        go_wp2_with fail
        refine (toChs_any _ l1 _ hn1 (HV1.out.keep B8.out)).mono ?_
        rintro e w9 ⟨rfl, hb9, hcz⟩
        have B9 := Lib.hid (B8.out.trans (hb9.mono B8.out.size))
        have p2_0'10 := keeps hb9 p2_0'9
        have p2_1'10 := keeps hb9 p2_1'9
        have p7_0'10 := keeps hb9 p7_0'9
        have p7_1'10 := keeps hb9 p7_1'9
        clear p2_0'9 p2_1'9 p7_0'9 p7_1'9
        have RCy'10 := Lib.hid (RCy'9.out.keep hb9)
        have RPx'10 := Lib.hid (RPx'9.out.keep hb9)
        obtain ⟨gxz, hgxz⟩ : ∃ g, g = w8.heap.size := ⟨_, rfl⟩
        rw [← hgxz] at hcz ⊢
        clear hgxz
        have RCz : Hid (ArgChs w9 (.slice (some ⟨gxz, 0, none⟩) l1.length l1.length) l1) := Lib.hid hcz.arg
        clear hcz
        go_wp2_with fail
        refine (eqChs_same _ _ l1 _ hn1 RCy'10.out RCz.out).mono ?_
        rintro e w10 ⟨rfl, hb10⟩
        have B10 := Lib.hid (B9.out.trans (hb10.mono B9.out.size))
        have p2_0'11 := keeps hb10 p2_0'10
        have p2_1'11 := keeps hb10 p2_1'10
        have p7_0'11 := keeps hb10 p7_0'10
        have p7_1'11 := keeps hb10 p7_1'10
        clear p2_0'10 p2_1'10 p7_0'10 p7_1'10
        have RCy'11 := Lib.hid (RCy'10.out.keep hb10)
        have RPx'11 := Lib.hid (RPx'10.out.keep hb10)
        have RCz'11 := Lib.hid (RCz.out.keep hb10)
        go_wp2
        go_ret
        exact ⟨rfl, B10.out⟩

set_option maxRecDepth 100000 in
theorem exactRunLong_lifted (os : Os) (started : os.Started) (H : Type) (enc : TypeId × Value → H) :
    ReturnsInHanded {} Try.checked os 3 .any (Rows.fnExactRunLongSpec.pre6 enc Try.prog Try.f3 Rows.fnExactRunLongRow.domain false) (Rows.fnExactRunLongSpec.post enc Try.prog Try.f3 false true false false) := by
  refine law_lifted (C := Try.checked) (tb := 4) own started (by kernel_rfl) Try.func3
    (ChangeSpec.witness6 (enc := enc) (C := Try.checked) false ⟨#[], #[.agg #[.slice none 0 0, .int .i64 0], .slice none 0 0], []⟩ 8 (by kernel_rfl) (by kernel_rfl) (by kernel_rfl) (by kernel_rfl))
    laidOut (fun t ht => ?_) rfl Try.underlying4 rfl (fun ds hds => ?_) ?_
  · have hp : t ∈ [24, 25] := ht
    simp only [List.mem_cons, List.not_mem_nil, or_false] at hp
    rcases hp with rfl | rfl
    · exact ⟨by kernel_rfl, of_decide_eq_true (by kernel_rfl)⟩
    · exact ⟨by kernel_rfl, of_decide_eq_true (by kernel_rfl)⟩
  · match ds, hds with
    | [d0, d1], _ => rfl
  · intro W base args ds p hval0 hA0
    have hval : ∀ (j : Nat) t v, Try.f3.params[j]? = some t → args[j]? = some v → Value.okWide Try.prog W .any base t v := hval0
    have hA : DataW.TrodAll enc Try.prog W 0 (fun _ => true) true Try.f3.params.toList args.toList ds p := hA0
    rw [Try.params3] at hA hval
    obtain ⟨v0, v1, d0, d1, p0, p1, rfl, rfl, rfl, h0, h1⟩ := trodAll_two hA
    obtain ⟨c0, c1, y0, y1, m, rfl, _, _, hy0, hy1⟩ := open_agg2 Try.underlying24 (by kernel_rfl) cells_prog (hval 0 24 v0 rfl rfl) h0
    obtain ⟨A0, cap0, rs0, e0, hv0, hm0⟩ := open_codes hy0
    obtain ⟨hd0, e1, _, _⟩ := DataW.trod_int Try.underlying3 hy1
    simp at e0 e1
    subst e0 e1
    obtain ⟨a1, q1, r1, rfl⟩ := okWide_slice Try.underlying25 (hval 1 25 v1 rfl rfl)
    obtain ⟨fu1, hf1⟩ := h1
    obtain ⟨A1, cap1, l1, e0, hv1, hm1⟩ := open_chs hf1
    simp [Value.cells] at e0
    obtain ⟨rfl, rfl, rfl⟩ := e0
    exact exactRunLong_walk A0 cap0 hd0 rs0 _ _ l1 W hv0 hm0 hv1 hm1

theorem exactRunLong_holds : Rows.FnExactRunLongSaid :=
  OpenClaim.holds_of_wide 3 Try.f3 rfl rfl rfl rfl rfl rfl rfl ⟨rfl, rfl, rfl, rfl, rfl⟩ rfl rfl rfl rfl rfl (by kernel_rfl) Try.func3 (by kernel_rfl)
    (of_decide_eq_true (by kernel_rfl)) (by unfold Func.isWrapper; rw [if_neg (of_decide_eq_false (by kernel_rfl))]; exact ⟨rfl, rfl⟩)
    (fun os started H enc _ => exactRunLong_lifted os started H enc)
#print axioms exactRunLong_holds
end Go.Proofs.Ytolbihilggkldaa
