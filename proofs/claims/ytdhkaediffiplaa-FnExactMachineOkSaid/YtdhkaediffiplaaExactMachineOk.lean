/-
  For every program and every machine, 'FnExactMachineOk' answers true: both packages' 'MachineOk' answer alike, and the arguments stay as they are. No condition.
-/
import Derived.Test.YtdhkaediffiplaaArgsB
import Derived.Test.YtdhkaediffiplaaMokS
import Derived.Deep.RegionHeld3
namespace Go.Proofs.Ytdhkaediffiplaa
open Go.ChangeShapes Go.WideShapes Go.ChangeAt Go.RowKit Go.Joins

theorem szProg_rest (A : Option Addr) (n cap : Nat) (h left : Int) (w : World) (hn : n ≤ maxLen) (h0 : 0 ≤ left) (h1 : left ≤ 1048576) :
    Calls Try.prog 12 #[.agg #[.slice A n cap, .int .i64 h], .int .i64 left] w fun e w' => e = .returned (.int .i64 (rest left n)) ∧ Below w.heap.size w w' := szProgram_any A n cap h left w hn h0 h1
theorem ProgMade.pr {rs : List Bt.C4} {w' : World} {g : Nat} (h : CodesOwn w' g rs) (hn : rs.length ≤ 1048576) : ArgPr w' g 0 rs.length rs.length rs := ⟨rfl, hn, Nat.le_refl _, h.codes⟩

set_option maxHeartbeats 4000000 in
theorem exactMachineOk_walk {AT AC AL AD : Option Addr} {nt ct nc cc nl cl nd cd : Nat} {m : Bt.Mc} (A : Option Addr) (cap : Nat) (h : Int) (rs : List Bt.C4) (w : World) (hv : ArgCodes w (.slice A rs.length cap) rs) (hm : rs.length ≤ maxLen)
    (H : ArgMc w AT nt ct AC nc cc AL nl cl AD nd cd m) (hL : Lens m) :
    Calls Try.prog 3 #[.agg #[.slice A rs.length cap, .int .i64 h], .agg #[.slice AT nt ct, .slice AC nc cc, .slice AL nl cl, .slice AD nd cd]] w fun e w' => e = .returned (.bool true) ∧ Below w.heap.size w w' := by
  have HV := Lib.hid hv; clear hv
  have HM := Lib.hid H; clear H
  have HL := Lib.hid hL; clear hL
  have BB := Lib.hid (((Below.refl w.heap.size w).alloc (Nat.le_refl _) (.cells #[.slice A rs.length cap, .int .i64 h] 24)).alloc (by simp) (.cells #[.slice AT nt ct, .slice AC nc cc, .slice AL nl cl, .slice AD nd cd] 28))
  by_cases hn : rs.length ≤ 1048576
  · have E1 := Lib.hid (rest_pos (left := 1048576) (n := rs.length) (by omega))
    have lo : (0 : Int) ≤ 1048576 - rs.length := by omega
    have hi : (1048576 : Int) - rs.length ≤ 1048576 := by omega
    by_cases hs : ((1048576 : Int) - rs.length) < Bt.mcSz m
    · have E2 := Lib.hid (rest_neg hs)
      go_enter Try.func3, Try.ntmps3
      go_wp2_with fail
      refine (szProg_rest _ _ _ _ _ _ hm (by omega) (by omega)).mono ?_
      rw [E1.out]
      rintro e w1 ⟨rfl, hb1⟩
      obtain ⟨hc1, hf1⟩ := bcell hb1
      have B1 : Below w.heap.size w w1 := BB.out.trans (hb1.mono (by simp; omega))
      go_wp2_with fail
      refine (szMachine_any _ _ (HM.out.keep B1) HL.out lo hi).mono ?_
      rw [E2.out]
      rintro e w2 ⟨rfl, hb2⟩
      go_wp2
      go_ret
      exact ⟨rfl, B1.trans (hb2.mono B1.size)⟩
    · have E2 := Lib.hid (rest_pos hs)
      have SM := Lib.hid (Small.of (m := m) (by omega))
      have lo2 : (0 : Int) ≤ 1048576 - rs.length - Bt.mcSz m := by omega
      go_enter Try.func3, Try.ntmps3
      go_wp2_with fail
      refine (szProg_rest _ _ _ _ _ _ hm (by omega) (by omega)).mono ?_
      rw [E1.out]
      rintro e w1 ⟨rfl, hb1⟩
      have B1 : Below w.heap.size w w1 := BB.out.trans (hb1.mono (by simp; omega))
      have p0 : w1.cell? ⟨w.heap.size, 0, none⟩ = some (.slice A rs.length cap) := keeps hb1 (by simp)
      have p1 : w1.cell? ⟨w.heap.size, 1, none⟩ = some (.int .i64 h) := keeps hb1 (by simp)
      have m0 : w1.cell? ⟨w.heap.size + 1, 0, none⟩ = some (.slice AT nt ct) := keeps hb1 (by simp)
      have m1 : w1.cell? ⟨w.heap.size + 1, 1, none⟩ = some (.slice AC nc cc) := keeps hb1 (by simp)
      have m2 : w1.cell? ⟨w.heap.size + 1, 2, none⟩ = some (.slice AL nl cl) := keeps hb1 (by simp)
      have m3 : w1.cell? ⟨w.heap.size + 1, 3, none⟩ = some (.slice AD nd cd) := keeps hb1 (by simp)
      go_wp2_with fail
      refine (szMachine_any _ _ (HM.out.keep B1) HL.out lo hi).mono ?_
      rw [E2.out]
      rintro e w2 ⟨rfl, hb2⟩
      have B2 : Below w.heap.size w w2 := B1.trans (hb2.mono B1.size)
      have s0 := keeps hb2 p0
      have s1 := keeps hb2 p1
      have s2 := keeps hb2 m0
      have s3 := keeps hb2 m1
      have s4 := keeps hb2 m2
      have s5 := keeps hb2 m3
      clear p0 p1 m0 m1 m2 m3
      have sx : ∀ W' : World, Below w2.drew.heap.size w2.drew W' → W'.cell? ⟨w.heap.size, 0, none⟩ = some (.slice A rs.length cap) ∧ W'.cell? ⟨w.heap.size, 1, none⟩ = some (.int .i64 h) ∧ W'.cell? ⟨w.heap.size + 1, 0, none⟩ = some (.slice AT nt ct) ∧ W'.cell? ⟨w.heap.size + 1, 1, none⟩ = some (.slice AC nc cc) ∧ W'.cell? ⟨w.heap.size + 1, 2, none⟩ = some (.slice AL nl cl) ∧ W'.cell? ⟨w.heap.size + 1, 3, none⟩ = some (.slice AD nd cd) :=
        fun W' hb => ⟨keeps hb s0, keeps hb s1, keeps hb s2, keeps hb s3, keeps hb s4, keeps hb s5⟩
      have SX := Lib.hid sx; clear sx
      go_wp2_with fail
      go_region_held3 (fun W' => W'.cell? ⟨w.heap.size, 0, none⟩ = some (.slice A rs.length cap) ∧ W'.cell? ⟨w.heap.size, 1, none⟩ = some (.int .i64 h) ∧ W'.cell? ⟨w.heap.size + 1, 0, none⟩ = some (.slice AT nt ct) ∧ W'.cell? ⟨w.heap.size + 1, 1, none⟩ = some (.slice AC nc cc) ∧ W'.cell? ⟨w.heap.size + 1, 2, none⟩ = some (.slice AL nl cl) ∧ W'.cell? ⟨w.heap.size + 1, 3, none⟩ = some (.slice AD nd cd))
        (first | (exact SX.out _ hb3) | (exact SX.out _ hb4) | (exact SX.out _ (hb3.trans (hb4.mono hb3.size))) | (exact SX.out _ (hb4.trans (hb3.mono hb4.size))) | (exact SX.out _ ((hb3.trans (hb4.mono hb3.size)).trans (hb5.mono (Nat.le_trans hb3.size hb4.size)))) | (exact SX.out _ ((hb4.trans (hb3.mono hb4.size)).trans (hb5.mono (Nat.le_trans hb4.size hb3.size)))) | go_keep)
        (first | (go_at_call 15; (first | (with_reducible refine (toProgram_any _ _ rs _ hn (HV.out.keep B2.drew)).mono ?_) | (with_reducible refine (toProgram_any _ _ rs _ hn (HV.out.keep (B2.drew.trans (hb4.mono B2.drew.size)))).mono ?_)); rintro e w3 hp; obtain ⟨g3, rfl, hg3, hb3, ho3⟩ := hp) | (go_at_call 16; (first | (with_reducible refine (toMachine_any (HM.out.keep B2.drew) SM.out).mono ?_) | (with_reducible refine (toMachine_any (HM.out.keep (B2.drew.trans (hb3.mono B2.drew.size))) SM.out).mono ?_)); rintro e w4 hp; obtain ⟨gT4, gC4, gL4, gD4, xs4, rfl, hb4, ho4⟩ := hp) | (go_at_call 14; (first | (with_reducible refine (specMachineOk_any _ _ ((ProgMade.pr ho3 hn).keep hb4) (ho4.arg HM.out.nT HM.out.nC HM.out.nL HM.out.nD) SM.out).mono ?_) | (with_reducible refine (specMachineOk_any _ _ (ProgMade.pr ho3 hn) ((ho4.keep hb3).arg HM.out.nT HM.out.nC HM.out.nL HM.out.nD) SM.out).mono ?_)); rintro e w5 ⟨rfl, hb5⟩))
      all_goals
        have K5 : Below w2.drew.heap.size w2.drew w5 := by
          first
          | exact (hb3.trans (hb4.mono hb3.size)).trans (hb5.mono (Nat.le_trans hb3.size hb4.size))
          | exact (hb4.trans (hb3.mono hb4.size)).trans (hb5.mono (Nat.le_trans hb4.size hb3.size))
        have B5 : Below w.heap.size w w5 := B2.drew.trans (K5.mono B2.drew.size)
        have HK5 := Lib.hid K5
        obtain ⟨t0, t1, t2, t3, t4, t5⟩ := SX.out _ K5
        clear K5 hb3 hb4 hb5 s0 s1 s2 s3 s4 s5 ho3 ho4 hg3
        go_wp2_with fail
        refine (toProgram_any _ _ rs _ hn (HV.out.keep B5)).mono ?_
        rintro e w6 hp
        obtain ⟨g6, rfl, hg6, hb6, ho6⟩ := hp
        have B6 := B5.trans (hb6.mono B5.size)
        have O6 := Lib.hid ho6; clear ho6
        have BX := Lib.hid ((Below.refl w6.heap.size w6).alloc (Nat.le_refl _) (.cells #[.slice (some ⟨g6, 0, none⟩) rs.length rs.length, .int .i64 h] 34))
        have u0 := keeps hb6 t0
        have u1 := keeps hb6 t1
        have u2 := keeps hb6 t2
        have u3 := keeps hb6 t3
        have u4 := keeps hb6 t4
        have u5 := keeps hb6 t5
        have s60 : w.heap.size < w6.heap.size := by have := cell_lt u0; simpa using this
        have s61 : w.heap.size + 1 < w6.heap.size := by have := cell_lt u2; simpa using this
        clear t0 t1 t2 t3 t4 t5
        go_wp2_with fail
        refine (toMachine_any (HM.out.keep (B6.trans (BX.out.mono B6.size))) SM.out).mono ?_
        rintro e w7 ⟨gT7, gC7, gL7, gD7, xs7, rfl, hb7, ho7⟩
        have HB7 := Lib.hid (BX.out.trans (hb7.mono (by simp)))
        have MC7 := Lib.hid (ho7.arg HM.out.nT HM.out.nC HM.out.nL HM.out.nD)
        have PR7 := Lib.hid ((ProgMade.pr O6.out hn).keep HB7.out)
        clear ho7
        have v0 := keeps HB7.out u0
        have v1 := keeps HB7.out u1
        have v2 := keeps HB7.out u2
        have v3 := keeps HB7.out u3
        have v4 := keeps HB7.out u4
        have v5 := keeps HB7.out u5
        clear u0 u1 u2 u3 u4 u5
        have x0 : w7.cell? ⟨w6.heap.size, 0, none⟩ = some (.slice (some ⟨g6, 0, none⟩) rs.length rs.length) := keeps hb7 (by simp)
        have x1 : w7.cell? ⟨w6.heap.size, 1, none⟩ = some (.int .i64 h) := keeps hb7 (by simp)
        have s76 : w6.heap.size < w7.heap.size := by have := cell_lt x0; simpa using this
        go_wp2_with fail
        refine (implMachineOk_any h _ (PR7.out.keep ((Below.refl _ _).alloc (Nat.le_refl _) _)) (MC7.out.keep ((Below.refl _ _).alloc (Nat.le_refl _) _)) SM.out).mono ?_
        generalize Bt.machOk rs h m = q at *
        rintro e w8 ⟨rfl, hb8⟩
        have H78 := Lib.hid (((Below.refl w7.heap.size w7).alloc (Nat.le_refl _) (.cells #[.slice (some ⟨gT7, 0, none⟩) nt nt, .slice (some ⟨gC7, 0, none⟩) nc nc, .slice (some ⟨gL7, 0, none⟩) nl nl, .slice (some ⟨gD7, 0, none⟩) nd nd] 38)).trans (hb8.mono (by simp)))
        have B7 := B6.trans (HB7.out.mono B6.size)
        have B8 := B7.trans (H78.out.mono B7.size)
        have g0 := keeps H78.out v0
        have g1 := keeps H78.out v1
        have g2 := keeps H78.out v2
        have g3 := keeps H78.out v3
        have g4 := keeps H78.out v4
        have g5 := keeps H78.out v5
        have k0 := keeps H78.out x0
        have k1 := keeps H78.out x1
        have l0 : w8.cell? ⟨w7.heap.size, 0, none⟩ = some (.slice (some ⟨gT7, 0, none⟩) nt nt) := keeps hb8 (by simp)
        have l1 : w8.cell? ⟨w7.heap.size, 1, none⟩ = some (.slice (some ⟨gC7, 0, none⟩) nc nc) := keeps hb8 (by simp)
        have l2 : w8.cell? ⟨w7.heap.size, 2, none⟩ = some (.slice (some ⟨gL7, 0, none⟩) nl nl) := keeps hb8 (by simp)
        have l3 : w8.cell? ⟨w7.heap.size, 3, none⟩ = some (.slice (some ⟨gD7, 0, none⟩) nd nd) := keeps hb8 (by simp)
        have MC8 := Lib.hid (MC7.out.keep H78.out)
        have PR8 := Lib.hid (PR7.out.keep H78.out)
        clear v0 v1 v2 v3 v4 v5 x0 x1
        -- the program that was handed in
        have SP := Lib.hid (fun (W' : World) (hb : Below w8.drew.heap.size w8.drew W') => (⟨keeps hb k0, keeps hb k1, keeps hb g0, keeps hb g1⟩ : W'.cell? ⟨w6.heap.size, 0, none⟩ = some (.slice (some ⟨g6, 0, none⟩) rs.length rs.length) ∧ W'.cell? ⟨w6.heap.size, 1, none⟩ = some (.int .i64 h) ∧ W'.cell? ⟨w.heap.size, 0, none⟩ = some (.slice A rs.length cap) ∧ W'.cell? ⟨w.heap.size, 1, none⟩ = some (.int .i64 h)))
        go_wp2_with fail
        go_region_held3 (fun W' => W'.cell? ⟨w6.heap.size, 0, none⟩ = some (.slice (some ⟨g6, 0, none⟩) rs.length rs.length) ∧ W'.cell? ⟨w6.heap.size, 1, none⟩ = some (.int .i64 h) ∧ W'.cell? ⟨w.heap.size, 0, none⟩ = some (.slice A rs.length cap) ∧ W'.cell? ⟨w.heap.size, 1, none⟩ = some (.int .i64 h))
          (first | (exact SP.out _ hb9) | (exact SP.out _ (hb9.trans (hb10.mono hb9.size))) | go_keep)
          (first | (go_at_call 15; refine (toProgram_any _ _ rs _ hn (HV.out.keep B8.drew)).mono ?_; rintro e w9 hp; obtain ⟨g9, rfl, hg9, hb9, ho9⟩ := hp) | (go_at_call 18; refine (eqProgram_same _ _ _ _ _ _ rs _ _ hn (Nat.le_refl _) (Nat.le_refl _) ((show CodesAt w8.drew g6 0 rs from PR8.out.codes).keep hb9) ho9.codes).mono ?_; rintro e w10 ⟨rfl, hb10⟩))
        have H810 := hb9.trans (hb10.mono hb9.size)
        have B10 := B8.drew.trans (H810.mono B8.drew.size)
        have j0 := keeps H810 l0
        have j1 := keeps H810 l1
        have j2 := keeps H810 l2
        have j3 := keeps H810 l3
        have i2 := keeps H810 g2
        have i3 := keeps H810 g3
        have i4 := keeps H810 g4
        have i5 := keeps H810 g5
        have MC10 := Lib.hid ((MC8.out.keep (Below.refl _ _).drew).keep H810)
        have SQ := Lib.hid (fun (W' : World) (hb : Below w10.drew.heap.size w10.drew W') => (⟨keeps hb j0, keeps hb j1, keeps hb j2, keeps hb j3, keeps hb i2, keeps hb i3, keeps hb i4, keeps hb i5⟩ : W'.cell? ⟨w7.heap.size, 0, none⟩ = some (.slice (some ⟨gT7, 0, none⟩) nt nt) ∧ W'.cell? ⟨w7.heap.size, 1, none⟩ = some (.slice (some ⟨gC7, 0, none⟩) nc nc) ∧ W'.cell? ⟨w7.heap.size, 2, none⟩ = some (.slice (some ⟨gL7, 0, none⟩) nl nl) ∧ W'.cell? ⟨w7.heap.size, 3, none⟩ = some (.slice (some ⟨gD7, 0, none⟩) nd nd) ∧
          W'.cell? ⟨w.heap.size + 1, 0, none⟩ = some (.slice AT nt ct) ∧ W'.cell? ⟨w.heap.size + 1, 1, none⟩ = some (.slice AC nc cc) ∧ W'.cell? ⟨w.heap.size + 1, 2, none⟩ = some (.slice AL nl cl) ∧ W'.cell? ⟨w.heap.size + 1, 3, none⟩ = some (.slice AD nd cd)))
        clear k0 k1 g0 g1 g2 g3 g4 g5 l0 l1 l2 l3 ho9 hg9 hb9 hb10 H810
        go_wp2_with fail
        go_region_held3 (fun W' => W'.cell? ⟨w7.heap.size, 0, none⟩ = some (.slice (some ⟨gT7, 0, none⟩) nt nt) ∧ W'.cell? ⟨w7.heap.size, 1, none⟩ = some (.slice (some ⟨gC7, 0, none⟩) nc nc) ∧ W'.cell? ⟨w7.heap.size, 2, none⟩ = some (.slice (some ⟨gL7, 0, none⟩) nl nl) ∧ W'.cell? ⟨w7.heap.size, 3, none⟩ = some (.slice (some ⟨gD7, 0, none⟩) nd nd) ∧
          W'.cell? ⟨w.heap.size + 1, 0, none⟩ = some (.slice AT nt ct) ∧ W'.cell? ⟨w.heap.size + 1, 1, none⟩ = some (.slice AC nc cc) ∧ W'.cell? ⟨w.heap.size + 1, 2, none⟩ = some (.slice AL nl cl) ∧ W'.cell? ⟨w.heap.size + 1, 3, none⟩ = some (.slice AD nd cd))
          (first | (exact SQ.out _ hb11) | (exact SQ.out _ (hb11.trans (hb12.mono hb11.size))) | go_keep)
          (first | (go_at_call 16; refine (toMachine_any (HM.out.keep B10.drew) SM.out).mono ?_; rintro e w11 hp; obtain ⟨gT11, gC11, gL11, gD11, xs11, rfl, hb11, ho11⟩ := hp) | (go_at_call 19; refine (eqMachine_same ((MC10.out.keep (Below.refl _ _).drew).keep hb11) (ho11.arg HM.out.nT HM.out.nC HM.out.nL HM.out.nD) SM.out).mono ?_; rintro e w12 ⟨rfl, hb12⟩))
        go_wp2
        go_ret
        exact ⟨rfl, B10.drew.trans ((hb11.trans (hb12.mono hb11.size)).mono B10.drew.size)⟩
  · have E1 := Lib.hid (rest_neg (left := 1048576) (n := rs.length) (by omega))
    go_enter Try.func3, Try.ntmps3
    go_wp2_with fail
    refine (szProg_rest _ _ _ _ _ _ hm (by omega) (by omega)).mono ?_
    rw [E1.out]
    rintro e w1 ⟨rfl, hb1⟩
    go_wp2_with fail
    go_ret
    exact ⟨rfl, BB.out.trans (hb1.mono (by simp; omega))⟩

set_option maxRecDepth 100000 in
theorem exactMachineOk_lifted (os : Os) (started : os.Started) (H : Type) (enc : TypeId × Value → H) :
    ReturnsInHanded {} Try.checked os 3 .any (Rows.fnExactMachineOkSpec.pre6 enc Try.prog Try.f3 Rows.fnExactMachineOkRow.domain false) (Rows.fnExactMachineOkSpec.post enc Try.prog Try.f3 false true false false) := by
  refine law_lifted (C := Try.checked) (tb := 4) own started (by kernel_rfl) Try.func3
    (ChangeSpec.witness6 (enc := enc) (C := Try.checked) false ⟨#[], #[.agg #[.slice none 0 0, .int .i64 0], .agg #[.slice none 0 0, .slice none 0 0, .slice none 0 0, .slice none 0 0]], []⟩ 8 (by kernel_rfl) (by kernel_rfl) (by kernel_rfl) (by kernel_rfl))
    laidOut (fun t ht => ?_) rfl Try.underlying4 rfl (fun ds hds => ?_) ?_
  · have hp : t ∈ [24, 28] := ht
    simp only [List.mem_cons, List.not_mem_nil, or_false] at hp
    rcases hp with rfl | rfl
    · exact ⟨by kernel_rfl, of_decide_eq_true (by kernel_rfl)⟩
    · exact ⟨by kernel_rfl, of_decide_eq_true (by kernel_rfl)⟩
  · match ds, hds with
    | [d0, d1], _ => rfl
  · intro W base args ds p hval0 hA0
    have hval : ∀ (j : Nat) t v, Try.f3.params[j]? = some t → args[j]? = some v → Value.okWide Try.prog W .any base t v := hval0
    have hA : DataW.TrodAll enc Try.prog W 0 (fun _ => true) true Try.f3.params.toList args.toList ds p := hA0
    rw [Try.params3] at hA hval
    obtain ⟨v0, v1, d0, d1, p0, p1, rfl, rfl, rfl, h0, h1⟩ := trodAll_two hA
    obtain ⟨c0, c1, y0, y1, m, rfl, _, _, hy0, hy1⟩ := open_agg2 Try.underlying24 (by kernel_rfl) cells_prog (hval 0 24 v0 rfl rfl) h0
    obtain ⟨A0, cap0, rs0, e0, hv0, hm0⟩ := open_codes hy0
    obtain ⟨hd0, e1, _, _⟩ := DataW.trod_int Try.underlying3 hy1
    simp at e0 e1
    subst e0 e1
    obtain ⟨AT1, nt1, ct1, AC1, nc1, cc1, AL1, nl1, cl1, AD1, nd1, cd1, mc1, rfl, HM1, HL1⟩ := open_machine (hval 1 28 v1 rfl rfl) h1
    exact exactMachineOk_walk A0 cap0 hd0 rs0 W hv0 hm0 HM1 HL1

theorem exactMachineOk_holds : Rows.FnExactMachineOkSaid :=
  OpenClaim.holds_of_wide 3 Try.f3 rfl rfl rfl rfl rfl rfl rfl ⟨rfl, rfl, rfl, rfl, rfl⟩ rfl rfl rfl rfl rfl (by kernel_rfl) Try.func3 (by kernel_rfl)
    (of_decide_eq_true (by kernel_rfl)) (by unfold Func.isWrapper; rw [if_neg (of_decide_eq_false (by kernel_rfl))]; exact ⟨rfl, rfl⟩)
    (fun os started H enc _ => exactMachineOk_lifted os started H enc)
#print axioms exactMachineOk_holds
end Go.Proofs.Ytdhkaediffiplaa
