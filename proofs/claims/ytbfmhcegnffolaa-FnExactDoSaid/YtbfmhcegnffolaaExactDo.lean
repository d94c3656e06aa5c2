/-
  For every program, every machine and every choice, 'FnExactDo' answers true: both packages' 'Do' answer alike, the arguments stay as they are, and the answer shares no memory with them or with another answer. No condition.
-/
import Derived.Test.YtbfmhcegnffolaaDoL
namespace Go.Proofs.Ytbfmhcegnffolaa
open Go.ChangeShapes Go.WideShapes Go.ChangeAt Go.RowKit Go.Joins

set_option maxRecDepth 100000 in
set_option maxHeartbeats 16000000 in
theorem exactDo_walk {AT1 AC1 AL1 AD1 : Option Addr} {nt1 ct1 nc1 cc1 nl1 cl1 nd1 cd1 : Nat} {m1 : Bt.Mc} (A0 : Option Addr) (cap0 : Nat) (h0 : Int) (rs0 : List Bt.C4) (k2_0 k2_1 k2_2 : Int) (w : World) (hv0 : ArgCodes w (.slice A0 rs0.length cap0) rs0) (hm0 : rs0.length ≤ maxLen) (H1 : ArgMc w AT1 nt1 ct1 AC1 nc1 cc1 AL1 nl1 cl1 AD1 nd1 cd1 m1) (hL1 : Lens m1) :
    Calls Try.prog 6 #[.agg #[.slice A0 rs0.length cap0, .int .i64 h0], .agg #[.slice AT1 nt1 ct1, .slice AC1 nc1 cc1, .slice AL1 nl1 cl1, .slice AD1 nd1 cd1], .agg #[.int .i64 k2_0, .int .i64 k2_1, .int .i64 k2_2]] w fun e w' => e = .returned (.bool true) ∧ Below w.heap.size w w' := by
  have HV0 := Lib.hid hv0; clear hv0
  have HM1 := Lib.hid H1; clear H1
  have HL1 := Lib.hid hL1; clear hL1
  have BB := Lib.hid ((((Below.refl w.heap.size w).alloc (Nat.le_refl _) (.cells #[.slice A0 rs0.length cap0, .int .i64 h0] 45)).alloc (by simp) (.cells #[.slice AT1 nt1 ct1, .slice AC1 nc1 cc1, .slice AL1 nl1 cl1, .slice AD1 nd1 cd1] 48)).alloc (by simp; omega) (.cells #[.int .i64 k2_0, .int .i64 k2_1, .int .i64 k2_2] 49))
  have lo0 : (0 : Int) ≤ 1048576 := (by omega)
  have hi0 : 1048576 ≤ (1048576 : Int) := (by omega)
  by_cases hs0 : (1048576 : Int) < (rs0.length : Nat)
  · have E0 := Lib.hid (rest_neg hs0)
    go_enter Try.func6, Try.ntmps6
    go_wp2_with fail
    refine (szProg_rest _ _ _ _ _ _ hm0 lo0 hi0).mono ?_
    rw [E0.out]
    rintro e wz0 ⟨rfl, hbz0⟩
    have Bz0 := Lib.hid (BB.out.trans (hbz0.mono (by simp; try omega)))
    go_wp2
    go_ret
    exact ⟨rfl, Bz0.out⟩
  · have E0 := Lib.hid (rest_pos hs0)
    have hn0 : rs0.length ≤ 1048576 := (by omega)
    have lo1 : (0 : Int) ≤ 1048576 - (rs0.length : Nat) := (by omega)
    have hi1 : 1048576 - (rs0.length : Nat) ≤ (1048576 : Int) := (by omega)
    by_cases hs1 : (1048576 - (rs0.length : Nat) : Int) < ((Bt.mcSz m1) : Nat)
    · have E1 := Lib.hid (rest_neg hs1)
      go_enter Try.func6, Try.ntmps6
      go_wp2_with fail
      refine (szProg_rest _ _ _ _ _ _ hm0 lo0 hi0).mono ?_
      rw [E0.out]
      rintro e wz0 ⟨rfl, hbz0⟩
      have Bz0 := Lib.hid (BB.out.trans (hbz0.mono (by simp; try omega)))
      have p3_0 : wz0.cell? ⟨w.heap.size, 0, none⟩ = some (.slice A0 rs0.length cap0) := keeps hbz0 (by go_simp)
      have p3_1 : wz0.cell? ⟨w.heap.size, 1, none⟩ = some (.int .i64 h0) := keeps hbz0 (by go_simp)
      have p4_0 : wz0.cell? ⟨w.heap.size + 1, 0, none⟩ = some (.slice AT1 nt1 ct1) := keeps hbz0 (by go_simp)
      have p4_1 : wz0.cell? ⟨w.heap.size + 1, 1, none⟩ = some (.slice AC1 nc1 cc1) := keeps hbz0 (by go_simp)
      have p4_2 : wz0.cell? ⟨w.heap.size + 1, 2, none⟩ = some (.slice AL1 nl1 cl1) := keeps hbz0 (by go_simp)
      have p4_3 : wz0.cell? ⟨w.heap.size + 1, 3, none⟩ = some (.slice AD1 nd1 cd1) := keeps hbz0 (by go_simp)
      have p5_0 : wz0.cell? ⟨w.heap.size + 1 + 1, 0, none⟩ = some (.int .i64 k2_0) := keeps hbz0 (by go_simp)
      have p5_1 : wz0.cell? ⟨w.heap.size + 1 + 1, 1, none⟩ = some (.int .i64 k2_1) := keeps hbz0 (by go_simp)
      have p5_2 : wz0.cell? ⟨w.heap.size + 1 + 1, 2, none⟩ = some (.int .i64 k2_2) := keeps hbz0 (by go_simp)
      go_wp2_with fail
      refine (szMachine_any _ _ (HM1.out.keep Bz0.out) HL1.out lo1 hi1).mono ?_
      rw [E1.out]
      rintro e wz1 ⟨rfl, hbz1⟩
      have Bz1 := Lib.hid (Bz0.out.trans (hbz1.mono Bz0.out.size))
      go_wp2
      go_ret
      exact ⟨rfl, Bz1.out⟩
    · have E1 := Lib.hid (rest_pos hs1)
      have SM1 := Lib.hid (Small.of (m := m1) (by omega))
      have loe : (0 : Int) ≤ 1048576 - (rs0.length : Nat) - ((Bt.mcSz m1) : Nat) := (by omega)
      go_enter Try.func6, Try.ntmps6
      go_wp2_with fail
      refine (szProg_rest _ _ _ _ _ _ hm0 lo0 hi0).mono ?_
      rw [E0.out]
      rintro e wz0 ⟨rfl, hbz0⟩
      have Bz0 := Lib.hid (BB.out.trans (hbz0.mono (by simp; try omega)))
      have p3_0 : wz0.cell? ⟨w.heap.size, 0, none⟩ = some (.slice A0 rs0.length cap0) := keeps hbz0 (by go_simp)
      have p3_1 : wz0.cell? ⟨w.heap.size, 1, none⟩ = some (.int .i64 h0) := keeps hbz0 (by go_simp)
      have p4_0 : wz0.cell? ⟨w.heap.size + 1, 0, none⟩ = some (.slice AT1 nt1 ct1) := keeps hbz0 (by go_simp)
      have p4_1 : wz0.cell? ⟨w.heap.size + 1, 1, none⟩ = some (.slice AC1 nc1 cc1) := keeps hbz0 (by go_simp)
      have p4_2 : wz0.cell? ⟨w.heap.size + 1, 2, none⟩ = some (.slice AL1 nl1 cl1) := keeps hbz0 (by go_simp)
      have p4_3 : wz0.cell? ⟨w.heap.size + 1, 3, none⟩ = some (.slice AD1 nd1 cd1) := keeps hbz0 (by go_simp)
      have p5_0 : wz0.cell? ⟨w.heap.size + 1 + 1, 0, none⟩ = some (.int .i64 k2_0) := keeps hbz0 (by go_simp)
      have p5_1 : wz0.cell? ⟨w.heap.size + 1 + 1, 1, none⟩ = some (.int .i64 k2_1) := keeps hbz0 (by go_simp)
      have p5_2 : wz0.cell? ⟨w.heap.size + 1 + 1, 2, none⟩ = some (.int .i64 k2_2) := keeps hbz0 (by go_simp)
      go_wp2_with fail
      refine (szMachine_any _ _ (HM1.out.keep Bz0.out) HL1.out lo1 hi1).mono ?_
      rw [E1.out]
      rintro e wz1 ⟨rfl, hbz1⟩
      have Bz1 := Lib.hid (Bz0.out.trans (hbz1.mono Bz0.out.size))
      have p3_0'1 := keeps hbz1 p3_0
      have p3_1'1 := keeps hbz1 p3_1
      have p4_0'1 := keeps hbz1 p4_0
      have p4_1'1 := keeps hbz1 p4_1
      have p4_2'1 := keeps hbz1 p4_2
      have p4_3'1 := keeps hbz1 p4_3
      have p5_0'1 := keeps hbz1 p5_0
      have p5_1'1 := keeps hbz1 p5_1
      have p5_2'1 := keeps hbz1 p5_2
      clear p3_0 p3_1 p4_0 p4_1 p4_2 p4_3 p5_0 p5_1 p5_2
      have SMM := Lib.hid (Small.of (Bt.made_sz rs0 h0 m1 ⟨k2_0, k2_1, k2_2⟩))
      have MN := Lib.hid (mcN_le (Bt.made_sz rs0 h0 m1 ⟨k2_0, k2_1, k2_2⟩))
      have M1N := Lib.hid (mcN_le (m := m1) (by omega))
      have SD := Lib.hid (fun (W' : World) (g gT gC gL gD : Nat) (P : ArgPr W' g 0 rs0.length rs0.length rs0) (H : ArgMc W' (some ⟨gT, 0, none⟩) nt1 nt1 (some ⟨gC, 0, none⟩) nc1 nc1 (some ⟨gL, 0, none⟩) nl1 nl1 (some ⟨gD, 0, none⟩) nd1 nd1 m1) => specDo_all h0 ⟨k2_0, k2_1, k2_2⟩ W' P H SM1.out)
      have ID := Lib.hid (fun (W' : World) (g gT gC gL gD : Nat) (P : ArgPr W' g 0 rs0.length rs0.length rs0) (H : ArgMc W' (some ⟨gT, 0, none⟩) nt1 nt1 (some ⟨gC, 0, none⟩) nc1 nc1 (some ⟨gL, 0, none⟩) nl1 nl1 (some ⟨gD, 0, none⟩) nd1 nd1 m1) => implDo_all h0 ⟨k2_0, k2_1, k2_2⟩ W' P H SM1.out)
      generalize (Bt.doM rs0 h0 m1 ⟨k2_0, k2_1, k2_2⟩).isSome = ok at SD ID
      generalize (Bt.doM rs0 h0 m1 ⟨k2_0, k2_1, k2_2⟩).getD Bt.mcNil = M at SMM MN SD ID
      obtain ⟨mm, hmm⟩ : ∃ mm, 1 + mcN M = mm := ⟨_, rfl⟩
      have hmm0 : 0 ≤ mm := by have := mcN_nn M; omega
      have EMM := Lib.hid hmm; clear hmm
      have hk20 : 0 ≤ 1 + 4 * (rs0.length : Int) + mcN m1 := by have := mcN_nn m1; omega
      go_wp2_with fail
      have lz := cell_lt p5_0'1
      simp only at lz
      refine wp_region_ordI [Fact.is 30 (.agg #[.slice A0 rs0.length cap0, .int .i64 h0]),
          Fact.upto 31 11 (fun v w' => ∃ g, v = .agg #[.slice (some ⟨g, 0, none⟩) rs0.length rs0.length, .int .i64 h0] ∧ ArgPr w' g 0 rs0.length rs0.length rs0),
          Fact.is 32 (.agg #[.slice AT1 nt1 ct1, .slice AC1 nc1 cc1, .slice AL1 nl1 cl1, .slice AD1 nd1 cd1]),
          Fact.upto 33 11 (fun v w' => ∃ gT gC gL gD, v = .agg #[.slice (some ⟨gT, 0, none⟩) nt1 nt1, .slice (some ⟨gC, 0, none⟩) nc1 nc1, .slice (some ⟨gL, 0, none⟩) nl1 nl1, .slice (some ⟨gD, 0, none⟩) nd1 nd1] ∧ ArgMc w' (some ⟨gT, 0, none⟩) nt1 nt1 (some ⟨gC, 0, none⟩) nc1 nc1 (some ⟨gL, 0, none⟩) nl1 nl1 (some ⟨gD, 0, none⟩) nd1 nd1 m1),
          Fact.is 34 (.agg #[.int .i64 k2_0, .int .i64 k2_1, .int .i64 k2_2]),
          Fact.is 35 (.agg #[.int .i64 k2_0, .int .i64 k2_1, .int .i64 k2_2]),
          Fact.upto 36 11 (fun v w' => ∃ AT ct AC cc AL cl AD cd xs, v = .tuple #[.agg #[.slice AT M.ths.length ct, .slice AC M.cells.length cc, .slice AL M.locks.length cl, .slice AD M.told.length cd], .bool ok] ∧ McOwn w' wz1.heap.size (.slice AT M.ths.length ct) (.slice AC M.cells.length cc) (.slice AL M.locks.length cl) (.slice AD M.told.length cd) xs M),
          ⟨[29, 36], none, fun vs _ => ∃ AT ct AC cc AL cl AD cd, vs = [.tuple #[.agg #[.slice AT M.ths.length ct, .slice AC M.cells.length cc, .slice AL M.locks.length cl, .slice AD M.told.length cd], .bool ok], .tuple #[.agg #[.slice AT M.ths.length ct, .slice AC M.cells.length cc, .slice AL M.locks.length cl, .slice AD M.told.length cd], .bool ok]]⟩,
          Fact.upto 37 11 (fun v w' => ∃ AT ct AC cc AL cl AD cd xs, v = .agg #[.slice AT M.ths.length ct, .slice AC M.cells.length cc, .slice AL M.locks.length cl, .slice AD M.told.length cd] ∧ McOwn w' wz1.heap.size (.slice AT M.ths.length ct) (.slice AC M.cells.length cc) (.slice AL M.locks.length cl) (.slice AD M.told.length cd) xs M),
          Fact.is 38 (.bool ok),
          Fact.upto 8 11 (fun v w' => ∃ g, v = .pointer (some ⟨g, 0, none⟩) ∧ wz1.heap.size ≤ g ∧ w'.heap[g]? = some (.cells #[.slice none 0 0, .slice none 0 0, .slice none 0 0, .slice none 0 0] 28)),
          ⟨[8], none, fun vs w' => ∃ g AT ct AC cc AL cl AD cd xs, vs = [.pointer (some ⟨g, 0, none⟩)] ∧ wz1.heap.size ≤ g ∧ Four w' g (.slice AT M.ths.length ct) (.slice AC M.cells.length cc) (.slice AL M.locks.length cl) (.slice AD M.told.length cd) ∧ McBox w' g ∧ McOwn w' wz1.heap.size (.slice AT M.ths.length ct) (.slice AC M.cells.length cc) (.slice AL M.locks.length cl) (.slice AD M.told.length cd) xs M ∧ Below wz1.heap.size wz1 w'⟩,
          Fact.is 9 (.bool ok)]
        [(11, fun w' => Below wz1.heap.size wz1 w')] []
        (by kernel_rfl) (by kernel_rfl) (by kernel_rfl) ?_ ?_ ?_ ?_ ?_
      · intro q hq
        simp only [List.mem_cons, List.not_mem_nil, or_false] at hq
        rcases hq with rfl
        · exact (Below.refl _ _).drew
      · exact ⟨Fact.is_stable _ _, Fact.upto_stable (fun v w w' hb ⟨g, e, h⟩ => ⟨g, e, h.keep hb⟩), Fact.is_stable _ _, Fact.upto_stable (fun v w w' hb ⟨gT, gC, gL, gD, e, h⟩ => ⟨gT, gC, gL, gD, e, h.keep hb⟩), Fact.is_stable _ _, Fact.is_stable _ _, Fact.upto_stable (fun v w w' hb ⟨AT, ct, AC, cc, AL, cl, AD, cd, xs, e, h⟩ => ⟨AT, ct, AC, cc, AL, cl, AD, cd, xs, e, h.keep hb⟩), (fun _ _ _ _ h => h), Fact.upto_stable (fun v w w' hb ⟨AT, ct, AC, cc, AL, cl, AD, cd, xs, e, h⟩ => ⟨AT, ct, AC, cc, AL, cl, AD, cd, xs, e, h.keep hb⟩), Fact.is_stable _ _, Fact.upto_stable (fun v w w' hb ⟨g, e, h, h'⟩ => ⟨g, e, h, heap_keep hb h'⟩), (fun vs w1 w2 hb ⟨g, AT, ct, AC, cc, AL, cl, AD, cd, xs, e, h0, h1, h2, h3, h4⟩ => ⟨g, AT, ct, AC, cc, AL, cl, AD, cd, xs, e, h0, h1.keep hb, h2.keep hb, h3.keep hb, below_then h4 hb⟩), Fact.is_stable _ _, trivial⟩
      · intro q hq w1' w2' hb h
        simp only [List.mem_cons, List.not_mem_nil, or_false] at hq
        rcases hq with rfl
        · exact below_then h hb
      · refine ⟨?_, ?_, ?_, ?_, ?_, ?_, ?_, ?_, ?_, ?_, ?_, ?_, ?_, trivial⟩
        · intro A' w' hJ hoff hdep _hdif
          have a3 : A'.eval (.tmp 3) = .pointer (some ⟨w.heap.size, 0, none⟩) := off_of hoff 3 (by kernel_rfl)
          have b := init_of hJ (n := 0) rfl (by kernel_rfl)
          have q0 := keeps b p3_0'1
          have q1 := keeps b p3_1'1
          exact isI rfl rfl (by generalize A'.eval = ev at *; simp [go_sem, a3, q0, q1])
        · intro A' w' hJ hoff hdep _hdif
          have ef : ∀ f, A'.eval (.func f) = .func (.func f) #[] #[] := fun _ => rfl
          have a30 := is_of (ask_of hdep (j := 0) (by kernel_rfl)) rfl
          have b := init_of hJ (n := 0) rfl (by kernel_rfl)
          refine callI (f := 24) (args := #[.agg #[.slice A0 rs0.length cap0, .int .i64 h0]]) (by generalize A'.eval = ev at *; simp [go_sem, ef, a30]) ((toProgram_any _ _ rs0 _ hn0 (HV0.out.keep (below_then Bz1.out b))).mono fun e w3 h => ?_)
          obtain ⟨g3, h1, hg3, hb3, ho3⟩ := h
          exact ⟨_, h1, hb3, upto_to rfl rfl ⟨g3, rfl, ProgMade.pr ho3 hn0⟩, fam_none (by kernel_rfl)⟩
        · intro A' w' hJ hoff hdep _hdif
          have a4 : A'.eval (.tmp 4) = .pointer (some ⟨w.heap.size + 1, 0, none⟩) := off_of hoff 4 (by kernel_rfl)
          have b := init_of hJ (n := 0) rfl (by kernel_rfl)
          have q0 := keeps b p4_0'1
          have q1 := keeps b p4_1'1
          have q2 := keeps b p4_2'1
          have q3 := keeps b p4_3'1
          exact isI rfl rfl (by generalize A'.eval = ev at *; simp [go_sem, a4, q0, q1, q2, q3])
        · intro A' w' hJ hoff hdep _hdif
          have ef : ∀ f, A'.eval (.func f) = .func (.func f) #[] #[] := fun _ => rfl
          have a32 := is_of (ask_of hdep (j := 2) (by kernel_rfl)) rfl
          have b := init_of hJ (n := 0) rfl (by kernel_rfl)
          refine callI (f := 25) (args := #[.agg #[.slice AT1 nt1 ct1, .slice AC1 nc1 cc1, .slice AL1 nl1 cl1, .slice AD1 nd1 cd1]]) (by generalize A'.eval = ev at *; simp [go_sem, ef, a32]) ((toMachine_any (HM1.out.keep (below_then Bz1.out b)) SM1.out).mono fun e w3 h => ?_)
          obtain ⟨gT4, gC4, gL4, gD4, xs4, h1, hb4, ho4⟩ := h
          exact ⟨_, h1, hb4, upto_to rfl rfl ⟨gT4, gC4, gL4, gD4, rfl, ho4.arg HM1.out.nT HM1.out.nC HM1.out.nL HM1.out.nD⟩, fam_none (by kernel_rfl)⟩
        · intro A' w' hJ hoff hdep _hdif
          have a5 : A'.eval (.tmp 5) = .pointer (some ⟨w.heap.size + 1 + 1, 0, none⟩) := off_of hoff 5 (by kernel_rfl)
          have b := init_of hJ (n := 0) rfl (by kernel_rfl)
          have q0 := keeps b p5_0'1
          have q1 := keeps b p5_1'1
          have q2 := keeps b p5_2'1
          exact isI rfl rfl (by generalize A'.eval = ev at *; simp [go_sem, a5, q0, q1, q2])
        · intro A' w' hJ hoff hdep _hdif
          have ef : ∀ f, A'.eval (.func f) = .func (.func f) #[] #[] := fun _ => rfl
          have a34 := is_of (ask_of hdep (j := 4) (by kernel_rfl)) rfl
          exact callI (f := 26) (args := #[.agg #[.int .i64 k2_0, .int .i64 k2_1, .int .i64 k2_2]]) (by generalize A'.eval = ev at *; simp [go_sem, ef, a34]) ((toChoice_any _ _ _ _).mono fun e w3 h => ⟨_, h.1, h.2, is_to rfl rfl, fam_none (by kernel_rfl)⟩)
        · intro A' w' hJ hoff hdep _hdif
          have ef : ∀ f, A'.eval (.func f) = .func (.func f) #[] #[] := fun _ => rfl
          have b := init_of hJ (n := 0) rfl (by kernel_rfl)
          obtain ⟨g_p, a31, pp⟩ := upto_of (ask_of hdep (j := 1) (by kernel_rfl)) rfl
          obtain ⟨gT_m, gC_m, gL_m, gD_m, a33, pm⟩ := upto_of (ask_of hdep (j := 3) (by kernel_rfl)) rfl
          have a35 := is_of (ask_of hdep (j := 5) (by kernel_rfl)) rfl
          have hz := b.size
          refine callI (f := 16) (args := #[.agg #[.slice (some ⟨g_p, 0, none⟩) rs0.length rs0.length, .int .i64 h0], .agg #[.slice (some ⟨gT_m, 0, none⟩) nt1 nt1, .slice (some ⟨gC_m, 0, none⟩) nc1 nc1, .slice (some ⟨gL_m, 0, none⟩) nl1 nl1, .slice (some ⟨gD_m, 0, none⟩) nd1 nd1], .agg #[.int .i64 k2_0, .int .i64 k2_1, .int .i64 k2_2]]) (by generalize A'.eval = ev at *; simp [go_sem, ef, a31, a33, a35]) ((SD.out _ _ _ _ _ _ pp pm).mono fun e w3 h => ?_)
          obtain ⟨AT, ct, AC, cc, AL, cl, AD, cd, xs, h1, h2, h3⟩ := h
          exact ⟨_, h1, h2, upto_to rfl rfl ⟨AT, ct, AC, cc, AL, cl, AD, cd, xs, rfl, h3.mono hz⟩, fam_none (by kernel_rfl)⟩
        · intro A' w' hJ hoff hdep _hdif
          obtain ⟨AT, ct, AC, cc, AL, cl, AD, cd, xs, a36, pq⟩ := upto_of (ask_of hdep (j := 6) (by kernel_rfl)) rfl
          have ex : slotAt A' 36 = .tuple #[.agg #[.slice AT M.ths.length ct, .slice AC M.cells.length cc, .slice AL M.locks.length cl, .slice AD M.told.length cd], .bool ok] := a36
          exact runI (v := .tuple #[.agg #[.slice AT M.ths.length ct, .slice AC M.cells.length cc, .slice AL M.locks.length cl, .slice AD M.told.length cd], .bool ok]) (w' := w') (by generalize A'.eval = ev at *; simp [go_sem, a36]) (Below.refl _ _) ⟨AT, ct, AC, cc, AL, cl, AD, cd, by simp [put1, ex]⟩ (fam_none (by kernel_rfl))
        · intro A' w' hJ hoff hdep _hdif
          obtain ⟨AT, ct, AC, cc, AL, cl, AD, cd, xs, a36, pq⟩ := upto_of (ask_of hdep (j := 6) (by kernel_rfl)) rfl
          obtain ⟨ATz, ctz, ACz, ccz, ALz, clz, ADz, cdz, ez⟩ := ask_of hdep (j := 7) (by kernel_rfl)
          have ez : [slotAt A' 29, slotAt A' 36] = [.tuple #[.agg #[.slice ATz M.ths.length ctz, .slice ACz M.cells.length ccz, .slice ALz M.locks.length clz, .slice ADz M.told.length cdz], .bool ok], .tuple #[.agg #[.slice ATz M.ths.length ctz, .slice ACz M.cells.length ccz, .slice ALz M.locks.length clz, .slice ADz M.told.length cdz], .bool ok]] := ez
          injection ez with ez1 ez
          injection ez with ez2 _
          have a29 : A'.eval (.tmp 29) = .tuple #[.agg #[.slice AT M.ths.length ct, .slice AC M.cells.length cc, .slice AL M.locks.length cl, .slice AD M.told.length cd], .bool ok] := ez1.trans (ez2.symm.trans a36)
          exact runI (v := .agg #[.slice AT M.ths.length ct, .slice AC M.cells.length cc, .slice AL M.locks.length cl, .slice AD M.told.length cd]) (w' := w') (by generalize A'.eval = ev at *; simp [go_sem, a29]) (Below.refl _ _) (upto_to rfl rfl ⟨AT, ct, AC, cc, AL, cl, AD, cd, xs, rfl, pq⟩) (fam_none (by kernel_rfl))
        · intro A' w' hJ hoff hdep _hdif
          obtain ⟨ATz, ctz, ACz, ccz, ALz, clz, ADz, cdz, ez⟩ := ask_of hdep (j := 7) (by kernel_rfl)
          have ez : [slotAt A' 29, slotAt A' 36] = [.tuple #[.agg #[.slice ATz M.ths.length ctz, .slice ACz M.cells.length ccz, .slice ALz M.locks.length clz, .slice ADz M.told.length cdz], .bool ok], .tuple #[.agg #[.slice ATz M.ths.length ctz, .slice ACz M.cells.length ccz, .slice ALz M.locks.length clz, .slice ADz M.told.length cdz], .bool ok]] := ez
          injection ez with ez1 ez
          injection ez with _ _
          have a29 : A'.eval (.tmp 29) = .tuple #[.agg #[.slice ATz M.ths.length ctz, .slice ACz M.cells.length ccz, .slice ALz M.locks.length clz, .slice ADz M.told.length cdz], .bool ok] := ez1
          exact isI rfl rfl (by generalize A'.eval = ev at *; simp [go_sem, a29])
        · intro A' w' hJ hoff hdep _hdif
          have b := init_of hJ (n := 0) rfl (by kernel_rfl)
          exact allocI (ob := .cells #[.slice none 0 0, .slice none 0 0, .slice none 0 0, .slice none 0 0] 28) (by generalize A'.eval = ev at *; simp [go_sem]) (upto_to rfl rfl ⟨_, rfl, b.size, alloc_at _ _⟩)
        · intro A' w' hJ hoff hdep _hdif
          have b := init_of hJ (n := 0) rfl (by kernel_rfl)
          obtain ⟨g, aB, hgb, hg⟩ := upto_of (ask_of hdep (j := 10) (by kernel_rfl)) rfl
          obtain ⟨AT, ct, AC, cc, AL, cl, AD, cd, xs, a37, pq⟩ := upto_of (ask_of hdep (j := 8) (by kernel_rfl)) rfl
          have eB : slotAt A' 8 = .pointer (some ⟨g, 0, none⟩) := aB
          have hM : McBox w' g := ⟨_, _, hg⟩
          have k0 : w'.cell? ⟨g, 0, none⟩ = some (.slice none 0 0) := by simp [World.cell?, hg]
          have k1 : w'.cell? ⟨g, 1, none⟩ = some (.slice none 0 0) := by simp [World.cell?, hg]
          have k2 : w'.cell? ⟨g, 2, none⟩ = some (.slice none 0 0) := by simp [World.cell?, hg]
          have k3 : w'.cell? ⟨g, 3, none⟩ = some (.slice none 0 0) := by simp [World.cell?, hg]
          have g0 : w'.frozen? ⟨g, 0, none⟩ = false := by simp [World.frozen?, hg]
          have g1 : w'.frozen? ⟨g, 1, none⟩ = false := by simp [World.frozen?, hg]
          have g2 : w'.frozen? ⟨g, 2, none⟩ = false := by simp [World.frozen?, hg]
          have g3 : w'.frozen? ⟨g, 3, none⟩ = false := by simp [World.frozen?, hg]
          refine lastI (w' := (((w'.setCell ⟨g, 0, none⟩ (.slice AT M.ths.length ct)).setCell ⟨g, 1, none⟩ (.slice AC M.cells.length cc)).setCell ⟨g, 2, none⟩ (.slice AL M.locks.length cl)).setCell ⟨g, 3, none⟩ (.slice AD M.told.length cd)) (by generalize A'.eval = ev at *; simp [go_sem, aB, a37, k0, k1, k2, k3, g0, g1, g2, g3]) (by simp) ⟨g, AT, ct, AC, cc, AL, cl, AD, cd, xs, by simp [put1, eB], hgb, ?_, (((hM.set _ _).set _ _).set _ _).set _ _, (((pq.setBox _ _ hM).setBox _ _ (hM.set _ _)).setBox _ _ ((hM.set _ _).set _ _)).setBox _ _ (((hM.set _ _).set _ _).set _ _), ?_⟩ (fun j hj _ hk hf => ?_) (by kernel_rfl)
          · clear hoff hdep hJ pq
            unfold Four
            go_simp
          · repeat (refine Below.setCell ?_ hgb _)
            exact b
          · match j, hj, hk, hf with
            | 0, _, _, hf => exact hf
            | 1, hj, hk, hf => exact absurd rfl (hk 11 rfl).1
            | 2, _, _, hf => exact hf
            | 3, hj, hk, hf => exact absurd rfl (hk 11 rfl).1
            | 4, _, _, hf => exact hf
            | 5, _, _, hf => exact hf
            | 6, hj, hk, hf => exact absurd rfl (hk 11 rfl).1
            | 7, _, _, hf => exact hf
            | 8, hj, hk, hf => exact absurd rfl (hk 11 rfl).1
            | 9, _, _, hf => exact hf
            | 10, hj, hk, hf => exact absurd rfl (hk 11 rfl).1
            | 11, hj, _, _ => exact absurd rfl hj
            | 12, _, _, hf => exact hf
            | _ + 13, _, _, _ => trivial
        · intro A' w' hJ hoff hdep _hdif
          have a38 := is_of (ask_of hdep (j := 9) (by kernel_rfl)) rfl
          exact isI rfl rfl (by generalize A'.eval = ev at *; simp [go_sem, a38])
      · intro s w1 hf _hdf _hff
        obtain ⟨gb8, AT8, ct8, AC8, cc8, AL8, cl8, AD8, cd8, xs8, es, lb8, fb8, mb8, ob8, hb1⟩ := hf 11 (by decide) rfl
        have es : [s 8] = [.pointer (some ⟨gb8, 0, none⟩)] := es
        injection es with eB _
        have eA := val_of (hf 12 (by decide) rfl) rfl
        have OW8 := Lib.hid ob8
        clear hf ob8
        simp only [putAll, Act.put, List.setIfInBounds_toArray, List.set_cons_succ, List.set_cons_zero, eB, eA]
        clear eB eA
        have u3_0 := keeps hb1 p3_0'1
        have u3_1 := keeps hb1 p3_1'1
        have u4_0 := keeps hb1 p4_0'1
        have u4_1 := keeps hb1 p4_1'1
        have u4_2 := keeps hb1 p4_2'1
        have u4_3 := keeps hb1 p4_3'1
        have u5_0 := keeps hb1 p5_0'1
        have u5_1 := keeps hb1 p5_1'1
        have u5_2 := keeps hb1 p5_2'1
        clear p3_0'1 p3_1'1 p4_0'1 p4_1'1 p4_2'1 p4_3'1 p5_0'1 p5_1'1 p5_2'1
        obtain ⟨u8_0, u8_1, u8_2, u8_3, _, _, _, _⟩ := fb8
        have HY1 := Lib.hid (fun (W' : World) (hb : Below w1.heap.size w1 W') => (⟨keeps hb u3_0, keeps hb u3_1, keeps hb u4_0, keeps hb u4_1, keeps hb u4_2, keeps hb u4_3, keeps hb u5_0, keeps hb u5_1, keeps hb u5_2, keeps hb u8_0, keeps hb u8_1, keeps hb u8_2, keeps hb u8_3⟩ : W'.cell? ⟨w.heap.size, 0, none⟩ = some (.slice A0 rs0.length cap0) ∧ W'.cell? ⟨w.heap.size, 1, none⟩ = some (.int .i64 h0) ∧ W'.cell? ⟨w.heap.size + 1, 0, none⟩ = some (.slice AT1 nt1 ct1) ∧ W'.cell? ⟨w.heap.size + 1, 1, none⟩ = some (.slice AC1 nc1 cc1) ∧ W'.cell? ⟨w.heap.size + 1, 2, none⟩ = some (.slice AL1 nl1 cl1) ∧ W'.cell? ⟨w.heap.size + 1, 3, none⟩ = some (.slice AD1 nd1 cd1) ∧ W'.cell? ⟨w.heap.size + 1 + 1, 0, none⟩ = some (.int .i64 k2_0) ∧ W'.cell? ⟨w.heap.size + 1 + 1, 1, none⟩ = some (.int .i64 k2_1) ∧ W'.cell? ⟨w.heap.size + 1 + 1, 2, none⟩ = some (.int .i64 k2_2) ∧ W'.cell? ⟨gb8, 0, none⟩ = some (.slice AT8 M.ths.length ct8) ∧ W'.cell? ⟨gb8, 1, none⟩ = some (.slice AC8 M.cells.length cc8) ∧ W'.cell? ⟨gb8, 2, none⟩ = some (.slice AL8 M.locks.length cl8) ∧ W'.cell? ⟨gb8, 3, none⟩ = some (.slice AD8 M.told.length cd8)))
        have l8 := cell_lt u8_0
        have l5 := cell_lt u5_0
        simp only at l8 l5
        have B1 := Lib.hid (below_then Bz1.out hb1)
        clear u4_0 u4_1 u4_2 u4_3 u5_0 u5_1 u5_2 u8_0 u8_1 u8_2 u8_3
        go_wp2_with fail
        refine (toProgram_any _ _ rs0 _ hn0 (HV0.out.keep B1.out)).mono ?_
        rintro e w2 ⟨g2, rfl, hg2, hb2, ho2⟩
        clear u3_0 u3_1
        have lg2 := ho2.lt
        have hs2 := hb2.size
        obtain ⟨_, _, v4_0, v4_1, v4_2, v4_3, _, _, _, _, _, _, _⟩ := HY1.out w2 hb2
        have l4 : w.heap.size + 1 < w2.heap.size := by omega
        go_wp2_with fail
        obtain ⟨w3, hW3⟩ : ∃ W : World, W = w2.alloc (.cells #[.slice (some ⟨g2, 0, none⟩) rs0.length rs0.length, .int .i64 h0] 24) := ⟨_, rfl⟩
        have hb3 : Below w2.heap.size w2 w3 := by rw [hW3]; exact (Below.refl _ _).alloc (Nat.le_refl _) _
        have hs3 : w3.heap.size = w2.heap.size + 1 := by rw [hW3]; simp
        have b10_0 : w3.cell? ⟨w2.heap.size, 0, none⟩ = some (.slice (some ⟨g2, 0, none⟩) rs0.length rs0.length) := by rw [hW3]; go_simp
        have b10_1 : w3.cell? ⟨w2.heap.size, 1, none⟩ = some (.int .i64 h0) := by rw [hW3]; go_simp
        rw [← hW3]
        clear hW3
        clear v4_0 v4_1 v4_2 v4_3 l4
        have C3 := Lib.hid (below_then hb2 hb3)
        refine (toMachine_any (HM1.out.keep (below_then B1.out C3.out)) SM1.out).mono ?_
        rintro e w4 ⟨gT4, gC4, gL4, gD4, xs4, rfl, hb4, ho4⟩
        have hs4 := hb4.size
        have BD1 := Lib.hid ho4.bd
        go_wp2_with fail
        obtain ⟨w5, hW5⟩ : ∃ W : World, W = w4.alloc (.cells #[.slice (some ⟨gT4, 0, none⟩) nt1 nt1, .slice (some ⟨gC4, 0, none⟩) nc1 nc1, .slice (some ⟨gL4, 0, none⟩) nl1 nl1, .slice (some ⟨gD4, 0, none⟩) nd1 nd1] 28) := ⟨_, rfl⟩
        have hb5 : Below w4.heap.size w4 w5 := by rw [hW5]; exact (Below.refl _ _).alloc (Nat.le_refl _) _
        have hs5 : w5.heap.size = w4.heap.size + 1 := by rw [hW5]; simp
        have b11_0 : w5.cell? ⟨w4.heap.size, 0, none⟩ = some (.slice (some ⟨gT4, 0, none⟩) nt1 nt1) := by rw [hW5]; go_simp
        have b11_1 : w5.cell? ⟨w4.heap.size, 1, none⟩ = some (.slice (some ⟨gC4, 0, none⟩) nc1 nc1) := by rw [hW5]; go_simp
        have b11_2 : w5.cell? ⟨w4.heap.size, 2, none⟩ = some (.slice (some ⟨gL4, 0, none⟩) nl1 nl1) := by rw [hW5]; go_simp
        have b11_3 : w5.cell? ⟨w4.heap.size, 3, none⟩ = some (.slice (some ⟨gD4, 0, none⟩) nd1 nd1) := by rw [hW5]; go_simp
        rw [← hW5]
        clear hW5
        have C5 := Lib.hid (below_then (below_then C3.out hb4) hb5)
        have BW5 := Lib.hid (below_then B1.out C5.out)
        have hb35 := below_then hb4 hb5
        have d10_0 := keeps hb35 b10_0
        have d10_1 := keeps hb35 b10_1
        have OX0 := Lib.hid ((ho2.below hb3 lg2).below hb35 (by omega))
        have OX1 := Lib.hid (ho4.keep hb5)
        have HP5 := Lib.hid (ProgMade.pr OX0.out hn0)
        have HA5 := Lib.hid (OX1.out.arg HM1.out.nT HM1.out.nC HM1.out.nL HM1.out.nD)
        obtain ⟨_, _, _, _, _, _, v5_0, v5_1, v5_2, _, _, _, _⟩ := HY1.out w5 C5.out
        clear b10_0 b10_1 ho2 ho4 hb35
        refine wp_region_ordI [Fact.is 44 (.agg #[.slice (some ⟨g2, 0, none⟩) rs0.length rs0.length, .int .i64 h0]),
            Fact.is 45 (.agg #[.slice (some ⟨gT4, 0, none⟩) nt1 nt1, .slice (some ⟨gC4, 0, none⟩) nc1 nc1, .slice (some ⟨gL4, 0, none⟩) nl1 nl1, .slice (some ⟨gD4, 0, none⟩) nd1 nd1]),
            Fact.is 46 (.agg #[.int .i64 k2_0, .int .i64 k2_1, .int .i64 k2_2]),
            Fact.is 47 (.agg #[.int .i64 k2_0, .int .i64 k2_1, .int .i64 k2_2]),
            Fact.upto 48 9 (fun v w' => ∃ AT ct AC cc AL cl AD cd xs, v = .tuple #[.agg #[.slice AT M.ths.length ct, .slice AC M.cells.length cc, .slice AL M.locks.length cl, .slice AD M.told.length cd], .bool ok] ∧ OwnMc w' w5.heap.size (.slice AT M.ths.length ct) (.slice AC M.cells.length cc) (.slice AL M.locks.length cl) (.slice AD M.told.length cd) xs M),
            ⟨[43, 48], none, fun vs _ => ∃ AT ct AC cc AL cl AD cd, vs = [.tuple #[.agg #[.slice AT M.ths.length ct, .slice AC M.cells.length cc, .slice AL M.locks.length cl, .slice AD M.told.length cd], .bool ok], .tuple #[.agg #[.slice AT M.ths.length ct, .slice AC M.cells.length cc, .slice AL M.locks.length cl, .slice AD M.told.length cd], .bool ok]]⟩,
            Fact.upto 49 9 (fun v w' => ∃ AT ct AC cc AL cl AD cd xs, v = .agg #[.slice AT M.ths.length ct, .slice AC M.cells.length cc, .slice AL M.locks.length cl, .slice AD M.told.length cd] ∧ OwnMc w' w5.heap.size (.slice AT M.ths.length ct) (.slice AC M.cells.length cc) (.slice AL M.locks.length cl) (.slice AD M.told.length cd) xs M),
            Fact.is 50 (.bool ok),
            Fact.upto 12 9 (fun v w' => ∃ g, v = .pointer (some ⟨g, 0, none⟩) ∧ w5.heap.size ≤ g ∧ w'.heap[g]? = some (.cells #[.slice none 0 0, .slice none 0 0, .slice none 0 0, .slice none 0 0] 28)),
            ⟨[12], none, fun vs w' => ∃ g AT ct AC cc AL cl AD cd xs, vs = [.pointer (some ⟨g, 0, none⟩)] ∧ w5.heap.size ≤ g ∧ Four w' g (.slice AT M.ths.length ct) (.slice AC M.cells.length cc) (.slice AL M.locks.length cl) (.slice AD M.told.length cd) ∧ McBox w' g ∧ OwnMc w' w5.heap.size (.slice AT M.ths.length ct) (.slice AC M.cells.length cc) (.slice AL M.locks.length cl) (.slice AD M.told.length cd) xs M ∧ Below w5.heap.size w5 w'⟩,
            Fact.is 13 (.bool ok)]
          [(9, fun w' => Below w5.heap.size w5 w')] []
          (by kernel_rfl) (by kernel_rfl) (by kernel_rfl) ?_ ?_ ?_ ?_ ?_
        · intro q hq
          simp only [List.mem_cons, List.not_mem_nil, or_false] at hq
          rcases hq with rfl
          · exact (Below.refl _ _).drew
        · exact ⟨Fact.is_stable _ _, Fact.is_stable _ _, Fact.is_stable _ _, Fact.is_stable _ _, Fact.upto_stable (fun v w w' hb ⟨AT, ct, AC, cc, AL, cl, AD, cd, xs, e, h⟩ => ⟨AT, ct, AC, cc, AL, cl, AD, cd, xs, e, h.keep hb⟩), (fun _ _ _ _ h => h), Fact.upto_stable (fun v w w' hb ⟨AT, ct, AC, cc, AL, cl, AD, cd, xs, e, h⟩ => ⟨AT, ct, AC, cc, AL, cl, AD, cd, xs, e, h.keep hb⟩), Fact.is_stable _ _, Fact.upto_stable (fun v w w' hb ⟨g, e, h, h'⟩ => ⟨g, e, h, heap_keep hb h'⟩), (fun vs w1 w2 hb ⟨g, AT, ct, AC, cc, AL, cl, AD, cd, xs, e, h0, h1, h2, h3, h4⟩ => ⟨g, AT, ct, AC, cc, AL, cl, AD, cd, xs, e, h0, h1.keep hb, h2.keep hb, h3.keep hb, below_then h4 hb⟩), Fact.is_stable _ _, trivial⟩
        · intro q hq w1' w2' hb h
          simp only [List.mem_cons, List.not_mem_nil, or_false] at hq
          rcases hq with rfl
          · exact below_then h hb
        · refine ⟨?_, ?_, ?_, ?_, ?_, ?_, ?_, ?_, ?_, ?_, ?_, trivial⟩
          · intro A' w' hJ hoff hdep _hdif
            have a10 : A'.eval (.tmp 10) = .pointer (some ⟨w2.heap.size, 0, none⟩) := off_of hoff 10 (by kernel_rfl)
            have b := init_of hJ (n := 0) rfl (by kernel_rfl)
            have q0 := keeps b d10_0
            have q1 := keeps b d10_1
            exact isI rfl rfl (by generalize A'.eval = ev at *; simp [go_sem, a10, q0, q1])
          · intro A' w' hJ hoff hdep _hdif
            have a11 : A'.eval (.tmp 11) = .pointer (some ⟨w4.heap.size, 0, none⟩) := off_of hoff 11 (by kernel_rfl)
            have b := init_of hJ (n := 0) rfl (by kernel_rfl)
            have q0 := keeps b b11_0
            have q1 := keeps b b11_1
            have q2 := keeps b b11_2
            have q3 := keeps b b11_3
            exact isI rfl rfl (by generalize A'.eval = ev at *; simp [go_sem, a11, q0, q1, q2, q3])
          · intro A' w' hJ hoff hdep _hdif
            have a5 : A'.eval (.tmp 5) = .pointer (some ⟨w.heap.size + 1 + 1, 0, none⟩) := off_of hoff 5 (by kernel_rfl)
            have b := init_of hJ (n := 0) rfl (by kernel_rfl)
            have q0 := keeps b v5_0
            have q1 := keeps b v5_1
            have q2 := keeps b v5_2
            exact isI rfl rfl (by generalize A'.eval = ev at *; simp [go_sem, a5, q0, q1, q2])
          · intro A' w' hJ hoff hdep _hdif
            have ef : ∀ f, A'.eval (.func f) = .func (.func f) #[] #[] := fun _ => rfl
            have a46 := is_of (ask_of hdep (j := 2) (by kernel_rfl)) rfl
            exact callI (f := 26) (args := #[.agg #[.int .i64 k2_0, .int .i64 k2_1, .int .i64 k2_2]]) (by generalize A'.eval = ev at *; simp [go_sem, ef, a46]) ((toChoice_any _ _ _ _).mono fun e w3 h => ⟨_, h.1, h.2, is_to rfl rfl, fam_none (by kernel_rfl)⟩)
          · intro A' w' hJ hoff hdep _hdif
            have ef : ∀ f, A'.eval (.func f) = .func (.func f) #[] #[] := fun _ => rfl
            have b := init_of hJ (n := 0) rfl (by kernel_rfl)
            have a44 := is_of (ask_of hdep (j := 0) (by kernel_rfl)) rfl
            have a45 := is_of (ask_of hdep (j := 1) (by kernel_rfl)) rfl
            have pp := HP5.out.keep b
            have pm := HA5.out.keep b
            have a47 := is_of (ask_of hdep (j := 3) (by kernel_rfl)) rfl
            have hz := b.size
            refine callI (f := 15) (args := #[.agg #[.slice (some ⟨g2, 0, none⟩) rs0.length rs0.length, .int .i64 h0], .agg #[.slice (some ⟨gT4, 0, none⟩) nt1 nt1, .slice (some ⟨gC4, 0, none⟩) nc1 nc1, .slice (some ⟨gL4, 0, none⟩) nl1 nl1, .slice (some ⟨gD4, 0, none⟩) nd1 nd1], .agg #[.int .i64 k2_0, .int .i64 k2_1, .int .i64 k2_2]]) (by generalize A'.eval = ev at *; simp [go_sem, ef, a44, a45, a47]) ((ID.out _ _ _ _ _ _ pp pm).mono fun e w3 h => ?_)
            obtain ⟨AT, ct, AC, cc, AL, cl, AD, cd, xs, h1, h2, h3⟩ := h
            exact ⟨_, h1, h2, upto_to rfl rfl ⟨AT, ct, AC, cc, AL, cl, AD, cd, xs, rfl, h3.mono hz⟩, fam_none (by kernel_rfl)⟩
          · intro A' w' hJ hoff hdep _hdif
            obtain ⟨AT, ct, AC, cc, AL, cl, AD, cd, xs, a48, pq⟩ := upto_of (ask_of hdep (j := 4) (by kernel_rfl)) rfl
            have ex : slotAt A' 48 = .tuple #[.agg #[.slice AT M.ths.length ct, .slice AC M.cells.length cc, .slice AL M.locks.length cl, .slice AD M.told.length cd], .bool ok] := a48
            exact runI (v := .tuple #[.agg #[.slice AT M.ths.length ct, .slice AC M.cells.length cc, .slice AL M.locks.length cl, .slice AD M.told.length cd], .bool ok]) (w' := w') (by generalize A'.eval = ev at *; simp [go_sem, a48]) (Below.refl _ _) ⟨AT, ct, AC, cc, AL, cl, AD, cd, by simp [put1, ex]⟩ (fam_none (by kernel_rfl))
          · intro A' w' hJ hoff hdep _hdif
            obtain ⟨AT, ct, AC, cc, AL, cl, AD, cd, xs, a48, pq⟩ := upto_of (ask_of hdep (j := 4) (by kernel_rfl)) rfl
            obtain ⟨ATz, ctz, ACz, ccz, ALz, clz, ADz, cdz, ez⟩ := ask_of hdep (j := 5) (by kernel_rfl)
            have ez : [slotAt A' 43, slotAt A' 48] = [.tuple #[.agg #[.slice ATz M.ths.length ctz, .slice ACz M.cells.length ccz, .slice ALz M.locks.length clz, .slice ADz M.told.length cdz], .bool ok], .tuple #[.agg #[.slice ATz M.ths.length ctz, .slice ACz M.cells.length ccz, .slice ALz M.locks.length clz, .slice ADz M.told.length cdz], .bool ok]] := ez
            injection ez with ez1 ez
            injection ez with ez2 _
            have a43 : A'.eval (.tmp 43) = .tuple #[.agg #[.slice AT M.ths.length ct, .slice AC M.cells.length cc, .slice AL M.locks.length cl, .slice AD M.told.length cd], .bool ok] := ez1.trans (ez2.symm.trans a48)
            exact runI (v := .agg #[.slice AT M.ths.length ct, .slice AC M.cells.length cc, .slice AL M.locks.length cl, .slice AD M.told.length cd]) (w' := w') (by generalize A'.eval = ev at *; simp [go_sem, a43]) (Below.refl _ _) (upto_to rfl rfl ⟨AT, ct, AC, cc, AL, cl, AD, cd, xs, rfl, pq⟩) (fam_none (by kernel_rfl))
          · intro A' w' hJ hoff hdep _hdif
            obtain ⟨ATz, ctz, ACz, ccz, ALz, clz, ADz, cdz, ez⟩ := ask_of hdep (j := 5) (by kernel_rfl)
            have ez : [slotAt A' 43, slotAt A' 48] = [.tuple #[.agg #[.slice ATz M.ths.length ctz, .slice ACz M.cells.length ccz, .slice ALz M.locks.length clz, .slice ADz M.told.length cdz], .bool ok], .tuple #[.agg #[.slice ATz M.ths.length ctz, .slice ACz M.cells.length ccz, .slice ALz M.locks.length clz, .slice ADz M.told.length cdz], .bool ok]] := ez
            injection ez with ez1 ez
            injection ez with _ _
            have a43 : A'.eval (.tmp 43) = .tuple #[.agg #[.slice ATz M.ths.length ctz, .slice ACz M.cells.length ccz, .slice ALz M.locks.length clz, .slice ADz M.told.length cdz], .bool ok] := ez1
            exact isI rfl rfl (by generalize A'.eval = ev at *; simp [go_sem, a43])
          · intro A' w' hJ hoff hdep _hdif
            have b := init_of hJ (n := 0) rfl (by kernel_rfl)
            exact allocI (ob := .cells #[.slice none 0 0, .slice none 0 0, .slice none 0 0, .slice none 0 0] 28) (by generalize A'.eval = ev at *; simp [go_sem]) (upto_to rfl rfl ⟨_, rfl, b.size, alloc_at _ _⟩)
          · intro A' w' hJ hoff hdep _hdif
            have b := init_of hJ (n := 0) rfl (by kernel_rfl)
            obtain ⟨g, aB, hgb, hg⟩ := upto_of (ask_of hdep (j := 8) (by kernel_rfl)) rfl
            obtain ⟨AT, ct, AC, cc, AL, cl, AD, cd, xs, a49, pq⟩ := upto_of (ask_of hdep (j := 6) (by kernel_rfl)) rfl
            have eB : slotAt A' 12 = .pointer (some ⟨g, 0, none⟩) := aB
            have hM : McBox w' g := ⟨_, _, hg⟩
            have k0 : w'.cell? ⟨g, 0, none⟩ = some (.slice none 0 0) := by simp [World.cell?, hg]
            have k1 : w'.cell? ⟨g, 1, none⟩ = some (.slice none 0 0) := by simp [World.cell?, hg]
            have k2 : w'.cell? ⟨g, 2, none⟩ = some (.slice none 0 0) := by simp [World.cell?, hg]
            have k3 : w'.cell? ⟨g, 3, none⟩ = some (.slice none 0 0) := by simp [World.cell?, hg]
            have g0 : w'.frozen? ⟨g, 0, none⟩ = false := by simp [World.frozen?, hg]
            have g1 : w'.frozen? ⟨g, 1, none⟩ = false := by simp [World.frozen?, hg]
            have g2 : w'.frozen? ⟨g, 2, none⟩ = false := by simp [World.frozen?, hg]
            have g3 : w'.frozen? ⟨g, 3, none⟩ = false := by simp [World.frozen?, hg]
            refine lastI (w' := (((w'.setCell ⟨g, 0, none⟩ (.slice AT M.ths.length ct)).setCell ⟨g, 1, none⟩ (.slice AC M.cells.length cc)).setCell ⟨g, 2, none⟩ (.slice AL M.locks.length cl)).setCell ⟨g, 3, none⟩ (.slice AD M.told.length cd)) (by generalize A'.eval = ev at *; simp [go_sem, aB, a49, k0, k1, k2, k3, g0, g1, g2, g3]) (by simp) ⟨g, AT, ct, AC, cc, AL, cl, AD, cd, xs, by simp [put1, eB], hgb, ?_, (((hM.set _ _).set _ _).set _ _).set _ _, (((pq.setBox _ _ hM).setBox _ _ (hM.set _ _)).setBox _ _ ((hM.set _ _).set _ _)).setBox _ _ (((hM.set _ _).set _ _).set _ _), ?_⟩ (fun j hj _ hk hf => ?_) (by kernel_rfl)
            · clear hoff hdep hJ pq
              unfold Four
              go_simp
            · repeat (refine Below.setCell ?_ hgb _)
              exact b
            · match j, hj, hk, hf with
              | 0, _, _, hf => exact hf
              | 1, _, _, hf => exact hf
              | 2, _, _, hf => exact hf
              | 3, _, _, hf => exact hf
              | 4, hj, hk, hf => exact absurd rfl (hk 9 rfl).1
              | 5, _, _, hf => exact hf
              | 6, hj, hk, hf => exact absurd rfl (hk 9 rfl).1
              | 7, _, _, hf => exact hf
              | 8, hj, hk, hf => exact absurd rfl (hk 9 rfl).1
              | 9, hj, _, _ => exact absurd rfl hj
              | 10, _, _, hf => exact hf
              | _ + 11, _, _, _ => trivial
          · intro A' w' hJ hoff hdep _hdif
            have a50 := is_of (ask_of hdep (j := 7) (by kernel_rfl)) rfl
            exact isI rfl rfl (by generalize A'.eval = ev at *; simp [go_sem, a50])
        · intro s w6 hf _hdf _hff
          obtain ⟨gbC, ATC, ctC, ACC, ccC, ALC, clC, ADC, cdC, xsC, es, lbC, fbC, mbC, obC, hb6⟩ := hf 9 (by decide) rfl
          have es : [s 12] = [.pointer (some ⟨gbC, 0, none⟩)] := es
          injection es with eB _
          have eA := val_of (hf 10 (by decide) rfl) rfl
          have OWC := Lib.hid obC
          clear hf obC
          simp only [putAll, Act.put, List.setIfInBounds_toArray, List.set_cons_succ, List.set_cons_zero, eB, eA]
          clear eB eA
          obtain ⟨uC_0, uC_1, uC_2, uC_3, _, _, _, _⟩ := fbC
          have d10_0' := keeps hb6 d10_0
          have d10_1' := keeps hb6 d10_1
          have b11_0' := keeps hb6 b11_0
          have b11_1' := keeps hb6 b11_1
          have b11_2' := keeps hb6 b11_2
          have b11_3' := keeps hb6 b11_3
          have HY6 := Lib.hid (fun (W' : World) (hb : Below w6.heap.size w6 W') => (⟨keeps hb d10_0', keeps hb d10_1', keeps hb b11_0', keeps hb b11_1', keeps hb b11_2', keeps hb b11_3', keeps hb uC_0, keeps hb uC_1, keeps hb uC_2, keeps hb uC_3⟩ : W'.cell? ⟨w2.heap.size, 0, none⟩ = some (.slice (some ⟨g2, 0, none⟩) rs0.length rs0.length) ∧ W'.cell? ⟨w2.heap.size, 1, none⟩ = some (.int .i64 h0) ∧ W'.cell? ⟨w4.heap.size, 0, none⟩ = some (.slice (some ⟨gT4, 0, none⟩) nt1 nt1) ∧ W'.cell? ⟨w4.heap.size, 1, none⟩ = some (.slice (some ⟨gC4, 0, none⟩) nc1 nc1) ∧ W'.cell? ⟨w4.heap.size, 2, none⟩ = some (.slice (some ⟨gL4, 0, none⟩) nl1 nl1) ∧ W'.cell? ⟨w4.heap.size, 3, none⟩ = some (.slice (some ⟨gD4, 0, none⟩) nd1 nd1) ∧ W'.cell? ⟨gbC, 0, none⟩ = some (.slice ATC M.ths.length ctC) ∧ W'.cell? ⟨gbC, 1, none⟩ = some (.slice ACC M.cells.length ccC) ∧ W'.cell? ⟨gbC, 2, none⟩ = some (.slice ALC M.locks.length clC) ∧ W'.cell? ⟨gbC, 3, none⟩ = some (.slice ADC M.told.length cdC)))
          clear d10_0 d10_1 b11_0 b11_1 b11_2 b11_3 d10_0' d10_1' b11_0' b11_1' b11_2' b11_3' v5_0 v5_1 v5_2
          have hs6 := hb6.size
          have C6 := Lib.hid (below_then C5.out hb6)
          have BDG := Lib.hid OWC.out.bd
          have NEG := Lib.hid (OWC.out.neM mbC)
          have lC := cell_lt uC_0
          simp only at lC
          have OX0_6 := Lib.hid (OX0.out.below hb6 OX0.out.lt)
          have OX1_6 := Lib.hid (OX1.out.keep hb6)
          clear mbC
          obtain ⟨_, _, _, _, _, _, _, _, _, v8_0, v8_1, v8_2, v8_3⟩ := HY1.out w6 C6.out
          go_wp2_with fail
          refine (eqMachine_same (OWC.out.arg rfl rfl rfl rfl) ((OW8.out.keep C6.out).arg rfl rfl rfl rfl) SMM.out).mono ?_
          rintro e w7 ⟨rfl, hb7⟩
          clear v8_0 v8_1 v8_2 v8_3
          clear uC_0 uC_1 uC_2 uC_3
          have C7 := Lib.hid (below_then C6.out hb7)
          have D7 := Lib.hid hb7
          have BW7 := Lib.hid (below_then B1.out C7.out)
          have RP0 : Hid (ArgPr w7 g2 0 rs0.length rs0.length rs0) := Lib.hid ((ProgMade.pr OX0_6.out hn0).keep hb7)
          have RP1 : Hid (ArgMc w7 (some ⟨gT4, 0, none⟩) nt1 nt1 (some ⟨gC4, 0, none⟩) nc1 nc1 (some ⟨gL4, 0, none⟩) nl1 nl1 (some ⟨gD4, 0, none⟩) nd1 nd1 m1) := Lib.hid ((OX1_6.out.keep hb7).arg HM1.out.nT HM1.out.nC HM1.out.nL HM1.out.nD)
          obtain ⟨v3_0, v3_1, _, _, _, _, _, _, _, _, _, _, _⟩ := HY1.out w7 C7.out
          obtain ⟨_, _, v4_0, v4_1, v4_2, v4_3, _, _, _, _, _, _, _⟩ := HY1.out w7 C7.out
          obtain ⟨v10_0, v10_1, _, _, _, _, _, _, _, _⟩ := HY6.out w7 hb7
          obtain ⟨_, _, v11_0, v11_1, v11_2, v11_3, _, _, _, _⟩ := HY6.out w7 hb7
          go_wp2_with fail
          refine wp_region_ord_cls [Fact.is 60 (.agg #[.slice (some ⟨g2, 0, none⟩) rs0.length rs0.length, .int .i64 h0]),
              Fact.is 61 (.agg #[.slice A0 rs0.length cap0, .int .i64 h0]),
              Fact.upto 62 3 (fun v w' => ∃ g, v = .agg #[.slice (some ⟨g, 0, none⟩) rs0.length rs0.length, .int .i64 h0] ∧ ArgPr w' g 0 rs0.length rs0.length rs0),
              Fact.is 63 (.bool true),
              Fact.is 64 (.bool false)]
            (by kernel_rfl) (by kernel_rfl) ?_ ?_ ?_
          · exact ⟨Fact.is_stable _ _, Fact.is_stable _ _, Fact.upto_stable (fun v w w' hb ⟨g, e, h⟩ => ⟨g, e, h.keep hb⟩), Fact.is_stable _ _, Fact.is_stable _ _, trivial⟩
          · have HBX := Lib.hid BW7.out
            have q_v3_0 := Cls.keeps v3_0
            have q_v3_1 := Cls.keeps v3_1
            have q_v10_0 := Cls.keeps v10_0
            have q_v10_1 := Cls.keeps v10_1
            refine ⟨?_, ?_, ?_, ?_, ?_, trivial⟩
            · intro A' x hoff hdep _hdif
              have a10 : A'.eval (.tmp 10) = .pointer (some ⟨w2.heap.size, 0, none⟩) := off_of hoff 10 (by kernel_rfl)
              exact good_is rfl rfl (by generalize A'.eval = ev at *; simp [go_sem, a10, q_v10_0, q_v10_1])
            · intro A' x hoff hdep _hdif
              have a3 : A'.eval (.tmp 3) = .pointer (some ⟨w.heap.size, 0, none⟩) := off_of hoff 3 (by kernel_rfl)
              exact good_is rfl rfl (by generalize A'.eval = ev at *; simp [go_sem, a3, q_v3_0, q_v3_1])
            · intro A' x hoff hdep _hdif
              have ef : ∀ f, A'.eval (.func f) = .func (.func f) #[] #[] := fun _ => rfl
              have a61 := is_of (ask_of hdep (j := 1) (by kernel_rfl)) rfl
              exact good_call_upto rfl rfl (by generalize A'.eval = ev at *; simp [go_sem, ef, a61]) ((toProgram_any _ _ rs0 _ hn0 (HV0.out.keep (HBX.out.trans (x.below.mono HBX.out.size)))).mono fun e w3 ⟨g3, h1, hg3, hb3, ho3⟩ => ⟨_, h1, hb3, g3, rfl, ProgMade.pr ho3 hn0⟩)
            · intro A' x hoff hdep _hdif
              have ef : ∀ f, A'.eval (.func f) = .func (.func f) #[] #[] := fun _ => rfl
              have a60 := is_of (ask_of hdep (j := 0) (by kernel_rfl)) rfl
              obtain ⟨g_62, a62, p62⟩ := upto_of (ask_of hdep (j := 2) (by kernel_rfl)) rfl
              exact good_call_is rfl rfl (by generalize A'.eval = ev at *; simp [go_sem, ef, a60, a62]) (eqProgram_same _ _ _ _ _ _ rs0 h0 _ hn0 (Nat.le_refl _) (Nat.le_refl _) (RP0.out.keep x.below).codes (p62).codes)
            · intro A' x hoff hdep _hdif
              have a63 := is_of (ask_of hdep (j := 3) (by kernel_rfl)) rfl
              exact good_is rfl rfl (by generalize A'.eval = ev at *; simp [go_sem, a63])
          · intro s w8 hb8 hf _hdf
            have e64 := val_of (hf 4 (by decide) rfl) rfl
            clear hf
            simp only [putAll, Act.put, List.setIfInBounds_toArray, List.set_cons_succ, List.set_cons_zero, e64]
            have B8 := Lib.hid (BW7.out.trans (hb8.mono BW7.out.size))
            have v3_0'51 := keeps hb8 v3_0
            have v3_1'51 := keeps hb8 v3_1
            have v4_0'51 := keeps hb8 v4_0
            have v4_1'51 := keeps hb8 v4_1
            have v4_2'51 := keeps hb8 v4_2
            have v4_3'51 := keeps hb8 v4_3
            have v10_0'51 := keeps hb8 v10_0
            have v10_1'51 := keeps hb8 v10_1
            have v11_0'51 := keeps hb8 v11_0
            have v11_1'51 := keeps hb8 v11_1
            have v11_2'51 := keeps hb8 v11_2
            have v11_3'51 := keeps hb8 v11_3
            clear v3_0 v3_1 v4_0 v4_1 v4_2 v4_3 v10_0 v10_1 v11_0 v11_1 v11_2 v11_3
            have RP0'51 := Lib.hid (RP0.out.keep hb8)
            have RP1'51 := Lib.hid (RP1.out.keep hb8)
            go_wp2_with fail
            refine wp_region_ord_cls [Fact.is 65 (.agg #[.slice (some ⟨gT4, 0, none⟩) nt1 nt1, .slice (some ⟨gC4, 0, none⟩) nc1 nc1, .slice (some ⟨gL4, 0, none⟩) nl1 nl1, .slice (some ⟨gD4, 0, none⟩) nd1 nd1]),
                Fact.is 66 (.agg #[.slice AT1 nt1 ct1, .slice AC1 nc1 cc1, .slice AL1 nl1 cl1, .slice AD1 nd1 cd1]),
                Fact.upto 67 3 (fun v w' => ∃ gT gC gL gD, v = .agg #[.slice (some ⟨gT, 0, none⟩) nt1 nt1, .slice (some ⟨gC, 0, none⟩) nc1 nc1, .slice (some ⟨gL, 0, none⟩) nl1 nl1, .slice (some ⟨gD, 0, none⟩) nd1 nd1] ∧ ArgMc w' (some ⟨gT, 0, none⟩) nt1 nt1 (some ⟨gC, 0, none⟩) nc1 nc1 (some ⟨gL, 0, none⟩) nl1 nl1 (some ⟨gD, 0, none⟩) nd1 nd1 m1),
                Fact.is 68 (.bool true),
                Fact.is 69 (.bool false)]
              (by kernel_rfl) (by kernel_rfl) ?_ ?_ ?_
            · exact ⟨Fact.is_stable _ _, Fact.is_stable _ _, Fact.upto_stable (fun v w w' hb ⟨gT, gC, gL, gD, e, h⟩ => ⟨gT, gC, gL, gD, e, h.keep hb⟩), Fact.is_stable _ _, Fact.is_stable _ _, trivial⟩
            · have HBX := Lib.hid B8.out
              have q_v4_0_51 := Cls.keeps v4_0'51
              have q_v4_1_51 := Cls.keeps v4_1'51
              have q_v4_2_51 := Cls.keeps v4_2'51
              have q_v4_3_51 := Cls.keeps v4_3'51
              have q_v11_0_51 := Cls.keeps v11_0'51
              have q_v11_1_51 := Cls.keeps v11_1'51
              have q_v11_2_51 := Cls.keeps v11_2'51
              have q_v11_3_51 := Cls.keeps v11_3'51
              refine ⟨?_, ?_, ?_, ?_, ?_, trivial⟩
              · intro A' x hoff hdep _hdif
                have a11 : A'.eval (.tmp 11) = .pointer (some ⟨w4.heap.size, 0, none⟩) := off_of hoff 11 (by kernel_rfl)
                exact good_is rfl rfl (by generalize A'.eval = ev at *; simp [go_sem, a11, q_v11_0_51, q_v11_1_51, q_v11_2_51, q_v11_3_51])
              · intro A' x hoff hdep _hdif
                have a4 : A'.eval (.tmp 4) = .pointer (some ⟨w.heap.size + 1, 0, none⟩) := off_of hoff 4 (by kernel_rfl)
                exact good_is rfl rfl (by generalize A'.eval = ev at *; simp [go_sem, a4, q_v4_0_51, q_v4_1_51, q_v4_2_51, q_v4_3_51])
              · intro A' x hoff hdep _hdif
                have ef : ∀ f, A'.eval (.func f) = .func (.func f) #[] #[] := fun _ => rfl
                have a66 := is_of (ask_of hdep (j := 1) (by kernel_rfl)) rfl
                exact good_call_upto rfl rfl (by generalize A'.eval = ev at *; simp [go_sem, ef, a66]) ((toMachine_any (HM1.out.keep (HBX.out.trans (x.below.mono HBX.out.size))) SM1.out).mono fun e w4 ⟨gT4, gC4, gL4, gD4, xs4, h1, hb4, ho4⟩ => ⟨_, h1, hb4, gT4, gC4, gL4, gD4, rfl, ho4.arg HM1.out.nT HM1.out.nC HM1.out.nL HM1.out.nD⟩)
              · intro A' x hoff hdep _hdif
                have ef : ∀ f, A'.eval (.func f) = .func (.func f) #[] #[] := fun _ => rfl
                have a65 := is_of (ask_of hdep (j := 0) (by kernel_rfl)) rfl
                obtain ⟨gT_67, gC_67, gL_67, gD_67, a67, p67⟩ := upto_of (ask_of hdep (j := 2) (by kernel_rfl)) rfl
                exact good_call_is rfl rfl (by generalize A'.eval = ev at *; simp [go_sem, ef, a65, a67]) (eqMachine_same (RP1'51.out.keep x.below) (p67) SM1.out)
              · intro A' x hoff hdep _hdif
                have a68 := is_of (ask_of hdep (j := 3) (by kernel_rfl)) rfl
                exact good_is rfl rfl (by generalize A'.eval = ev at *; simp [go_sem, a68])
            · intro s w9 hb9 hf _hdf
              have e69 := val_of (hf 4 (by decide) rfl) rfl
              clear hf
              simp only [putAll, Act.put, List.setIfInBounds_toArray, List.set_cons_succ, List.set_cons_zero, e69]
              have B9 := Lib.hid (B8.out.trans (hb9.mono B8.out.size))
              have v3_0'52 := keeps hb9 v3_0'51
              have v3_1'52 := keeps hb9 v3_1'51
              have v4_0'52 := keeps hb9 v4_0'51
              have v4_1'52 := keeps hb9 v4_1'51
              have v4_2'52 := keeps hb9 v4_2'51
              have v4_3'52 := keeps hb9 v4_3'51
              have v10_0'52 := keeps hb9 v10_0'51
              have v10_1'52 := keeps hb9 v10_1'51
              have v11_0'52 := keeps hb9 v11_0'51
              have v11_1'52 := keeps hb9 v11_1'51
              have v11_2'52 := keeps hb9 v11_2'51
              have v11_3'52 := keeps hb9 v11_3'51
              clear v3_0'51 v3_1'51 v4_0'51 v4_1'51 v4_2'51 v4_3'51 v10_0'51 v10_1'51 v11_0'51 v11_1'51 v11_2'51 v11_3'51
              have RP0'52 := Lib.hid (RP0'51.out.keep hb9)
              have RP1'52 := Lib.hid (RP1'51.out.keep hb9)
              have D9 := Lib.hid (below_then (below_then D7.out hb8) hb9)
              have C9 := Lib.hid (below_then C6.out D9.out)
              clear v3_0'52 v3_1'52 v4_0'52 v4_1'52 v4_2'52 v4_3'52 v10_0'52 v10_1'52 v11_0'52 v11_1'52 v11_2'52 v11_3'52
              have OX0_9 := Lib.hid (OX0_6.out.below D9.out OX0_6.out.lt)
              have OX1_9 := Lib.hid (OX1_6.out.keep D9.out)
              have OG_9 := Lib.hid (OWC.out.keep D9.out)
              have hs9 := D9.out.size
              obtain ⟨v10_0, v10_1, _, _, _, _, _, _, _, _⟩ := HY6.out w9 D9.out
              go_wp2_with fail
              refine (markProgram_only g2 rs0 h0 1 _ hn0 (by decide) (by decide) OX0_9.out).mono ?_
              rintro e w10 ⟨rfl, hw10⟩
              clear v10_0 v10_1
              have hS10 : ∀ u ∈ [Value.slice (some ⟨g2, 0, none⟩) 0 0], ∀ k, u.ownBlock = some k → g2 ≤ k ∧ k < g2 + 1 := fun u hu k e => by
                simp only [List.mem_singleton] at hu
                subst hu
                simp only [Value.ownBlock, Option.some.injEq] at e
                omega
              obtain ⟨_, _, v11_0, v11_1, v11_2, v11_3, _, _, _, _⟩ := HY6.out w9 D9.out
              obtain ⟨_, _, _, _, _, _, v12_0, v12_1, v12_2, v12_3⟩ := HY6.out w9 D9.out
              have hs10 := hw10.size
              have k11_0 := hw10.far hS10 v11_0 (by simp only; omega)
              have k11_1 := hw10.far hS10 v11_1 (by simp only; omega)
              have k11_2 := hw10.far hS10 v11_2 (by simp only; omega)
              have k11_3 := hw10.far hS10 v11_3 (by simp only; omega)
              have k12_0 := hw10.far hS10 v12_0 (by simp only; omega)
              have k12_1 := hw10.far hS10 v12_1 (by simp only; omega)
              have k12_2 := hw10.far hS10 v12_2 (by simp only; omega)
              have k12_3 := hw10.far hS10 v12_3 (by simp only; omega)
              clear v11_0 v11_1 v11_2 v11_3 v12_0 v12_1 v12_2 v12_3
              have OX1_10 := Lib.hid (OX1_9.out.far hw10 hS10 (fun x hx k e => by have := BD1.out x hx k e; omega))
              have OG_10 := Lib.hid (OG_9.out.far hw10 hS10 (fun x hx k e => by have := BDG.out x hx k e; omega))
              have C10 := Lib.hid (C9.out.trans (hw10.below (lo := w1.heap.size) (fun u hu k e => by have := hS10 u hu k e; omega) C9.out.size))
              clear hw10 hS10
              go_wp2_with fail
              refine (markMachine_any w3.heap.size _ _ OX1_10.out (by omega) (by have := M1N.out; omega)).mono ?_
              rintro e w11 ⟨rfl, hw11, _⟩
              have hs11 := hw11.size
              have j12_0 := hw11.far BD1.out k12_0 (by simp only; omega)
              have j12_1 := hw11.far BD1.out k12_1 (by simp only; omega)
              have j12_2 := hw11.far BD1.out k12_2 (by simp only; omega)
              have j12_3 := hw11.far BD1.out k12_3 (by simp only; omega)
              clear k11_0 k11_1 k11_2 k11_3 k12_0 k12_1 k12_2 k12_3
              have OG_11 := Lib.hid (OG_10.out.far hw11 BD1.out (fun x hx k e => by have := BDG.out x hx k e; omega))
              have C11 := Lib.hid (C10.out.trans (hw11.below (lo := w1.heap.size) (fun u hu k e => by have := BD1.out u hu k e; omega) C10.out.size))
              clear hw11
              obtain ⟨_, _, _, _, _, _, _, _, _, v8_0, v8_1, v8_2, v8_3⟩ := HY1.out w11 C11.out
              go_wp2_with fail
              refine (eqMachine_same (OG_11.out.arg rfl rfl rfl rfl) ((OW8.out.keep C11.out).arg rfl rfl rfl rfl) SMM.out).mono ?_
              rintro e w12 ⟨rfl, hb12⟩
              clear v8_0 v8_1 v8_2 v8_3
              have i12_0 := keeps hb12 j12_0
              have i12_1 := keeps hb12 j12_1
              have i12_2 := keeps hb12 j12_2
              have i12_3 := keeps hb12 j12_3
              clear j12_0 j12_1 j12_2 j12_3
              have OG_12 := Lib.hid (OG_11.out.keep hb12)
              have C12 := Lib.hid (below_then C11.out hb12)
              have hs12 := hb12.size
              clear hb12
              go_wp2_with fail
              refine (markMachine_any w5.heap.size 1 _ OG_12.out (by decide) (by have := MN.out; omega)).mono ?_
              rw [EMM.out]
              rintro e w13 ⟨rfl, hw13, ho13⟩
              have h12_0 := hw13.cell i12_0 NEG.out
              have h12_1 := hw13.cell i12_1 NEG.out
              have h12_2 := hw13.cell i12_2 NEG.out
              have h12_3 := hw13.cell i12_3 NEG.out
              clear i12_0 i12_1 i12_2 i12_3
              have C13 := Lib.hid (C12.out.trans (hw13.below (lo := w1.heap.size) (fun u hu k e => by have := BDG.out u hu k e; omega) C12.out.size))
              have OM13 := Lib.hid ho13
              clear hw13 ho13
              go_wp2_with fail
              refine (heldMachine_any (m := M) 1 _ OM13.out.markArg (by decide) (by have := MN.out; omega)).mono ?_
              rw [EMM.out]
              rintro e w14 ⟨rfl, hb14⟩
              have C14 := Lib.hid (below_then C13.out hb14)
              have BW14 := Lib.hid (below_then B1.out C14.out)
              have g12_0 := keeps hb14 h12_0
              have g12_1 := keeps hb14 h12_1
              have g12_2 := keeps hb14 h12_2
              have g12_3 := keeps hb14 h12_3
              clear h12_0 h12_1 h12_2 h12_3
              have OM14 := Lib.hid (OM13.out.keep hb14)
              clear hb14
              obtain ⟨v3_0, v3_1, _, _, _, _, _, _, _, _, _, _, _⟩ := HY1.out w14 C14.out
              obtain ⟨_, _, v4_0, v4_1, v4_2, v4_3, _, _, _, _, _, _, _⟩ := HY1.out w14 C14.out
              obtain ⟨_, _, _, _, _, _, v5_0, v5_1, v5_2, _, _, _, _⟩ := HY1.out w14 C14.out
              go_wp2_with fail
              refine wp_region_ordI [Fact.is 101 (.agg #[.slice A0 rs0.length cap0, .int .i64 h0]),
                  Fact.upto 102 11 (fun v w' => ∃ g, v = .agg #[.slice (some ⟨g, 0, none⟩) rs0.length rs0.length, .int .i64 h0] ∧ ArgPr w' g 0 rs0.length rs0.length rs0),
                  Fact.is 103 (.agg #[.slice AT1 nt1 ct1, .slice AC1 nc1 cc1, .slice AL1 nl1 cl1, .slice AD1 nd1 cd1]),
                  Fact.upto 104 11 (fun v w' => ∃ gT gC gL gD, v = .agg #[.slice (some ⟨gT, 0, none⟩) nt1 nt1, .slice (some ⟨gC, 0, none⟩) nc1 nc1, .slice (some ⟨gL, 0, none⟩) nl1 nl1, .slice (some ⟨gD, 0, none⟩) nd1 nd1] ∧ ArgMc w' (some ⟨gT, 0, none⟩) nt1 nt1 (some ⟨gC, 0, none⟩) nc1 nc1 (some ⟨gL, 0, none⟩) nl1 nl1 (some ⟨gD, 0, none⟩) nd1 nd1 m1),
                  Fact.is 105 (.agg #[.int .i64 k2_0, .int .i64 k2_1, .int .i64 k2_2]),
                  Fact.is 106 (.agg #[.int .i64 k2_0, .int .i64 k2_1, .int .i64 k2_2]),
                  Fact.upto 107 11 (fun v w' => ∃ AT ct AC cc AL cl AD cd xs, v = .tuple #[.agg #[.slice AT M.ths.length ct, .slice AC M.cells.length cc, .slice AL M.locks.length cl, .slice AD M.told.length cd], .bool ok] ∧ OwnMc w' w14.heap.size (.slice AT M.ths.length ct) (.slice AC M.cells.length cc) (.slice AL M.locks.length cl) (.slice AD M.told.length cd) xs M),
                  ⟨[100, 107], none, fun vs _ => ∃ AT ct AC cc AL cl AD cd, vs = [.tuple #[.agg #[.slice AT M.ths.length ct, .slice AC M.cells.length cc, .slice AL M.locks.length cl, .slice AD M.told.length cd], .bool ok], .tuple #[.agg #[.slice AT M.ths.length ct, .slice AC M.cells.length cc, .slice AL M.locks.length cl, .slice AD M.told.length cd], .bool ok]]⟩,
                  Fact.upto 108 11 (fun v w' => ∃ AT ct AC cc AL cl AD cd xs, v = .agg #[.slice AT M.ths.length ct, .slice AC M.cells.length cc, .slice AL M.locks.length cl, .slice AD M.told.length cd] ∧ OwnMc w' w14.heap.size (.slice AT M.ths.length ct) (.slice AC M.cells.length cc) (.slice AL M.locks.length cl) (.slice AD M.told.length cd) xs M),
                  Fact.is 109 (.bool ok),
                  Fact.upto 17 11 (fun v w' => ∃ g, v = .pointer (some ⟨g, 0, none⟩) ∧ w14.heap.size ≤ g ∧ w'.heap[g]? = some (.cells #[.slice none 0 0, .slice none 0 0, .slice none 0 0, .slice none 0 0] 28)),
                  ⟨[17], none, fun vs w' => ∃ g AT ct AC cc AL cl AD cd xs, vs = [.pointer (some ⟨g, 0, none⟩)] ∧ w14.heap.size ≤ g ∧ Four w' g (.slice AT M.ths.length ct) (.slice AC M.cells.length cc) (.slice AL M.locks.length cl) (.slice AD M.told.length cd) ∧ McBox w' g ∧ OwnMc w' w14.heap.size (.slice AT M.ths.length ct) (.slice AC M.cells.length cc) (.slice AL M.locks.length cl) (.slice AD M.told.length cd) xs M ∧ Below w14.heap.size w14 w'⟩,
                  Fact.is 18 (.bool ok)]
                [(11, fun w' => Below w14.heap.size w14 w')] []
                (by kernel_rfl) (by kernel_rfl) (by kernel_rfl) ?_ ?_ ?_ ?_ ?_
              · intro q hq
                simp only [List.mem_cons, List.not_mem_nil, or_false] at hq
                rcases hq with rfl
                · exact (Below.refl _ _).drew
              · exact ⟨Fact.is_stable _ _, Fact.upto_stable (fun v w w' hb ⟨g, e, h⟩ => ⟨g, e, h.keep hb⟩), Fact.is_stable _ _, Fact.upto_stable (fun v w w' hb ⟨gT, gC, gL, gD, e, h⟩ => ⟨gT, gC, gL, gD, e, h.keep hb⟩), Fact.is_stable _ _, Fact.is_stable _ _, Fact.upto_stable (fun v w w' hb ⟨AT, ct, AC, cc, AL, cl, AD, cd, xs, e, h⟩ => ⟨AT, ct, AC, cc, AL, cl, AD, cd, xs, e, h.keep hb⟩), (fun _ _ _ _ h => h), Fact.upto_stable (fun v w w' hb ⟨AT, ct, AC, cc, AL, cl, AD, cd, xs, e, h⟩ => ⟨AT, ct, AC, cc, AL, cl, AD, cd, xs, e, h.keep hb⟩), Fact.is_stable _ _, Fact.upto_stable (fun v w w' hb ⟨g, e, h, h'⟩ => ⟨g, e, h, heap_keep hb h'⟩), (fun vs w1 w2 hb ⟨g, AT, ct, AC, cc, AL, cl, AD, cd, xs, e, h0, h1, h2, h3, h4⟩ => ⟨g, AT, ct, AC, cc, AL, cl, AD, cd, xs, e, h0, h1.keep hb, h2.keep hb, h3.keep hb, below_then h4 hb⟩), Fact.is_stable _ _, trivial⟩
              · intro q hq w1' w2' hb h
                simp only [List.mem_cons, List.not_mem_nil, or_false] at hq
                rcases hq with rfl
                · exact below_then h hb
              · refine ⟨?_, ?_, ?_, ?_, ?_, ?_, ?_, ?_, ?_, ?_, ?_, ?_, ?_, trivial⟩
                · intro A' w' hJ hoff hdep _hdif
                  have a3 : A'.eval (.tmp 3) = .pointer (some ⟨w.heap.size, 0, none⟩) := off_of hoff 3 (by kernel_rfl)
                  have b := init_of hJ (n := 0) rfl (by kernel_rfl)
                  have q0 := keeps b v3_0
                  have q1 := keeps b v3_1
                  exact isI rfl rfl (by generalize A'.eval = ev at *; simp [go_sem, a3, q0, q1])
                · intro A' w' hJ hoff hdep _hdif
                  have ef : ∀ f, A'.eval (.func f) = .func (.func f) #[] #[] := fun _ => rfl
                  have a101 := is_of (ask_of hdep (j := 0) (by kernel_rfl)) rfl
                  have b := init_of hJ (n := 0) rfl (by kernel_rfl)
                  refine callI (f := 24) (args := #[.agg #[.slice A0 rs0.length cap0, .int .i64 h0]]) (by generalize A'.eval = ev at *; simp [go_sem, ef, a101]) ((toProgram_any _ _ rs0 _ hn0 (HV0.out.keep (below_then BW14.out b))).mono fun e w3 h => ?_)
                  obtain ⟨g3, h1, hg3, hb3, ho3⟩ := h
                  exact ⟨_, h1, hb3, upto_to rfl rfl ⟨g3, rfl, ProgMade.pr ho3 hn0⟩, fam_none (by kernel_rfl)⟩
                · intro A' w' hJ hoff hdep _hdif
                  have a4 : A'.eval (.tmp 4) = .pointer (some ⟨w.heap.size + 1, 0, none⟩) := off_of hoff 4 (by kernel_rfl)
                  have b := init_of hJ (n := 0) rfl (by kernel_rfl)
                  have q0 := keeps b v4_0
                  have q1 := keeps b v4_1
                  have q2 := keeps b v4_2
                  have q3 := keeps b v4_3
                  exact isI rfl rfl (by generalize A'.eval = ev at *; simp [go_sem, a4, q0, q1, q2, q3])
                · intro A' w' hJ hoff hdep _hdif
                  have ef : ∀ f, A'.eval (.func f) = .func (.func f) #[] #[] := fun _ => rfl
                  have a103 := is_of (ask_of hdep (j := 2) (by kernel_rfl)) rfl
                  have b := init_of hJ (n := 0) rfl (by kernel_rfl)
                  refine callI (f := 25) (args := #[.agg #[.slice AT1 nt1 ct1, .slice AC1 nc1 cc1, .slice AL1 nl1 cl1, .slice AD1 nd1 cd1]]) (by generalize A'.eval = ev at *; simp [go_sem, ef, a103]) ((toMachine_any (HM1.out.keep (below_then BW14.out b)) SM1.out).mono fun e w3 h => ?_)
                  obtain ⟨gT4, gC4, gL4, gD4, xs4, h1, hb4, ho4⟩ := h
                  exact ⟨_, h1, hb4, upto_to rfl rfl ⟨gT4, gC4, gL4, gD4, rfl, ho4.arg HM1.out.nT HM1.out.nC HM1.out.nL HM1.out.nD⟩, fam_none (by kernel_rfl)⟩
                · intro A' w' hJ hoff hdep _hdif
                  have a5 : A'.eval (.tmp 5) = .pointer (some ⟨w.heap.size + 1 + 1, 0, none⟩) := off_of hoff 5 (by kernel_rfl)
                  have b := init_of hJ (n := 0) rfl (by kernel_rfl)
                  have q0 := keeps b v5_0
                  have q1 := keeps b v5_1
                  have q2 := keeps b v5_2
                  exact isI rfl rfl (by generalize A'.eval = ev at *; simp [go_sem, a5, q0, q1, q2])
                · intro A' w' hJ hoff hdep _hdif
                  have ef : ∀ f, A'.eval (.func f) = .func (.func f) #[] #[] := fun _ => rfl
                  have a105 := is_of (ask_of hdep (j := 4) (by kernel_rfl)) rfl
                  exact callI (f := 26) (args := #[.agg #[.int .i64 k2_0, .int .i64 k2_1, .int .i64 k2_2]]) (by generalize A'.eval = ev at *; simp [go_sem, ef, a105]) ((toChoice_any _ _ _ _).mono fun e w3 h => ⟨_, h.1, h.2, is_to rfl rfl, fam_none (by kernel_rfl)⟩)
                · intro A' w' hJ hoff hdep _hdif
                  have ef : ∀ f, A'.eval (.func f) = .func (.func f) #[] #[] := fun _ => rfl
                  have b := init_of hJ (n := 0) rfl (by kernel_rfl)
                  obtain ⟨g_p, a102, pp⟩ := upto_of (ask_of hdep (j := 1) (by kernel_rfl)) rfl
                  obtain ⟨gT_m, gC_m, gL_m, gD_m, a104, pm⟩ := upto_of (ask_of hdep (j := 3) (by kernel_rfl)) rfl
                  have a106 := is_of (ask_of hdep (j := 5) (by kernel_rfl)) rfl
                  have hz := b.size
                  refine callI (f := 15) (args := #[.agg #[.slice (some ⟨g_p, 0, none⟩) rs0.length rs0.length, .int .i64 h0], .agg #[.slice (some ⟨gT_m, 0, none⟩) nt1 nt1, .slice (some ⟨gC_m, 0, none⟩) nc1 nc1, .slice (some ⟨gL_m, 0, none⟩) nl1 nl1, .slice (some ⟨gD_m, 0, none⟩) nd1 nd1], .agg #[.int .i64 k2_0, .int .i64 k2_1, .int .i64 k2_2]]) (by generalize A'.eval = ev at *; simp [go_sem, ef, a102, a104, a106]) ((ID.out _ _ _ _ _ _ pp pm).mono fun e w3 h => ?_)
                  obtain ⟨AT, ct, AC, cc, AL, cl, AD, cd, xs, h1, h2, h3⟩ := h
                  exact ⟨_, h1, h2, upto_to rfl rfl ⟨AT, ct, AC, cc, AL, cl, AD, cd, xs, rfl, h3.mono hz⟩, fam_none (by kernel_rfl)⟩
                · intro A' w' hJ hoff hdep _hdif
                  obtain ⟨AT, ct, AC, cc, AL, cl, AD, cd, xs, a107, pq⟩ := upto_of (ask_of hdep (j := 6) (by kernel_rfl)) rfl
                  have ex : slotAt A' 107 = .tuple #[.agg #[.slice AT M.ths.length ct, .slice AC M.cells.length cc, .slice AL M.locks.length cl, .slice AD M.told.length cd], .bool ok] := a107
                  exact runI (v := .tuple #[.agg #[.slice AT M.ths.length ct, .slice AC M.cells.length cc, .slice AL M.locks.length cl, .slice AD M.told.length cd], .bool ok]) (w' := w') (by generalize A'.eval = ev at *; simp [go_sem, a107]) (Below.refl _ _) ⟨AT, ct, AC, cc, AL, cl, AD, cd, by simp [put1, ex]⟩ (fam_none (by kernel_rfl))
                · intro A' w' hJ hoff hdep _hdif
                  obtain ⟨AT, ct, AC, cc, AL, cl, AD, cd, xs, a107, pq⟩ := upto_of (ask_of hdep (j := 6) (by kernel_rfl)) rfl
                  obtain ⟨ATz, ctz, ACz, ccz, ALz, clz, ADz, cdz, ez⟩ := ask_of hdep (j := 7) (by kernel_rfl)
                  have ez : [slotAt A' 100, slotAt A' 107] = [.tuple #[.agg #[.slice ATz M.ths.length ctz, .slice ACz M.cells.length ccz, .slice ALz M.locks.length clz, .slice ADz M.told.length cdz], .bool ok], .tuple #[.agg #[.slice ATz M.ths.length ctz, .slice ACz M.cells.length ccz, .slice ALz M.locks.length clz, .slice ADz M.told.length cdz], .bool ok]] := ez
                  injection ez with ez1 ez
                  injection ez with ez2 _
                  have a100 : A'.eval (.tmp 100) = .tuple #[.agg #[.slice AT M.ths.length ct, .slice AC M.cells.length cc, .slice AL M.locks.length cl, .slice AD M.told.length cd], .bool ok] := ez1.trans (ez2.symm.trans a107)
                  exact runI (v := .agg #[.slice AT M.ths.length ct, .slice AC M.cells.length cc, .slice AL M.locks.length cl, .slice AD M.told.length cd]) (w' := w') (by generalize A'.eval = ev at *; simp [go_sem, a100]) (Below.refl _ _) (upto_to rfl rfl ⟨AT, ct, AC, cc, AL, cl, AD, cd, xs, rfl, pq⟩) (fam_none (by kernel_rfl))
                · intro A' w' hJ hoff hdep _hdif
                  obtain ⟨ATz, ctz, ACz, ccz, ALz, clz, ADz, cdz, ez⟩ := ask_of hdep (j := 7) (by kernel_rfl)
                  have ez : [slotAt A' 100, slotAt A' 107] = [.tuple #[.agg #[.slice ATz M.ths.length ctz, .slice ACz M.cells.length ccz, .slice ALz M.locks.length clz, .slice ADz M.told.length cdz], .bool ok], .tuple #[.agg #[.slice ATz M.ths.length ctz, .slice ACz M.cells.length ccz, .slice ALz M.locks.length clz, .slice ADz M.told.length cdz], .bool ok]] := ez
                  injection ez with ez1 ez
                  injection ez with _ _
                  have a100 : A'.eval (.tmp 100) = .tuple #[.agg #[.slice ATz M.ths.length ctz, .slice ACz M.cells.length ccz, .slice ALz M.locks.length clz, .slice ADz M.told.length cdz], .bool ok] := ez1
                  exact isI rfl rfl (by generalize A'.eval = ev at *; simp [go_sem, a100])
                · intro A' w' hJ hoff hdep _hdif
                  have b := init_of hJ (n := 0) rfl (by kernel_rfl)
                  exact allocI (ob := .cells #[.slice none 0 0, .slice none 0 0, .slice none 0 0, .slice none 0 0] 28) (by generalize A'.eval = ev at *; simp [go_sem]) (upto_to rfl rfl ⟨_, rfl, b.size, alloc_at _ _⟩)
                · intro A' w' hJ hoff hdep _hdif
                  have b := init_of hJ (n := 0) rfl (by kernel_rfl)
                  obtain ⟨g, aB, hgb, hg⟩ := upto_of (ask_of hdep (j := 10) (by kernel_rfl)) rfl
                  obtain ⟨AT, ct, AC, cc, AL, cl, AD, cd, xs, a108, pq⟩ := upto_of (ask_of hdep (j := 8) (by kernel_rfl)) rfl
                  have eB : slotAt A' 17 = .pointer (some ⟨g, 0, none⟩) := aB
                  have hM : McBox w' g := ⟨_, _, hg⟩
                  have k0 : w'.cell? ⟨g, 0, none⟩ = some (.slice none 0 0) := by simp [World.cell?, hg]
                  have k1 : w'.cell? ⟨g, 1, none⟩ = some (.slice none 0 0) := by simp [World.cell?, hg]
                  have k2 : w'.cell? ⟨g, 2, none⟩ = some (.slice none 0 0) := by simp [World.cell?, hg]
                  have k3 : w'.cell? ⟨g, 3, none⟩ = some (.slice none 0 0) := by simp [World.cell?, hg]
                  have g0 : w'.frozen? ⟨g, 0, none⟩ = false := by simp [World.frozen?, hg]
                  have g1 : w'.frozen? ⟨g, 1, none⟩ = false := by simp [World.frozen?, hg]
                  have g2 : w'.frozen? ⟨g, 2, none⟩ = false := by simp [World.frozen?, hg]
                  have g3 : w'.frozen? ⟨g, 3, none⟩ = false := by simp [World.frozen?, hg]
                  refine lastI (w' := (((w'.setCell ⟨g, 0, none⟩ (.slice AT M.ths.length ct)).setCell ⟨g, 1, none⟩ (.slice AC M.cells.length cc)).setCell ⟨g, 2, none⟩ (.slice AL M.locks.length cl)).setCell ⟨g, 3, none⟩ (.slice AD M.told.length cd)) (by generalize A'.eval = ev at *; simp [go_sem, aB, a108, k0, k1, k2, k3, g0, g1, g2, g3]) (by simp) ⟨g, AT, ct, AC, cc, AL, cl, AD, cd, xs, by simp [put1, eB], hgb, ?_, (((hM.set _ _).set _ _).set _ _).set _ _, (((pq.setBox _ _ hM).setBox _ _ (hM.set _ _)).setBox _ _ ((hM.set _ _).set _ _)).setBox _ _ (((hM.set _ _).set _ _).set _ _), ?_⟩ (fun j hj _ hk hf => ?_) (by kernel_rfl)
                  · clear hoff hdep hJ pq
                    unfold Four
                    go_simp
                  · repeat (refine Below.setCell ?_ hgb _)
                    exact b
                  · match j, hj, hk, hf with
                    | 0, _, _, hf => exact hf
                    | 1, hj, hk, hf => exact absurd rfl (hk 11 rfl).1
                    | 2, _, _, hf => exact hf
                    | 3, hj, hk, hf => exact absurd rfl (hk 11 rfl).1
                    | 4, _, _, hf => exact hf
                    | 5, _, _, hf => exact hf
                    | 6, hj, hk, hf => exact absurd rfl (hk 11 rfl).1
                    | 7, _, _, hf => exact hf
                    | 8, hj, hk, hf => exact absurd rfl (hk 11 rfl).1
                    | 9, _, _, hf => exact hf
                    | 10, hj, hk, hf => exact absurd rfl (hk 11 rfl).1
                    | 11, hj, _, _ => exact absurd rfl hj
                    | 12, _, _, hf => exact hf
                    | _ + 13, _, _, _ => trivial
                · intro A' w' hJ hoff hdep _hdif
                  have a109 := is_of (ask_of hdep (j := 9) (by kernel_rfl)) rfl
                  exact isI rfl rfl (by generalize A'.eval = ev at *; simp [go_sem, a109])
              · intro s w15 hf _hdf _hff
                obtain ⟨gbH, ATH, ctH, ACH, ccH, ALH, clH, ADH, cdH, xsH, es, lbH, fbH, mbH, obH, hb15⟩ := hf 11 (by decide) rfl
                have es : [s 17] = [.pointer (some ⟨gbH, 0, none⟩)] := es
                injection es with eB _
                have eA := val_of (hf 12 (by decide) rfl) rfl
                have OWH := Lib.hid obH
                clear hf obH
                simp only [putAll, Act.put, List.setIfInBounds_toArray, List.set_cons_succ, List.set_cons_zero, eB, eA]
                clear eB eA
                clear v3_0 v3_1 v4_0 v4_1 v4_2 v4_3 v5_0 v5_1 v5_2
                obtain ⟨uH_0, uH_1, uH_2, uH_3, _, _, _, _⟩ := fbH
                have f12_0 := keeps hb15 g12_0
                have f12_1 := keeps hb15 g12_1
                have f12_2 := keeps hb15 g12_2
                have f12_3 := keeps hb15 g12_3
                clear g12_0 g12_1 g12_2 g12_3 mbH
                have C15 := Lib.hid (below_then C14.out hb15)
                have OM15 := Lib.hid (OM14.out.keep hb15)
                clear hb15
                obtain ⟨_, _, _, _, _, _, _, _, _, v8_0, v8_1, v8_2, v8_3⟩ := HY1.out w15 C15.out
                go_wp2_with fail
                refine (eqMachine_same (OWH.out.arg rfl rfl rfl rfl) ((OW8.out.keep C15.out).arg rfl rfl rfl rfl) SMM.out).mono ?_
                rintro e w16 ⟨rfl, hb16⟩
                clear v8_0 v8_1 v8_2 v8_3
                have e12_0 := keeps hb16 f12_0
                have e12_1 := keeps hb16 f12_1
                have e12_2 := keeps hb16 f12_2
                have e12_3 := keeps hb16 f12_3
                clear f12_0 f12_1 f12_2 f12_3 uH_0 uH_1 uH_2 uH_3
                have C16 := Lib.hid (below_then C15.out hb16)
                have OM16 := Lib.hid (OM15.out.keep hb16)
                clear hb16
                go_wp2_with fail
                refine (heldMachine_any (m := M) 1 _ OM16.out.markArg (by decide) (by have := MN.out; omega)).mono ?_
                rw [EMM.out]
                rintro e w17 ⟨rfl, hb17⟩
                go_wp2
                go_ret
                exact ⟨rfl, below_then B1.out (below_then C16.out hb17)⟩

set_option maxRecDepth 100000 in
theorem exactDo_lifted (os : Os) (started : os.Started) (H : Type) (enc : TypeId × Value → H) :
    ReturnsInHanded {} Try.checked os 6 .any (Rows.fnExactDoSpec.pre6 enc Try.prog Try.f6 Rows.fnExactDoRow.domain false) (Rows.fnExactDoSpec.post enc Try.prog Try.f6 false true false false) := by
  refine law_lifted (C := Try.checked) (tb := 4) own started (by kernel_rfl) Try.func6
    (ChangeSpec.witness6 (enc := enc) (C := Try.checked) false ⟨#[], #[.agg #[.slice none 0 0, .int .i64 0], .agg #[.slice none 0 0, .slice none 0 0, .slice none 0 0, .slice none 0 0], .agg #[.int .i64 0, .int .i64 0, .int .i64 0]], []⟩ 8 (by kernel_rfl) (by kernel_rfl) (by kernel_rfl) (by kernel_rfl))
    laidOut (fun t ht => ?_) rfl Try.underlying4 rfl (fun ds hds => ?_) ?_
  · have hp : t ∈ [45, 48, 49] := ht
    simp only [List.mem_cons, List.not_mem_nil, or_false] at hp
    rcases hp with rfl | rfl | rfl
    · exact ⟨by kernel_rfl, of_decide_eq_true (by kernel_rfl)⟩
    · exact ⟨by kernel_rfl, of_decide_eq_true (by kernel_rfl)⟩
    · exact ⟨by kernel_rfl, of_decide_eq_true (by kernel_rfl)⟩
  · match ds, hds with
    | [d0, d1, d2], _ => rfl
  · intro W base args ds p hval0 hA0
    have hval : ∀ (j : Nat) t v, Try.f6.params[j]? = some t → args[j]? = some v → Value.okWide Try.prog W .any base t v := hval0
    have hA : DataW.TrodAll enc Try.prog W 0 (fun _ => true) true Try.f6.params.toList args.toList ds p := hA0
    rw [Try.params6] at hA hval
    obtain ⟨v0, v1, v2, d0, d1, d2, p0, p1, p2, rfl, rfl, rfl, h0, h1, h2⟩ := trodAll_three hA
    obtain ⟨c0, c1, y0, y1, m, rfl, _, _, hy0, hy1⟩ := open_agg2 Try.underlying45 (by kernel_rfl) cells_prog (hval 0 45 v0 rfl rfl) h0
    obtain ⟨A0, cap0, rs0, e0, hv0, hm0⟩ := open_codes hy0
    obtain ⟨hd0, e1, _, _⟩ := DataW.trod_int Try.underlying3 hy1
    simp at e0 e1
    subst e0 e1
    obtain ⟨AT1, nt1, ct1, AC1, nc1, cc1, AL1, nl1, cl1, AD1, nd1, cd1, mc1, rfl, HM1, HL1⟩ := open_machine (hval 1 48 v1 rfl rfl) h1
    obtain ⟨c0, c1, c2, y0, y1, y2, m, rfl, _, _, hy0, hy1, hy2⟩ := open_agg3 Try.underlying49 (by kernel_rfl) cellsChoice (hval 2 49 v2 rfl rfl) h2
    obtain ⟨k2_0, e0, _, _⟩ := DataW.trod_int Try.underlying3 hy0
    obtain ⟨k2_1, e1, _, _⟩ := DataW.trod_int Try.underlying3 hy1
    obtain ⟨k2_2, e2, _, _⟩ := DataW.trod_int Try.underlying3 hy2
    simp at e0 e1 e2
    subst e0 e1 e2
    exact exactDo_walk A0 cap0 hd0 rs0 k2_0 k2_1 k2_2 W hv0 hm0 HM1 HL1

theorem exactDo_holds : Rows.FnExactDoSaid :=
  OpenClaim.holds_of_wide 6 Try.f6 rfl rfl rfl rfl rfl rfl rfl ⟨rfl, rfl, rfl, rfl, rfl⟩ rfl rfl rfl rfl rfl (by kernel_rfl) Try.func6 (by kernel_rfl)
    (of_decide_eq_true (by kernel_rfl)) (by unfold Func.isWrapper; rw [if_neg (of_decide_eq_false (by kernel_rfl))]; exact ⟨rfl, rfl⟩)
    (fun os started H enc _ => exactDo_lifted os started H enc)
#print axioms exactDo_holds
end Go.Proofs.Ytbfmhcegnffolaa
