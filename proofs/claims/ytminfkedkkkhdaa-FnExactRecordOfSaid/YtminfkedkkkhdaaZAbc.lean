/-
  Part of a proof: DoS. No condition.
-/
import Derived.Test.YtminfkedkkkhdaaZAba
import Derived.Test.YtminfkedkkkhdaaZAbb
namespace Go.Proofs.Ytminfkedkkkhdaa
open Go.RowKit
set_option maxRecDepth 100000 in
set_option maxHeartbeats 16000000 in
theorem specDo_any {AT AC AL AD : Option Addr} {nt ct nc cc nl cl nd cd b o n cap : Nat} {m : Bt.Mc} {rs : List Bt.C4} (h : Int) (c : Bt.Ch) (w : World) (P : ArgPr w b o n cap rs)
  (H : ArgMc w AT nt ct AC nc cc AL nl cl AD nd cd m) (S : Small m) :
  Calls Try.prog 65 #[.agg #[.slice (some ⟨b, o, none⟩) n cap, .int .i64 h], .agg #[.slice AT nt ct, .slice AC nc cc, .slice AL nl cl, .slice AD nd cd], .agg #[.int .i64 c.who, .int .i64 c.kind, .int .i64 c.reply]] w (DoSaid (Bt.doM rs h m c) w) := by
 obtain ⟨who, kd, rep⟩ := c
 simp only
 have hT := Lib.hid H.nT
 have hle := H.ths.2.1
 have hcp := P.cap
 have hnP := Lib.hid P.nP
 have HS := Lib.hid S; clear S
 obtain ⟨W0, hW0⟩ : ∃ W0 : World, W0 = (((w.alloc (.cells #[.slice (some ⟨b, o, none⟩) n cap, .int .i64 h] 36)).alloc (.cells #[.slice AT nt ct, .slice AC nc cc, .slice AL nl cl, .slice AD nd cd] 31)).alloc (.cells #[.int .i64 who, .int .i64 kd, .int .i64 rep] 80)).alloc (.cells #[.slice none 0 0, .slice none 0 0, .slice none 0 0, .slice none 0 0] 31) := ⟨_, rfl⟩
 have B0 := Lib.hid (show Below w.heap.size w W0 by rw [hW0]; exact ((((Below.refl _ _).alloc (Nat.le_refl _) _).alloc (by simp) _).alloc (by simp; omega) _).alloc (by simp; omega) _)
 have HP := Lib.hid (P.keep B0.out); have HH := Lib.hid (H.keep B0.out)
 have HP00 := Lib.hid P; have HH00 := Lib.hid H
 clear P H
 have a0 : W0.cell? ⟨w.heap.size, 0, none⟩ = some (.slice (some ⟨b, o, none⟩) n cap) := by rw [hW0]; go_simp
 have a1 : W0.cell? ⟨w.heap.size, 1, none⟩ = some (.int .i64 h) := by rw [hW0]; go_simp
 have b0 : W0.cell? ⟨w.heap.size + 1, 0, none⟩ = some (.slice AT nt ct) := by rw [hW0]; go_simp
 have b1 : W0.cell? ⟨w.heap.size + 1, 1, none⟩ = some (.slice AC nc cc) := by rw [hW0]; go_simp
 have b2 : W0.cell? ⟨w.heap.size + 1, 2, none⟩ = some (.slice AL nl cl) := by rw [hW0]; go_simp
 have b3 : W0.cell? ⟨w.heap.size + 1, 3, none⟩ = some (.slice AD nd cd) := by rw [hW0]; go_simp
 have d0 : W0.cell? ⟨w.heap.size + 1 + 1, 0, none⟩ = some (.int .i64 who) := by rw [hW0]; go_simp
 have d1 : W0.cell? ⟨w.heap.size + 1 + 1, 1, none⟩ = some (.int .i64 kd) := by rw [hW0]; go_simp
 have d2 : W0.cell? ⟨w.heap.size + 1 + 1, 2, none⟩ = some (.int .i64 rep) := by rw [hW0]; go_simp
 have y0 : W0.cell? ⟨w.heap.size + 1 + 1 + 1, 0, none⟩ = some (.slice none 0 0) := by rw [hW0]; go_simp
 have y1 : W0.cell? ⟨w.heap.size + 1 + 1 + 1, 1, none⟩ = some (.slice none 0 0) := by rw [hW0]; go_simp
 have y2 : W0.cell? ⟨w.heap.size + 1 + 1 + 1, 2, none⟩ = some (.slice none 0 0) := by rw [hW0]; go_simp
 have y3 : W0.cell? ⟨w.heap.size + 1 + 1 + 1, 3, none⟩ = some (.slice none 0 0) := by rw [hW0]; go_simp
 have g0 : W0.frozen? ⟨w.heap.size + 1 + 1 + 1, 0, none⟩ = false := by rw [hW0]; go_simp
 have g1 : W0.frozen? ⟨w.heap.size + 1 + 1 + 1, 1, none⟩ = false := by rw [hW0]; go_simp
 have g2 : W0.frozen? ⟨w.heap.size + 1 + 1 + 1, 2, none⟩ = false := by rw [hW0]; go_simp
 have g3 : W0.frozen? ⟨w.heap.size + 1 + 1 + 1, 3, none⟩ = false := by rw [hW0]; go_simp
 have HY := Lib.hid (fun (W' : World) (hb : Below W0.heap.size W0 W') => (⟨keeps hb a0, keeps hb a1, keeps hb b0, keeps hb b1, keeps hb b2, keeps hb b3, keeps hb d0, keeps hb d1, keeps hb d2, keeps hb y0, keeps hb y1, keeps hb y2, keeps hb y3, keepz hb y0 g0, keepz hb y1 g1, keepz hb y2 g2, keepz hb y3 g3⟩ : W'.cell? ⟨w.heap.size, 0, none⟩ = some (.slice (some ⟨b, o, none⟩) n cap) ∧ W'.cell? ⟨w.heap.size, 1, none⟩ = some (.int .i64 h) ∧ W'.cell? ⟨w.heap.size + 1, 0, none⟩ = some (.slice AT nt ct) ∧ W'.cell? ⟨w.heap.size + 1, 1, none⟩ = some (.slice AC nc cc) ∧ W'.cell? ⟨w.heap.size + 1, 2, none⟩ = some (.slice AL nl cl) ∧ W'.cell? ⟨w.heap.size + 1, 3, none⟩ = some (.slice AD nd cd) ∧ W'.cell? ⟨w.heap.size + 1 + 1, 0, none⟩ = some (.int .i64 who) ∧ W'.cell? ⟨w.heap.size + 1 + 1, 1, none⟩ = some (.int .i64 kd) ∧ W'.cell? ⟨w.heap.size + 1 + 1, 2, none⟩ = some (.int .i64 rep) ∧ W'.cell? ⟨w.heap.size + 1 + 1 + 1, 0, none⟩ = some (.slice none 0 0) ∧ W'.cell? ⟨w.heap.size + 1 + 1 + 1, 1, none⟩ = some (.slice none 0 0) ∧ W'.cell? ⟨w.heap.size + 1 + 1 + 1, 2, none⟩ = some (.slice none 0 0) ∧ W'.cell? ⟨w.heap.size + 1 + 1 + 1, 3, none⟩ = some (.slice none 0 0) ∧ W'.frozen? ⟨w.heap.size + 1 + 1 + 1, 0, none⟩ = false ∧ W'.frozen? ⟨w.heap.size + 1 + 1 + 1, 1, none⟩ = false ∧ W'.frozen? ⟨w.heap.size + 1 + 1 + 1, 2, none⟩ = false ∧ W'.frozen? ⟨w.heap.size + 1 + 1 + 1, 3, none⟩ = false))
 have hz0 : W0.heap.size = w.heap.size + 4 := by rw [hW0]; simp
 have HW := Lib.hid hW0; clear hW0
 go_enter Try.func65, Try.ntmps65
 go_wp2_with fail
 rw [← HW.out]
 refine (specCanDo_any h ⟨who, kd, rep⟩ _ HP.out HH.out HS.out).mono ?_
 cases hcd : Bt.canDo rs h m ⟨who, kd, rep⟩
 ·have HDO := Lib.hid (Bt.doM_no hcd)
  rintro e w1 ⟨rfl, hb1⟩
  have z0 := keeps hb1 y0
  have z1 := keeps hb1 y1
  have z2 := keeps hb1 y2
  have z3 := keeps hb1 y3
  have f0 := keepz hb1 y0 g0
  have f1 := keepz hb1 y1 g1
  have f2 := keepz hb1 y2 g2
  have f3 := keepz hb1 y3 g3
  have B1 := Lib.hid (B0.out.trans (hb1.mono B0.out.size))
  have hz1 := hb1.size
  clear hb1 a0 a1 b0 b1 b2 b3 d0 d1 d2 y0 y1 y2 y3 g0 g1 g2 g3
  go_wp2
  refine bodyPost_ret (v := .tuple #[.agg #[.slice none 0 0, .slice none 0 0, .slice none 0 0, .slice none 0 0], .bool false]) (by simp [results, Try.results65, go_sem, z0, z1, z2, z3]) rfl ?_
  rw [HDO.out]
  refine ⟨rfl, ?_⟩
  repeat (refine Below.setCell ?_ (by simp; try omega) _)
  exact B1.out
 ·obtain ⟨hm, hr⟩ := Bt.canDo_true hcd
  simp only at hr
  have hlr := Bt.runs_lt hr
  rw [hT.out] at hlr
  obtain ⟨k, rfl⟩ : ∃ k : Nat, who = k := ⟨who.toNat, by omega⟩
  have hkn : k < nt := by omega
  have hk : k < m.ths.length := by rw [hT.out]; exact hkn
  have hst : m.ths[k].st = 0 := by rw [Bt.runs_in hk, beq_iff_eq] at hr; exact hr
  have MF := Lib.hid (Bt.machOk_facts hm)
  have TF := Lib.hid (Bt.thOk_facts (MF.out.th k hk))
  have HL4 := Lib.hid (Bt.regsOk_len TF.out.regs)
  clear hlr hr
  rintro e w1 ⟨rfl, hb1⟩
  have hz1 := hb1.size
  have a0' := keeps hb1 a0
  have a1' := keeps hb1 a1
  have b0' := keeps hb1 b0
  have b1' := keeps hb1 b1
  have b2' := keeps hb1 b2
  have b3' := keeps hb1 b3
  have d0' := keeps hb1 d0
  have d1' := keeps hb1 d1
  have d2' := keeps hb1 d2
  have B1 := Lib.hid (B0.out.trans (hb1.mono B0.out.size))
  have HH1 := Lib.hid (HH.out.keep hb1)
  have HB1 := Lib.hid hb1
  clear hb1
  go_wp2_with fail
  refine (l2Copy_any HH1.out HS.out).mono ?_
  rintro e w2 ⟨vt, vc, vl, vd, xs, rfl, hb2, ho2⟩
  obtain ⟨gt, ct2, rfl, hgt1, hgt2, hct2⟩ := ho2.ths.form (by omega)
  obtain ⟨bc, cc2, rfl, hbc1, hbc2, _⟩ : ∃ bc c, vc = .slice (some ⟨bc, 0, none⟩) m.cells.length c ∧ w1.heap.size ≤ bc ∧ bc < w2.heap.size ∧ m.cells.length ≤ c := by
   rcases ho2.cells.forms with ⟨_, e⟩ | ⟨g, c, e, h1, h2, h3, _⟩
   ·have := MF.out.cells; rw [e] at this; simp at this
   ·exact ⟨g, c, e, h1, h2, h3⟩
  obtain ⟨bl, cl2, rfl, hbl1, hbl2, _⟩ : ∃ bc c, vl = .slice (some ⟨bc, 0, none⟩) m.locks.length c ∧ w1.heap.size ≤ bc ∧ bc < w2.heap.size ∧ m.locks.length ≤ c := by
   rcases ho2.locks.forms with ⟨_, e⟩ | ⟨g, c, e, h1, h2, h3, _⟩
   ·have := MF.out.locks; rw [e] at this; simp at this
   ·exact ⟨g, c, e, h1, h2, h3⟩
  obtain ⟨AD2, cd2, rfl, _⟩ := ho2.told.arg.form
  rw [hT.out] at ho2 hct2
  rw [hT.out]
  have HNC := Lib.hid MF.out.cells; have HNL := Lib.hid MF.out.locks
  rw [HNC.out] at ho2
  rw [HNL.out] at ho2
  rw [HNC.out, HNL.out]
  obtain ⟨nd2, hnd2⟩ : ∃ nd2, m.told.length = nd2 := ⟨_, rfl⟩
  rw [hnd2] at ho2
  rw [hnd2]
  have HND := Lib.hid hnd2; clear hnd2
  have hkx : k < xs.length := by rw [ho2.ths.len]; exact hk
  obtain ⟨W3, hW3⟩ : ∃ W3 : World, W3 = w2.alloc (.cells #[.slice (some ⟨gt, 0, none⟩) nt ct2, .slice (some ⟨bc, 0, none⟩) 8 cc2, .slice (some ⟨bl, 0, none⟩) 2 cl2, .slice AD2 nd2 cd2] 31) := ⟨_, rfl⟩
  have hb23 : Below w2.heap.size w2 W3 := by rw [hW3]; exact (Below.refl _ _).alloc (Nat.le_refl _) _
  have hb13 : Below w1.heap.size w1 W3 := below_then hb2 hb23
  have hb3 : Below W0.heap.size W0 W3 := below_then HB1.out hb13
  have FR : Four W3 w2.heap.size (.slice (some ⟨gt, 0, none⟩) nt ct2) (.slice (some ⟨bc, 0, none⟩) 8 cc2) (.slice (some ⟨bl, 0, none⟩) 2 cl2) (.slice AD2 nd2 cd2) := by rw [hW3]; unfold Four; go_simp
  have MB : McBox W3 w2.heap.size := by rw [hW3]; exact ⟨_, _, alloc_at _ _⟩
  have HO := Lib.hid (ho2.keep hb23)
  have hz3 : W3.heap.size = w2.heap.size + 1 := by rw [hW3]; simp
  have p0 := keeps hb3 a0
  have p1 := keeps hb3 a1
  have m0 := keeps hb3 b0
  have m1 := keeps hb3 b1
  have m2 := keeps hb3 b2
  have m3 := keeps hb3 b3
  have c0 := keeps hb3 d0
  have c1 := keeps hb3 d1
  have c2 := keeps hb3 d2
  have z0 := keeps hb3 y0
  have z1 := keeps hb3 y1
  have z2 := keeps hb3 y2
  have z3 := keeps hb3 y3
  have f0 := keepz hb3 y0 g0
  have f1 := keepz hb3 y1 g1
  have f2 := keepz hb3 y2 g2
  have f3 := keepz hb3 y3 g3
  have a0'' := keeps hb2 a0'
  have a1'' := keeps hb2 a1'
  have b0'' := keeps hb2 b0'
  have b1'' := keeps hb2 b1'
  have b2'' := keeps hb2 b2'
  have b3'' := keeps hb2 b3'
  have d0'' := keeps hb2 d0'
  have d1'' := keeps hb2 d1'
  have d2'' := keeps hb2 d2'
  have hl1 : w.heap.size + 1 + 1 + 1 < w2.heap.size := by have := hb2.size; omega
  have hl2 : w.heap.size + 1 + 1 < w2.heap.size := by omega
  have hl3 : w.heap.size + 1 < w2.heap.size := by omega
  have hl5 : w.heap.size < w2.heap.size := by omega
  obtain ⟨g, hg⟩ : ∃ g, g = w2.heap.size := ⟨_, rfl⟩
  rw [← hg] at FR MB hgt2 hbc2 hbl2 hz3
  obtain ⟨o0, o1, o2, o3, og0, og1, og2, og3⟩ := id FR
  have HFR := Lib.hid FR; have HMB := Lib.hid MB
  have MD : Hid (Mid W0 w1.heap.size g (.slice (some ⟨gt, 0, none⟩) nt ct2) (.slice (some ⟨bc, 0, none⟩) 8 cc2) (.slice (some ⟨bl, 0, none⟩) 2 cl2) (.slice AD2 nd2 cd2) xs m W3) := Lib.hid (HO.out.mid hb3 MB FR)
  have HW3 := Lib.hid hW3; have HG := Lib.hid hg
  have HM3 := Lib.hid (HH.out.keep hb3)
  have HP3 := Lib.hid (HP.out.keep hb3)
  have HB3 := Lib.hid hb3
  have hsz2 := hb2.size
  rw [← hg] at hsz2
  have hg1 : w.heap.size + 1 + 1 + 1 < g := by omega
  have hg2 : w.heap.size + 1 + 1 < g := by omega
  have hg3 : w.heap.size + 1 < g := by omega
  have hg5 : w.heap.size < g := by omega
  have hw1 : w.heap.size + 4 ≤ w1.heap.size := by omega
  clear hg hW3 hb23 hb13 hb3 hb2 ho2 FR MB a0 a1 b0 b1 b2 b3 d0 d1 d2 y0 y1 y2 y3 g0 g1 g2 g3 a0' a1' b0' b1' b2' b3' d0' d1' d2'
  obtain ⟨pl, hpl⟩ : ∃ pl, m.ths[k].pl = pl := ⟨_, rfl⟩
  obtain ⟨ns, hns⟩ : ∃ ns, m.ths[k].stack.length = ns := ⟨_, rfl⟩
  have NS6 : Hid (ns ≤ 6) := Lib.hid (by rw [← hns]; exact TF.out.top)
  have HI := HO.out.ths.ints k hk hkx
  obtain ⟨AS2, cs2, evs, _⟩ := HI.2.arg.form
  obtain ⟨br, cr2, evr, hbr1, _, _⟩ : ∃ br c, xs[k].1 = .slice (some ⟨br, 0, none⟩) 4 c ∧ w1.heap.size ≤ br ∧ br < W3.heap.size ∧ 4 ≤ c := by
   rcases HI.1.forms with ⟨_, e⟩ | ⟨g, c, e, h1, h2, h3, _⟩
   ·have := HL4.out; rw [e] at this; simp at this
   ·rw [HL4.out] at e h3; exact ⟨g, c, e, h1, h2, h3⟩
  rw [hns] at evs
  have HR3 := Lib.hid HI.1; have HS3 := Lib.hid HI.2; clear HI
  rw [evr] at HR3
  rw [evs] at HS3
  have EVS := Lib.hid evs; have EVR := Lib.hid evr; have HPL := Lib.hid hpl; have HNS := Lib.hid hns
  obtain ⟨T0, T1, T2, T3⟩ := HO.out.ths.cells hk hkx
  rw [hpl] at T0
  rw [evr] at T1
  rw [evs] at T2
  rw [hst] at T3
  have TZ0 := HO.out.ths.frozen (k * 4)
  have TZ2 := HO.out.ths.frozen (k * 4 + 2)
  have TZ3 := HO.out.ths.frozen (k * 4 + 3)
  have hgtg : gt ≠ g := fun e => HO.out.ths.neM HMB.out (by rw [e]; rfl)
  have hvsg : ∀ u ∈ [Value.slice AS2 ns cs2], u.ownBlock ≠ some g := fun u hu => by simp only [List.mem_singleton] at hu; subst hu; exact HS3.out.neM HMB.out
  have hvst : ∀ u ∈ [Value.slice AS2 ns cs2], u.ownBlock ≠ some gt := fun u hu => by simp only [List.mem_singleton] at hu; subst hu; exact HO.out.ths.ne HS3.out
  have hvsB : ∀ u ∈ [Value.slice AS2 ns cs2], ∀ q, q < w1.heap.size → u.ownBlock ≠ some q := fun u hu q hq => ne_of_bd (fun k e => HS3.out.bd k e) (.inl hq) u hu
  obtain ⟨bt, ot, rfl, ht⟩ := HM3.out.ths.2.2 k hk
  obtain ⟨AR, cr, AS, cs, HT3, x0, x1, x2, x3⟩ := ht.open
  rw [hpl] at x0
  rw [HL4.out] at x1 HT3
  rw [hns] at x2 HT3
  rw [hst] at x3
  have hbt : bt < w.heap.size := by
   obtain ⟨bt', ot', e, ht'⟩ := HH00.out.ths.2.2 k hk
   injection e with e1
   injection e1 with e1 e2
   subst e1
   obtain ⟨_, _, _, _, _, y0, _⟩ := ht'.open
   exact cell_lt y0
  have HTT := Lib.hid HT3
  clear ht HT3 evs evr hpl hns
  by_cases hkd : kd = 1
  ·subst hkd
   have HDO := Lib.hid (Bt.doM_sig (rep := rep) hcd hk)
   obtain ⟨ts5, hts5⟩ : ∃ ts5, m.ths.set k ⟨m.ths[k].pl, m.ths[k].regs, m.ths[k].stack ++ [pl], m.ths[k].st⟩ = ts5 := ⟨_, rfl⟩
   have HTS := Lib.hid hts5; clear hts5
   go_wp2_with fail
   rw [← HW3.out, ← HG.out]
   refine wp_region_ordI [Fact.is 27 (.pointer (some ⟨g, 0, none⟩)),
     Fact.is 28 (.slice (some ⟨gt, 0, none⟩) nt ct2),
     Fact.is 29 (.pointer (some ⟨w.heap.size + 1 + 1, 0, none⟩)),
     Fact.is 30 (.int .i64 (k : Int)),
     Fact.is 31 (.pointer (some ⟨g, 0, none⟩)),
     Fact.is 32 (.slice (some ⟨gt, 0, none⟩) nt ct2),
     Fact.is 33 (.pointer (some ⟨w.heap.size + 1 + 1, 0, none⟩)),
     Fact.is 34 (.int .i64 (k : Int)),
     Fact.is 35 (.pointer (some ⟨gt, k * 4, none⟩)),
     Fact.is 36 (.pointer (some ⟨gt, k * 4 + 2, none⟩)),
     Fact.is 37 (.slice AS2 ns cs2),
     Fact.is 38 (.pointer (some ⟨w.heap.size + 1, 0, none⟩)),
     Fact.is 39 (.slice (some ⟨bt, ot, none⟩) nt ct),
     Fact.is 40 (.pointer (some ⟨w.heap.size + 1 + 1, 0, none⟩)),
     Fact.is 41 (.int .i64 (k : Int)),
     Fact.is 42 (.pointer (some ⟨bt, ot + k * 4, none⟩)),
     Fact.is 43 (.pointer (some ⟨bt, ot + k * 4, none⟩)),
     Fact.is 44 (.int .i64 pl),
     Fact.upto 45 19 (fun v w' => ∃ g6, v = .slice (some ⟨g6, 0, none⟩) 1 1 ∧ w'.cell? ⟨g6, 0, none⟩ = some (.int .i64 pl)),
     Fact.upto 46 22 (fun v w' => ∃ A7 c7, v = .slice A7 (ns + 1) c7 ∧ IntRow w' w1.heap.size (.slice A7 (ns + 1) c7) (m.ths[k].stack ++ [pl])),
     Fact.is 47 (.pointer (some ⟨gt, k * 4, none⟩)),
     Fact.is 48 (.pointer (some ⟨gt, k * 4 + 2, none⟩)),
     ⟨[], none, fun _ w' => ∃ A7 c7, Mid W0 w1.heap.size g (.slice (some ⟨gt, 0, none⟩) nt ct2) (.slice (some ⟨bc, 0, none⟩) 8 cc2) (.slice (some ⟨bl, 0, none⟩) 2 cl2) (.slice AD2 nd2 cd2) (xs.set k (xs[k].1, .slice A7 (ns + 1) c7)) (⟨ts5, m.cells, m.locks, m.told⟩) w'⟩]
    [(19, fun w' => Below W3.heap.size W3 w'),
     (22, fun w' => Only [.slice AS2 ns cs2] W3 w')] []
    (by kernel_rfl) (by kernel_rfl) (by kernel_rfl) ?_ ?_ ?_ ?_ ?_
   ·intro q hq
    simp only [List.mem_cons, List.not_mem_nil, or_false] at hq
    rcases hq with rfl | rfl
    ·exact (Below.refl _ _).drew
    ·exact Only.drew _ _
   ·exact ⟨Fact.is_stable _ _, Fact.is_stable _ _, Fact.is_stable _ _, Fact.is_stable _ _, Fact.is_stable _ _, Fact.is_stable _ _, Fact.is_stable _ _, Fact.is_stable _ _, Fact.is_stable _ _, Fact.is_stable _ _, Fact.is_stable _ _, Fact.is_stable _ _, Fact.is_stable _ _, Fact.is_stable _ _, Fact.is_stable _ _, Fact.is_stable _ _, Fact.is_stable _ _, Fact.is_stable _ _, Fact.upto_stable (fun v w w' hb ⟨g, e, h⟩ => ⟨g, e, keeps hb h⟩), Fact.upto_stable (fun v w w' hb ⟨A7, c7, e, h⟩ => ⟨A7, c7, e, h.keep hb⟩), Fact.is_stable _ _, Fact.is_stable _ _, (fun vs w1 w2 hb ⟨A7, c7, h⟩ => ⟨A7, c7, h.keep hb⟩), trivial⟩
   ·intro q hq w1' w2' hb h
    simp only [List.mem_cons, List.not_mem_nil, or_false] at hq
    rcases hq with rfl | rfl
    ·exact below_then h hb
    ·exact h.then hb
   ·refine ⟨?_, ?_, ?_, ?_, ?_, ?_, ?_, ?_, ?_, ?_, ?_, ?_, ?_, ?_, ?_, ?_, ?_, ?_, ?_, ?_, ?_, ?_, ?_, trivial⟩
    ·intro A' w' hJ hoff hdep _hdif
     have a8 : A'.eval (.tmp 8) = .pointer (some ⟨g, 0, none⟩) := off_of hoff 8 (by kernel_rfl)
     exact isI rfl rfl (by generalize A'.eval = ev at *; simp [go_sem, a8])
    ·intro A' w' hJ hoff hdep _hdif
     have a27 := is_of (ask_of hdep (j := 0) (by kernel_rfl)) rfl
     have b := init_of hJ (n := 1) rfl (by kernel_rfl)
     have q1 := b.cell o0 hvsg
     exact isI rfl rfl (by generalize A'.eval = ev at *; simp [go_sem, a27, q1])
    ·intro A' w' hJ hoff hdep _hdif
     have a5 : A'.eval (.tmp 5) = .pointer (some ⟨w.heap.size + 1 + 1, 0, none⟩) := off_of hoff 5 (by kernel_rfl)
     exact isI rfl rfl (by generalize A'.eval = ev at *; simp [go_sem, a5])
    ·intro A' w' hJ hoff hdep _hdif
     have a29 := is_of (ask_of hdep (j := 2) (by kernel_rfl)) rfl
     have b := init_of hJ (n := 1) rfl (by kernel_rfl)
     have q1 := b.cell c0 (fun u hu => hvsB u hu _ (by simp only; omega))
     exact isI rfl rfl (by generalize A'.eval = ev at *; simp [go_sem, a29, q1])
    ·intro A' w' hJ hoff hdep _hdif
     have a8 : A'.eval (.tmp 8) = .pointer (some ⟨g, 0, none⟩) := off_of hoff 8 (by kernel_rfl)
     exact isI rfl rfl (by generalize A'.eval = ev at *; simp [go_sem, a8])
    ·intro A' w' hJ hoff hdep _hdif
     have a31 := is_of (ask_of hdep (j := 4) (by kernel_rfl)) rfl
     have b := init_of hJ (n := 1) rfl (by kernel_rfl)
     have q1 := b.cell o0 hvsg
     exact isI rfl rfl (by generalize A'.eval = ev at *; simp [go_sem, a31, q1])
    ·intro A' w' hJ hoff hdep _hdif
     have a5 : A'.eval (.tmp 5) = .pointer (some ⟨w.heap.size + 1 + 1, 0, none⟩) := off_of hoff 5 (by kernel_rfl)
     exact isI rfl rfl (by generalize A'.eval = ev at *; simp [go_sem, a5])
    ·intro A' w' hJ hoff hdep _hdif
     have a33 := is_of (ask_of hdep (j := 6) (by kernel_rfl)) rfl
     have b := init_of hJ (n := 1) rfl (by kernel_rfl)
     have q1 := b.cell c0 (fun u hu => hvsB u hu _ (by simp only; omega))
     exact isI rfl rfl (by generalize A'.eval = ev at *; simp [go_sem, a33, q1])
    ·intro A' w' hJ hoff hdep _hdif
     have a32 := is_of (ask_of hdep (j := 5) (by kernel_rfl)) rfl
     have a34 := is_of (ask_of hdep (j := 7) (by kernel_rfl)) rfl
     exact isI rfl rfl (by generalize A'.eval = ev at *; simp [go_sem, a32, a34, hkn])
    ·intro A' w' hJ hoff hdep _hdif
     have a35 := is_of (ask_of hdep (j := 8) (by kernel_rfl)) rfl
     exact isI rfl rfl (by generalize A'.eval = ev at *; simp [go_sem, a35])
    ·intro A' w' hJ hoff hdep _hdif
     have a36 := is_of (ask_of hdep (j := 9) (by kernel_rfl)) rfl
     have b := init_of hJ (n := 1) rfl (by kernel_rfl)
     have q1 := b.cell T2 hvst
     exact isI rfl rfl (by generalize A'.eval = ev at *; simp [go_sem, a36, q1])
    ·intro A' w' hJ hoff hdep _hdif
     have a4 : A'.eval (.tmp 4) = .pointer (some ⟨w.heap.size + 1, 0, none⟩) := off_of hoff 4 (by kernel_rfl)
     exact isI rfl rfl (by generalize A'.eval = ev at *; simp [go_sem, a4])
    ·intro A' w' hJ hoff hdep _hdif
     have a38 := is_of (ask_of hdep (j := 11) (by kernel_rfl)) rfl
     have b := init_of hJ (n := 1) rfl (by kernel_rfl)
     have q1 := b.cell m0 (fun u hu => hvsB u hu _ (by simp only; omega))
     exact isI rfl rfl (by generalize A'.eval = ev at *; simp [go_sem, a38, q1])
    ·intro A' w' hJ hoff hdep _hdif
     have a5 : A'.eval (.tmp 5) = .pointer (some ⟨w.heap.size + 1 + 1, 0, none⟩) := off_of hoff 5 (by kernel_rfl)
     exact isI rfl rfl (by generalize A'.eval = ev at *; simp [go_sem, a5])
    ·intro A' w' hJ hoff hdep _hdif
     have a40 := is_of (ask_of hdep (j := 13) (by kernel_rfl)) rfl
     have b := init_of hJ (n := 1) rfl (by kernel_rfl)
     have q1 := b.cell c0 (fun u hu => hvsB u hu _ (by simp only; omega))
     exact isI rfl rfl (by generalize A'.eval = ev at *; simp [go_sem, a40, q1])
    ·intro A' w' hJ hoff hdep _hdif
     have a39 := is_of (ask_of hdep (j := 12) (by kernel_rfl)) rfl
     have a41 := is_of (ask_of hdep (j := 14) (by kernel_rfl)) rfl
     exact isI rfl rfl (by generalize A'.eval = ev at *; simp [go_sem, a39, a41, hkn])
    ·intro A' w' hJ hoff hdep _hdif
     have a42 := is_of (ask_of hdep (j := 15) (by kernel_rfl)) rfl
     exact isI rfl rfl (by generalize A'.eval = ev at *; simp [go_sem, a42])
    ·intro A' w' hJ hoff hdep _hdif
     have a43 := is_of (ask_of hdep (j := 16) (by kernel_rfl)) rfl
     have b := init_of hJ (n := 1) rfl (by kernel_rfl)
     have q1 := b.cell x0 (fun u hu => hvsB u hu _ (by simp only; omega))
     exact isI rfl rfl (by generalize A'.eval = ev at *; simp [go_sem, a43, q1])
    ·intro A' w' hJ hoff hdep _hdif
     have a44 := is_of (ask_of hdep (j := 17) (by kernel_rfl)) rfl
     have hb : Below w'.heap.size w' (w'.alloc (.cells #[.int .i64 pl] 3)) := (Below.refl _ _).alloc (Nat.le_refl _) _
     exact runI (v := .slice (some ⟨w'.heap.size, 0, none⟩) 1 1) (w' := w'.alloc (.cells #[.int .i64 pl] 3)) (by generalize A'.eval = ev at *; simp [go_sem, a44]) hb (upto_to rfl rfl ⟨_, rfl, by simp⟩) (fam_none (by kernel_rfl))
    ·intro A' w' hJ hoff hdep _hdif
     have a37 := is_of (ask_of hdep (j := 10) (by kernel_rfl)) rfl
     have b := init_of hJ (n := 0) rfl (by kernel_rfl)
     have bo := init_of hJ (n := 1) rfl (by kernel_rfl)
     obtain ⟨g6, aL, pL⟩ := upto_of (ask_of hdep (j := 18) (by kernel_rfl)) rfl
     have hz := b.size
     refine surely_app_int (.tmp 37) (.tmp 45) rfl w1.heap.size _ m.ths[k].stack a37 (HS3.out.keep b) _ 1 (pl) aL pL (by rw [HNS.out]; have := NS6.out; omega) (by omega) (fun v' w2 hr hg => ?_)
     obtain ⟨A7, c7, e7, _⟩ := hr.arg.form
     rw [List.length_append, HNS.out] at e7
     have e7 : v' = .slice A7 (ns + 1) c7 := e7
     subst e7
     refine ⟨⟨hg.size, fun h => absurd h (by decide)⟩, .inr ⟨fun i hi hn hk hf => ?_, fun p hp h1' _ h3' => ?_⟩, upto_to rfl rfl ⟨A7, c7, rfl, hr⟩, fam_none (by kernel_rfl)⟩
     ·match i, hi, hn, hk, hf with
      | 0, hj, hn, hk, hf => exact hf
      | 1, hj, hn, hk, hf => exact hf
      | 2, hj, hn, hk, hf => exact hf
      | 3, hj, hn, hk, hf => exact hf
      | 4, hj, hn, hk, hf => exact hf
      | 5, hj, hn, hk, hf => exact hf
      | 6, hj, hn, hk, hf => exact hf
      | 7, hj, hn, hk, hf => exact hf
      | 8, hj, hn, hk, hf => exact hf
      | 9, hj, hn, hk, hf => exact hf
      | 10, hj, hn, hk, hf => exact hf
      | 11, hj, hn, hk, hf => exact hf
      | 12, hj, hn, hk, hf => exact hf
      | 13, hj, hn, hk, hf => exact hf
      | 14, hj, hn, hk, hf => exact hf
      | 15, hj, hn, hk, hf => exact hf
      | 16, hj, hn, hk, hf => exact hf
      | 17, hj, hn, hk, hf => exact hf
      | 18, hj, hn, hk, hf => exact absurd rfl (hk 19 rfl).1
      | 19, hj, hn, hk, hf => exact absurd rfl hj
      | 20, hj, hn, hk, hf => exact hf
      | 21, hj, hn, hk, hf => exact hf
      | 22, hj, hn, hk, hf => exact absurd (List.contains_iff_mem.1 (by kernel_rfl)) hn
      | _ + 23, _, _, _, _ => trivial
     ·simp only [List.mem_cons, List.not_mem_nil, or_false] at hp
      rcases hp with rfl | rfl
      ·exact absurd rfl h1'
      ·exact bo.trans (Only.of_grown hg List.mem_cons_self)
    ·intro A' w' hJ hoff hdep _hdif
     have a28 := is_of (ask_of hdep (j := 1) (by kernel_rfl)) rfl
     have a30 := is_of (ask_of hdep (j := 3) (by kernel_rfl)) rfl
     exact isI rfl rfl (by generalize A'.eval = ev at *; simp [go_sem, a28, a30, hkn])
    ·intro A' w' hJ hoff hdep _hdif
     have a47 := is_of (ask_of hdep (j := 20) (by kernel_rfl)) rfl
     exact isI rfl rfl (by generalize A'.eval = ev at *; simp [go_sem, a47])
    ·intro A' w' hJ hoff hdep _hdif
     have a48 := is_of (ask_of hdep (j := 21) (by kernel_rfl)) rfl
     have b := init_of hJ (n := 1) rfl (by kernel_rfl)
     obtain ⟨A7, c7, aA, hA⟩ := upto_of (ask_of hdep (j := 19) (by kernel_rfl)) rfl
     have q1 := b.cell T2 hvst
     have q2 := b.frozen T2 TZ2 hvst
     refine lastI (w' := w'.setCell ⟨gt, k * 4 + 2, none⟩ (.slice A7 (ns + 1) c7)) (by generalize A'.eval = ev at *; simp [go_sem, a48, aA, q1, q2]) (by simp) ⟨A7, c7, Mid.push HO.out HB3.out HMB.out HFR.out (by omega) hk hkx (by rw [EVS.out]; exact b) _ _ hA HTS.out⟩ (fun i hi _ hk hf => ?_) (by kernel_rfl)
     match i, hi, hk, hf with
     | 0, hj, hk, hf => exact hf
     | 1, hj, hk, hf => exact hf
     | 2, hj, hk, hf => exact hf
     | 3, hj, hk, hf => exact hf
     | 4, hj, hk, hf => exact hf
     | 5, hj, hk, hf => exact hf
     | 6, hj, hk, hf => exact hf
     | 7, hj, hk, hf => exact hf
     | 8, hj, hk, hf => exact hf
     | 9, hj, hk, hf => exact hf
     | 10, hj, hk, hf => exact hf
     | 11, hj, hk, hf => exact hf
     | 12, hj, hk, hf => exact hf
     | 13, hj, hk, hf => exact hf
     | 14, hj, hk, hf => exact hf
     | 15, hj, hk, hf => exact hf
     | 16, hj, hk, hf => exact hf
     | 17, hj, hk, hf => exact hf
     | 18, hj, hk, hf => exact absurd (List.contains_iff_mem.1 (by kernel_rfl)) (hk 19 rfl).2
     | 19, hj, hk, hf => exact absurd rfl (hk 22 rfl).1
     | 20, hj, hk, hf => exact hf
     | 21, hj, hk, hf => exact hf
     | 22, hj, hk, hf => exact absurd rfl hj
     | _ + 23, _, _, _ => trivial
   ·intro s w5 hf _hdf _hff
    obtain ⟨A7, c7, hm5⟩ := hf 22 (by decide) rfl
    have HM5 := Lib.hid hm5
    clear hf hm5
    simp only [putAll, Act.put, List.setIfInBounds_toArray, List.set_cons_succ, List.set_cons_zero]
    have HYW := HY.out _ HM5.out.below
    obtain ⟨p0, p1, m0, m1, m2, m3, c0, c1, c2, z0, z1, z2, z3, f0, f1, f2, f3⟩ := HYW
    obtain ⟨o0, o1, o2, o3, og0, og1, og2, og3⟩ := HM5.out.four
    have hk5 : k < (ts5).length := by rw [← HTS.out, List.length_set]; exact hk
    have hkx5 : k < (xs.set k (xs[k].1, .slice A7 (ns + 1) c7)).length := by rw [List.length_set]; exact hkx
    obtain ⟨T0, _, _, T3⟩ := HM5.out.ths.cells hk5 hkx5
    have TZ0 := HM5.out.ths.frozen (k * 4)
    have TZ3 := HM5.out.ths.frozen (k * 4 + 3)
    go_wp2
    refine bodyPost_ret (v := .tuple #[.agg #[.slice (some ⟨gt, 0, none⟩) nt ct2, .slice (some ⟨bc, 0, none⟩) 8 cc2, .slice (some ⟨bl, 0, none⟩) 2 cl2, .slice AD2 nd2 cd2], .bool true]) (by simp [results, Try.results65, go_sem, z0, z1, z2, z3]) rfl ?_
    rw [HDO.out]
    exact Mid.done (HM5.out.setPl (by omega) hk5 h (by have e := HTS.out; subst e; simp [HPL.out])) B0.out (by omega) (by omega)
  ·have dkd : (kd == 1) = false := by rw [beq_eq_false_iff_ne]; exact hkd
   go_wp2_with fail
   rw [← HW3.out, ← HG.out]
   refine (specInstrOf_any h (k : Int) _ HP3.out HM3.out HS.out).mono ?_
   clear p0 p1 m0 m1 m2 m3 c0 c1 c2 z0 z1 z2 z3 f0 f1 f2 f3 o0 o1 o2 o3 og0 og1 og2 og3 T0 T1 T2 T3 TZ0 TZ2 TZ3
   by_cases hend : (rs.length : Int) ≤ pl
   ·have HDO := Lib.hid (Bt.doM_fail (rep := rep) hcd hk hkd (Bt.failsI_end (by rw [HPL.out]; exact hend)))
    rw [Bt.instrOf_end hk (by rw [HPL.out]; exact hend)]
    unfold codeVal
    simp only
    rintro e w4 ⟨rfl, hb4⟩
    have HM4 := Lib.hid (MD.out.keep hb4)
    clear hb4
    obtain ⟨p0, p1, m0, m1, m2, m3, c0, c1, c2, z0, z1, z2, z3, f0, f1, f2, f3⟩ := HY.out _ (HM4.out.below)
    obtain ⟨o0, o1, o2, o3, og0, og1, og2, og3⟩ := HM4.out.four
    obtain ⟨T0, T1, T2, T3⟩ := HM4.out.ths.cells hk hkx
    have TZ0 := HM4.out.ths.frozen (k * 4)
    have TZ3 := HM4.out.ths.frozen (k * 4 + 3)
    have lg : g < w4.heap.size := HM4.out.box.lt
    have lgt : gt < w4.heap.size := cell_lt T0
    have l1 : w.heap.size + 1 + 1 + 1 < w4.heap.size := by omega
    have l2 : w.heap.size + 1 + 1 < w4.heap.size := by omega
    have l3 : w.heap.size + 1 < w4.heap.size := by omega
    have l5 : w.heap.size < w4.heap.size := by omega
    go_wp2
    refine bodyPost_ret (v := .tuple #[.agg #[.slice (some ⟨gt, 0, none⟩) nt ct2, .slice (some ⟨bc, 0, none⟩) 8 cc2, .slice (some ⟨bl, 0, none⟩) 2 cl2, .slice AD2 nd2 cd2], .bool true]) (by simp [results, Try.results65, go_sem, z0, z1, z2, z3, l1]) rfl ?_
    rw [HDO.out]
    refine DoSaid.keep (Mid.done (HM4.out.setSt (by omega) hk 2 rfl) B0.out (by omega) (by omega)) ((Below.refl _ _).alloc (Nat.le_refl _) _)
   ·have hlo := TF.out.lo
    rw [HPL.out] at hlo
    obtain ⟨j, hj⟩ : ∃ j : Nat, pl = j := ⟨pl.toNat, by omega⟩
    have hjr : j < rs.length := by omega
    have HJ := Lib.hid (HPL.out.trans hj)
    have hpl1 : pl ≤ 1048576 := by have := Bt.progOk_len MF.out.prog; omega
    have HC := Lib.hid (Bt.progOk_code MF.out.prog hjr)
    rw [Bt.instrOf_at hm hk hst hjr HJ.out]
    have HFE := Lib.hid (Bt.failsI_at (m := m) (k := k) hjr HJ.out)
    have HST := Lib.hid (fun hf => Bt.doM_step (rep := rep) hcd hk hkd HJ.out hjr (HFE.out.trans hf))
    have HFL := Lib.hid (fun hf => Bt.doM_fail (rep := rep) hcd hk hkd (HFE.out.trans hf))
    clear HFE hj hend
    generalize rs[j] = rj at *
    obtain ⟨op, xa, xb, xc⟩ := rj
    unfold codeVal
    simp only at HC ⊢
    rintro e w4 ⟨rfl, hb4⟩
    have HM4 := Lib.hid (MD.out.keep hb4)
    have HA4 := Lib.hid (HM3.out.keep hb4)
    clear hb4
    obtain ⟨p0, p1, m0, m1, m2, m3, c0, c1, c2, z0, z1, z2, z3, f0, f1, f2, f3⟩ := HY.out _ (HM4.out.below)
    obtain ⟨o0, o1, o2, o3, og0, og1, og2, og3⟩ := HM4.out.four
    obtain ⟨T0, T1, T2, T3⟩ := HM4.out.ths.cells hk hkx
    have TZ0 := HM4.out.ths.frozen (k * 4)
    have TZ3 := HM4.out.ths.frozen (k * 4 + 3)
    have lg : g < w4.heap.size := HM4.out.box.lt
    have lgt : gt < w4.heap.size := cell_lt T0
    have l1 : w.heap.size + 1 + 1 + 1 < w4.heap.size := by omega
    have l2 : w.heap.size + 1 + 1 < w4.heap.size := by omega
    have l3 : w.heap.size + 1 < w4.heap.size := by omega
    have l5 : w.heap.size < w4.heap.size := by omega
    go_wp2_with fail
    obtain ⟨W5, hW5⟩ : ∃ W5 : World, W5 = w4.alloc (.cells #[.int .i64 op, .int .i64 xa, .int .i64 xb, .int .i64 xc] 96) := ⟨_, rfl⟩
    obtain ⟨gx, hgx⟩ : ∃ gx, gx = w4.heap.size := ⟨_, rfl⟩
    rw [← hW5, ← hgx]
    have hb5 : Below w4.heap.size w4 W5 := by rw [hW5]; exact (Below.refl _ _).alloc (Nat.le_refl _) _
    have e0 : W5.cell? ⟨gx, 0, none⟩ = some (.int .i64 op) := by rw [hW5, hgx]; go_simp
    have e1 : W5.cell? ⟨gx, 1, none⟩ = some (.int .i64 xa) := by rw [hW5, hgx]; go_simp
    have e2 : W5.cell? ⟨gx, 2, none⟩ = some (.int .i64 xb) := by rw [hW5, hgx]; go_simp
    have e3 : W5.cell? ⟨gx, 3, none⟩ = some (.int .i64 xc) := by rw [hW5, hgx]; go_simp
    have lgx : g < gx := by rw [hgx]; exact lg
    have HM5 := Lib.hid (HM4.out.keep hb5)
    have HA5 := Lib.hid (HA4.out.keep hb5)
    clear p0 p1 m0 m1 m2 m3 c0 c1 c2 z0 z1 z2 z3 f0 f1 f2 f3 o0 o1 o2 o3 og0 og1 og2 og3 T0 T1 T2 T3 TZ0 TZ3 lg lgt l1 l2 l3 l5 hW5 hgx hb5 HM4 HA4
    refine (l2Faults_any k op xa xb xc _ HA5.out hk HC.out TF.out.top MF.out.few MF.out.locks).mono ?_
    cases hf : Bt.faultsI m k m.ths[k] ⟨op, xa, xb, xc⟩
    ·have HDO := Lib.hid (HST.out hf)
     clear HST HFL
     rintro e w6 ⟨rfl, hb6⟩
     have HM6 := Lib.hid (HM5.out.keep hb6)
     have HA6 := Lib.hid (HA5.out.keep hb6)
     have E0 := keeps hb6 e0
     have E1 := keeps hb6 e1
     have E2 := keeps hb6 e2
     have E3 := keeps hb6 e3
     clear hb6 e0 e1 e2 e3 HM5 HA5
     obtain ⟨p0, p1, m0, m1, m2, m3, c0, c1, c2, z0, z1, z2, z3, f0, f1, f2, f3⟩ := HY.out _ (HM6.out.below)
     obtain ⟨o0, o1, o2, o3, og0, og1, og2, og3⟩ := HM6.out.four
     obtain ⟨T0, T1, T2, T3⟩ := HM6.out.ths.cells hk hkx
     have TZ0 := HM6.out.ths.frozen (k * 4)
     have TZ3 := HM6.out.ths.frozen (k * 4 + 3)
     have lg : g < w6.heap.size := HM6.out.box.lt
     have lgt : gt < w6.heap.size := cell_lt T0
     have l1 : w.heap.size + 1 + 1 + 1 < w6.heap.size := by omega
     have l2 : w.heap.size + 1 + 1 < w6.heap.size := by omega
     have l3 : w.heap.size + 1 < w6.heap.size := by omega
     have l5 : w.heap.size < w6.heap.size := by omega
     rw [HPL.out] at T0
     rw [EVR.out] at T1
     obtain ⟨bt9, ot9, eb, ht⟩ := HA6.out.ths.2.2 k hk
     injection eb with eb
     injection eb with eb1 eb2
     subst eb1 eb2
     obtain ⟨_, _, _, _, _, x0, _⟩ := ht.open
     rw [HPL.out] at x0
     clear ht
     go_wp2_with fail
     obtain ⟨⟨qa0, qa1⟩, qb0, qb1⟩ := And.intro (Bt.codeOk_A HC.out) (Bt.codeOk_B HC.out)
     obtain ⟨qa, rfl⟩ : ∃ q : Nat, xa = q := ⟨xa.toNat, by omega⟩
     obtain ⟨qb, rfl⟩ : ∃ q : Nat, xb = q := ⟨xb.toNat, by omega⟩
     have hqa4 : qa < 4 := by omega
     have hqb4 : qb < 4 := by omega
     have hqa4i : ¬ (4 : Int) ≤ (qa : Int) := by omega
     have hqb4i : ¬ (4 : Int) ≤ (qb : Int) := by omega
     have HR6 := (HM6.out.ths.ints k hk hkx).1
     rw [EVR.out] at HR6
     have RA := IntRow.cell (xs := m.ths[k].regs) (by rw [HL4.out]; exact HR6) qa (by rw [HL4.out]; exact hqa4)
     have RBV := IntRow.cell (xs := m.ths[k].regs) (by rw [HL4.out]; exact HR6) qb (by rw [HL4.out]; exact hqb4)
     have GA : Hid (m.ths[k].regs.getD qa 0 = m.ths[k].regs[qa]'(by rw [HL4.out]; exact hqa4)) := Lib.hid (by rw [List.getD_eq_getElem?_getD, List.getElem?_eq_getElem (by rw [HL4.out]; exact hqa4)]; rfl)
     have GB : Hid (m.ths[k].regs.getD qb 0 = m.ths[k].regs[qb]'(by rw [HL4.out]; exact hqb4)) := Lib.hid (by rw [List.getD_eq_getElem?_getD, List.getElem?_eq_getElem (by rw [HL4.out]; exact hqb4)]; rfl)
     obtain ⟨ra0, ra1⟩ := Bt.regsOk_at TF.out.regs (j := qa) (by rw [HL4.out]; exact hqa4)
     obtain ⟨rb0, rb1⟩ := Bt.regsOk_at TF.out.regs (j := qb) (by rw [HL4.out]; exact hqb4)
     generalize m.ths[k].regs[qa]'(by rw [HL4.out]; exact hqa4) = ra at *
     generalize m.ths[k].regs[qb]'(by rw [HL4.out]; exact hqb4) = rb at *
     clear HR6 qa0 qa1 qb0 qb1
     refine wp_region_ordI [Fact.is 97 (.slice (some ⟨br, 0, none⟩) 4 cr2),
       Fact.is 98 (.pointer (some ⟨gx, 1, none⟩)),
       Fact.is 99 (.int .i64 (qa : Int)),
       Fact.is 100 (.pointer (some ⟨br, qa, none⟩)),
       Fact.is 101 (.int .i64 ra),
       Fact.is 102 (.slice (some ⟨br, 0, none⟩) 4 cr2),
       Fact.is 103 (.pointer (some ⟨gx, 2, none⟩)),
       Fact.is 104 (.int .i64 (qb : Int)),
       Fact.is 105 (.pointer (some ⟨br, qb, none⟩)),
       Fact.is 106 (.int .i64 rb),
       Fact.is 13 (.int .i64 ra),
       ⟨[14], none, fun vs w' => vs = [.int .i64 rb] ∧ Below w6.heap.size w6 w'⟩]
      [(10, fun w' => Below w6.heap.size w6 w'),
       (11, fun w' => Below w6.heap.size w6 w')] []
      (by kernel_rfl) (by kernel_rfl) (by kernel_rfl) ?_ ?_ ?_ ?_ ?_
     ·intro q hq
      simp only [List.mem_cons, List.not_mem_nil, or_false] at hq
      rcases hq with rfl | rfl
      ·exact (Below.refl _ _).drew
      ·exact (Below.refl _ _).drew
     ·exact ⟨Fact.is_stable _ _, Fact.is_stable _ _, Fact.is_stable _ _, Fact.is_stable _ _, Fact.is_stable _ _, Fact.is_stable _ _, Fact.is_stable _ _, Fact.is_stable _ _, Fact.is_stable _ _, Fact.is_stable _ _, Fact.is_stable _ _, (fun vs w1 w2 hb ⟨e, h⟩ => ⟨e, below_then h hb⟩), trivial⟩
     ·intro q hq w1' w2' hb h
      simp only [List.mem_cons, List.not_mem_nil, or_false] at hq
      rcases hq with rfl | rfl
      ·exact below_then h hb
      ·exact below_then h hb
     ·refine ⟨?_, ?_, ?_, ?_, ?_, ?_, ?_, ?_, ?_, ?_, ?_, ?_, trivial⟩
      ·intro A' w' hJ hoff hdep _hdif
       have a11 : A'.eval (.tmp 11) = .slice (some ⟨br, 0, none⟩) 4 cr2 := off_of hoff 11 (by kernel_rfl)
       exact isI rfl rfl (by generalize A'.eval = ev at *; simp [go_sem, a11])
      ·intro A' w' hJ hoff hdep _hdif
       have a9 : A'.eval (.tmp 9) = .pointer (some ⟨gx, 0, none⟩) := off_of hoff 9 (by kernel_rfl)
       exact isI rfl rfl (by generalize A'.eval = ev at *; simp [go_sem, a9])
      ·intro A' w' hJ hoff hdep _hdif
       have a98 := is_of (ask_of hdep (j := 1) (by kernel_rfl)) rfl
       have b := init_of hJ (n := 0) rfl (by kernel_rfl)
       have q1 := keeps b E1
       exact isI rfl rfl (by generalize A'.eval = ev at *; simp [go_sem, a98, q1])
      ·intro A' w' hJ hoff hdep _hdif
       have a97 := is_of (ask_of hdep (j := 0) (by kernel_rfl)) rfl
       have a99 := is_of (ask_of hdep (j := 2) (by kernel_rfl)) rfl
       exact isI rfl rfl (by generalize A'.eval = ev at *; simp [go_sem, a97, a99, hqa4i])
      ·intro A' w' hJ hoff hdep _hdif
       have a100 := is_of (ask_of hdep (j := 3) (by kernel_rfl)) rfl
       have b := init_of hJ (n := 0) rfl (by kernel_rfl)
       have q1 := keeps b RA
       exact isI rfl rfl (by generalize A'.eval = ev at *; simp [go_sem, a100, q1])
      ·intro A' w' hJ hoff hdep _hdif
       have a11 : A'.eval (.tmp 11) = .slice (some ⟨br, 0, none⟩) 4 cr2 := off_of hoff 11 (by kernel_rfl)
       exact isI rfl rfl (by generalize A'.eval = ev at *; simp [go_sem, a11])
      ·intro A' w' hJ hoff hdep _hdif
       have a9 : A'.eval (.tmp 9) = .pointer (some ⟨gx, 0, none⟩) := off_of hoff 9 (by kernel_rfl)
       exact isI rfl rfl (by generalize A'.eval = ev at *; simp [go_sem, a9])
      ·intro A' w' hJ hoff hdep _hdif
       have a103 := is_of (ask_of hdep (j := 6) (by kernel_rfl)) rfl
       have b := init_of hJ (n := 1) rfl (by kernel_rfl)
       have q1 := keeps b E2
       exact isI rfl rfl (by generalize A'.eval = ev at *; simp [go_sem, a103, q1])
      ·intro A' w' hJ hoff hdep _hdif
       have a102 := is_of (ask_of hdep (j := 5) (by kernel_rfl)) rfl
       have a104 := is_of (ask_of hdep (j := 7) (by kernel_rfl)) rfl
       exact isI rfl rfl (by generalize A'.eval = ev at *; simp [go_sem, a102, a104, hqb4i])
      ·intro A' w' hJ hoff hdep _hdif
       have a105 := is_of (ask_of hdep (j := 8) (by kernel_rfl)) rfl
       have b := init_of hJ (n := 1) rfl (by kernel_rfl)
       have q1 := keeps b RBV
       exact isI rfl rfl (by generalize A'.eval = ev at *; simp [go_sem, a105, q1])
      ·intro A' w' hJ hoff hdep _hdif
       have a101 := is_of (ask_of hdep (j := 4) (by kernel_rfl)) rfl
       exact isI rfl rfl (by generalize A'.eval = ev at *; simp [go_sem, a101])
      ·intro A' w' hJ hoff hdep _hdif
       have a106 := is_of (ask_of hdep (j := 9) (by kernel_rfl)) rfl
       have b := init_of hJ (n := 1) rfl (by kernel_rfl)
       exact runI (v := .int .i64 rb) (w' := w') (by generalize A'.eval = ev at *; simp [go_sem, a106]) (Below.refl _ _) ⟨by simp [put1], b⟩ (fam_none (by kernel_rfl))
     ·intro s w7 hf _hdf _hff
      have e13 := val_of (hf 10 (by decide) rfl) rfl
      obtain ⟨e14, hb7⟩ := hf 11 (by decide) rfl
      have e14 : [s 14] = [.int .i64 rb] := e14
      injection e14 with e14 _
      have HM7 := Lib.hid (HM6.out.keep hb7)
      have HA7 := Lib.hid (HA6.out.keep hb7)
      have HE7 := Lib.hid (And.intro (keeps hb7 E0) (And.intro (keeps hb7 E1) (And.intro (keeps hb7 E2) (keeps hb7 E3))))
      have hzz : w6.heap.size ≤ w7.heap.size := hb7.size
      clear hf hb7
      clear p0 p1 m0 m1 m2 m3 c0 c1 c2 z0 z1 z2 z3 f0 f1 f2 f3 o0 o1 o2 o3 og0 og1 og2 og3 T0 T1 T2 T3 TZ0 TZ3 lg lgt l1 l2 l3 l5 x0 E0 E1 E2 E3 RA RBV HM6 HA6
      simp only [putAll, Act.put, List.setIfInBounds_toArray, List.set_cons_succ, List.set_cons_zero, e13, e14]
      clear e13 e14
      obtain ⟨o0, o17⟩ := Bt.codeOk_in HC.out
      have HOP : op = 0 ∨ op = 1 ∨ op = 2 ∨ op = 3 ∨ op = 4 ∨ op = 5 ∨ op = 6 ∨ op = 7 ∨ op = 8 ∨ op = 9 ∨ op = 10 ∨ op = 11 ∨ op = 12 ∨ op = 13 ∨ op = 14 ∨ op = 15 ∨ op = 16 ∨ op = 17 := by omega
      clear o0 o17
      rcases HOP with rfl | rfl | rfl | rfl | rfl | rfl | rfl | rfl | rfl | rfl | rfl | rfl | rfl | rfl | rfl | rfl | rfl | rfl
      ·obtain ⟨ts8, hts8⟩ : ∃ ts8, m.ths.set k ⟨pl, m.ths[k].regs, m.ths[k].stack, 1⟩ = ts8 := ⟨_, rfl⟩
       have HDO := Lib.hid (HDO.out.trans (congrArg some (Bt.stepM_0 _ _ _ _ _ _ _)))
       try simp only [Int.toNat_natCast] at HDO
       rw [HPL.out, hts8] at HDO
       have HTS := Lib.hid hts8; clear hts8
       obtain ⟨p0, p1, m0, m1, m2, m3, c0, c1, c2, z0, z1, z2, z3, f0, f1, f2, f3⟩ := HY.out _ (HM7.out.below)
       obtain ⟨o0, o1, o2, o3, og0, og1, og2, og3⟩ := HM7.out.four
       obtain ⟨T0, T1, T2, T3⟩ := HM7.out.ths.cells hk hkx
       have TZ0 := HM7.out.ths.frozen (k * 4)
       have TZ3 := HM7.out.ths.frozen (k * 4 + 3)
       have lg : g < w7.heap.size := HM7.out.box.lt
       have lgt : gt < w7.heap.size := cell_lt T0
       have l1 : w.heap.size + 1 + 1 + 1 < w7.heap.size := by omega
       have l2 : w.heap.size + 1 + 1 < w7.heap.size := by omega
       have l3 : w.heap.size + 1 < w7.heap.size := by omega
       have l5 : w.heap.size < w7.heap.size := by omega
       rw [HPL.out] at T0
       rw [EVR.out] at T1
       obtain ⟨E0, E1, E2, E3⟩ := HE7.out
       have HR7 := (HM7.out.ths.ints k hk hkx).1
       rw [EVR.out] at HR7
       have QA := HR7.at_ qa (by rw [HL4.out]; exact hqa4)
       have FA := HR7.frz qa
       have hbrg : br ≠ g := fun e => HR7.neM HM7.out.box (by rw [e]; rfl)
       have hbrt : br ≠ gt := fun e => HM7.out.ths.ne HR7 (by rw [e]; rfl)
       clear HR7 T2
       go_wp2
       refine bodyPost_ret (v := .tuple #[.agg #[.slice (some ⟨gt, 0, none⟩) nt ct2, .slice (some ⟨bc, 0, none⟩) 8 cc2, .slice (some ⟨bl, 0, none⟩) 2 cl2, .slice AD2 nd2 cd2], .bool true]) (by simp [results, Try.results65, go_sem, z0, z1, z2, z3]) rfl ?_
       rw [HDO.out]
       exact Mid.done (HM7.out.stPl (by omega) hk _ _ (by have e := HTS.out; subst e; rfl)) B0.out (by omega) (by omega)
      ·obtain ⟨ts8, hts8⟩ : ∃ ts8, m.ths.set k ⟨pl + 1, m.ths[k].regs.set qa (xc), m.ths[k].stack, m.ths[k].st⟩ = ts8 := ⟨_, rfl⟩
       have HDO := Lib.hid (HDO.out.trans (congrArg some (Bt.stepM_1 _ _ _ _ _ _ _)))
       try simp only [Int.toNat_natCast] at HDO
       rw [HPL.out, hts8] at HDO
       have HTS := Lib.hid hts8; clear hts8
       obtain ⟨p0, p1, m0, m1, m2, m3, c0, c1, c2, z0, z1, z2, z3, f0, f1, f2, f3⟩ := HY.out _ (HM7.out.below)
       obtain ⟨o0, o1, o2, o3, og0, og1, og2, og3⟩ := HM7.out.four
       obtain ⟨T0, T1, T2, T3⟩ := HM7.out.ths.cells hk hkx
       have TZ0 := HM7.out.ths.frozen (k * 4)
       have TZ3 := HM7.out.ths.frozen (k * 4 + 3)
       have lg : g < w7.heap.size := HM7.out.box.lt
       have lgt : gt < w7.heap.size := cell_lt T0
       have l1 : w.heap.size + 1 + 1 + 1 < w7.heap.size := by omega
       have l2 : w.heap.size + 1 + 1 < w7.heap.size := by omega
       have l3 : w.heap.size + 1 < w7.heap.size := by omega
       have l5 : w.heap.size < w7.heap.size := by omega
       rw [HPL.out] at T0
       rw [EVR.out] at T1
       obtain ⟨E0, E1, E2, E3⟩ := HE7.out
       have HR7 := (HM7.out.ths.ints k hk hkx).1
       rw [EVR.out] at HR7
       have QA := HR7.at_ qa (by rw [HL4.out]; exact hqa4)
       have FA := HR7.frz qa
       have hbrg : br ≠ g := fun e => HR7.neM HM7.out.box (by rw [e]; rfl)
       have hbrt : br ≠ gt := fun e => HM7.out.ths.ne HR7 (by rw [e]; rfl)
       clear HR7 T2
       go_wp2
       refine bodyPost_ret (v := .tuple #[.agg #[.slice (some ⟨gt, 0, none⟩) nt ct2, .slice (some ⟨bc, 0, none⟩) 8 cc2, .slice (some ⟨bl, 0, none⟩) 2 cl2, .slice AD2 nd2 cd2], .bool true]) (by simp [results, Try.results65, go_sem, z0, z1, z2, z3]) rfl ?_
       rw [HDO.out]
       exact Mid.done (HM7.out.regPl HO.out.apart (by omega) (by omega) hk hkx EVR.out qa _ _ (by have e := HTS.out; subst e; rfl)) B0.out (by omega) (by omega)
      ·obtain ⟨ts8, hts8⟩ : ∃ ts8, m.ths.set k ⟨pl + 1, m.ths[k].regs.set qa (rb), m.ths[k].stack, m.ths[k].st⟩ = ts8 := ⟨_, rfl⟩
       have HDO := Lib.hid (HDO.out.trans (congrArg some (Bt.stepM_2 _ _ _ _ _ _ _)))
       try simp only [Int.toNat_natCast] at HDO
       rw [HPL.out, GB.out, hts8] at HDO
       have HTS := Lib.hid hts8; clear hts8
       obtain ⟨p0, p1, m0, m1, m2, m3, c0, c1, c2, z0, z1, z2, z3, f0, f1, f2, f3⟩ := HY.out _ (HM7.out.below)
       obtain ⟨o0, o1, o2, o3, og0, og1, og2, og3⟩ := HM7.out.four
       obtain ⟨T0, T1, T2, T3⟩ := HM7.out.ths.cells hk hkx
       have TZ0 := HM7.out.ths.frozen (k * 4)
       have TZ3 := HM7.out.ths.frozen (k * 4 + 3)
       have lg : g < w7.heap.size := HM7.out.box.lt
       have lgt : gt < w7.heap.size := cell_lt T0
       have l1 : w.heap.size + 1 + 1 + 1 < w7.heap.size := by omega
       have l2 : w.heap.size + 1 + 1 < w7.heap.size := by omega
       have l3 : w.heap.size + 1 < w7.heap.size := by omega
       have l5 : w.heap.size < w7.heap.size := by omega
       rw [HPL.out] at T0
       rw [EVR.out] at T1
       obtain ⟨E0, E1, E2, E3⟩ := HE7.out
       have HR7 := (HM7.out.ths.ints k hk hkx).1
       rw [EVR.out] at HR7
       have QA := HR7.at_ qa (by rw [HL4.out]; exact hqa4)
       have FA := HR7.frz qa
       have hbrg : br ≠ g := fun e => HR7.neM HM7.out.box (by rw [e]; rfl)
       have hbrt : br ≠ gt := fun e => HM7.out.ths.ne HR7 (by rw [e]; rfl)
       clear HR7 T2
       go_wp2
       refine bodyPost_ret (v := .tuple #[.agg #[.slice (some ⟨gt, 0, none⟩) nt ct2, .slice (some ⟨bc, 0, none⟩) 8 cc2, .slice (some ⟨bl, 0, none⟩) 2 cl2, .slice AD2 nd2 cd2], .bool true]) (by simp [results, Try.results65, go_sem, z0, z1, z2, z3]) rfl ?_
       rw [HDO.out]
       exact Mid.done (HM7.out.regPl HO.out.apart (by omega) (by omega) hk hkx EVR.out qa _ _ (by have e := HTS.out; subst e; rfl)) B0.out (by omega) (by omega)
      ·obtain ⟨ts8, hts8⟩ : ∃ ts8, m.ths.set k ⟨pl + 1, m.ths[k].regs.set qa ((ra + rb) % 10000), m.ths[k].stack, m.ths[k].st⟩ = ts8 := ⟨_, rfl⟩
       have HDO := Lib.hid (HDO.out.trans (congrArg some (Bt.stepM_3 _ _ _ _ _ _ _)))
       try simp only [Int.toNat_natCast] at HDO
       rw [HPL.out, GA.out, GB.out, hts8] at HDO
       have HTS := Lib.hid hts8; clear hts8
       obtain ⟨p0, p1, m0, m1, m2, m3, c0, c1, c2, z0, z1, z2, z3, f0, f1, f2, f3⟩ := HY.out _ (HM7.out.below)
       obtain ⟨o0, o1, o2, o3, og0, og1, og2, og3⟩ := HM7.out.four
       obtain ⟨T0, T1, T2, T3⟩ := HM7.out.ths.cells hk hkx
       have TZ0 := HM7.out.ths.frozen (k * 4)
       have TZ3 := HM7.out.ths.frozen (k * 4 + 3)
       have lg : g < w7.heap.size := HM7.out.box.lt
       have lgt : gt < w7.heap.size := cell_lt T0
       have l1 : w.heap.size + 1 + 1 + 1 < w7.heap.size := by omega
       have l2 : w.heap.size + 1 + 1 < w7.heap.size := by omega
       have l3 : w.heap.size + 1 < w7.heap.size := by omega
       have l5 : w.heap.size < w7.heap.size := by omega
       rw [HPL.out] at T0
       rw [EVR.out] at T1
       obtain ⟨E0, E1, E2, E3⟩ := HE7.out
       have HR7 := (HM7.out.ths.ints k hk hkx).1
       rw [EVR.out] at HR7
       have QA := HR7.at_ qa (by rw [HL4.out]; exact hqa4)
       have FA := HR7.frz qa
       have hbrg : br ≠ g := fun e => HR7.neM HM7.out.box (by rw [e]; rfl)
       have hbrt : br ≠ gt := fun e => HM7.out.ths.ne HR7 (by rw [e]; rfl)
       clear HR7 T2
       go_wp2
       refine bodyPost_ret (v := .tuple #[.agg #[.slice (some ⟨gt, 0, none⟩) nt ct2, .slice (some ⟨bc, 0, none⟩) 8 cc2, .slice (some ⟨bl, 0, none⟩) 2 cl2, .slice AD2 nd2 cd2], .bool true]) (by simp [results, Try.results65, go_sem, z0, z1, z2, z3]) rfl ?_
       rw [HDO.out]
       exact Mid.done (HM7.out.regPl HO.out.apart (by omega) (by omega) hk hkx EVR.out qa _ _ (by have e := HTS.out; subst e; rfl)) B0.out (by omega) (by omega)
      ·obtain ⟨ts8, hts8⟩ : ∃ ts8, m.ths.set k ⟨pl + 1, m.ths[k].regs.set qa ((ra + 10000 - rb) % 10000), m.ths[k].stack, m.ths[k].st⟩ = ts8 := ⟨_, rfl⟩
       have HDO := Lib.hid (HDO.out.trans (congrArg some (Bt.stepM_4 _ _ _ _ _ _ _)))
       try simp only [Int.toNat_natCast] at HDO
       rw [HPL.out, GA.out, GB.out, hts8] at HDO
       have HTS := Lib.hid hts8; clear hts8
       obtain ⟨p0, p1, m0, m1, m2, m3, c0, c1, c2, z0, z1, z2, z3, f0, f1, f2, f3⟩ := HY.out _ (HM7.out.below)
       obtain ⟨o0, o1, o2, o3, og0, og1, og2, og3⟩ := HM7.out.four
       obtain ⟨T0, T1, T2, T3⟩ := HM7.out.ths.cells hk hkx
       have TZ0 := HM7.out.ths.frozen (k * 4)
       have TZ3 := HM7.out.ths.frozen (k * 4 + 3)
       have lg : g < w7.heap.size := HM7.out.box.lt
       have lgt : gt < w7.heap.size := cell_lt T0
       have l1 : w.heap.size + 1 + 1 + 1 < w7.heap.size := by omega
       have l2 : w.heap.size + 1 + 1 < w7.heap.size := by omega
       have l3 : w.heap.size + 1 < w7.heap.size := by omega
       have l5 : w.heap.size < w7.heap.size := by omega
       rw [HPL.out] at T0
       rw [EVR.out] at T1
       obtain ⟨E0, E1, E2, E3⟩ := HE7.out
       have HR7 := (HM7.out.ths.ints k hk hkx).1
       rw [EVR.out] at HR7
       have QA := HR7.at_ qa (by rw [HL4.out]; exact hqa4)
       have FA := HR7.frz qa
       have hbrg : br ≠ g := fun e => HR7.neM HM7.out.box (by rw [e]; rfl)
       have hbrt : br ≠ gt := fun e => HM7.out.ths.ne HR7 (by rw [e]; rfl)
       clear HR7 T2
       go_wp2
       refine bodyPost_ret (v := .tuple #[.agg #[.slice (some ⟨gt, 0, none⟩) nt ct2, .slice (some ⟨bc, 0, none⟩) 8 cc2, .slice (some ⟨bl, 0, none⟩) 2 cl2, .slice AD2 nd2 cd2], .bool true]) (by simp [results, Try.results65, go_sem, z0, z1, z2, z3]) rfl ?_
       rw [HDO.out]
       exact Mid.done (HM7.out.regPl HO.out.apart (by omega) (by omega) hk hkx EVR.out qa _ _ (by have e := HTS.out; subst e; rfl)) B0.out (by omega) (by omega)
      ·obtain ⟨hm0, hm1⟩ := Bt.mul_b ra0 ra1 rb0 rb1
       obtain ⟨ts8, hts8⟩ : ∃ ts8, m.ths.set k ⟨pl + 1, m.ths[k].regs.set qa (ra * rb % 10000), m.ths[k].stack, m.ths[k].st⟩ = ts8 := ⟨_, rfl⟩
       have HDO := Lib.hid (HDO.out.trans (congrArg some (Bt.stepM_5 _ _ _ _ _ _ _)))
       try simp only [Int.toNat_natCast] at HDO
       rw [HPL.out, GA.out, GB.out, hts8] at HDO
       have HTS := Lib.hid hts8; clear hts8
       obtain ⟨p0, p1, m0, m1, m2, m3, c0, c1, c2, z0, z1, z2, z3, f0, f1, f2, f3⟩ := HY.out _ (HM7.out.below)
       obtain ⟨o0, o1, o2, o3, og0, og1, og2, og3⟩ := HM7.out.four
       obtain ⟨T0, T1, T2, T3⟩ := HM7.out.ths.cells hk hkx
       have TZ0 := HM7.out.ths.frozen (k * 4)
       have TZ3 := HM7.out.ths.frozen (k * 4 + 3)
       have lg : g < w7.heap.size := HM7.out.box.lt
       have lgt : gt < w7.heap.size := cell_lt T0
       have l1 : w.heap.size + 1 + 1 + 1 < w7.heap.size := by omega
       have l2 : w.heap.size + 1 + 1 < w7.heap.size := by omega
       have l3 : w.heap.size + 1 < w7.heap.size := by omega
       have l5 : w.heap.size < w7.heap.size := by omega
       rw [HPL.out] at T0
       rw [EVR.out] at T1
       obtain ⟨E0, E1, E2, E3⟩ := HE7.out
       have HR7 := (HM7.out.ths.ints k hk hkx).1
       rw [EVR.out] at HR7
       have QA := HR7.at_ qa (by rw [HL4.out]; exact hqa4)
       have FA := HR7.frz qa
       have hbrg : br ≠ g := fun e => HR7.neM HM7.out.box (by rw [e]; rfl)
       have hbrt : br ≠ gt := fun e => HM7.out.ths.ne HR7 (by rw [e]; rfl)
       clear HR7 T2
       go_wp2
       refine bodyPost_ret (v := .tuple #[.agg #[.slice (some ⟨gt, 0, none⟩) nt ct2, .slice (some ⟨bc, 0, none⟩) 8 cc2, .slice (some ⟨bl, 0, none⟩) 2 cl2, .slice AD2 nd2 cd2], .bool true]) (by simp [results, Try.results65, go_sem, z0, z1, z2, z3]) rfl ?_
       rw [HDO.out]
       exact Mid.done (HM7.out.regPl HO.out.apart (by omega) (by omega) hk hkx EVR.out qa _ _ (by have e := HTS.out; subst e; rfl)) B0.out (by omega) (by omega)
      ·by_cases hlt : ra < rb
       ·obtain ⟨ts8, hts8⟩ : ∃ ts8, m.ths.set k ⟨pl + 1, m.ths[k].regs.set qa 1, m.ths[k].stack, m.ths[k].st⟩ = ts8 := ⟨_, rfl⟩
        have HDO := Lib.hid (HDO.out.trans (congrArg some (Bt.stepM_6t _ _ _ _ _ _ _ (by simp only [Int.toNat_natCast]; rw [GA.out, GB.out]; exact hlt))))
        try simp only [Int.toNat_natCast] at HDO
        rw [HPL.out, hts8] at HDO
        have HTS := Lib.hid hts8; clear hts8
        obtain ⟨p0, p1, m0, m1, m2, m3, c0, c1, c2, z0, z1, z2, z3, f0, f1, f2, f3⟩ := HY.out _ (HM7.out.below)
        obtain ⟨o0, o1, o2, o3, og0, og1, og2, og3⟩ := HM7.out.four
        obtain ⟨T0, T1, T2, T3⟩ := HM7.out.ths.cells hk hkx
        have TZ0 := HM7.out.ths.frozen (k * 4)
        have TZ3 := HM7.out.ths.frozen (k * 4 + 3)
        have lg : g < w7.heap.size := HM7.out.box.lt
        have lgt : gt < w7.heap.size := cell_lt T0
        have l1 : w.heap.size + 1 + 1 + 1 < w7.heap.size := by omega
        have l2 : w.heap.size + 1 + 1 < w7.heap.size := by omega
        have l3 : w.heap.size + 1 < w7.heap.size := by omega
        have l5 : w.heap.size < w7.heap.size := by omega
        rw [HPL.out] at T0
        rw [EVR.out] at T1
        obtain ⟨E0, E1, E2, E3⟩ := HE7.out
        have HR7 := (HM7.out.ths.ints k hk hkx).1
        rw [EVR.out] at HR7
        have QA := HR7.at_ qa (by rw [HL4.out]; exact hqa4)
        have FA := HR7.frz qa
        have hbrg : br ≠ g := fun e => HR7.neM HM7.out.box (by rw [e]; rfl)
        have hbrt : br ≠ gt := fun e => HM7.out.ths.ne HR7 (by rw [e]; rfl)
        clear HR7 T2
        go_wp2
        refine bodyPost_ret (v := .tuple #[.agg #[.slice (some ⟨gt, 0, none⟩) nt ct2, .slice (some ⟨bc, 0, none⟩) 8 cc2, .slice (some ⟨bl, 0, none⟩) 2 cl2, .slice AD2 nd2 cd2], .bool true]) (by simp [results, Try.results65, go_sem, z0, z1, z2, z3]) rfl ?_
        rw [HDO.out]
        exact Mid.done (HM7.out.regsPl HO.out.apart (by omega) (by omega) hk hkx EVR.out qa _ _ _ (by have e := HTS.out; subst e; rfl)) B0.out (by omega) (by omega)
       ·obtain ⟨ts8, hts8⟩ : ∃ ts8, m.ths.set k ⟨pl + 1, m.ths[k].regs.set qa (0), m.ths[k].stack, m.ths[k].st⟩ = ts8 := ⟨_, rfl⟩
        have HDO := Lib.hid (HDO.out.trans (congrArg some (Bt.stepM_6f _ _ _ _ _ _ _ (by simp only [Int.toNat_natCast]; rw [GA.out, GB.out]; exact hlt))))
        try simp only [Int.toNat_natCast] at HDO
        rw [HPL.out, hts8] at HDO
        have HTS := Lib.hid hts8; clear hts8
        obtain ⟨p0, p1, m0, m1, m2, m3, c0, c1, c2, z0, z1, z2, z3, f0, f1, f2, f3⟩ := HY.out _ (HM7.out.below)
        obtain ⟨o0, o1, o2, o3, og0, og1, og2, og3⟩ := HM7.out.four
        obtain ⟨T0, T1, T2, T3⟩ := HM7.out.ths.cells hk hkx
        have TZ0 := HM7.out.ths.frozen (k * 4)
        have TZ3 := HM7.out.ths.frozen (k * 4 + 3)
        have lg : g < w7.heap.size := HM7.out.box.lt
        have lgt : gt < w7.heap.size := cell_lt T0
        have l1 : w.heap.size + 1 + 1 + 1 < w7.heap.size := by omega
        have l2 : w.heap.size + 1 + 1 < w7.heap.size := by omega
        have l3 : w.heap.size + 1 < w7.heap.size := by omega
        have l5 : w.heap.size < w7.heap.size := by omega
        rw [HPL.out] at T0
        rw [EVR.out] at T1
        obtain ⟨E0, E1, E2, E3⟩ := HE7.out
        have HR7 := (HM7.out.ths.ints k hk hkx).1
        rw [EVR.out] at HR7
        have QA := HR7.at_ qa (by rw [HL4.out]; exact hqa4)
        have FA := HR7.frz qa
        have hbrg : br ≠ g := fun e => HR7.neM HM7.out.box (by rw [e]; rfl)
        have hbrt : br ≠ gt := fun e => HM7.out.ths.ne HR7 (by rw [e]; rfl)
        clear HR7 T2
        go_wp2
        refine bodyPost_ret (v := .tuple #[.agg #[.slice (some ⟨gt, 0, none⟩) nt ct2, .slice (some ⟨bc, 0, none⟩) 8 cc2, .slice (some ⟨bl, 0, none⟩) 2 cl2, .slice AD2 nd2 cd2], .bool true]) (by simp [results, Try.results65, go_sem, z0, z1, z2, z3]) rfl ?_
        rw [HDO.out]
        exact Mid.done (HM7.out.regPl HO.out.apart (by omega) (by omega) hk hkx EVR.out qa _ _ (by have e := HTS.out; subst e; rfl)) B0.out (by omega) (by omega)
      ·obtain ⟨i0, i1⟩ := Bt.cellOf_bound (r := ⟨7, (qa : Int), (qb : Int), xc⟩) HC.out (.inl rfl) TF.out.regs
       have HRA := (HM7.out.ths.ints k hk hkx).1
       rw [EVR.out] at HRA
       have HCA := Lib.hid (fun (W' : World) (hb : Below w7.heap.size w7 W') => specCellOf_any 7 (qa : Int) (qb : Int) xc _ m.ths[k].regs W' (by rw [HL4.out]; decide) (HRA.arg.keep hb))
       clear HRA
       obtain ⟨cv, hcv⟩ : ∃ cv, m.cells.getD (Bt.cellOf ⟨7, (qa : Int), (qb : Int), xc⟩ m.ths[k].regs).toNat 0 = cv := ⟨_, rfl⟩
       obtain ⟨ts8, hts8⟩ : ∃ ts8, m.ths.set k ⟨pl + 1, m.ths[k].regs.set qa cv, m.ths[k].stack, m.ths[k].st⟩ = ts8 := ⟨_, rfl⟩
       have HDO := Lib.hid (HDO.out.trans (congrArg some (Bt.stepM_7 _ _ _ _ _ _ _)))
       try simp only [Int.toNat_natCast] at HDO
       rw [HPL.out, hcv, hts8] at HDO
       have HTS := Lib.hid hts8; clear hts8
       generalize Bt.cellOf ⟨7, (qa : Int), (qb : Int), xc⟩ m.ths[k].regs = ci at *
       obtain ⟨i, rfl⟩ : ∃ i : Nat, ci = i := ⟨ci.toNat, by omega⟩
       have hi8 : i < m.cells.length := by rw [HNC.out]; omega
       have hinc : i < nc := by rw [← HA7.out.nC]; exact hi8
       obtain ⟨_, cat⟩ := HA7.out.cells.at_ HA7.out.nC
       obtain ⟨bA, oA, rfl, CV⟩ := cat i hi8
       have ecv : m.cells[i] = cv := by rw [← hcv]; simp [hi8]
       rw [ecv] at CV
       clear cat ecv hcv i0 i1
       obtain ⟨ts7, hts7⟩ : ∃ ts7, m.ths.set k ⟨m.ths[k].pl, m.ths[k].regs.set qa cv, m.ths[k].stack, m.ths[k].st⟩ = ts7 := ⟨_, rfl⟩
       have HT7 := Lib.hid hts7; clear hts7
       obtain ⟨p0, p1, m0, m1, m2, m3, c0, c1, c2, z0, z1, z2, z3, f0, f1, f2, f3⟩ := HY.out _ (HM7.out.below)
       obtain ⟨o0, o1, o2, o3, og0, og1, og2, og3⟩ := HM7.out.four
       obtain ⟨T0, T1, T2, T3⟩ := HM7.out.ths.cells hk hkx
       have TZ0 := HM7.out.ths.frozen (k * 4)
       have TZ3 := HM7.out.ths.frozen (k * 4 + 3)
       have lg : g < w7.heap.size := HM7.out.box.lt
       have lgt : gt < w7.heap.size := cell_lt T0
       have l1 : w.heap.size + 1 + 1 + 1 < w7.heap.size := by omega
       have l2 : w.heap.size + 1 + 1 < w7.heap.size := by omega
       have l3 : w.heap.size + 1 < w7.heap.size := by omega
       have l5 : w.heap.size < w7.heap.size := by omega
       rw [HPL.out] at T0
       rw [EVR.out] at T1
       obtain ⟨E0, E1, E2, E3⟩ := HE7.out
       have HR7 := (HM7.out.ths.ints k hk hkx).1
       rw [EVR.out] at HR7
       have QA := HR7.at_ qa (by rw [HL4.out]; exact hqa4)
       have FA := HR7.frz qa
       have hbrg : br ≠ g := fun e => HR7.neM HM7.out.box (by rw [e]; rfl)
       have hbrt : br ≠ gt := fun e => HM7.out.ths.ne HR7 (by rw [e]; rfl)
       clear HR7 T2
       go_wp2_with fail
       refine wp_region_ordI [Fact.is 180 (.slice (some ⟨br, 0, none⟩) 4 cr2),
         Fact.is 181 (.pointer (some ⟨gx, 1, none⟩)),
         Fact.is 182 (.int .i64 (qa : Int)),
         Fact.is 183 (.pointer (some ⟨w.heap.size + 1, 1, none⟩)),
         Fact.is 184 (.slice (some ⟨bA, oA, none⟩) nc cc),
         Fact.is 185 (.agg #[.int .i64 7, .int .i64 (qa : Int), .int .i64 (qb : Int), .int .i64 xc]),
         Fact.is 186 (.slice (some ⟨br, 0, none⟩) 4 cr2),
         Fact.is 187 (.int .i64 (i : Int)),
         Fact.is 188 (.pointer (some ⟨bA, oA + i, none⟩)),
         Fact.is 189 (.int .i64 cv),
         Fact.is 190 (.pointer (some ⟨br, qa, none⟩)),
         ⟨[], none, fun _ w' => Mid W0 w1.heap.size g (.slice (some ⟨gt, 0, none⟩) nt ct2) (.slice (some ⟨bc, 0, none⟩) 8 cc2) (.slice (some ⟨bl, 0, none⟩) 2 cl2) (.slice AD2 nd2 cd2) (xs) (⟨ts7, m.cells, m.locks, m.told⟩) w'⟩]
        [(11, fun w' => Below w7.heap.size w7 w')] []
        (by kernel_rfl) (by kernel_rfl) (by kernel_rfl) ?_ ?_ ?_ ?_ ?_
       ·intro q hq
        simp only [List.mem_cons, List.not_mem_nil, or_false] at hq
        rcases hq with rfl
        ·exact (Below.refl _ _).drew
       ·exact ⟨Fact.is_stable _ _, Fact.is_stable _ _, Fact.is_stable _ _, Fact.is_stable _ _, Fact.is_stable _ _, Fact.is_stable _ _, Fact.is_stable _ _, Fact.is_stable _ _, Fact.is_stable _ _, Fact.is_stable _ _, Fact.is_stable _ _, (fun vs w1 w2 hb h => h.keep hb), trivial⟩
       ·intro q hq w1' w2' hb h
        simp only [List.mem_cons, List.not_mem_nil, or_false] at hq
        rcases hq with rfl
        ·exact below_then h hb
       ·refine ⟨?_, ?_, ?_, ?_, ?_, ?_, ?_, ?_, ?_, ?_, ?_, ?_, trivial⟩
        ·intro A' w' hJ hoff hdep _hdif
         have a11 : A'.eval (.tmp 11) = .slice (some ⟨br, 0, none⟩) 4 cr2 := off_of hoff 11 (by kernel_rfl)
         exact isI rfl rfl (by generalize A'.eval = ev at *; simp [go_sem, a11])
        ·intro A' w' hJ hoff hdep _hdif
         have a9 : A'.eval (.tmp 9) = .pointer (some ⟨gx, 0, none⟩) := off_of hoff 9 (by kernel_rfl)
         exact isI rfl rfl (by generalize A'.eval = ev at *; simp [go_sem, a9])
        ·intro A' w' hJ hoff hdep _hdif
         have a181 := is_of (ask_of hdep (j := 1) (by kernel_rfl)) rfl
         have b := init_of hJ (n := 0) rfl (by kernel_rfl)
         have q1 := keeps b E1
         exact isI rfl rfl (by generalize A'.eval = ev at *; simp [go_sem, a181, q1])
        ·intro A' w' hJ hoff hdep _hdif
         have a4 : A'.eval (.tmp 4) = .pointer (some ⟨w.heap.size + 1, 0, none⟩) := off_of hoff 4 (by kernel_rfl)
         exact isI rfl rfl (by generalize A'.eval = ev at *; simp [go_sem, a4])
        ·intro A' w' hJ hoff hdep _hdif
         have a183 := is_of (ask_of hdep (j := 3) (by kernel_rfl)) rfl
         have b := init_of hJ (n := 0) rfl (by kernel_rfl)
         have q1 := keeps b m1
         exact isI rfl rfl (by generalize A'.eval = ev at *; simp [go_sem, a183, q1])
        ·intro A' w' hJ hoff hdep _hdif
         have a9 : A'.eval (.tmp 9) = .pointer (some ⟨gx, 0, none⟩) := off_of hoff 9 (by kernel_rfl)
         have b := init_of hJ (n := 0) rfl (by kernel_rfl)
         have q0 := keeps b E0
         have q1 := keeps b E1
         have q2 := keeps b E2
         have q3 := keeps b E3
         exact isI rfl rfl (by generalize A'.eval = ev at *; simp [go_sem, a9, q0, q1, q2, q3])
        ·intro A' w' hJ hoff hdep _hdif
         have a11 : A'.eval (.tmp 11) = .slice (some ⟨br, 0, none⟩) 4 cr2 := off_of hoff 11 (by kernel_rfl)
         exact isI rfl rfl (by generalize A'.eval = ev at *; simp [go_sem, a11])
        ·intro A' w' hJ hoff hdep _hdif
         have ef : ∀ f, A'.eval (.func f) = .func (.func f) #[] #[] := fun _ => rfl
         have a185 := is_of (ask_of hdep (j := 5) (by kernel_rfl)) rfl
         have a186 := is_of (ask_of hdep (j := 6) (by kernel_rfl)) rfl
         have b := init_of hJ (n := 0) rfl (by kernel_rfl)
         refine callI (f := 100) (args := #[.agg #[.int .i64 7, .int .i64 (qa : Int), .int .i64 (qb : Int), .int .i64 xc], .slice (some ⟨br, 0, none⟩) 4 cr2]) (by generalize A'.eval = ev at *; simp [go_sem, ef, a185, a186]) ((HCA.out w' b).mono fun e w3 h => ?_)
         obtain ⟨rfl, h2⟩ := h
         exact ⟨_, rfl, h2, is_to rfl rfl, fam_none (by kernel_rfl)⟩
        ·intro A' w' hJ hoff hdep _hdif
         have a184 := is_of (ask_of hdep (j := 4) (by kernel_rfl)) rfl
         have a187 := is_of (ask_of hdep (j := 7) (by kernel_rfl)) rfl
         exact isI rfl rfl (by generalize A'.eval = ev at *; simp [go_sem, a184, a187, hinc])
        ·intro A' w' hJ hoff hdep _hdif
         have a188 := is_of (ask_of hdep (j := 8) (by kernel_rfl)) rfl
         have b := init_of hJ (n := 0) rfl (by kernel_rfl)
         have q1 := keeps b CV
         exact isI rfl rfl (by generalize A'.eval = ev at *; simp [go_sem, a188, q1])
        ·intro A' w' hJ hoff hdep _hdif
         have a180 := is_of (ask_of hdep (j := 0) (by kernel_rfl)) rfl
         have a182 := is_of (ask_of hdep (j := 2) (by kernel_rfl)) rfl
         exact isI rfl rfl (by generalize A'.eval = ev at *; simp [go_sem, a180, a182, hqa4i])
        ·intro A' w' hJ hoff hdep _hdif
         have a189 := is_of (ask_of hdep (j := 9) (by kernel_rfl)) rfl
         have a190 := is_of (ask_of hdep (j := 10) (by kernel_rfl)) rfl
         have b := init_of hJ (n := 0) rfl (by kernel_rfl)
         have q1 := keeps b QA
         have q2 := keepz b QA FA
         refine lastI (w' := w'.setCell ⟨br, qa, none⟩ (.int .i64 cv)) (by generalize A'.eval = ev at *; simp [go_sem, a189, a190, q1, q2]) (by simp) ((HM7.out.keep b).setReg HO.out.apart (by omega) hk hkx EVR.out qa cv HT7.out) (fun j hj _ hk hf => ?_) (by kernel_rfl)
         match j, hj, hk, hf with
         | 0, _, _, hf => exact hf
         | 1, _, _, hf => exact hf
         | 2, _, _, hf => exact hf
         | 3, _, _, hf => exact hf
         | 4, _, _, hf => exact hf
         | 5, _, _, hf => exact hf
         | 6, _, _, hf => exact hf
         | 7, _, _, hf => exact hf
         | 8, _, _, hf => exact hf
         | 9, _, _, hf => exact hf
         | 10, _, _, hf => exact hf
         | 11, hj, _, _ => exact absurd rfl hj
         | _ + 12, _, _, _ => trivial
       ·intro s w8 hf _hdf _hff
        obtain hm8 := hf 11 (by decide) rfl
        have HM8 := Lib.hid hm8
        clear hf hm8
        simp only [putAll, Act.put, List.setIfInBounds_toArray, List.set_cons_succ, List.set_cons_zero]
        clear p0 p1 m0 m1 m2 m3 c0 c1 c2 z0 z1 z2 z3 f0 f1 f2 f3 o0 o1 o2 o3 og0 og1 og2 og3 T0 T1 T3 TZ0 TZ3 E0 E1 E2 E3 QA FA CV
        have HYW := HY.out _ HM8.out.below
        obtain ⟨p0, p1, m0, m1, m2, m3, c0, c1, c2, z0, z1, z2, z3, f0, f1, f2, f3⟩ := HYW
        obtain ⟨o0, o1, o2, o3, og0, og1, og2, og3⟩ := HM8.out.four
        have hk5 : k < (ts7).length := by rw [← HT7.out, List.length_set]; exact hk
        have hkx5 : k < (xs).length := by exact hkx
        obtain ⟨T0, _, _, T3⟩ := HM8.out.ths.cells hk5 hkx5
        have TZ0 := HM8.out.ths.frozen (k * 4)
        have TZ3 := HM8.out.ths.frozen (k * 4 + 3)
        go_wp2
        refine bodyPost_ret (v := .tuple #[.agg #[.slice (some ⟨gt, 0, none⟩) nt ct2, .slice (some ⟨bc, 0, none⟩) 8 cc2, .slice (some ⟨bl, 0, none⟩) 2 cl2, .slice AD2 nd2 cd2], .bool true]) (by simp [results, Try.results65, go_sem, z0, z1, z2, z3]) rfl ?_
        rw [HDO.out]
        exact Mid.done (HM8.out.setPl (by omega) hk5 _ (by have e := HTS.out; subst e; have e := HT7.out; subst e; simp)) B0.out (by omega) (by omega)
      ·obtain ⟨i0, i1⟩ := Bt.cellOf_bound (r := ⟨8, (qa : Int), (qb : Int), xc⟩) HC.out (.inr rfl) TF.out.regs
       have HRA := (HM7.out.ths.ints k hk hkx).1
       rw [EVR.out] at HRA
       have HCA := Lib.hid (fun (W' : World) (hb : Below w7.heap.size w7 W') => specCellOf_any 8 (qa : Int) (qb : Int) xc _ m.ths[k].regs W' (by rw [HL4.out]; decide) (HRA.arg.keep hb))
       clear HRA
       obtain ⟨ci, hci⟩ : ∃ ci, Bt.cellOf ⟨8, (qa : Int), (qb : Int), xc⟩ m.ths[k].regs = ci := ⟨_, rfl⟩
       rw [hci] at i0 i1 HCA
       obtain ⟨i, rfl⟩ : ∃ i : Nat, ci = i := ⟨ci.toNat, by omega⟩
       obtain ⟨ts8, hts8⟩ : ∃ ts8, m.ths.set k ⟨pl + 1, m.ths[k].regs, m.ths[k].stack, m.ths[k].st⟩ = ts8 := ⟨_, rfl⟩
       have HDO := Lib.hid (HDO.out.trans (congrArg some (Bt.stepM_8 _ _ _ _ _ _ _)))
       try simp only [Int.toNat_natCast] at HDO
       rw [HPL.out, GA.out, hci, Int.toNat_natCast, hts8] at HDO
       have HTS := Lib.hid hts8; clear hts8
       have hi8 : i < m.cells.length := by rw [HNC.out]; omega
       have hi8i : ¬ (8 : Int) ≤ (i : Int) := by omega
       have CV := HM7.out.cells.at_ i hi8
       have FV := HM7.out.cells.frz i
       clear hci i0 i1
       obtain ⟨p0, p1, m0, m1, m2, m3, c0, c1, c2, z0, z1, z2, z3, f0, f1, f2, f3⟩ := HY.out _ (HM7.out.below)
       obtain ⟨o0, o1, o2, o3, og0, og1, og2, og3⟩ := HM7.out.four
       obtain ⟨T0, T1, T2, T3⟩ := HM7.out.ths.cells hk hkx
       have TZ0 := HM7.out.ths.frozen (k * 4)
       have TZ3 := HM7.out.ths.frozen (k * 4 + 3)
       have lg : g < w7.heap.size := HM7.out.box.lt
       have lgt : gt < w7.heap.size := cell_lt T0
       have l1 : w.heap.size + 1 + 1 + 1 < w7.heap.size := by omega
       have l2 : w.heap.size + 1 + 1 < w7.heap.size := by omega
       have l3 : w.heap.size + 1 < w7.heap.size := by omega
       have l5 : w.heap.size < w7.heap.size := by omega
       rw [HPL.out] at T0
       rw [EVR.out] at T1
       obtain ⟨E0, E1, E2, E3⟩ := HE7.out
       have HR7 := (HM7.out.ths.ints k hk hkx).1
       rw [EVR.out] at HR7
       have QA := HR7.at_ qa (by rw [HL4.out]; exact hqa4)
       have FA := HR7.frz qa
       have hbrg : br ≠ g := fun e => HR7.neM HM7.out.box (by rw [e]; rfl)
       have hbrt : br ≠ gt := fun e => HM7.out.ths.ne HR7 (by rw [e]; rfl)
       clear HR7 T2 QA FA
       go_wp2_with fail
       refine wp_region_ordI [Fact.is 193 (.pointer (some ⟨g, 1, none⟩)),
         Fact.is 194 (.slice (some ⟨bc, 0, none⟩) 8 cc2),
         Fact.is 195 (.agg #[.int .i64 8, .int .i64 (qa : Int), .int .i64 (qb : Int), .int .i64 xc]),
         Fact.is 196 (.slice (some ⟨br, 0, none⟩) 4 cr2),
         Fact.is 197 (.int .i64 (i : Int)),
         Fact.is 198 (.int .i64 ra),
         Fact.is 199 (.pointer (some ⟨bc, i, none⟩)),
         ⟨[], none, fun _ w' => Mid W0 w1.heap.size g (.slice (some ⟨gt, 0, none⟩) nt ct2) (.slice (some ⟨bc, 0, none⟩) 8 cc2) (.slice (some ⟨bl, 0, none⟩) 2 cl2) (.slice AD2 nd2 cd2) (xs) (⟨m.ths, m.cells.set i ra, m.locks, m.told⟩) w'⟩]
        [(7, fun w' => Below w7.heap.size w7 w')] []
        (by kernel_rfl) (by kernel_rfl) (by kernel_rfl) ?_ ?_ ?_ ?_ ?_
       ·intro q hq
        simp only [List.mem_cons, List.not_mem_nil, or_false] at hq
        rcases hq with rfl
        ·exact (Below.refl _ _).drew
       ·exact ⟨Fact.is_stable _ _, Fact.is_stable _ _, Fact.is_stable _ _, Fact.is_stable _ _, Fact.is_stable _ _, Fact.is_stable _ _, Fact.is_stable _ _, (fun vs w1 w2 hb h => h.keep hb), trivial⟩
       ·intro q hq w1' w2' hb h
        simp only [List.mem_cons, List.not_mem_nil, or_false] at hq
        rcases hq with rfl
        ·exact below_then h hb
       ·refine ⟨?_, ?_, ?_, ?_, ?_, ?_, ?_, ?_, trivial⟩
        ·intro A' w' hJ hoff hdep _hdif
         have a8 : A'.eval (.tmp 8) = .pointer (some ⟨g, 0, none⟩) := off_of hoff 8 (by kernel_rfl)
         exact isI rfl rfl (by generalize A'.eval = ev at *; simp [go_sem, a8])
        ·intro A' w' hJ hoff hdep _hdif
         have a193 := is_of (ask_of hdep (j := 0) (by kernel_rfl)) rfl
         have b := init_of hJ (n := 0) rfl (by kernel_rfl)
         have q1 := keeps b o1
         exact isI rfl rfl (by generalize A'.eval = ev at *; simp [go_sem, a193, q1])
        ·intro A' w' hJ hoff hdep _hdif
         have a9 : A'.eval (.tmp 9) = .pointer (some ⟨gx, 0, none⟩) := off_of hoff 9 (by kernel_rfl)
         have b := init_of hJ (n := 0) rfl (by kernel_rfl)
         have q0 := keeps b E0
         have q1 := keeps b E1
         have q2 := keeps b E2
         have q3 := keeps b E3
         exact isI rfl rfl (by generalize A'.eval = ev at *; simp [go_sem, a9, q0, q1, q2, q3])
        ·intro A' w' hJ hoff hdep _hdif
         have a11 : A'.eval (.tmp 11) = .slice (some ⟨br, 0, none⟩) 4 cr2 := off_of hoff 11 (by kernel_rfl)
         exact isI rfl rfl (by generalize A'.eval = ev at *; simp [go_sem, a11])
        ·intro A' w' hJ hoff hdep _hdif
         have ef : ∀ f, A'.eval (.func f) = .func (.func f) #[] #[] := fun _ => rfl
         have a195 := is_of (ask_of hdep (j := 2) (by kernel_rfl)) rfl
         have a196 := is_of (ask_of hdep (j := 3) (by kernel_rfl)) rfl
         have b := init_of hJ (n := 0) rfl (by kernel_rfl)
         refine callI (f := 100) (args := #[.agg #[.int .i64 8, .int .i64 (qa : Int), .int .i64 (qb : Int), .int .i64 xc], .slice (some ⟨br, 0, none⟩) 4 cr2]) (by generalize A'.eval = ev at *; simp [go_sem, ef, a195, a196]) ((HCA.out w' b).mono fun e w3 h => ?_)
         obtain ⟨rfl, h2⟩ := h
         exact ⟨_, rfl, h2, is_to rfl rfl, fam_none (by kernel_rfl)⟩
        ·intro A' w' hJ hoff hdep _hdif
         have a13 : A'.eval (.tmp 13) = .int .i64 ra := off_of hoff 13 (by kernel_rfl)
         exact isI rfl rfl (by generalize A'.eval = ev at *; simp [go_sem, a13])
        ·intro A' w' hJ hoff hdep _hdif
         have a194 := is_of (ask_of hdep (j := 1) (by kernel_rfl)) rfl
         have a197 := is_of (ask_of hdep (j := 4) (by kernel_rfl)) rfl
         exact isI rfl rfl (by generalize A'.eval = ev at *; simp [go_sem, a194, a197, hi8i])
        ·intro A' w' hJ hoff hdep _hdif
         have a198 := is_of (ask_of hdep (j := 5) (by kernel_rfl)) rfl
         have a199 := is_of (ask_of hdep (j := 6) (by kernel_rfl)) rfl
         have b := init_of hJ (n := 0) rfl (by kernel_rfl)
         have q1 := keeps b CV
         have q2 := keepz b CV FV
         refine lastI (w' := w'.setCell ⟨bc, i, none⟩ (.int .i64 ra)) (by generalize A'.eval = ev at *; simp [go_sem, a198, a199, q1, q2]) (by simp) ((HM7.out.keep b).setCells HO.out.apart (by omega) i ra) (fun j hj _ hk hf => ?_) (by kernel_rfl)
         match j, hj, hk, hf with
         | 0, _, _, hf => exact hf
         | 1, _, _, hf => exact hf
         | 2, _, _, hf => exact hf
         | 3, _, _, hf => exact hf
         | 4, _, _, hf => exact hf
         | 5, _, _, hf => exact hf
         | 6, _, _, hf => exact hf
         | 7, hj, _, _ => exact absurd rfl hj
         | _ + 8, _, _, _ => trivial
       ·intro s w8 hf _hdf _hff
        obtain hm8 := hf 7 (by decide) rfl
        have HM8 := Lib.hid hm8
        clear hf hm8
        simp only [putAll, Act.put, List.setIfInBounds_toArray, List.set_cons_succ, List.set_cons_zero]
        clear p0 p1 m0 m1 m2 m3 c0 c1 c2 z0 z1 z2 z3 f0 f1 f2 f3 o0 o1 o2 o3 og0 og1 og2 og3 T0 T1 T3 TZ0 TZ3 E0 E1 E2 E3 CV FV
        have HYW := HY.out _ HM8.out.below
        obtain ⟨p0, p1, m0, m1, m2, m3, c0, c1, c2, z0, z1, z2, z3, f0, f1, f2, f3⟩ := HYW
        obtain ⟨o0, o1, o2, o3, og0, og1, og2, og3⟩ := HM8.out.four
        have hk5 : k < (m.ths).length := by exact hk
        have hkx5 : k < (xs).length := by exact hkx
        obtain ⟨T0, _, _, T3⟩ := HM8.out.ths.cells hk5 hkx5
        have TZ0 := HM8.out.ths.frozen (k * 4)
        have TZ3 := HM8.out.ths.frozen (k * 4 + 3)
        go_wp2
        refine bodyPost_ret (v := .tuple #[.agg #[.slice (some ⟨gt, 0, none⟩) nt ct2, .slice (some ⟨bc, 0, none⟩) 8 cc2, .slice (some ⟨bl, 0, none⟩) 2 cl2, .slice AD2 nd2 cd2], .bool true]) (by simp [results, Try.results65, go_sem, z0, z1, z2, z3]) rfl ?_
        rw [HDO.out]
        exact Mid.done (HM8.out.setPl (by omega) hk5 _ (by have e := HTS.out; subst e; simp)) B0.out (by omega) (by omega)
      ·obtain ⟨ts8, hts8⟩ : ∃ ts8, m.ths.set k ⟨xc, m.ths[k].regs, m.ths[k].stack, m.ths[k].st⟩ = ts8 := ⟨_, rfl⟩
       have HDO := Lib.hid (HDO.out.trans (congrArg some (Bt.stepM_9 _ _ _ _ _ _ _)))
       try simp only [Int.toNat_natCast] at HDO
       rw [hts8] at HDO
       have HTS := Lib.hid hts8; clear hts8
       obtain ⟨p0, p1, m0, m1, m2, m3, c0, c1, c2, z0, z1, z2, z3, f0, f1, f2, f3⟩ := HY.out _ (HM7.out.below)
       obtain ⟨o0, o1, o2, o3, og0, og1, og2, og3⟩ := HM7.out.four
       obtain ⟨T0, T1, T2, T3⟩ := HM7.out.ths.cells hk hkx
       have TZ0 := HM7.out.ths.frozen (k * 4)
       have TZ3 := HM7.out.ths.frozen (k * 4 + 3)
       have lg : g < w7.heap.size := HM7.out.box.lt
       have lgt : gt < w7.heap.size := cell_lt T0
       have l1 : w.heap.size + 1 + 1 + 1 < w7.heap.size := by omega
       have l2 : w.heap.size + 1 + 1 < w7.heap.size := by omega
       have l3 : w.heap.size + 1 < w7.heap.size := by omega
       have l5 : w.heap.size < w7.heap.size := by omega
       rw [HPL.out] at T0
       rw [EVR.out] at T1
       obtain ⟨E0, E1, E2, E3⟩ := HE7.out
       have HR7 := (HM7.out.ths.ints k hk hkx).1
       rw [EVR.out] at HR7
       have QA := HR7.at_ qa (by rw [HL4.out]; exact hqa4)
       have FA := HR7.frz qa
       have hbrg : br ≠ g := fun e => HR7.neM HM7.out.box (by rw [e]; rfl)
       have hbrt : br ≠ gt := fun e => HM7.out.ths.ne HR7 (by rw [e]; rfl)
       clear HR7 T2
       go_wp2
       refine bodyPost_ret (v := .tuple #[.agg #[.slice (some ⟨gt, 0, none⟩) nt ct2, .slice (some ⟨bc, 0, none⟩) 8 cc2, .slice (some ⟨bl, 0, none⟩) 2 cl2, .slice AD2 nd2 cd2], .bool true]) (by simp [results, Try.results65, go_sem, z0, z1, z2, z3]) rfl ?_
       rw [HDO.out]
       exact Mid.done (HM7.out.setPl (by omega) hk _ (by have e := HTS.out; subst e; rfl)) B0.out (by omega) (by omega)
      ·by_cases hra : ra = 0
       ·have dra : (ra == 0) = true := by rw [hra]; rfl
        obtain ⟨ts8, hts8⟩ : ∃ ts8, m.ths.set k ⟨xc, m.ths[k].regs, m.ths[k].stack, m.ths[k].st⟩ = ts8 := ⟨_, rfl⟩
        have HDO := Lib.hid (HDO.out.trans (congrArg some (Bt.stepM_10t _ _ _ _ _ _ _ (by simp only [Int.toNat_natCast]; rw [GA.out]; exact hra))))
        try simp only [Int.toNat_natCast] at HDO
        rw [hts8] at HDO
        have HTS := Lib.hid hts8; clear hts8
        obtain ⟨p0, p1, m0, m1, m2, m3, c0, c1, c2, z0, z1, z2, z3, f0, f1, f2, f3⟩ := HY.out _ (HM7.out.below)
        obtain ⟨o0, o1, o2, o3, og0, og1, og2, og3⟩ := HM7.out.four
        obtain ⟨T0, T1, T2, T3⟩ := HM7.out.ths.cells hk hkx
        have TZ0 := HM7.out.ths.frozen (k * 4)
        have TZ3 := HM7.out.ths.frozen (k * 4 + 3)
        have lg : g < w7.heap.size := HM7.out.box.lt
        have lgt : gt < w7.heap.size := cell_lt T0
        have l1 : w.heap.size + 1 + 1 + 1 < w7.heap.size := by omega
        have l2 : w.heap.size + 1 + 1 < w7.heap.size := by omega
        have l3 : w.heap.size + 1 < w7.heap.size := by omega
        have l5 : w.heap.size < w7.heap.size := by omega
        rw [HPL.out] at T0
        rw [EVR.out] at T1
        obtain ⟨E0, E1, E2, E3⟩ := HE7.out
        have HR7 := (HM7.out.ths.ints k hk hkx).1
        rw [EVR.out] at HR7
        have QA := HR7.at_ qa (by rw [HL4.out]; exact hqa4)
        have FA := HR7.frz qa
        have hbrg : br ≠ g := fun e => HR7.neM HM7.out.box (by rw [e]; rfl)
        have hbrt : br ≠ gt := fun e => HM7.out.ths.ne HR7 (by rw [e]; rfl)
        clear HR7 T2
        go_wp2
        refine bodyPost_ret (v := .tuple #[.agg #[.slice (some ⟨gt, 0, none⟩) nt ct2, .slice (some ⟨bc, 0, none⟩) 8 cc2, .slice (some ⟨bl, 0, none⟩) 2 cl2, .slice AD2 nd2 cd2], .bool true]) (by simp [results, Try.results65, go_sem, z0, z1, z2, z3]) rfl ?_
        rw [HDO.out]
        exact Mid.done (HM7.out.setPl (by omega) hk _ (by have e := HTS.out; subst e; rfl)) B0.out (by omega) (by omega)
       ·have dra : (ra == 0) = false := by rw [beq_eq_false_iff_ne]; exact hra
        obtain ⟨ts8, hts8⟩ : ∃ ts8, m.ths.set k ⟨pl + 1, m.ths[k].regs, m.ths[k].stack, m.ths[k].st⟩ = ts8 := ⟨_, rfl⟩
        have HDO := Lib.hid (HDO.out.trans (congrArg some (Bt.stepM_10f _ _ _ _ _ _ _ (by simp only [Int.toNat_natCast]; rw [GA.out]; exact hra))))
        try simp only [Int.toNat_natCast] at HDO
        rw [HPL.out, hts8] at HDO
        have HTS := Lib.hid hts8; clear hts8
        obtain ⟨p0, p1, m0, m1, m2, m3, c0, c1, c2, z0, z1, z2, z3, f0, f1, f2, f3⟩ := HY.out _ (HM7.out.below)
        obtain ⟨o0, o1, o2, o3, og0, og1, og2, og3⟩ := HM7.out.four
        obtain ⟨T0, T1, T2, T3⟩ := HM7.out.ths.cells hk hkx
        have TZ0 := HM7.out.ths.frozen (k * 4)
        have TZ3 := HM7.out.ths.frozen (k * 4 + 3)
        have lg : g < w7.heap.size := HM7.out.box.lt
        have lgt : gt < w7.heap.size := cell_lt T0
        have l1 : w.heap.size + 1 + 1 + 1 < w7.heap.size := by omega
        have l2 : w.heap.size + 1 + 1 < w7.heap.size := by omega
        have l3 : w.heap.size + 1 < w7.heap.size := by omega
        have l5 : w.heap.size < w7.heap.size := by omega
        rw [HPL.out] at T0
        rw [EVR.out] at T1
        obtain ⟨E0, E1, E2, E3⟩ := HE7.out
        have HR7 := (HM7.out.ths.ints k hk hkx).1
        rw [EVR.out] at HR7
        have QA := HR7.at_ qa (by rw [HL4.out]; exact hqa4)
        have FA := HR7.frz qa
        have hbrg : br ≠ g := fun e => HR7.neM HM7.out.box (by rw [e]; rfl)
        have hbrt : br ≠ gt := fun e => HM7.out.ths.ne HR7 (by rw [e]; rfl)
        clear HR7 T2
        go_wp2
        refine bodyPost_ret (v := .tuple #[.agg #[.slice (some ⟨gt, 0, none⟩) nt ct2, .slice (some ⟨bc, 0, none⟩) 8 cc2, .slice (some ⟨bl, 0, none⟩) 2 cl2, .slice AD2 nd2 cd2], .bool true]) (by simp [results, Try.results65, go_sem, z0, z1, z2, z3]) rfl ?_
        rw [HDO.out]
        exact Mid.done (HM7.out.setPl (by omega) hk _ (by have e := HTS.out; subst e; rfl)) B0.out (by omega) (by omega)
      ·obtain ⟨ts5, hts5⟩ : ∃ ts5, m.ths.set k ⟨m.ths[k].pl, m.ths[k].regs, m.ths[k].stack ++ [pl + 1], m.ths[k].st⟩ = ts5 := ⟨_, rfl⟩
       have HT5 := Lib.hid hts5; clear hts5
       obtain ⟨ts8, hts8⟩ : ∃ ts8, m.ths.set k ⟨xc, m.ths[k].regs, m.ths[k].stack ++ [pl + 1], m.ths[k].st⟩ = ts8 := ⟨_, rfl⟩
       have HDO := Lib.hid (HDO.out.trans (congrArg some (Bt.stepM_11 _ _ _ _ _ _ _)))
       try simp only [Int.toNat_natCast] at HDO
       rw [HPL.out, hts8] at HDO
       have HTS := Lib.hid hts8; clear hts8
       obtain ⟨p0, p1, m0, m1, m2, m3, c0, c1, c2, z0, z1, z2, z3, f0, f1, f2, f3⟩ := HY.out _ (HM7.out.below)
       obtain ⟨o0, o1, o2, o3, og0, og1, og2, og3⟩ := HM7.out.four
       obtain ⟨T0, T1, T2, T3⟩ := HM7.out.ths.cells hk hkx
       have TZ0 := HM7.out.ths.frozen (k * 4)
       have TZ3 := HM7.out.ths.frozen (k * 4 + 3)
       have lg : g < w7.heap.size := HM7.out.box.lt
       have lgt : gt < w7.heap.size := cell_lt T0
       have l1 : w.heap.size + 1 + 1 + 1 < w7.heap.size := by omega
       have l2 : w.heap.size + 1 + 1 < w7.heap.size := by omega
       have l3 : w.heap.size + 1 < w7.heap.size := by omega
       have l5 : w.heap.size < w7.heap.size := by omega
       rw [HPL.out] at T0
       rw [EVR.out] at T1
       obtain ⟨E0, E1, E2, E3⟩ := HE7.out
       have HR7 := (HM7.out.ths.ints k hk hkx).1
       rw [EVR.out] at HR7
       have QA := HR7.at_ qa (by rw [HL4.out]; exact hqa4)
       have FA := HR7.frz qa
       have hbrg : br ≠ g := fun e => HR7.neM HM7.out.box (by rw [e]; rfl)
       have hbrt : br ≠ gt := fun e => HM7.out.ths.ne HR7 (by rw [e]; rfl)
       clear HR7
       have TZ2 := HM7.out.ths.frozen (k * 4 + 2)
       rw [EVS.out] at T2
       have HS7 := Lib.hid (HM7.out.ths.ints k hk hkx).2
       rw [EVS.out] at HS7
       have HO7 : Hid (OwnMc w7 w1.heap.size (.slice (some ⟨gt, 0, none⟩) nt ct2) (.slice (some ⟨bc, 0, none⟩) 8 cc2) (.slice (some ⟨bl, 0, none⟩) 2 cl2) (.slice AD2 nd2 cd2) xs m) := Lib.hid ⟨HM7.out.ths, HM7.out.cells, HM7.out.locks, HM7.out.told, HO.out.apart⟩
       have HB7 := Lib.hid HM7.out.below
       have HMB7 := Lib.hid HM7.out.box
       have HFR7 := Lib.hid HM7.out.four
       have hgxg : g + 1 ≤ gx := lgx
       have hvsx : ∀ u ∈ [Value.slice AS2 ns cs2], u.ownBlock ≠ some gx := ne_of_bd (fun k e => HS3.out.bd k e) (.inr (by omega))
       have lbr := cell_lt QA
       simp only at lbr
       go_wp2_with fail
       refine wp_region_ordI [Fact.is 212 (.pointer (some ⟨g, 0, none⟩)),
         Fact.is 213 (.slice (some ⟨gt, 0, none⟩) nt ct2),
         Fact.is 214 (.pointer (some ⟨w.heap.size + 1 + 1, 0, none⟩)),
         Fact.is 215 (.int .i64 (k : Int)),
         Fact.is 216 (.pointer (some ⟨g, 0, none⟩)),
         Fact.is 217 (.slice (some ⟨gt, 0, none⟩) nt ct2),
         Fact.is 218 (.pointer (some ⟨w.heap.size + 1 + 1, 0, none⟩)),
         Fact.is 219 (.int .i64 (k : Int)),
         Fact.is 220 (.pointer (some ⟨gt, k * 4, none⟩)),
         Fact.is 221 (.pointer (some ⟨gt, k * 4 + 2, none⟩)),
         Fact.is 222 (.slice AS2 ns cs2),
         Fact.is 223 (.int .i64 (pl + 1)),
         Fact.upto 224 13 (fun v w' => ∃ g6, v = .slice (some ⟨g6, 0, none⟩) 1 1 ∧ w'.cell? ⟨g6, 0, none⟩ = some (.int .i64 (pl + 1))),
         Fact.upto 225 16 (fun v w' => ∃ A7 c7, v = .slice A7 (ns + 1) c7 ∧ IntRow w' w1.heap.size (.slice A7 (ns + 1) c7) (m.ths[k].stack ++ [(pl + 1)])),
         Fact.is 226 (.pointer (some ⟨gt, k * 4, none⟩)),
         Fact.is 227 (.pointer (some ⟨gt, k * 4 + 2, none⟩)),
         ⟨[], none, fun _ w' => ∃ A7 c7, Mid W0 w1.heap.size g (.slice (some ⟨gt, 0, none⟩) nt ct2) (.slice (some ⟨bc, 0, none⟩) 8 cc2) (.slice (some ⟨bl, 0, none⟩) 2 cl2) (.slice AD2 nd2 cd2) (xs.set k (xs[k].1, .slice A7 (ns + 1) c7)) (⟨ts5, m.cells, m.locks, m.told⟩) w' ∧ w'.cell? ⟨gx, 3, none⟩ = some (.int .i64 xc)⟩]
        [(13, fun w' => Below w7.heap.size w7 w'),
         (16, fun w' => Only [.slice AS2 ns cs2] w7 w')] []
        (by kernel_rfl) (by kernel_rfl) (by kernel_rfl) ?_ ?_ ?_ ?_ ?_
       ·intro q hq
        simp only [List.mem_cons, List.not_mem_nil, or_false] at hq
        rcases hq with rfl | rfl
        ·exact (Below.refl _ _).drew
        ·exact Only.drew _ _
       ·exact ⟨Fact.is_stable _ _, Fact.is_stable _ _, Fact.is_stable _ _, Fact.is_stable _ _, Fact.is_stable _ _, Fact.is_stable _ _, Fact.is_stable _ _, Fact.is_stable _ _, Fact.is_stable _ _, Fact.is_stable _ _, Fact.is_stable _ _, Fact.is_stable _ _, Fact.upto_stable (fun v w w' hb ⟨g, e, h⟩ => ⟨g, e, keeps hb h⟩), Fact.upto_stable (fun v w w' hb ⟨A7, c7, e, h⟩ => ⟨A7, c7, e, h.keep hb⟩), Fact.is_stable _ _, Fact.is_stable _ _, (fun vs w1 w2 hb ⟨A7, c7, h, h'⟩ => ⟨A7, c7, h.keep hb, keeps hb h'⟩), trivial⟩
       ·intro q hq w1' w2' hb h
        simp only [List.mem_cons, List.not_mem_nil, or_false] at hq
        rcases hq with rfl | rfl
        ·exact below_then h hb
        ·exact h.then hb
       ·refine ⟨?_, ?_, ?_, ?_, ?_, ?_, ?_, ?_, ?_, ?_, ?_, ?_, ?_, ?_, ?_, ?_, ?_, trivial⟩
        ·intro A' w' hJ hoff hdep _hdif
         have a8 : A'.eval (.tmp 8) = .pointer (some ⟨g, 0, none⟩) := off_of hoff 8 (by kernel_rfl)
         exact isI rfl rfl (by generalize A'.eval = ev at *; simp [go_sem, a8])
        ·intro A' w' hJ hoff hdep _hdif
         have a212 := is_of (ask_of hdep (j := 0) (by kernel_rfl)) rfl
         have b := init_of hJ (n := 1) rfl (by kernel_rfl)
         have q1 := b.cell o0 hvsg
         exact isI rfl rfl (by generalize A'.eval = ev at *; simp [go_sem, a212, q1])
        ·intro A' w' hJ hoff hdep _hdif
         have a5 : A'.eval (.tmp 5) = .pointer (some ⟨w.heap.size + 1 + 1, 0, none⟩) := off_of hoff 5 (by kernel_rfl)
         exact isI rfl rfl (by generalize A'.eval = ev at *; simp [go_sem, a5])
        ·intro A' w' hJ hoff hdep _hdif
         have a214 := is_of (ask_of hdep (j := 2) (by kernel_rfl)) rfl
         have b := init_of hJ (n := 1) rfl (by kernel_rfl)
         have q1 := b.cell c0 (fun u hu => hvsB u hu _ (by simp only; omega))
         exact isI rfl rfl (by generalize A'.eval = ev at *; simp [go_sem, a214, q1])
        ·intro A' w' hJ hoff hdep _hdif
         have a8 : A'.eval (.tmp 8) = .pointer (some ⟨g, 0, none⟩) := off_of hoff 8 (by kernel_rfl)
         exact isI rfl rfl (by generalize A'.eval = ev at *; simp [go_sem, a8])
        ·intro A' w' hJ hoff hdep _hdif
         have a216 := is_of (ask_of hdep (j := 4) (by kernel_rfl)) rfl
         have b := init_of hJ (n := 1) rfl (by kernel_rfl)
         have q1 := b.cell o0 hvsg
         exact isI rfl rfl (by generalize A'.eval = ev at *; simp [go_sem, a216, q1])
        ·intro A' w' hJ hoff hdep _hdif
         have a5 : A'.eval (.tmp 5) = .pointer (some ⟨w.heap.size + 1 + 1, 0, none⟩) := off_of hoff 5 (by kernel_rfl)
         exact isI rfl rfl (by generalize A'.eval = ev at *; simp [go_sem, a5])
        ·intro A' w' hJ hoff hdep _hdif
         have a218 := is_of (ask_of hdep (j := 6) (by kernel_rfl)) rfl
         have b := init_of hJ (n := 1) rfl (by kernel_rfl)
         have q1 := b.cell c0 (fun u hu => hvsB u hu _ (by simp only; omega))
         exact isI rfl rfl (by generalize A'.eval = ev at *; simp [go_sem, a218, q1])
        ·intro A' w' hJ hoff hdep _hdif
         have a217 := is_of (ask_of hdep (j := 5) (by kernel_rfl)) rfl
         have a219 := is_of (ask_of hdep (j := 7) (by kernel_rfl)) rfl
         exact isI rfl rfl (by generalize A'.eval = ev at *; simp [go_sem, a217, a219, hkn])
        ·intro A' w' hJ hoff hdep _hdif
         have a220 := is_of (ask_of hdep (j := 8) (by kernel_rfl)) rfl
         exact isI rfl rfl (by generalize A'.eval = ev at *; simp [go_sem, a220])
        ·intro A' w' hJ hoff hdep _hdif
         have a221 := is_of (ask_of hdep (j := 9) (by kernel_rfl)) rfl
         have b := init_of hJ (n := 1) rfl (by kernel_rfl)
         have q1 := b.cell T2 hvst
         exact isI rfl rfl (by generalize A'.eval = ev at *; simp [go_sem, a221, q1])
        ·intro A' w' hJ hoff hdep _hdif
         have a12 : A'.eval (.tmp 12) = .int .i64 (pl + 1) := off_of hoff 12 (by kernel_rfl)
         exact isI rfl rfl (by generalize A'.eval = ev at *; simp [go_sem, a12])
        ·intro A' w' hJ hoff hdep _hdif
         have a223 := is_of (ask_of hdep (j := 11) (by kernel_rfl)) rfl
         have hb : Below w'.heap.size w' (w'.alloc (.cells #[.int .i64 (pl + 1)] 3)) := (Below.refl _ _).alloc (Nat.le_refl _) _
         exact runI (v := .slice (some ⟨w'.heap.size, 0, none⟩) 1 1) (w' := w'.alloc (.cells #[.int .i64 (pl + 1)] 3)) (by generalize A'.eval = ev at *; simp [go_sem, a223]) hb (upto_to rfl rfl ⟨_, rfl, by simp⟩) (fam_none (by kernel_rfl))
        ·intro A' w' hJ hoff hdep _hdif
         have a222 := is_of (ask_of hdep (j := 10) (by kernel_rfl)) rfl
         have b := init_of hJ (n := 0) rfl (by kernel_rfl)
         have bo := init_of hJ (n := 1) rfl (by kernel_rfl)
         obtain ⟨g6, aL, pL⟩ := upto_of (ask_of hdep (j := 12) (by kernel_rfl)) rfl
         have hz := b.size
         refine surely_app_int (.tmp 222) (.tmp 224) rfl w1.heap.size _ m.ths[k].stack a222 (HS7.out.keep b) _ 1 ((pl + 1)) aL pL (by rw [HNS.out]; have := NS6.out; omega) (by omega) (fun v' w2 hr hg => ?_)
         obtain ⟨A7, c7, e7, _⟩ := hr.arg.form
         rw [List.length_append, HNS.out] at e7
         have e7 : v' = .slice A7 (ns + 1) c7 := e7
         subst e7
         refine ⟨⟨hg.size, fun h => absurd h (by decide)⟩, .inr ⟨fun i hi hn hk hf => ?_, fun p hp h1' _ h3' => ?_⟩, upto_to rfl rfl ⟨A7, c7, rfl, hr⟩, fam_none (by kernel_rfl)⟩
         ·match i, hi, hn, hk, hf with
          | 0, hj, hn, hk, hf => exact hf
          | 1, hj, hn, hk, hf => exact hf
          | 2, hj, hn, hk, hf => exact hf
          | 3, hj, hn, hk, hf => exact hf
          | 4, hj, hn, hk, hf => exact hf
          | 5, hj, hn, hk, hf => exact hf
          | 6, hj, hn, hk, hf => exact hf
          | 7, hj, hn, hk, hf => exact hf
          | 8, hj, hn, hk, hf => exact hf
          | 9, hj, hn, hk, hf => exact hf
          | 10, hj, hn, hk, hf => exact hf
          | 11, hj, hn, hk, hf => exact hf
          | 12, hj, hn, hk, hf => exact absurd rfl (hk 13 rfl).1
          | 13, hj, hn, hk, hf => exact absurd rfl hj
          | 14, hj, hn, hk, hf => exact hf
          | 15, hj, hn, hk, hf => exact hf
          | 16, hj, hn, hk, hf => exact absurd (List.contains_iff_mem.1 (by kernel_rfl)) hn
          | _ + 17, _, _, _, _ => trivial
         ·simp only [List.mem_cons, List.not_mem_nil, or_false] at hp
          rcases hp with rfl | rfl
          ·exact absurd rfl h1'
          ·exact bo.trans (Only.of_grown hg List.mem_cons_self)
        ·intro A' w' hJ hoff hdep _hdif
         have a213 := is_of (ask_of hdep (j := 1) (by kernel_rfl)) rfl
         have a215 := is_of (ask_of hdep (j := 3) (by kernel_rfl)) rfl
         exact isI rfl rfl (by generalize A'.eval = ev at *; simp [go_sem, a213, a215, hkn])
        ·intro A' w' hJ hoff hdep _hdif
         have a226 := is_of (ask_of hdep (j := 14) (by kernel_rfl)) rfl
         exact isI rfl rfl (by generalize A'.eval = ev at *; simp [go_sem, a226])
        ·intro A' w' hJ hoff hdep _hdif
         have a227 := is_of (ask_of hdep (j := 15) (by kernel_rfl)) rfl
         have b := init_of hJ (n := 1) rfl (by kernel_rfl)
         obtain ⟨A7, c7, aA, hA⟩ := upto_of (ask_of hdep (j := 13) (by kernel_rfl)) rfl
         have q1 := b.cell T2 hvst
         have q2 := b.frozen T2 TZ2 hvst
         refine lastI (w' := w'.setCell ⟨gt, k * 4 + 2, none⟩ (.slice A7 (ns + 1) c7)) (by generalize A'.eval = ev at *; simp [go_sem, a227, aA, q1, q2]) (by simp) ⟨A7, c7, Mid.push HO7.out HB7.out HMB7.out HFR7.out (by omega) hk hkx (by rw [EVS.out]; exact b) _ _ hA HT5.out, (by rw [World.cell?_setCell_far _ _ _ _ (by simp only; omega)]; exact b.cell E3 hvsx)⟩ (fun i hi _ hk hf => ?_) (by kernel_rfl)
         match i, hi, hk, hf with
         | 0, hj, hk, hf => exact hf
         | 1, hj, hk, hf => exact hf
         | 2, hj, hk, hf => exact hf
         | 3, hj, hk, hf => exact hf
         | 4, hj, hk, hf => exact hf
         | 5, hj, hk, hf => exact hf
         | 6, hj, hk, hf => exact hf
         | 7, hj, hk, hf => exact hf
         | 8, hj, hk, hf => exact hf
         | 9, hj, hk, hf => exact hf
         | 10, hj, hk, hf => exact hf
         | 11, hj, hk, hf => exact hf
         | 12, hj, hk, hf => exact absurd (List.contains_iff_mem.1 (by kernel_rfl)) (hk 13 rfl).2
         | 13, hj, hk, hf => exact absurd rfl (hk 16 rfl).1
         | 14, hj, hk, hf => exact hf
         | 15, hj, hk, hf => exact hf
         | 16, hj, hk, hf => exact absurd rfl hj
         | _ + 17, _, _, _ => trivial
       ·intro s w8 hf _hdf _hff
        obtain ⟨A7, c7, hm8, E3⟩ := hf 16 (by decide) rfl
        have HM8 := Lib.hid hm8
        clear hf hm8 p0 p1 m0 m1 m2 m3 c0 c1 c2 z0 z1 z2 z3 f0 f1 f2 f3 o0 o1 o2 o3 og0 og1 og2 og3 T0 T1 T2 T3 TZ0 TZ3 TZ2 QA FA hgxg
        simp only [putAll, Act.put, List.setIfInBounds_toArray, List.set_cons_succ, List.set_cons_zero]
        have HYW := HY.out _ HM8.out.below
        obtain ⟨p0, p1, m0, m1, m2, m3, c0, c1, c2, z0, z1, z2, z3, f0, f1, f2, f3⟩ := HYW
        obtain ⟨o0, o1, o2, o3, og0, og1, og2, og3⟩ := HM8.out.four
        have hk5 : k < (ts5).length := by rw [← HT5.out, List.length_set]; exact hk
        have hkx5 : k < (xs.set k (xs[k].1, .slice A7 (ns + 1) c7)).length := by rw [List.length_set]; exact hkx
        obtain ⟨T0, _, _, T3⟩ := HM8.out.ths.cells hk5 hkx5
        have TZ0 := HM8.out.ths.frozen (k * 4)
        have TZ3 := HM8.out.ths.frozen (k * 4 + 3)
        go_wp2
        refine bodyPost_ret (v := .tuple #[.agg #[.slice (some ⟨gt, 0, none⟩) nt ct2, .slice (some ⟨bc, 0, none⟩) 8 cc2, .slice (some ⟨bl, 0, none⟩) 2 cl2, .slice AD2 nd2 cd2], .bool true]) (by simp [results, Try.results65, go_sem, z0, z1, z2, z3]) rfl ?_
        rw [HDO.out]
        exact Mid.done (HM8.out.setPl (by omega) hk5 _ (by have e := HTS.out; subst e; have e := HT5.out; subst e; simp)) B0.out (by omega) (by omega)
      ·have hne0 : m.ths[k].stack.length ≠ 0 := fun e => by unfold Bt.faultsI at hf; simp [e] at hf
       obtain ⟨l, hl'⟩ : ∃ l, ns = l + 1 := ⟨ns - 1, by have := HNS.out; omega⟩
       subst hl'
       have hq : l < m.ths[k].stack.length := by have := HNS.out; omega
       obtain ⟨nx, hnx⟩ : ∃ nx, m.ths[k].stack.getLastD 0 = nx := ⟨_, rfl⟩
       have hnx' : m.ths[k].stack[l] = nx := by rw [← hnx]; simp [List.getLastD_eq_getLast?, List.getLast?_eq_getElem?, HNS.out]
       obtain ⟨ts8, hts8⟩ : ∃ ts8, m.ths.set k ⟨nx, m.ths[k].regs, m.ths[k].stack.take l, m.ths[k].st⟩ = ts8 := ⟨_, rfl⟩
       have HDO := Lib.hid (HDO.out.trans (congrArg some (Bt.stepM_12 _ _ _ _ _ _ _)))
       try simp only [Int.toNat_natCast] at HDO
       rw [hnx, HNS.out, Nat.add_sub_cancel, hts8] at HDO
       have HTS := Lib.hid hts8; clear hts8
       obtain ⟨ts5, hts5⟩ : ∃ ts5, m.ths.set k ⟨m.ths[k].pl, m.ths[k].regs, m.ths[k].stack.take l, m.ths[k].st⟩ = ts5 := ⟨_, rfl⟩
       have HT5 := Lib.hid hts5; clear hts5
       obtain ⟨bt9, ot9, eb, ht⟩ := HA7.out.ths.2.2 k hk
       injection eb with eb
       injection eb with eb1 eb2
       subst eb1 eb2
       obtain ⟨AR7, cr7, AS7, cs7, HT7, _, _, x2, _⟩ := ht.open
       rw [HNS.out] at x2 HT7
       obtain ⟨scap, sat⟩ := HT7.stack.at_ HNS.out
       obtain ⟨bs, os, rfl, NX⟩ := sat l hq
       rw [hnx'] at NX
       have HSP := Lib.hid (HT7.stack.pre HNS.out (l := l) (by omega))
       have HLT : Hid ((m.ths[k].stack.take l).length = l) := Lib.hid (by rw [List.length_take]; omega)
       have hi : ((l + 1 : Nat) : Int) - 1 = (l : Int) := by omega
       have hi2 : ((l : Int) + 1) - 1 = (l : Int) := by omega
       have hl2 : l < l + 1 := by omega
       have hlc : (l : Int) ≤ (cs7 : Int) := by omega
       have hl0 : ¬ (l : Int) < 0 := by omega
       have hw : IntKind.i64.wrap (l : Int) = (l : Int) := by rw [IntKind.wrap_i64]; have := NS6.out; omega
       clear ht HT7 sat hnx hnx' hne0 hf
       obtain ⟨p0, p1, m0, m1, m2, m3, c0, c1, c2, z0, z1, z2, z3, f0, f1, f2, f3⟩ := HY.out _ (HM7.out.below)
       obtain ⟨o0, o1, o2, o3, og0, og1, og2, og3⟩ := HM7.out.four
       obtain ⟨T0, T1, T2, T3⟩ := HM7.out.ths.cells hk hkx
       have TZ0 := HM7.out.ths.frozen (k * 4)
       have TZ3 := HM7.out.ths.frozen (k * 4 + 3)
       have lg : g < w7.heap.size := HM7.out.box.lt
       have lgt : gt < w7.heap.size := cell_lt T0
       have l1 : w.heap.size + 1 + 1 + 1 < w7.heap.size := by omega
       have l2 : w.heap.size + 1 + 1 < w7.heap.size := by omega
       have l3 : w.heap.size + 1 < w7.heap.size := by omega
       have l5 : w.heap.size < w7.heap.size := by omega
       rw [HPL.out] at T0
       rw [EVR.out] at T1
       obtain ⟨E0, E1, E2, E3⟩ := HE7.out
       have HR7 := (HM7.out.ths.ints k hk hkx).1
       rw [EVR.out] at HR7
       have QA := HR7.at_ qa (by rw [HL4.out]; exact hqa4)
       have FA := HR7.frz qa
       have hbrg : br ≠ g := fun e => HR7.neM HM7.out.box (by rw [e]; rfl)
       have hbrt : br ≠ gt := fun e => HM7.out.ths.ne HR7 (by rw [e]; rfl)
       clear HR7 FA
       have TZ2 := HM7.out.ths.frozen (k * 4 + 2)
       have lbr := cell_lt QA
       simp only at lbr
       clear QA
       go_wp2_with fail
       refine wp_region_ordI [Fact.is 245 (.pointer (some ⟨g, 0, none⟩)),
         Fact.is 246 (.slice (some ⟨gt, 0, none⟩) nt ct2),
         Fact.is 247 (.pointer (some ⟨w.heap.size + 1 + 1, 0, none⟩)),
         Fact.is 248 (.int .i64 (k : Int)),
         Fact.upto 249 13 (fun v w' => ∃ g, v = .slice (some ⟨g, 0, none⟩) 0 0 ∧ w1.heap.size ≤ g ∧ w'.heap[g]? = some (.cells #[] 3)),
         Fact.is 250 (.slice (some ⟨bs, os, none⟩) (l + 1) cs7),
         Fact.is 251 (.slice (some ⟨bs, os, none⟩) (l + 1) cs7),
         Fact.is 252 (.int .i64 ((l : Int) + 1)),
         Fact.is 253 (.int .i64 (l : Int)),
         Fact.is 254 (.slice (some ⟨bs, os, none⟩) l cs7),
         Fact.upto 255 13 (fun v w' => ∃ A c, v = .slice A l c ∧ IntRow w' (w1.heap.size) (.slice A l c) (m.ths[k].stack.take l)),
         Fact.is 256 (.pointer (some ⟨gt, k * 4, none⟩)),
         Fact.is 257 (.pointer (some ⟨gt, k * 4 + 2, none⟩)),
         ⟨[], none, fun _ w' => ∃ A7 c7, Mid W0 w1.heap.size g (.slice (some ⟨gt, 0, none⟩) nt ct2) (.slice (some ⟨bc, 0, none⟩) 8 cc2) (.slice (some ⟨bl, 0, none⟩) 2 cl2) (.slice AD2 nd2 cd2) (xs.set k (xs[k].1, .slice A7 l c7)) (⟨ts5, m.cells, m.locks, m.told⟩) w'⟩]
        [(13, fun w' => Below w7.heap.size w7 w')] []
        (by kernel_rfl) (by kernel_rfl) (by kernel_rfl) ?_ ?_ ?_ ?_ ?_
       ·intro q hq
        simp only [List.mem_cons, List.not_mem_nil, or_false] at hq
        rcases hq with rfl
        ·exact (Below.refl _ _).drew
       ·exact ⟨Fact.is_stable _ _, Fact.is_stable _ _, Fact.is_stable _ _, Fact.is_stable _ _, Fact.upto_stable (fun v w w' hb ⟨g, e, h, h'⟩ => ⟨g, e, h, heap_keep hb h'⟩), Fact.is_stable _ _, Fact.is_stable _ _, Fact.is_stable _ _, Fact.is_stable _ _, Fact.is_stable _ _, Fact.upto_stable (fun v w w' hb ⟨A, c, e, h⟩ => ⟨A, c, e, h.keep hb⟩), Fact.is_stable _ _, Fact.is_stable _ _, (fun vs w1 w2 hb ⟨A7, c7, h⟩ => ⟨A7, c7, h.keep hb⟩), trivial⟩
       ·intro q hq w1' w2' hb h
        simp only [List.mem_cons, List.not_mem_nil, or_false] at hq
        rcases hq with rfl
        ·exact below_then h hb
       ·refine ⟨?_, ?_, ?_, ?_, ?_, ?_, ?_, ?_, ?_, ?_, ?_, ?_, ?_, ?_, trivial⟩
        ·intro A' w' hJ hoff hdep _hdif
         have a8 : A'.eval (.tmp 8) = .pointer (some ⟨g, 0, none⟩) := off_of hoff 8 (by kernel_rfl)
         exact isI rfl rfl (by generalize A'.eval = ev at *; simp [go_sem, a8])
        ·intro A' w' hJ hoff hdep _hdif
         have a245 := is_of (ask_of hdep (j := 0) (by kernel_rfl)) rfl
         have b := init_of hJ (n := 0) rfl (by kernel_rfl)
         have q1 := keeps b o0
         exact isI rfl rfl (by generalize A'.eval = ev at *; simp [go_sem, a245, q1])
        ·intro A' w' hJ hoff hdep _hdif
         have a5 : A'.eval (.tmp 5) = .pointer (some ⟨w.heap.size + 1 + 1, 0, none⟩) := off_of hoff 5 (by kernel_rfl)
         exact isI rfl rfl (by generalize A'.eval = ev at *; simp [go_sem, a5])
        ·intro A' w' hJ hoff hdep _hdif
         have a247 := is_of (ask_of hdep (j := 2) (by kernel_rfl)) rfl
         have b := init_of hJ (n := 0) rfl (by kernel_rfl)
         have q1 := keeps b c0
         exact isI rfl rfl (by generalize A'.eval = ev at *; simp [go_sem, a247, q1])
        ·intro A' w' hJ hoff hdep _hdif
         have b := init_of hJ (n := 0) rfl (by kernel_rfl)
         have hz := b.size
         have hb : Below w'.heap.size w' (w'.alloc (.cells #[] 3)) := (Below.refl _ _).alloc (Nat.le_refl _) _
         exact runI (v := .slice (some ⟨w'.heap.size, 0, none⟩) 0 0) (w' := w'.alloc (.cells #[] 3)) (by generalize A'.eval = ev at *; simp [go_sem]) hb (upto_to rfl rfl ⟨_, rfl, (by omega), alloc_at _ _⟩) (fam_none (by kernel_rfl))
        ·intro A' w' hJ hoff hdep _hdif
         have a15 : A'.eval (.tmp 15) = .slice (some ⟨bs, os, none⟩) (l + 1) cs7 := off_of hoff 15 (by kernel_rfl)
         exact isI rfl rfl (by generalize A'.eval = ev at *; simp [go_sem, a15])
        ·intro A' w' hJ hoff hdep _hdif
         have a15 : A'.eval (.tmp 15) = .slice (some ⟨bs, os, none⟩) (l + 1) cs7 := off_of hoff 15 (by kernel_rfl)
         exact isI rfl rfl (by generalize A'.eval = ev at *; simp [go_sem, a15])
        ·intro A' w' hJ hoff hdep _hdif
         have a251 := is_of (ask_of hdep (j := 6) (by kernel_rfl)) rfl
         exact isI rfl rfl (by generalize A'.eval = ev at *; simp [go_sem, a251])
        ·intro A' w' hJ hoff hdep _hdif
         have ec : ∀ v, A'.eval (.const v) = v := fun _ => rfl
         have a252 := is_of (ask_of hdep (j := 7) (by kernel_rfl)) rfl
         exact isI rfl rfl (by generalize A'.eval = ev at *; simp [go_sem, a252, ec, hi2, hw])
        ·intro A' w' hJ hoff hdep _hdif
         have a250 := is_of (ask_of hdep (j := 5) (by kernel_rfl)) rfl
         have a253 := is_of (ask_of hdep (j := 8) (by kernel_rfl)) rfl
         exact isI rfl rfl (by generalize A'.eval = ev at *; simp [go_sem, a250, a253, hlc, hl0])
        ·intro A' w' hJ hoff hdep _hdif
         have b := init_of hJ (n := 0) rfl (by kernel_rfl)
         obtain ⟨gE, aE, hgb, hgE⟩ := upto_of (ask_of hdep (j := 4) (by kernel_rfl)) rfl
         have a254 := is_of (ask_of hdep (j := 9) (by kernel_rfl)) rfl
         obtain ⟨A9, c9, w9, h9, hb9, hr9, hk9⟩ := run_copy_ints 29 gE _ (m.ths[k].stack.take l) hgE (HSP.out.keep b) (by rw [HLT.out]; have := NS6.out; omega) (w1.heap.size) hgb
         exact runI (exec_append rfl aE a254 h9) hb9 (upto_to rfl rfl ⟨_, _, by rw [HLT.out], by have q := hr9; rw [HLT.out] at q; exact q⟩) (fam_none (by kernel_rfl))
        ·intro A' w' hJ hoff hdep _hdif
         have a246 := is_of (ask_of hdep (j := 1) (by kernel_rfl)) rfl
         have a248 := is_of (ask_of hdep (j := 3) (by kernel_rfl)) rfl
         exact isI rfl rfl (by generalize A'.eval = ev at *; simp [go_sem, a246, a248, hkn])
        ·intro A' w' hJ hoff hdep _hdif
         have a256 := is_of (ask_of hdep (j := 11) (by kernel_rfl)) rfl
         exact isI rfl rfl (by generalize A'.eval = ev at *; simp [go_sem, a256])
        ·intro A' w' hJ hoff hdep _hdif
         have a257 := is_of (ask_of hdep (j := 12) (by kernel_rfl)) rfl
         have b := init_of hJ (n := 0) rfl (by kernel_rfl)
         obtain ⟨A7, c7, aA, hA⟩ := upto_of (ask_of hdep (j := 10) (by kernel_rfl)) rfl
         have q1 := keeps b T2
         have q2 := keepz b T2 TZ2
         refine lastI (w' := w'.setCell ⟨gt, k * 4 + 2, none⟩ (.slice A7 l c7)) (by generalize A'.eval = ev at *; simp [go_sem, a257, aA, q1, q2]) (by simp) ⟨A7, c7, by have e := HT5.out; subst e; exact (HM7.out.keep b).setStack (by omega) hk hkx _ _ hA⟩ (fun j hj _ hk hf => ?_) (by kernel_rfl)
         match j, hj, hk, hf with
         | 0, _, _, hf => exact hf
         | 1, _, _, hf => exact hf
         | 2, _, _, hf => exact hf
         | 3, _, _, hf => exact hf
         | 4, hj, hk, hf => exact absurd rfl (hk 13 rfl).1
         | 5, _, _, hf => exact hf
         | 6, _, _, hf => exact hf
         | 7, _, _, hf => exact hf
         | 8, _, _, hf => exact hf
         | 9, _, _, hf => exact hf
         | 10, hj, hk, hf => exact absurd rfl (hk 13 rfl).1
         | 11, _, _, hf => exact hf
         | 12, _, _, hf => exact hf
         | 13, hj, _, _ => exact absurd rfl hj
         | _ + 14, _, _, _ => trivial
       ·intro s w8 hf _hdf _hff
        obtain ⟨A7, c7, hm8⟩ := hf 13 (by decide) rfl
        have HM8 := Lib.hid hm8
        clear hf hm8
        simp only [putAll, Act.put, List.setIfInBounds_toArray, List.set_cons_succ, List.set_cons_zero]
        clear p0 p1 m0 m1 m2 m3 c0 c1 c2 z0 z1 z2 z3 f0 f1 f2 f3 o0 o1 o2 o3 og0 og1 og2 og3 T0 T1 T2 T3 TZ0 TZ2 TZ3 E0 E1 E2 E3 NX x2
        have HYW := HY.out _ HM8.out.below
        obtain ⟨p0, p1, m0, m1, m2, m3, c0, c1, c2, z0, z1, z2, z3, f0, f1, f2, f3⟩ := HYW
        obtain ⟨o0, o1, o2, o3, og0, og1, og2, og3⟩ := HM8.out.four
        have hk5 : k < (ts5).length := by rw [← HT5.out, List.length_set]; exact hk
        have hkx5 : k < (xs.set k (xs[k].1, .slice A7 l c7)).length := by rw [List.length_set]; exact hkx
        obtain ⟨T0, _, _, T3⟩ := HM8.out.ths.cells hk5 hkx5
        have TZ0 := HM8.out.ths.frozen (k * 4)
        have TZ3 := HM8.out.ths.frozen (k * 4 + 3)
        go_wp2
        refine bodyPost_ret (v := .tuple #[.agg #[.slice (some ⟨gt, 0, none⟩) nt ct2, .slice (some ⟨bc, 0, none⟩) 8 cc2, .slice (some ⟨bl, 0, none⟩) 2 cl2, .slice AD2 nd2 cd2], .bool true]) (by simp [results, Try.results65, go_sem, z0, z1, z2, z3]) rfl ?_
        rw [HDO.out]
        exact Mid.done (HM8.out.setPl (by omega) hk5 _ (by have e := HTS.out; subst e; have e := HT5.out; subst e; simp)) B0.out (by omega) (by omega)
      ·obtain ⟨ts8, hts8⟩ : ∃ ts8, m.ths.set k ⟨pl + 1, m.ths[k].regs.set qa (rep), m.ths[k].stack, m.ths[k].st⟩ = ts8 := ⟨_, rfl⟩
       have HDO := Lib.hid (HDO.out.trans (congrArg some (Bt.stepM_13 _ _ _ _ _ _ _)))
       try simp only [Int.toNat_natCast] at HDO
       rw [HPL.out, hts8] at HDO
       have HTS := Lib.hid hts8; clear hts8
       obtain ⟨p0, p1, m0, m1, m2, m3, c0, c1, c2, z0, z1, z2, z3, f0, f1, f2, f3⟩ := HY.out _ (HM7.out.below)
       obtain ⟨o0, o1, o2, o3, og0, og1, og2, og3⟩ := HM7.out.four
       obtain ⟨T0, T1, T2, T3⟩ := HM7.out.ths.cells hk hkx
       have TZ0 := HM7.out.ths.frozen (k * 4)
       have TZ3 := HM7.out.ths.frozen (k * 4 + 3)
       have lg : g < w7.heap.size := HM7.out.box.lt
       have lgt : gt < w7.heap.size := cell_lt T0
       have l1 : w.heap.size + 1 + 1 + 1 < w7.heap.size := by omega
       have l2 : w.heap.size + 1 + 1 < w7.heap.size := by omega
       have l3 : w.heap.size + 1 < w7.heap.size := by omega
       have l5 : w.heap.size < w7.heap.size := by omega
       rw [HPL.out] at T0
       rw [EVR.out] at T1
       obtain ⟨E0, E1, E2, E3⟩ := HE7.out
       have HR7 := (HM7.out.ths.ints k hk hkx).1
       rw [EVR.out] at HR7
       have QA := HR7.at_ qa (by rw [HL4.out]; exact hqa4)
       have FA := HR7.frz qa
       have hbrg : br ≠ g := fun e => HR7.neM HM7.out.box (by rw [e]; rfl)
       have hbrt : br ≠ gt := fun e => HM7.out.ths.ne HR7 (by rw [e]; rfl)
       clear HR7 T2
       go_wp2
       refine bodyPost_ret (v := .tuple #[.agg #[.slice (some ⟨gt, 0, none⟩) nt ct2, .slice (some ⟨bc, 0, none⟩) 8 cc2, .slice (some ⟨bl, 0, none⟩) 2 cl2, .slice AD2 nd2 cd2], .bool true]) (by simp [results, Try.results65, go_sem, z0, z1, z2, z3]) rfl ?_
       rw [HDO.out]
       exact Mid.done (HM7.out.regPl HO.out.apart (by omega) (by omega) hk hkx EVR.out qa _ _ (by have e := HTS.out; subst e; rfl)) B0.out (by omega) (by omega)
      ·obtain ⟨ts8, hts8⟩ : ∃ ts8, m.ths.set k ⟨pl + 1, m.ths[k].regs, m.ths[k].stack, m.ths[k].st⟩ = ts8 := ⟨_, rfl⟩
       have HDO := Lib.hid (HDO.out.trans (congrArg some (Bt.stepM_14 _ _ _ _ _ _ _)))
       try simp only [Int.toNat_natCast] at HDO
       rw [HPL.out, GA.out, hts8] at HDO
       have HTS := Lib.hid hts8; clear hts8
       obtain ⟨p0, p1, m0, m1, m2, m3, c0, c1, c2, z0, z1, z2, z3, f0, f1, f2, f3⟩ := HY.out _ (HM7.out.below)
       obtain ⟨o0, o1, o2, o3, og0, og1, og2, og3⟩ := HM7.out.four
       obtain ⟨T0, T1, T2, T3⟩ := HM7.out.ths.cells hk hkx
       have TZ0 := HM7.out.ths.frozen (k * 4)
       have TZ3 := HM7.out.ths.frozen (k * 4 + 3)
       have lg : g < w7.heap.size := HM7.out.box.lt
       have lgt : gt < w7.heap.size := cell_lt T0
       have l1 : w.heap.size + 1 + 1 + 1 < w7.heap.size := by omega
       have l2 : w.heap.size + 1 + 1 < w7.heap.size := by omega
       have l3 : w.heap.size + 1 < w7.heap.size := by omega
       have l5 : w.heap.size < w7.heap.size := by omega
       rw [HPL.out] at T0
       rw [EVR.out] at T1
       obtain ⟨E0, E1, E2, E3⟩ := HE7.out
       have HR7 := (HM7.out.ths.ints k hk hkx).1
       rw [EVR.out] at HR7
       have QA := HR7.at_ qa (by rw [HL4.out]; exact hqa4)
       have FA := HR7.frz qa
       have hbrg : br ≠ g := fun e => HR7.neM HM7.out.box (by rw [e]; rfl)
       have hbrt : br ≠ gt := fun e => HM7.out.ths.ne HR7 (by rw [e]; rfl)
       have lbr := cell_lt QA
       simp only at lbr
       clear HR7 T2 QA FA
       have HO7 : Hid (OwnMc w7 w1.heap.size (.slice (some ⟨gt, 0, none⟩) nt ct2) (.slice (some ⟨bc, 0, none⟩) 8 cc2) (.slice (some ⟨bl, 0, none⟩) 2 cl2) (.slice AD2 nd2 cd2) xs m) := Lib.hid ⟨HM7.out.ths, HM7.out.cells, HM7.out.locks, HM7.out.told, HO.out.apart⟩
       have HLD : Hid (m.told.length ≤ 1099511627776) := Lib.hid (by have := HS.out.told; omega)
       have hvdg : ∀ u ∈ [Value.slice AD2 nd2 cd2], u.ownBlock ≠ some g := fun u hu => by simp only [List.mem_singleton] at hu; subst hu; exact HO7.out.told.neM HM7.out.box
       have hvdt : ∀ u ∈ [Value.slice AD2 nd2 cd2], u.ownBlock ≠ some gt := fun u hu => by simp only [List.mem_singleton] at hu; subst hu; exact HO7.out.ths.ne HO7.out.told
       have hvdB : ∀ u ∈ [Value.slice AD2 nd2 cd2], ∀ q, q < w1.heap.size → u.ownBlock ≠ some q := fun u hu q hq => ne_of_bd (fun k e => HO7.out.told.bd k e) (.inl hq) u hu
       go_wp2_with (at_builtin; refine wp_app_int rfl _ _ rfl w1.heap.size (.slice AD2 nd2 cd2) m.told rfl ?ca _ 1 ra rfl ?cb ?cc ?cd ?_; (case ca => exact HO7.out.told.keep ((Below.refl _ _).alloc (Nat.le_refl _) _)); (case cb => simp); (case cc => exact HLD.out); (case cd => simp; omega); intro v2 w8 hr2 hg2; obtain ⟨A9, c9, e9, _⟩ := hr2.arg.form; rw [List.length_append, HND.out] at e9; have e9 : v2 = .slice A9 (nd2 + 1) c9 := e9; subst e9; have hO2 := Only.lit_grown (.slice AD2 nd2 cd2) hg2; have og0' := hO2.frozen o0 og0 hvdg; have og1' := hO2.frozen o1 og1 hvdg; have og2' := hO2.frozen o2 og2 hvdg; have og3' := hO2.frozen o3 og3 hvdg; have TZ0' := hO2.frozen T0 TZ0 hvdt; have f0' := hO2.frozen z0 f0 (fun u hu => hvdB u hu _ (by simp only; omega)); have f1' := hO2.frozen z1 f1 (fun u hu => hvdB u hu _ (by simp only; omega)); have f2' := hO2.frozen z2 f2 (fun u hu => hvdB u hu _ (by simp only; omega)); have f3' := hO2.frozen z3 f3 (fun u hu => hvdB u hu _ (by simp only; omega)); have o0' := hO2.cell o0 hvdg; clear o0; have o1' := hO2.cell o1 hvdg; clear o1; have o2' := hO2.cell o2 hvdg; clear o2; have o3' := hO2.cell o3 hvdg; clear o3; have T0' := hO2.cell T0 hvdt; clear T0; have c0' := hO2.cell c0 (fun u hu => hvdB u hu _ (by simp only; omega)); clear c0; have z0' := hO2.cell z0 (fun u hu => hvdB u hu _ (by simp only; omega)); clear z0; have z1' := hO2.cell z1 (fun u hu => hvdB u hu _ (by simp only; omega)); clear z1; have z2' := hO2.cell z2 (fun u hu => hvdB u hu _ (by simp only; omega)); clear z2; have z3' := hO2.cell z3 (fun u hu => hvdB u hu _ (by simp only; omega)); clear z3; have HR2 := Lib.hid hr2; have HO2 := Lib.hid hO2; clear hr2 hg2 hO2)
       refine bodyPost_ret (v := .tuple #[.agg #[.slice (some ⟨gt, 0, none⟩) nt ct2, .slice (some ⟨bc, 0, none⟩) 8 cc2, .slice (some ⟨bl, 0, none⟩) 2 cl2, .slice A9 (nd2 + 1) c9], .bool true]) (by simp [results, Try.results65, go_sem, z0', z1', z2', z3']) rfl ?_
       rw [HDO.out]
       exact Mid.done ((Mid.tell HO7.out HM7.out.below HM7.out.box HM7.out.four (by omega) (by omega) HO2.out _ _ HR2.out).setPl (by omega) hk _ (by have e := HTS.out; subst e; rfl)) B0.out (by omega) (by omega)
      ·obtain ⟨q0, q1⟩ := Bt.lock_bounds HC.out (by decide)
       obtain ⟨q, rfl⟩ : ∃ q : Nat, xc = q := ⟨xc.toNat, by omega⟩
       have hq2 : q < 2 := by omega
       have QL := HM7.out.locks.at_ q (by rw [HNL.out]; exact hq2)
       have FL := HM7.out.locks.frz q
       have hblt : bl ≠ gt := fun e => HM7.out.ths.ne HM7.out.locks (by rw [e]; rfl)
       clear q0 q1
       obtain ⟨ts8, hts8⟩ : ∃ ts8, m.ths.set k ⟨pl + 1, m.ths[k].regs, m.ths[k].stack, m.ths[k].st⟩ = ts8 := ⟨_, rfl⟩
       have HDO := Lib.hid (HDO.out.trans (congrArg some (Bt.stepM_15 _ _ _ _ _ _ _)))
       try simp only [Int.toNat_natCast] at HDO
       rw [HPL.out, hts8] at HDO
       have HTS := Lib.hid hts8; clear hts8
       obtain ⟨p0, p1, m0, m1, m2, m3, c0, c1, c2, z0, z1, z2, z3, f0, f1, f2, f3⟩ := HY.out _ (HM7.out.below)
       obtain ⟨o0, o1, o2, o3, og0, og1, og2, og3⟩ := HM7.out.four
       obtain ⟨T0, T1, T2, T3⟩ := HM7.out.ths.cells hk hkx
       have TZ0 := HM7.out.ths.frozen (k * 4)
       have TZ3 := HM7.out.ths.frozen (k * 4 + 3)
       have lg : g < w7.heap.size := HM7.out.box.lt
       have lgt : gt < w7.heap.size := cell_lt T0
       have l1 : w.heap.size + 1 + 1 + 1 < w7.heap.size := by omega
       have l2 : w.heap.size + 1 + 1 < w7.heap.size := by omega
       have l3 : w.heap.size + 1 < w7.heap.size := by omega
       have l5 : w.heap.size < w7.heap.size := by omega
       rw [HPL.out] at T0
       rw [EVR.out] at T1
       obtain ⟨E0, E1, E2, E3⟩ := HE7.out
       have HR7 := (HM7.out.ths.ints k hk hkx).1
       rw [EVR.out] at HR7
       have QA := HR7.at_ qa (by rw [HL4.out]; exact hqa4)
       have FA := HR7.frz qa
       have hbrg : br ≠ g := fun e => HR7.neM HM7.out.box (by rw [e]; rfl)
       have hbrt : br ≠ gt := fun e => HM7.out.ths.ne HR7 (by rw [e]; rfl)
       clear HR7 T2 QA FA
       go_wp2
       refine bodyPost_ret (v := .tuple #[.agg #[.slice (some ⟨gt, 0, none⟩) nt ct2, .slice (some ⟨bc, 0, none⟩) 8 cc2, .slice (some ⟨bl, 0, none⟩) 2 cl2, .slice AD2 nd2 cd2], .bool true]) (by simp [results, Try.results65, go_sem, z0, z1, z2, z3]) rfl ?_
       rw [HDO.out]
       exact Mid.done ((HM7.out.setLocks HO.out.apart (by omega) q _).setPl (by omega) hk _ (by have e := HTS.out; subst e; rfl)) B0.out (by omega) (by omega)
      ·obtain ⟨q0, q1⟩ := Bt.lock_bounds HC.out (by decide)
       obtain ⟨q, rfl⟩ : ∃ q : Nat, xc = q := ⟨xc.toNat, by omega⟩
       have hq2 : q < 2 := by omega
       have QL := HM7.out.locks.at_ q (by rw [HNL.out]; exact hq2)
       have FL := HM7.out.locks.frz q
       have hblt : bl ≠ gt := fun e => HM7.out.ths.ne HM7.out.locks (by rw [e]; rfl)
       clear q0 q1
       obtain ⟨ts8, hts8⟩ : ∃ ts8, m.ths.set k ⟨pl + 1, m.ths[k].regs, m.ths[k].stack, m.ths[k].st⟩ = ts8 := ⟨_, rfl⟩
       have HDO := Lib.hid (HDO.out.trans (congrArg some (Bt.stepM_16 _ _ _ _ _ _ _)))
       try simp only [Int.toNat_natCast] at HDO
       rw [HPL.out, hts8] at HDO
       have HTS := Lib.hid hts8; clear hts8
       obtain ⟨p0, p1, m0, m1, m2, m3, c0, c1, c2, z0, z1, z2, z3, f0, f1, f2, f3⟩ := HY.out _ (HM7.out.below)
       obtain ⟨o0, o1, o2, o3, og0, og1, og2, og3⟩ := HM7.out.four
       obtain ⟨T0, T1, T2, T3⟩ := HM7.out.ths.cells hk hkx
       have TZ0 := HM7.out.ths.frozen (k * 4)
       have TZ3 := HM7.out.ths.frozen (k * 4 + 3)
       have lg : g < w7.heap.size := HM7.out.box.lt
       have lgt : gt < w7.heap.size := cell_lt T0
       have l1 : w.heap.size + 1 + 1 + 1 < w7.heap.size := by omega
       have l2 : w.heap.size + 1 + 1 < w7.heap.size := by omega
       have l3 : w.heap.size + 1 < w7.heap.size := by omega
       have l5 : w.heap.size < w7.heap.size := by omega
       rw [HPL.out] at T0
       rw [EVR.out] at T1
       obtain ⟨E0, E1, E2, E3⟩ := HE7.out
       have HR7 := (HM7.out.ths.ints k hk hkx).1
       rw [EVR.out] at HR7
       have QA := HR7.at_ qa (by rw [HL4.out]; exact hqa4)
       have FA := HR7.frz qa
       have hbrg : br ≠ g := fun e => HR7.neM HM7.out.box (by rw [e]; rfl)
       have hbrt : br ≠ gt := fun e => HM7.out.ths.ne HR7 (by rw [e]; rfl)
       clear HR7 T2 QA FA
       go_wp2
       refine bodyPost_ret (v := .tuple #[.agg #[.slice (some ⟨gt, 0, none⟩) nt ct2, .slice (some ⟨bc, 0, none⟩) 8 cc2, .slice (some ⟨bl, 0, none⟩) 2 cl2, .slice AD2 nd2 cd2], .bool true]) (by simp [results, Try.results65, go_sem, z0, z1, z2, z3]) rfl ?_
       rw [HDO.out]
       exact Mid.done ((HM7.out.setLocks HO.out.apart (by omega) q _).setPl (by omega) hk _ (by have e := HTS.out; subst e; rfl)) B0.out (by omega) (by omega)
      ·obtain ⟨ts7, hts7⟩ : ∃ ts7, m.ths ++ [⟨xc, m.ths[k].regs, [], 0⟩] = ts7 := ⟨_, rfl⟩
       have HT7 := Lib.hid hts7; clear hts7
       obtain ⟨ts8, hts8⟩ : ∃ ts8, m.ths.set k ⟨pl + 1, m.ths[k].regs, m.ths[k].stack, m.ths[k].st⟩ ++ [⟨xc, m.ths[k].regs, [], 0⟩] = ts8 := ⟨_, rfl⟩
       have HDO := Lib.hid (HDO.out.trans (congrArg some (Bt.stepM_17 _ _ _ _ _ _ _)))
       try simp only [Int.toNat_natCast] at HDO
       rw [HPL.out, hts8] at HDO
       have HTS := Lib.hid hts8; clear hts8
       obtain ⟨p0, p1, m0, m1, m2, m3, c0, c1, c2, z0, z1, z2, z3, f0, f1, f2, f3⟩ := HY.out _ (HM7.out.below)
       obtain ⟨o0, o1, o2, o3, og0, og1, og2, og3⟩ := HM7.out.four
       obtain ⟨T0, T1, T2, T3⟩ := HM7.out.ths.cells hk hkx
       have TZ0 := HM7.out.ths.frozen (k * 4)
       have TZ3 := HM7.out.ths.frozen (k * 4 + 3)
       have lg : g < w7.heap.size := HM7.out.box.lt
       have lgt : gt < w7.heap.size := cell_lt T0
       have l1 : w.heap.size + 1 + 1 + 1 < w7.heap.size := by omega
       have l2 : w.heap.size + 1 + 1 < w7.heap.size := by omega
       have l3 : w.heap.size + 1 < w7.heap.size := by omega
       have l5 : w.heap.size < w7.heap.size := by omega
       rw [HPL.out] at T0
       rw [EVR.out] at T1
       obtain ⟨E0, E1, E2, E3⟩ := HE7.out
       have HR7 := (HM7.out.ths.ints k hk hkx).1
       rw [EVR.out] at HR7
       have QA := HR7.at_ qa (by rw [HL4.out]; exact hqa4)
       have FA := HR7.frz qa
       have hbrg : br ≠ g := fun e => HR7.neM HM7.out.box (by rw [e]; rfl)
       have hbrt : br ≠ gt := fun e => HM7.out.ths.ne HR7 (by rw [e]; rfl)
       have HRA := Lib.hid HR7.arg
       clear HR7 T2
       have lbr := cell_lt QA
       simp only at lbr
       clear QA FA
       have HO7 : Hid (OwnMc w7 w1.heap.size (.slice (some ⟨gt, 0, none⟩) nt ct2) (.slice (some ⟨bc, 0, none⟩) 8 cc2) (.slice (some ⟨bl, 0, none⟩) 2 cl2) (.slice AD2 nd2 cd2) xs m) := Lib.hid ⟨HM7.out.ths, HM7.out.cells, HM7.out.locks, HM7.out.told, HO.out.apart⟩
       have HTA : Hid (ThsAcc w7 w1.heap.size (.slice (some ⟨gt, 0, none⟩) nt ct2) m.ths xs) := Lib.hid ⟨HO7.out.ths, HO7.out.rows.1⟩
       have LT : Hid (m.ths.length ≤ 1048576) := Lib.hid HS.out.ths
       have HTL : Hid (m.ths.length = nt) := Lib.hid hT.out
       have hsz : w1.heap.size ≤ w7.heap.size := by omega
       have hvtg : ∀ u ∈ [Value.slice (some ⟨gt, 0, none⟩) nt ct2], u.ownBlock ≠ some g := fun u hu => by simp only [List.mem_singleton] at hu; subst hu; exact HO7.out.ths.neM HM7.out.box
       have hvtB : ∀ u ∈ [Value.slice (some ⟨gt, 0, none⟩) nt ct2], ∀ q, u.ownBlock = some q → W0.heap.size ≤ q := fun u hu q e => by simp only [List.mem_singleton] at hu; subst hu; simp only [Value.ownBlock, Option.some.injEq] at e; omega
       go_wp2_with fail
       refine wp_region_ordI [Fact.is 292 (.pointer (some ⟨g, 0, none⟩)),
         Fact.is 293 (.slice (some ⟨gt, 0, none⟩) nt ct2),
         Fact.is 294 (.pointer (some ⟨gx, 3, none⟩)),
         Fact.is 295 (.int .i64 xc),
         Fact.upto 296 10 (fun v w' => ∃ g, v = .slice (some ⟨g, 0, none⟩) 0 0 ∧ w7.heap.size ≤ g ∧ w'.heap[g]? = some (.cells #[] 3)),
         Fact.is 297 (.slice (some ⟨br, 0, none⟩) 4 cr2),
         Fact.upto 298 10 (fun v w' => ∃ A c, v = .slice A 4 c ∧ IntRow w' (w7.heap.size) (.slice A 4 c) (m.ths[k].regs)),
         Fact.upto 299 10 (fun v w' => ∃ g, v = .slice (some ⟨g, 0, none⟩) 0 0 ∧ w7.heap.size ≤ g ∧ w'.heap[g]? = some (.cells #[] 3)),
         Fact.upto 300 10 (fun v w' => ∃ A4 c4 g5, v = .agg #[.int .i64 xc, .slice A4 4 c4, .slice (some ⟨g5, 0, none⟩) 0 0, .int .i64 0] ∧ IntRow w' w7.heap.size (.slice A4 4 c4) m.ths[k].regs ∧ w7.heap.size ≤ g5 ∧ w'.heap[g5]? = some (.cells #[] 3)),
         Fact.upto 301 10 (fun v w' => ∃ g6 A4 c4 g5, v = .slice (some ⟨g6, 0, none⟩) 1 1 ∧ w'.heap[g6]? = some (.cells #[.int .i64 xc, .slice A4 4 c4, .slice (some ⟨g5, 0, none⟩) 0 0, .int .i64 0] 123) ∧ IntRow w' w7.heap.size (.slice A4 4 c4) m.ths[k].regs ∧ w7.heap.size ≤ g5 ∧ w'.heap[g5]? = some (.cells #[] 3)),
         Fact.upto 302 12 (fun v' w' => ∃ g7 c7 xs', v' = .slice (some ⟨g7, 0, none⟩) (nt + 1) c7 ∧ w1.heap.size ≤ g7 ∧ OwnMc w' w1.heap.size (.slice (some ⟨g7, 0, none⟩) (nt + 1) c7) (.slice (some ⟨bc, 0, none⟩) 8 cc2) (.slice (some ⟨bl, 0, none⟩) 2 cl2) (.slice AD2 nd2 cd2) xs' ⟨ts7, m.cells, m.locks, m.told⟩),
         Fact.is 303 (.pointer (some ⟨g, 0, none⟩)),
         ⟨[], none, fun _ w' => ∃ g7 c7 xs', w1.heap.size ≤ g7 ∧ Mid W0 w1.heap.size g (.slice (some ⟨g7, 0, none⟩) (nt + 1) c7) (.slice (some ⟨bc, 0, none⟩) 8 cc2) (.slice (some ⟨bl, 0, none⟩) 2 cl2) (.slice AD2 nd2 cd2) xs' ⟨ts7, m.cells, m.locks, m.told⟩ w'⟩]
        [(10, fun w' => Below w7.heap.size w7 w'),
         (12, fun w' => Only [.slice (some ⟨gt, 0, none⟩) nt ct2] w7 w')] []
        (by kernel_rfl) (by kernel_rfl) (by kernel_rfl) ?_ ?_ ?_ ?_ ?_
       ·intro q hq
        simp only [List.mem_cons, List.not_mem_nil, or_false] at hq
        rcases hq with rfl | rfl
        ·exact (Below.refl _ _).drew
        ·exact Only.drew _ _
       ·exact ⟨Fact.is_stable _ _, Fact.is_stable _ _, Fact.is_stable _ _, Fact.is_stable _ _, Fact.upto_stable (fun v w w' hb ⟨g, e, h, h'⟩ => ⟨g, e, h, heap_keep hb h'⟩), Fact.is_stable _ _, Fact.upto_stable (fun v w w' hb ⟨A, c, e, h⟩ => ⟨A, c, e, h.keep hb⟩), Fact.upto_stable (fun v w w' hb ⟨g, e, h, h'⟩ => ⟨g, e, h, heap_keep hb h'⟩), Fact.upto_stable (fun v w w' hb ⟨A4, c4, g5, e, h, h', h''⟩ => ⟨A4, c4, g5, e, h.keep hb, h', heap_keep hb h''⟩), Fact.upto_stable (fun v w w' hb ⟨g6, A4, c4, g5, e, h0, h, h', h''⟩ => ⟨g6, A4, c4, g5, e, heap_keep hb h0, h.keep hb, h', heap_keep hb h''⟩), Fact.upto_stable (fun v w w' hb ⟨g7, c7, xs', e, h0, h⟩ => ⟨g7, c7, xs', e, h0, h.keep hb⟩), Fact.is_stable _ _, (fun vs w1 w2 hb ⟨g7, c7, xs', h0, h⟩ => ⟨g7, c7, xs', h0, h.keep hb⟩), trivial⟩
       ·intro q hq w1' w2' hb h
        simp only [List.mem_cons, List.not_mem_nil, or_false] at hq
        rcases hq with rfl | rfl
        ·exact below_then h hb
        ·exact h.then hb
       ·refine ⟨?_, ?_, ?_, ?_, ?_, ?_, ?_, ?_, ?_, ?_, ?_, ?_, ?_, trivial⟩
        ·intro A' w' hJ hoff hdep _hdif
         have a8 : A'.eval (.tmp 8) = .pointer (some ⟨g, 0, none⟩) := off_of hoff 8 (by kernel_rfl)
         exact isI rfl rfl (by generalize A'.eval = ev at *; simp [go_sem, a8])
        ·intro A' w' hJ hoff hdep _hdif
         have a292 := is_of (ask_of hdep (j := 0) (by kernel_rfl)) rfl
         have b := init_of hJ (n := 0) rfl (by kernel_rfl)
         have q1 := keeps b o0
         exact isI rfl rfl (by generalize A'.eval = ev at *; simp [go_sem, a292, q1])
        ·intro A' w' hJ hoff hdep _hdif
         have a9 : A'.eval (.tmp 9) = .pointer (some ⟨gx, 0, none⟩) := off_of hoff 9 (by kernel_rfl)
         exact isI rfl rfl (by generalize A'.eval = ev at *; simp [go_sem, a9])
        ·intro A' w' hJ hoff hdep _hdif
         have a294 := is_of (ask_of hdep (j := 2) (by kernel_rfl)) rfl
         have b := init_of hJ (n := 0) rfl (by kernel_rfl)
         have q1 := keeps b E3
         exact isI rfl rfl (by generalize A'.eval = ev at *; simp [go_sem, a294, q1])
        ·intro A' w' hJ hoff hdep _hdif
         have b := init_of hJ (n := 0) rfl (by kernel_rfl)
         have hz := b.size
         have hb : Below w'.heap.size w' (w'.alloc (.cells #[] 3)) := (Below.refl _ _).alloc (Nat.le_refl _) _
         exact runI (v := .slice (some ⟨w'.heap.size, 0, none⟩) 0 0) (w' := w'.alloc (.cells #[] 3)) (by generalize A'.eval = ev at *; simp [go_sem]) hb (upto_to rfl rfl ⟨_, rfl, hz, alloc_at _ _⟩) (fam_none (by kernel_rfl))
        ·intro A' w' hJ hoff hdep _hdif
         have a11 : A'.eval (.tmp 11) = .slice (some ⟨br, 0, none⟩) 4 cr2 := off_of hoff 11 (by kernel_rfl)
         exact isI rfl rfl (by generalize A'.eval = ev at *; simp [go_sem, a11])
        ·intro A' w' hJ hoff hdep _hdif
         have b := init_of hJ (n := 0) rfl (by kernel_rfl)
         obtain ⟨gE, aE, hgb, hgE⟩ := upto_of (ask_of hdep (j := 4) (by kernel_rfl)) rfl
         have a297 := is_of (ask_of hdep (j := 5) (by kernel_rfl)) rfl
         obtain ⟨A9, c9, w9, h9, hb9, hr9, hk9⟩ := run_copy_ints 29 gE _ (m.ths[k].regs) hgE (HRA.out.keep b) (by rw [HL4.out]; decide) (w7.heap.size) hgb
         exact runI (exec_append rfl aE a297 h9) hb9 (upto_to rfl rfl ⟨_, _, by rw [HL4.out], by have q := hr9; rw [HL4.out] at q; exact q⟩) (fam_none (by kernel_rfl))
        ·intro A' w' hJ hoff hdep _hdif
         have b := init_of hJ (n := 0) rfl (by kernel_rfl)
         have hz := b.size
         have hb : Below w'.heap.size w' (w'.alloc (.cells #[] 3)) := (Below.refl _ _).alloc (Nat.le_refl _) _
         exact runI (v := .slice (some ⟨w'.heap.size, 0, none⟩) 0 0) (w' := w'.alloc (.cells #[] 3)) (by generalize A'.eval = ev at *; simp [go_sem]) hb (upto_to rfl rfl ⟨_, rfl, hz, alloc_at _ _⟩) (fam_none (by kernel_rfl))
        ·intro A' w' hJ hoff hdep _hdif
         have a295 := is_of (ask_of hdep (j := 3) (by kernel_rfl)) rfl
         obtain ⟨A4, c4, a298, h1⟩ := upto_of (ask_of hdep (j := 6) (by kernel_rfl)) rfl
         obtain ⟨g5, a299, hg5, h5⟩ := upto_of (ask_of hdep (j := 7) (by kernel_rfl)) rfl
         exact runI (v := .agg #[.int .i64 xc, .slice A4 4 c4, .slice (some ⟨g5, 0, none⟩) 0 0, .int .i64 0]) (w' := w') (by generalize A'.eval = ev at *; simp [go_sem, a295, a298, a299]) (Below.refl _ _) (upto_to rfl rfl ⟨A4, c4, g5, rfl, h1, hg5, h5⟩) (fam_none (by kernel_rfl))
        ·intro A' w' hJ hoff hdep _hdif
         obtain ⟨A4, c4, g5, a300, h1, hg5, h5⟩ := upto_of (ask_of hdep (j := 8) (by kernel_rfl)) rfl
         have hb : Below w'.heap.size w' (w'.alloc (.cells #[.int .i64 xc, .slice A4 4 c4, .slice (some ⟨g5, 0, none⟩) 0 0, .int .i64 0] 123)) := (Below.refl _ _).alloc (Nat.le_refl _) _
         exact runI (v := .slice (some ⟨w'.heap.size, 0, none⟩) 1 1) (w' := w'.alloc (.cells #[.int .i64 xc, .slice A4 4 c4, .slice (some ⟨g5, 0, none⟩) 0 0, .int .i64 0] 123)) (by generalize A'.eval = ev at *; simp [go_sem, a300]) hb (upto_to rfl rfl ⟨_, A4, c4, g5, rfl, alloc_at _ _, h1.keep hb, hg5, heap_keep hb h5⟩) (fam_none (by kernel_rfl))
        ·intro A' w' hJ hoff hdep _hdif
         have a293 := is_of (ask_of hdep (j := 1) (by kernel_rfl)) rfl
         have b := init_of hJ (n := 0) rfl (by kernel_rfl)
         have bo := init_of hJ (n := 1) rfl (by kernel_rfl)
         obtain ⟨g6, A4, c4, g5, a301, hg6, h1, hg5, h5⟩ := upto_of (ask_of hdep (j := 9) (by kernel_rfl)) rfl
         have hz := b.size
         have h2 : IntRow w' w7.heap.size (.slice (some ⟨g5, 0, none⟩) 0 0) [] := IntRow.empty hg5 h5
         have h3 : Apart (.slice A4 4 c4) (.slice (some ⟨g5, 0, none⟩) 0 0) := IntRow.apart_empty h1 (by rw [HL4.out]; decide) h5
         have hfr : ∀ {r : Value} {ys : List Int}, IntRow w' w7.heap.size r ys → ∀ u ∈ mcVals (.slice (some ⟨gt, 0, none⟩) nt ct2) (.slice (some ⟨bc, 0, none⟩) 8 cc2) (.slice (some ⟨bl, 0, none⟩) 2 cl2) (.slice AD2 nd2 cd2) xs, Apart u r := fun hr u hu => Apart.of_lt (fun k e => (HO7.out.bd u hu k e).2) (fun k e => (hr.bd k e).1)
         refine surely_app_th (.tmp 293) (.tmp 301) rfl w1.heap.size (.slice (some ⟨gt, 0, none⟩) nt ct2) m.ths xs a293 (HTA.out.keep b) g6 1 ⟨xc, m.ths[k].regs, [], 0⟩ (.slice A4 4 c4) (.slice (some ⟨g5, 0, none⟩) 0 0) (h1.mono hsz) (h2.mono hsz) h3 (fun u hu => ⟨hfr h1 u (List.mem_cons_of_mem _ (List.mem_append_left _ hu)), hfr h2 u (List.mem_cons_of_mem _ (List.mem_append_left _ hu))⟩) a301 (by simp [World.cell?, hg6]) (by simp [World.cell?, hg6]) (by simp [World.cell?, hg6]) (by simp [World.cell?, hg6]) LT.out (by omega) (fun v' w2 hacc hg => ?_)
         have hva : ∀ {x : Value}, Apart (.slice (some ⟨gt, 0, none⟩) nt ct2) x → x.ownBlock = none ∨ x.ownBlock ≠ (Value.slice (some ⟨gt, 0, none⟩) nt ct2).ownBlock := fun h => h.keep
         have hap : ∀ {x : Value} {ys : List Int}, IntRow w7 w1.heap.size x ys → IntRow w2 w1.heap.size x ys := fun hx => (hx.keep b).grown hg (hva (HO7.out.ths.apart hx))
         obtain ⟨g7, c7, e7, hb7, _, _⟩ := hacc.own.form (by simp)
         have e7 : v' = .slice (some ⟨g7, 0, none⟩) (nt + 1) c7 := by rw [e7, List.length_append, HTL.out]; rfl
         subst e7
         have HTq := HT7.out
         subst HTq
         refine ⟨⟨hg.size, fun h => absurd h (by decide)⟩, .inr ⟨fun i hi hn hk hf => ?_, fun p hp h1' _ h3' => ?_⟩, upto_to rfl rfl ⟨g7, c7, xs ++ [(.slice A4 4 c4, .slice (some ⟨g5, 0, none⟩) 0 0)], rfl, hb7, OwnMc.snoc hacc (hap HO7.out.cells) (hap HO7.out.locks) (hap HO7.out.told) HO7.out.apart (fun u hu => ⟨hfr h1 u (List.mem_cons_of_mem _ (List.mem_append_right _ hu)), hfr h2 u (List.mem_cons_of_mem _ (List.mem_append_right _ hu))⟩)⟩, fam_none (by kernel_rfl)⟩
         ·match i, hi, hn, hk, hf with
          | 0, hj, hn, hk, hf => exact hf
          | 1, hj, hn, hk, hf => exact hf
          | 2, hj, hn, hk, hf => exact hf
          | 3, hj, hn, hk, hf => exact hf
          | 4, hj, hn, hk, hf => exact absurd rfl (hk 10 rfl).1
          | 5, hj, hn, hk, hf => exact hf
          | 6, hj, hn, hk, hf => exact absurd rfl (hk 10 rfl).1
          | 7, hj, hn, hk, hf => exact absurd rfl (hk 10 rfl).1
          | 8, hj, hn, hk, hf => exact absurd rfl (hk 10 rfl).1
          | 9, hj, hn, hk, hf => exact absurd rfl (hk 10 rfl).1
          | 10, hj, hn, hk, hf => exact absurd rfl hj
          | 11, hj, hn, hk, hf => exact hf
          | 12, hj, hn, hk, hf => exact absurd (List.contains_iff_mem.1 (by kernel_rfl)) hn
          | _ + 13, _, _, _, _ => trivial
         ·simp only [List.mem_cons, List.not_mem_nil, or_false] at hp
          rcases hp with rfl | rfl
          ·exact absurd rfl h1'
          ·exact bo.trans (Only.of_grown hg List.mem_cons_self)
        ·intro A' w' hJ hoff hdep _hdif
         have a8 : A'.eval (.tmp 8) = .pointer (some ⟨g, 0, none⟩) := off_of hoff 8 (by kernel_rfl)
         exact isI rfl rfl (by generalize A'.eval = ev at *; simp [go_sem, a8])
        ·intro A' w' hJ hoff hdep _hdif
         have a303 := is_of (ask_of hdep (j := 11) (by kernel_rfl)) rfl
         have b := init_of hJ (n := 1) rfl (by kernel_rfl)
         obtain ⟨g7, c7, xs', a302, h70, hO'⟩ := upto_of (ask_of hdep (j := 10) (by kernel_rfl)) rfl
         have k0 := b.cell o0 hvtg
         have g0 := b.frozen o0 og0 hvtg
         refine lastI (w' := w'.setCell ⟨g, 0, none⟩ (.slice (some ⟨g7, 0, none⟩) (nt + 1) c7)) (by generalize A'.eval = ev at *; simp [go_sem, a302, a303, k0, g0]) (by simp) ⟨g7, c7, xs', h70, Mid.grow hO' HM7.out.below HM7.out.box HM7.out.four b hvtg hvtB (by omega)⟩ (fun i hi _ hk hf => ?_) (by kernel_rfl)
         match i, hi, hk, hf with
         | 0, hj, hk, hf => exact hf
         | 1, hj, hk, hf => exact hf
         | 2, hj, hk, hf => exact hf
         | 3, hj, hk, hf => exact hf
         | 4, hj, hk, hf => exact absurd (by decide) (hk 10 rfl).2
         | 5, hj, hk, hf => exact hf
         | 6, hj, hk, hf => exact absurd (by decide) (hk 10 rfl).2
         | 7, hj, hk, hf => exact absurd (by decide) (hk 10 rfl).2
         | 8, hj, hk, hf => exact absurd (by decide) (hk 10 rfl).2
         | 9, hj, hk, hf => exact absurd (by decide) (hk 10 rfl).2
         | 10, hj, hk, hf => exact absurd rfl (hk 12 rfl).1
         | 11, hj, hk, hf => exact hf
         | 12, hj, hk, hf => exact absurd rfl hj
         | _ + 13, _, _, _ => trivial
       ·intro s w8 hf _hdf _hff
        obtain ⟨g7, c7, xs', h70, hm8⟩ := hf 12 (by decide) rfl
        have HM8 := Lib.hid hm8
        clear hf hm8
        simp only [putAll, Act.put, List.setIfInBounds_toArray, List.set_cons_succ, List.set_cons_zero]
        clear p0 p1 m0 m1 m2 m3 c0 c1 c2 z0 z1 z2 z3 f0 f1 f2 f3 o0 o1 o2 o3 og0 og1 og2 og3 T0 T1 T3 TZ0 TZ3 E0 E1 E2 E3
        have HYW := HY.out _ HM8.out.below
        obtain ⟨p0, p1, m0, m1, m2, m3, c0, c1, c2, z0, z1, z2, z3, f0, f1, f2, f3⟩ := HYW
        obtain ⟨o0, o1, o2, o3, og0, og1, og2, og3⟩ := HM8.out.four
        have hk5 : k < ts7.length := by rw [← HT7.out, List.length_append]; omega
        have hkx5 : k < xs'.length := by rw [HM8.out.ths.len]; exact hk5
        obtain ⟨T0, _, _, T3⟩ := HM8.out.ths.cells hk5 hkx5
        have TZ0 := HM8.out.ths.frozen (k * 4)
        have hkn1 : k < nt + 1 := by omega
        have hg7g : g7 ≠ g := fun e => HM8.out.ths.neM HM8.out.box (by rw [e]; rfl)
        go_wp2
        refine bodyPost_ret (v := .tuple #[.agg #[.slice (some ⟨g7, 0, none⟩) (nt + 1) c7, .slice (some ⟨bc, 0, none⟩) 8 cc2, .slice (some ⟨bl, 0, none⟩) 2 cl2, .slice AD2 nd2 cd2], .bool true]) (by simp [results, Try.results65, go_sem, z0, z1, z2, z3]) rfl ?_
        rw [HDO.out]
        exact Mid.done (HM8.out.setPl (by omega) hk5 _ (by have e := HTS.out; subst e; have e := HT7.out; subst e; simp [hk])) B0.out (by omega) (by omega)
    ·have HDO := Lib.hid (HFL.out hf)
     clear HST HFL
     rintro e w6 ⟨rfl, hb6⟩
     have HM6 := Lib.hid (HM5.out.keep hb6)
     clear hb6 e0 e1 e2 e3 HM5 HA5
     obtain ⟨p0, p1, m0, m1, m2, m3, c0, c1, c2, z0, z1, z2, z3, f0, f1, f2, f3⟩ := HY.out _ (HM6.out.below)
     obtain ⟨o0, o1, o2, o3, og0, og1, og2, og3⟩ := HM6.out.four
     obtain ⟨T0, T1, T2, T3⟩ := HM6.out.ths.cells hk hkx
     have TZ0 := HM6.out.ths.frozen (k * 4)
     have TZ3 := HM6.out.ths.frozen (k * 4 + 3)
     have lg : g < w6.heap.size := HM6.out.box.lt
     have lgt : gt < w6.heap.size := cell_lt T0
     have l1 : w.heap.size + 1 + 1 + 1 < w6.heap.size := by omega
     have l2 : w.heap.size + 1 + 1 < w6.heap.size := by omega
     have l3 : w.heap.size + 1 < w6.heap.size := by omega
     have l5 : w.heap.size < w6.heap.size := by omega
     go_wp2
     refine bodyPost_ret (v := .tuple #[.agg #[.slice (some ⟨gt, 0, none⟩) nt ct2, .slice (some ⟨bc, 0, none⟩) 8 cc2, .slice (some ⟨bl, 0, none⟩) 2 cl2, .slice AD2 nd2 cd2], .bool true]) (by simp [results, Try.results65, go_sem, z0, z1, z2, z3]) rfl ?_
     rw [HDO.out]
     exact Mid.done (HM6.out.setSt (by omega) hk 2 rfl) B0.out (by omega) (by omega)
end Go.Proofs.Ytminfkedkkkhdaa
