/-
  Part of a proof: InstrB. No condition.
-/
import Derived.Test.YtminfkedkkkhdaaZAan
import Derived.StillTailTactics
namespace Go.Proofs.Ytminfkedkkkhdaa
open Go.RowKit
theorem keepz {W w' : World} (hb : Below W.heap.size W w') {p : Addr} {v : Value} (h : W.cell? p = some v) (hz : W.frozen? p = false) : w'.frozen? p = false := by
 rw [hb.frozen (cell_lt h), hz]
set_option maxRecDepth 100000 in
set_option maxHeartbeats 2000000 in
theorem specInstrOf_any {AT AC AL AD : Option Addr} {nt ct nc cc nl cl nd cd b o n cap : Nat} {m : Bt.Mc} {rs : List Bt.C4} (h who : Int) (w : World) (P : ArgPr w b o n cap rs)
  (H : ArgMc w AT nt ct AC nc cc AL nl cl AD nd cd m) (S : Small m) :
  Calls Try.prog 70 #[.agg #[.slice (some ⟨b, o, none⟩) n cap, .int .i64 h], .agg #[.slice AT nt ct, .slice AC nc cc, .slice AL nl cl, .slice AD nd cd], .int .i64 who] w fun e w' => e = .returned (codeVal (Bt.instrOf rs h m who)) ∧ Below w.heap.size w w' := by
 have hT := Lib.hid H.nT
 have hle := H.ths.2.1
 have hcp := P.cap
 have hnP := Lib.hid P.nP
 have HP := Lib.hid P; clear P
 have HH := Lib.hid H; clear H
 have HS := Lib.hid S; clear S
 obtain ⟨W0, hW0⟩ : ∃ W0 : World, W0 = ((w.alloc (.cells #[.slice (some ⟨b, o, none⟩) n cap, .int .i64 h] 36)).alloc (.cells #[.slice AT nt ct, .slice AC nc cc, .slice AL nl cl, .slice AD nd cd] 31)).alloc (.cells #[.int .i64 0, .int .i64 0, .int .i64 0, .int .i64 0] 96) := ⟨_, rfl⟩
 have B0 : Below w.heap.size w W0 := by rw [hW0]; exact (((Below.refl _ _).alloc (Nat.le_refl _) _).alloc (by simp) _).alloc (by simp; omega) _
 have FB : Hid (∀ w2, Below W0.heap.size W0 w2 → Below w.heap.size w w2) := Lib.hid (fun w2 hb => B0.trans (hb.mono B0.size))
 have HMK : Hid (∀ x : Cls W0, Calls Try.prog 101 #[.agg #[.slice (some ⟨b, o, none⟩) n cap, .int .i64 h], .agg #[.slice AT nt ct, .slice AC nc cc, .slice AL nl cl, .slice AD nd cd]] x.val fun e w' => e = .returned (.bool (Bt.machOk rs h m)) ∧ Below x.val.heap.size x.val w') :=
  Lib.hid (fun x => specMachineOk_any h _ (HP.out.keep (FB.out _ x.below)) (HH.out.keep (FB.out _ x.below)) HS.out)
 have p0 : W0.cell? ⟨w.heap.size, 0, none⟩ = some (.slice (some ⟨b, o, none⟩) n cap) := by rw [hW0]; go_simp
 have p1 : W0.cell? ⟨w.heap.size, 1, none⟩ = some (.int .i64 h) := by rw [hW0]; go_simp
 have m0 : W0.cell? ⟨w.heap.size + 1, 0, none⟩ = some (.slice AT nt ct) := by rw [hW0]; go_simp
 have m1 : W0.cell? ⟨w.heap.size + 1, 1, none⟩ = some (.slice AC nc cc) := by rw [hW0]; go_simp
 have m2 : W0.cell? ⟨w.heap.size + 1, 2, none⟩ = some (.slice AL nl cl) := by rw [hW0]; go_simp
 have m3 : W0.cell? ⟨w.heap.size + 1, 3, none⟩ = some (.slice AD nd cd) := by rw [hW0]; go_simp
 have z0 : W0.cell? ⟨w.heap.size + 1 + 1, 0, none⟩ = some (.int .i64 0) := by rw [hW0]; go_simp
 have z1 : W0.cell? ⟨w.heap.size + 1 + 1, 1, none⟩ = some (.int .i64 0) := by rw [hW0]; go_simp
 have z2 : W0.cell? ⟨w.heap.size + 1 + 1, 2, none⟩ = some (.int .i64 0) := by rw [hW0]; go_simp
 have z3 : W0.cell? ⟨w.heap.size + 1 + 1, 3, none⟩ = some (.int .i64 0) := by rw [hW0]; go_simp
 have ZF : Hid (W0.frozen? ⟨w.heap.size + 1 + 1, 0, none⟩ = false ∧ W0.frozen? ⟨w.heap.size + 1 + 1, 1, none⟩ = false ∧ W0.frozen? ⟨w.heap.size + 1 + 1, 2, none⟩ = false ∧ W0.frozen? ⟨w.heap.size + 1 + 1, 3, none⟩ = false) := Lib.hid (by rw [hW0]; exact ⟨by go_simp, by go_simp, by go_simp, by go_simp⟩)
 have HW := Lib.hid hW0
 clear hW0
 have q0 := Cls.keeps p0
 have q1 := Cls.keeps p1
 have q2 := Cls.keeps m0
 have q3 := Cls.keeps m1
 have q4 := Cls.keeps m2
 have q5 := Cls.keeps m3
 cases hp : Bt.machOk rs h m
 ·have HF : Hid (Bt.instrOf rs h m who = none) := Lib.hid (Bt.instrOf_no (.inl hp))
  rw [hp] at HMK
  go_enter Try.func70, Try.ntmps70
  go_wp2
  rw [← HW.out]
  refine wp_region_cls (by kernel_rfl) (by kernel_rfl) ?_
  repeat (go_big_quiet_step (((go_at_call 101; exact cls_of (HMK.out _)))))
  refine wpQuiet_nil ?_
  intro w2' hw2'
  obtain ⟨⟨w2, hb2⟩, rfl⟩ := hw2'
  have r0 := keeps hb2 z0
  have r1 := keeps hb2 z1
  have r2 := keeps hb2 z2
  have r3 := keeps hb2 z3
  have y0 := keepz hb2 z0 ZF.out.1
  have y1 := keepz hb2 z1 ZF.out.2.1
  have y2 := keepz hb2 z2 ZF.out.2.2.1
  have y3 := keepz hb2 z3 ZF.out.2.2.2
  go_wp2
  refine bodyPost_ret (v := codeVal none) (by simp [results, Try.results70, go_sem, r0, r1, r2, r3, codeVal]) rfl ⟨by rw [HF.out], ?_⟩
  repeat (refine Below.setCell ?_ (by simp; try omega) _)
  exact FB.out _ hb2
 ·rw [hp] at HMK
  have MF := Lib.hid (Bt.machOk_facts hp)
  by_cases c1 : who < 0
  ·have HF : Hid (Bt.instrOf rs h m who = none) := Lib.hid (Bt.instrOf_no (.inr (Bt.runs_none (Bt.thAt_neg c1))))
   have dc1 : decide (who < 0) = true := by rw [decide_eq_true_eq]; exact c1
   go_enter Try.func70, Try.ntmps70
   go_wp2
   rw [← HW.out]
   refine wp_region_cls (by kernel_rfl) (by kernel_rfl) ?_
   repeat (go_big_quiet_step (((go_at_call 101; exact cls_of (HMK.out _)))))
   refine wpQuiet_nil ?_
   intro w2' hw2'
   obtain ⟨⟨w2, hb2⟩, rfl⟩ := hw2'
   have r0 := keeps hb2 z0
   have r1 := keeps hb2 z1
   have r2 := keeps hb2 z2
   have r3 := keeps hb2 z3
   have y0 := keepz hb2 z0 ZF.out.1
   have y1 := keepz hb2 z1 ZF.out.2.1
   have y2 := keepz hb2 z2 ZF.out.2.2.1
   have y3 := keepz hb2 z3 ZF.out.2.2.2
   go_wp2
   refine bodyPost_ret (v := codeVal none) (by simp [results, Try.results70, go_sem, r0, r1, r2, r3, codeVal]) rfl ⟨by rw [HF.out], ?_⟩
   repeat (refine Below.setCell ?_ (by simp; try omega) _)
   exact FB.out _ hb2
  ·have dc1 : decide (who < 0) = false := by rw [decide_eq_false_iff_not]; exact c1
   by_cases c2 : (nt : Int) ≤ who
   ·have HF : Hid (Bt.instrOf rs h m who = none) := Lib.hid (Bt.instrOf_no (.inr (Bt.runs_none (Bt.thAt_out (by rw [hT.out]; exact c2)))))
    have dc2 : decide ((nt : Int) ≤ who) = true := by rw [decide_eq_true_eq]; exact c2
    go_enter Try.func70, Try.ntmps70
    go_wp2
    rw [← HW.out]
    refine wp_region_cls (by kernel_rfl) (by kernel_rfl) ?_
    repeat (go_big_quiet_step (((go_at_call 101; exact cls_of (HMK.out _)))))
    refine wpQuiet_nil ?_
    intro w2' hw2'
    obtain ⟨⟨w2, hb2⟩, rfl⟩ := hw2'
    have r0 := keeps hb2 z0
    have r1 := keeps hb2 z1
    have r2 := keeps hb2 z2
    have r3 := keeps hb2 z3
    have y0 := keepz hb2 z0 ZF.out.1
    have y1 := keepz hb2 z1 ZF.out.2.1
    have y2 := keepz hb2 z2 ZF.out.2.2.1
    have y3 := keepz hb2 z3 ZF.out.2.2.2
    go_wp2
    refine bodyPost_ret (v := codeVal none) (by simp [results, Try.results70, go_sem, r0, r1, r2, r3, codeVal]) rfl ⟨by rw [HF.out], ?_⟩
    repeat (refine Below.setCell ?_ (by simp; try omega) _)
    exact FB.out _ hb2
   ·obtain ⟨k, rfl⟩ : ∃ k : Nat, who = k := ⟨who.toNat, by omega⟩
    have hk : k < nt := by omega
    have hk' : k < m.ths.length := by rw [hT.out]; exact hk
    have dc2 : decide (nt ≤ k) = false := by rw [decide_eq_false_iff_not]; omega
    clear c1 c2
    obtain ⟨bt, ot, rfl, ht⟩ := (HH.out.keep B0).ths.2.2 k hk'
    obtain ⟨AR, cr, AS, cs, HT, f0, f1, f2, f3⟩ := ht.open
    have q6 := Cls.keeps f0
    have q7 := Cls.keeps f3
    clear ht HT
    by_cases c3 : m.ths[k].st = 0
    ·have TF := Lib.hid (Bt.thOk_facts (MF.out.th k hk'))
     have L0 := TF.out.lo
     rw [c3] at q7
     clear f3
     by_cases c4 : (n : Int) ≤ m.ths[k].pl
     ·have HF : Hid (Bt.instrOf rs h m (k : Int) = none) := Lib.hid (Bt.instrOf_end hk' (by rw [hnP.out]; exact c4))
      generalize m.ths[k].pl = pl at *
      have dc4 : decide ((n : Int) ≤ pl) = true := by rw [decide_eq_true_eq]; exact c4
      clear c3
      go_enter Try.func70, Try.ntmps70
      go_wp2
      rw [← HW.out]
      refine wp_region_cls (by kernel_rfl) (by kernel_rfl) ?_
      repeat (go_big_quiet_step (((go_at_call 101; exact cls_of (HMK.out _)))))
      refine wpQuiet_nil ?_
      intro w2' hw2'
      obtain ⟨⟨w2, hb2⟩, rfl⟩ := hw2'
      have r0 := keeps hb2 z0
      have r1 := keeps hb2 z1
      have r2 := keeps hb2 z2
      have r3 := keeps hb2 z3
      have y0 := keepz hb2 z0 ZF.out.1
      have y1 := keepz hb2 z1 ZF.out.2.1
      have y2 := keepz hb2 z2 ZF.out.2.2.1
      have y3 := keepz hb2 z3 ZF.out.2.2.2
      go_wp2
      refine bodyPost_ret (v := codeVal none) (by simp [results, Try.results70, go_sem, r0, r1, r2, r3, codeVal]) rfl ⟨by rw [HF.out], ?_⟩
      repeat (refine Below.setCell ?_ (by simp; try omega) _)
      exact FB.out _ hb2
     ·obtain ⟨j, hj⟩ : ∃ j : Nat, m.ths[k].pl = j := ⟨m.ths[k].pl.toNat, by omega⟩
      have hjn : j < n := by omega
      have hjr : j < rs.length := by rw [hnP.out]; exact hjn
      have HF : Hid (Bt.instrOf rs h m (k : Int) = some rs[j]) := Lib.hid (Bt.instrOf_at hp hk' c3 hjr hj)
      rw [hj] at q6 f0
      clear TF L0 c4 c3 hj
      obtain ⟨g0, g1, g2, g3⟩ := (HP.out.keep B0).codes j hjr
      have dc4 : decide (n ≤ j) = false := by rw [decide_eq_false_iff_not]; omega
      generalize rs[j] = r at *
      go_enter Try.func70, Try.ntmps70
      go_wp2
      rw [← HW.out]
      refine wp_region_cls (by kernel_rfl) (by kernel_rfl) ?_
      repeat (go_big_quiet_step (((go_at_call 101; exact cls_of (HMK.out _)))))
      refine wpQuiet_nil ?_
      intro w2' hw2'
      obtain ⟨⟨w2, hb2⟩, rfl⟩ := hw2'
      have r0 := keeps hb2 z0
      have r1 := keeps hb2 z1
      have r2 := keeps hb2 z2
      have r3 := keeps hb2 z3
      have y0 := keepz hb2 z0 ZF.out.1
      have y1 := keepz hb2 z1 ZF.out.2.1
      have y2 := keepz hb2 z2 ZF.out.2.2.1
      have y3 := keepz hb2 z3 ZF.out.2.2.2
      go_wp2
      have a0 := keeps hb2 p0
      have a1 := keeps hb2 m0
      have a2 := keeps hb2 f0
      have a3 := keeps hb2 g0
      have a4 := keeps hb2 g1
      have a5 := keeps hb2 g2
      have a6 := keeps hb2 g3
      go_still_tail 10, (by kernel_rfl)
      change wpList _ _ _ _ _ w2'.drew
      have hb3 : Below W0.heap.size W0 w2'.drew := hb2.drew
      have d0 : w2'.drew.cell? ⟨w.heap.size + 1 + 1, 0, none⟩ = some (.int .i64 0) := r0
      have d1 : w2'.drew.cell? ⟨w.heap.size + 1 + 1, 1, none⟩ = some (.int .i64 0) := r1
      have d2 : w2'.drew.cell? ⟨w.heap.size + 1 + 1, 2, none⟩ = some (.int .i64 0) := r2
      have d3 : w2'.drew.cell? ⟨w.heap.size + 1 + 1, 3, none⟩ = some (.int .i64 0) := r3
      have e0 : w2'.drew.frozen? ⟨w.heap.size + 1 + 1, 0, none⟩ = false := y0
      have e1 : w2'.drew.frozen? ⟨w.heap.size + 1 + 1, 1, none⟩ = false := y1
      have e2 : w2'.drew.frozen? ⟨w.heap.size + 1 + 1, 2, none⟩ = false := y2
      have e3 : w2'.drew.frozen? ⟨w.heap.size + 1 + 1, 3, none⟩ = false := y3
      clear r0 r1 r2 r3 y0 y1 y2 y3 a0 a1 a2 a3 a4 a5 a6
      generalize w2'.drew = w3 at *
      go_wp2
      refine bodyPost_ret (v := codeVal (some r)) (by simp [results, Try.results70, go_sem, d0, d1, d2, d3, codeVal]) rfl ⟨by rw [HF.out], ?_⟩
      repeat (refine Below.setCell ?_ (by simp; try omega) _)
      exact FB.out _ hb3
    ·have HF : Hid (Bt.instrOf rs h m (k : Int) = none) := Lib.hid (Bt.instrOf_no (.inr (by rw [Bt.runs_in hk', beq_eq_false_iff_ne]; exact c3)))
     generalize m.ths[k].st = st at *
     have dc3 : (st != 0) = true := by rw [bne_iff_ne]; exact c3
     clear c3
     go_enter Try.func70, Try.ntmps70
     go_wp2
     rw [← HW.out]
     refine wp_region_cls (by kernel_rfl) (by kernel_rfl) ?_
     repeat (go_big_quiet_step (((go_at_call 101; exact cls_of (HMK.out _)))))
     refine wpQuiet_nil ?_
     intro w2' hw2'
     obtain ⟨⟨w2, hb2⟩, rfl⟩ := hw2'
     have r0 := keeps hb2 z0
     have r1 := keeps hb2 z1
     have r2 := keeps hb2 z2
     have r3 := keeps hb2 z3
     have y0 := keepz hb2 z0 ZF.out.1
     have y1 := keepz hb2 z1 ZF.out.2.1
     have y2 := keepz hb2 z2 ZF.out.2.2.1
     have y3 := keepz hb2 z3 ZF.out.2.2.2
     go_wp2
     refine bodyPost_ret (v := codeVal none) (by simp [results, Try.results70, go_sem, r0, r1, r2, r3, codeVal]) rfl ⟨by rw [HF.out], ?_⟩
     repeat (refine Below.setCell ?_ (by simp; try omega) _)
     exact FB.out _ hb2
set_option maxRecDepth 100000 in
set_option maxHeartbeats 2000000 in
theorem implInstrOf_any {AT AC AL AD : Option Addr} {nt ct nc cc nl cl nd cd b o n cap : Nat} {m : Bt.Mc} {rs : List Bt.C4} (h who : Int) (w : World) (P : ArgPr w b o n cap rs)
  (H : ArgMc w AT nt ct AC nc cc AL nl cl AD nd cd m) (S : Small m) :
  Calls Try.prog 109 #[.agg #[.slice (some ⟨b, o, none⟩) n cap, .int .i64 h], .agg #[.slice AT nt ct, .slice AC nc cc, .slice AL nl cl, .slice AD nd cd], .int .i64 who] w fun e w' => e = .returned (codeVal (Bt.instrOf rs h m who)) ∧ Below w.heap.size w w' := by
 have hT := Lib.hid H.nT
 have hle := H.ths.2.1
 have hcp := P.cap
 have hnP := Lib.hid P.nP
 have HP := Lib.hid P; clear P
 have HH := Lib.hid H; clear H
 have HS := Lib.hid S; clear S
 obtain ⟨W0, hW0⟩ : ∃ W0 : World, W0 = ((w.alloc (.cells #[.slice (some ⟨b, o, none⟩) n cap, .int .i64 h] 36)).alloc (.cells #[.slice AT nt ct, .slice AC nc cc, .slice AL nl cl, .slice AD nd cd] 31)).alloc (.cells #[.int .i64 0, .int .i64 0, .int .i64 0, .int .i64 0] 96) := ⟨_, rfl⟩
 have B0 : Below w.heap.size w W0 := by rw [hW0]; exact (((Below.refl _ _).alloc (Nat.le_refl _) _).alloc (by simp) _).alloc (by simp; omega) _
 have FB : Hid (∀ w2, Below W0.heap.size W0 w2 → Below w.heap.size w w2) := Lib.hid (fun w2 hb => B0.trans (hb.mono B0.size))
 have HMK : Hid (∀ x : Cls W0, Calls Try.prog 121 #[.agg #[.slice (some ⟨b, o, none⟩) n cap, .int .i64 h], .agg #[.slice AT nt ct, .slice AC nc cc, .slice AL nl cl, .slice AD nd cd]] x.val fun e w' => e = .returned (.bool (Bt.machOk rs h m)) ∧ Below x.val.heap.size x.val w') :=
  Lib.hid (fun x => implMachineOk_any h _ (HP.out.keep (FB.out _ x.below)) (HH.out.keep (FB.out _ x.below)) HS.out)
 have HTR : Hid (∀ x : Cls W0, Calls Try.prog 122 #[.agg #[.slice AT nt ct, .slice AC nc cc, .slice AL nl cl, .slice AD nd cd], .int .i64 who] x.val fun e w' => e = .returned (.bool (Bt.runs m who)) ∧ Below x.val.heap.size x.val w') :=
  Lib.hid (fun x => threadRuns_any who (HH.out.keep (FB.out _ x.below)))
 have p0 : W0.cell? ⟨w.heap.size, 0, none⟩ = some (.slice (some ⟨b, o, none⟩) n cap) := by rw [hW0]; go_simp
 have p1 : W0.cell? ⟨w.heap.size, 1, none⟩ = some (.int .i64 h) := by rw [hW0]; go_simp
 have m0 : W0.cell? ⟨w.heap.size + 1, 0, none⟩ = some (.slice AT nt ct) := by rw [hW0]; go_simp
 have m1 : W0.cell? ⟨w.heap.size + 1, 1, none⟩ = some (.slice AC nc cc) := by rw [hW0]; go_simp
 have m2 : W0.cell? ⟨w.heap.size + 1, 2, none⟩ = some (.slice AL nl cl) := by rw [hW0]; go_simp
 have m3 : W0.cell? ⟨w.heap.size + 1, 3, none⟩ = some (.slice AD nd cd) := by rw [hW0]; go_simp
 have z0 : W0.cell? ⟨w.heap.size + 1 + 1, 0, none⟩ = some (.int .i64 0) := by rw [hW0]; go_simp
 have z1 : W0.cell? ⟨w.heap.size + 1 + 1, 1, none⟩ = some (.int .i64 0) := by rw [hW0]; go_simp
 have z2 : W0.cell? ⟨w.heap.size + 1 + 1, 2, none⟩ = some (.int .i64 0) := by rw [hW0]; go_simp
 have z3 : W0.cell? ⟨w.heap.size + 1 + 1, 3, none⟩ = some (.int .i64 0) := by rw [hW0]; go_simp
 have ZF : Hid (W0.frozen? ⟨w.heap.size + 1 + 1, 0, none⟩ = false ∧ W0.frozen? ⟨w.heap.size + 1 + 1, 1, none⟩ = false ∧ W0.frozen? ⟨w.heap.size + 1 + 1, 2, none⟩ = false ∧ W0.frozen? ⟨w.heap.size + 1 + 1, 3, none⟩ = false) := Lib.hid (by rw [hW0]; exact ⟨by go_simp, by go_simp, by go_simp, by go_simp⟩)
 have HW := Lib.hid hW0
 clear hW0
 have q0 := Cls.keeps p0
 have q1 := Cls.keeps p1
 have q2 := Cls.keeps m0
 have q3 := Cls.keeps m1
 have q4 := Cls.keeps m2
 have q5 := Cls.keeps m3
 cases hp : Bt.machOk rs h m
 ·have HF : Hid (Bt.instrOf rs h m who = none) := Lib.hid (Bt.instrOf_no (.inl hp))
  rw [hp] at HMK
  go_enter Try.func109, Try.ntmps109
  go_wp2
  rw [← HW.out]
  refine wp_region_cls (by kernel_rfl) (by kernel_rfl) ?_
  repeat (go_big_quiet_step ((first | (go_at_call 121; exact cls_of (HMK.out _)) | (go_at_call 122; exact cls_of (HTR.out _)) | (go_at_call 126; exact cls_of (HBE.out _ _ _ _ _ _ _ _)))))
  refine wpQuiet_nil ?_
  intro w2' hw2'
  obtain ⟨⟨w2, hb2⟩, rfl⟩ := hw2'
  have r0 := keeps hb2 z0
  have r1 := keeps hb2 z1
  have r2 := keeps hb2 z2
  have r3 := keeps hb2 z3
  have y0 := keepz hb2 z0 ZF.out.1
  have y1 := keepz hb2 z1 ZF.out.2.1
  have y2 := keepz hb2 z2 ZF.out.2.2.1
  have y3 := keepz hb2 z3 ZF.out.2.2.2
  go_wp2
  refine bodyPost_ret (v := codeVal none) (by simp [results, Try.results109, go_sem, r0, r1, r2, r3, codeVal]) rfl ⟨by rw [HF.out], ?_⟩
  repeat (refine Below.setCell ?_ (by simp; try omega) _)
  exact FB.out _ hb2
 ·rw [hp] at HMK
  have MF := Lib.hid (Bt.machOk_facts hp)
  cases hr : Bt.runs m who
  ·have HF : Hid (Bt.instrOf rs h m who = none) := Lib.hid (Bt.instrOf_no (.inr hr))
   rw [hr] at HTR
   go_enter Try.func109, Try.ntmps109
   go_wp2
   rw [← HW.out]
   refine wp_region_cls (by kernel_rfl) (by kernel_rfl) ?_
   repeat (go_big_quiet_step ((first | (go_at_call 121; exact cls_of (HMK.out _)) | (go_at_call 122; exact cls_of (HTR.out _)) | (go_at_call 126; exact cls_of (HBE.out _ _ _ _ _ _ _ _)))))
   refine wpQuiet_nil ?_
   intro w2' hw2'
   obtain ⟨⟨w2, hb2⟩, rfl⟩ := hw2'
   have r0 := keeps hb2 z0
   have r1 := keeps hb2 z1
   have r2 := keeps hb2 z2
   have r3 := keeps hb2 z3
   have y0 := keepz hb2 z0 ZF.out.1
   have y1 := keepz hb2 z1 ZF.out.2.1
   have y2 := keepz hb2 z2 ZF.out.2.2.1
   have y3 := keepz hb2 z3 ZF.out.2.2.2
   go_wp2
   refine bodyPost_ret (v := codeVal none) (by simp [results, Try.results109, go_sem, r0, r1, r2, r3, codeVal]) rfl ⟨by rw [HF.out], ?_⟩
   repeat (refine Below.setCell ?_ (by simp; try omega) _)
   exact FB.out _ hb2
  ·rw [hr] at HTR
   have hlr := Bt.runs_lt hr
   rw [hT.out] at hlr
   obtain ⟨k, rfl⟩ : ∃ k : Nat, who = k := ⟨who.toNat, by omega⟩
   have hk : k < nt := by omega
   have hk' : k < m.ths.length := by rw [hT.out]; exact hk
   have hst : m.ths[k].st = 0 := by rw [Bt.runs_in hk', beq_iff_eq] at hr; exact hr
   clear hlr hr
   obtain ⟨bt, ot, rfl, ht⟩ := (HH.out.keep B0).ths.2.2 k hk'
   obtain ⟨AR, cr, AS, cs, HT, f0, f1, f2, f3⟩ := ht.open
   have q6 := Cls.keeps f0
   have q7 := Cls.keeps f1
   have q8 := Cls.keeps f2
   have q9 := Cls.keeps f3
   clear ht HT f1 f2 f3
   have L0 := (Bt.thOk_facts (MF.out.th k hk')).lo
   by_cases c4 : (n : Int) ≤ m.ths[k].pl
   ·have HF : Hid (Bt.instrOf rs h m (k : Int) = none) := Lib.hid (Bt.instrOf_end hk' (by rw [hnP.out]; exact c4))
    have HBE : Hid (∀ (AR AS : Option Addr) (nr cr ns cs : Nat) (st : Int) (x : Cls W0), Calls Try.prog 126 #[.agg #[.slice (some ⟨b, o, none⟩) n cap, .int .i64 h], .agg #[.int .i64 m.ths[k].pl, .slice AR nr cr, .slice AS ns cs, .int .i64 st]] x.val fun e w' => e = .returned (.bool true) ∧ Below x.val.heap.size x.val w') :=
     Lib.hid (fun AR AS nr cr ns cs st x => by have h1 := behindEnd_any b o n cap h m.ths[k].pl st AR AS nr cr ns cs x.val; rw [decide_eq_true c4] at h1; exact h1)
    generalize m.ths[k].regs.length = nr at *
    generalize m.ths[k].stack.length = ns at *
    generalize m.ths[k].pl = pl at *
    generalize m.ths[k].st = st at *
    clear hst c4 L0
    go_enter Try.func109, Try.ntmps109
    go_wp2
    rw [← HW.out]
    refine wp_region_cls (by kernel_rfl) (by kernel_rfl) ?_
    repeat (go_big_quiet_step ((first | (go_at_call 121; exact cls_of (HMK.out _)) | (go_at_call 122; exact cls_of (HTR.out _)) | (go_at_call 126; exact cls_of (HBE.out _ _ _ _ _ _ _ _)))))
    refine wpQuiet_nil ?_
    intro w2' hw2'
    obtain ⟨⟨w2, hb2⟩, rfl⟩ := hw2'
    have r0 := keeps hb2 z0
    have r1 := keeps hb2 z1
    have r2 := keeps hb2 z2
    have r3 := keeps hb2 z3
    have y0 := keepz hb2 z0 ZF.out.1
    have y1 := keepz hb2 z1 ZF.out.2.1
    have y2 := keepz hb2 z2 ZF.out.2.2.1
    have y3 := keepz hb2 z3 ZF.out.2.2.2
    go_wp2
    refine bodyPost_ret (v := codeVal none) (by simp [results, Try.results109, go_sem, r0, r1, r2, r3, codeVal]) rfl ⟨by rw [HF.out], ?_⟩
    repeat (refine Below.setCell ?_ (by simp; try omega) _)
    exact FB.out _ hb2
   ·obtain ⟨j, hj⟩ : ∃ j : Nat, m.ths[k].pl = j := ⟨m.ths[k].pl.toNat, by omega⟩
    have hjn : j < n := by omega
    have hjr : j < rs.length := by rw [hnP.out]; exact hjn
    have HF : Hid (Bt.instrOf rs h m (k : Int) = some rs[j]) := Lib.hid (Bt.instrOf_at hp hk' hst hjr hj)
    have HBE : Hid (∀ (AR AS : Option Addr) (nr cr ns cs : Nat) (st : Int) (x : Cls W0), Calls Try.prog 126 #[.agg #[.slice (some ⟨b, o, none⟩) n cap, .int .i64 h], .agg #[.int .i64 (j : Int), .slice AR nr cr, .slice AS ns cs, .int .i64 st]] x.val fun e w' => e = .returned (.bool false) ∧ Below x.val.heap.size x.val w') :=
     Lib.hid (fun AR AS nr cr ns cs st x => by have h1 := behindEnd_any b o n cap h (j : Int) st AR AS nr cr ns cs x.val; rw [decide_eq_false (by omega)] at h1; exact h1)
    rw [hj] at q6 f0
    obtain ⟨g0, g1, g2, g3⟩ := (HP.out.keep B0).codes j hjr
    generalize m.ths[k].regs.length = nr at *
    generalize m.ths[k].stack.length = ns at *
    generalize m.ths[k].st = st at *
    generalize rs[j] = r at *
    clear hst c4 L0 hj
    go_enter Try.func109, Try.ntmps109
    go_wp2
    rw [← HW.out]
    refine wp_region_cls (by kernel_rfl) (by kernel_rfl) ?_
    repeat (go_big_quiet_step ((first | (go_at_call 121; exact cls_of (HMK.out _)) | (go_at_call 122; exact cls_of (HTR.out _)) | (go_at_call 126; exact cls_of (HBE.out _ _ _ _ _ _ _ _)))))
    refine wpQuiet_nil ?_
    intro w2' hw2'
    obtain ⟨⟨w2, hb2⟩, rfl⟩ := hw2'
    have r0 := keeps hb2 z0
    have r1 := keeps hb2 z1
    have r2 := keeps hb2 z2
    have r3 := keeps hb2 z3
    have y0 := keepz hb2 z0 ZF.out.1
    have y1 := keepz hb2 z1 ZF.out.2.1
    have y2 := keepz hb2 z2 ZF.out.2.2.1
    have y3 := keepz hb2 z3 ZF.out.2.2.2
    go_wp2
    have a0 := keeps hb2 p0
    have a1 := keeps hb2 m0
    have a2 := keeps hb2 f0
    have a3 := keeps hb2 g0
    have a4 := keeps hb2 g1
    have a5 := keeps hb2 g2
    have a6 := keeps hb2 g3
    go_still_tail 10, (by kernel_rfl)
    change wpList _ _ _ _ _ w2'.drew
    have hb3 : Below W0.heap.size W0 w2'.drew := hb2.drew
    have d0 : w2'.drew.cell? ⟨w.heap.size + 1 + 1, 0, none⟩ = some (.int .i64 0) := r0
    have d1 : w2'.drew.cell? ⟨w.heap.size + 1 + 1, 1, none⟩ = some (.int .i64 0) := r1
    have d2 : w2'.drew.cell? ⟨w.heap.size + 1 + 1, 2, none⟩ = some (.int .i64 0) := r2
    have d3 : w2'.drew.cell? ⟨w.heap.size + 1 + 1, 3, none⟩ = some (.int .i64 0) := r3
    have e0 : w2'.drew.frozen? ⟨w.heap.size + 1 + 1, 0, none⟩ = false := y0
    have e1 : w2'.drew.frozen? ⟨w.heap.size + 1 + 1, 1, none⟩ = false := y1
    have e2 : w2'.drew.frozen? ⟨w.heap.size + 1 + 1, 2, none⟩ = false := y2
    have e3 : w2'.drew.frozen? ⟨w.heap.size + 1 + 1, 3, none⟩ = false := y3
    clear r0 r1 r2 r3 y0 y1 y2 y3 a0 a1 a2 a3 a4 a5 a6
    generalize w2'.drew = w3 at *
    go_wp2
    refine bodyPost_ret (v := codeVal (some r)) (by simp [results, Try.results109, go_sem, d0, d1, d2, d3, codeVal]) rfl ⟨by rw [HF.out], ?_⟩
    repeat (refine Below.setCell ?_ (by simp; try omega) _)
    exact FB.out _ hb3
end Go.Proofs.Ytminfkedkkkhdaa
