/-
  Part of a proof: DoI. No condition.
-/
import Derived.Test.YtminfkedkkkhdaaZAaw
namespace Go.Proofs.Ytminfkedkkkhdaa
open Go.RowKit
namespace Bt
theorem inR_mono {lo hi hi' : Int} {xs : List Int} (h : inR lo hi xs = true) (hh : hi ≤ hi') : inR lo hi' xs = true := inR_true (fun j hj => by have := inR_at h hj; omega)
theorem ThFacts.mono {n n' : Int} {t : Th} (f : ThFacts n t) (h : n ≤ n') : ThFacts n' t := ⟨f.lo, by have := f.hi; omega, f.top, f.stLo, f.stHi, f.regs, inR_mono f.stack (by omega)⟩
theorem canDo_true {rs : List C4} {h : Int} {m : Mc} {c : Ch} (hc : canDo rs h m c = true) : machOk rs h m = true ∧ runs m c.who = true := by
 constructor
 ·cases e : machOk rs h m with
  | true => rfl
  | false => rw [canDo_no (.inl e)] at hc; cases hc
 ·cases e : runs m c.who with
  | true => rfl
  | false => rw [canDo_no (.inr e)] at hc; cases hc
theorem doM_no {rs : List C4} {h : Int} {m : Mc} {c : Ch} (hc : canDo rs h m c = false) : doM rs h m c = none := by unfold doM; rw [hc]; rfl
theorem doM_in {rs : List C4} {h : Int} {m : Mc} {k : Nat} {kd rep : Int} (hc : canDo rs h m ⟨(k : Int), kd, rep⟩ = true) (hk : k < m.ths.length) :
  doM rs h m ⟨(k : Int), kd, rep⟩ = (if kd = 1 then some ⟨m.ths.set k ⟨h, m.ths[k].regs, m.ths[k].stack ++ [m.ths[k].pl], m.ths[k].st⟩, m.cells, m.locks, m.told⟩ else match instrOf rs h m (k : Int) with
  | none => some ⟨m.ths.set k ⟨m.ths[k].pl, m.ths[k].regs, m.ths[k].stack, 2⟩, m.cells, m.locks, m.told⟩
  | some x => if faultsI m k m.ths[k] x then some ⟨m.ths.set k ⟨m.ths[k].pl, m.ths[k].regs, m.ths[k].stack, 2⟩, m.cells, m.locks, m.told⟩ else some (stepM m k m.ths[k] x rep)) := by
 unfold doM
 rw [if_pos hc]
 simp only
 rw [thAt_in hk]
 simp only [Int.toNat_natCast]
 rfl
theorem doM_sig {rs : List C4} {h : Int} {m : Mc} {k : Nat} {rep : Int} (hc : canDo rs h m ⟨(k : Int), 1, rep⟩ = true) (hk : k < m.ths.length) :
  doM rs h m ⟨(k : Int), 1, rep⟩ = some ⟨m.ths.set k ⟨h, m.ths[k].regs, m.ths[k].stack ++ [m.ths[k].pl], m.ths[k].st⟩, m.cells, m.locks, m.told⟩ := by rw [doM_in hc hk, if_pos rfl]
theorem doM_fail {rs : List C4} {h : Int} {m : Mc} {k : Nat} {kd rep : Int} (hc : canDo rs h m ⟨(k : Int), kd, rep⟩ = true) (hk : k < m.ths.length) (hkd : kd ≠ 1) (hf : failsI rs m k m.ths[k] = true) :
  doM rs h m ⟨(k : Int), kd, rep⟩ = some ⟨m.ths.set k ⟨m.ths[k].pl, m.ths[k].regs, m.ths[k].stack, 2⟩, m.cells, m.locks, m.told⟩ := by
 rw [doM_in hc hk, if_neg hkd]
 obtain ⟨hm, hr⟩ := canDo_true hc
 have hst : m.ths[k].st = 0 := by rw [runs_in hk, beq_iff_eq] at hr; exact hr
 have hlo := (thOk_facts ((machOk_facts hm).th k hk)).lo
 by_cases he : (rs.length : Int) ≤ m.ths[k].pl
 ·rw [instrOf_end hk he]
 ·obtain ⟨j, hj⟩ : ∃ j : Nat, m.ths[k].pl = j := ⟨m.ths[k].pl.toNat, by omega⟩
  have hjl : j < rs.length := by omega
  rw [failsI_at hjl hj] at hf
  rw [instrOf_at hm hk hst hjl hj]
  simp only
  rw [if_pos hf]
theorem doM_step {rs : List C4} {h : Int} {m : Mc} {k j : Nat} {kd rep : Int} (hc : canDo rs h m ⟨(k : Int), kd, rep⟩ = true) (hk : k < m.ths.length) (hkd : kd ≠ 1) (hj : m.ths[k].pl = j) (hjl : j < rs.length) (hf : failsI rs m k m.ths[k] = false) :
  doM rs h m ⟨(k : Int), kd, rep⟩ = some (stepM m k m.ths[k] rs[j] rep) := by
 rw [doM_in hc hk, if_neg hkd]
 obtain ⟨hm, hr⟩ := canDo_true hc
 have hst : m.ths[k].st = 0 := by rw [runs_in hk, beq_iff_eq] at hr; exact hr
 rw [failsI_at hjl hj] at hf
 rw [instrOf_at hm hk hst hjl hj]
 simp only
 rw [if_neg (by rw [hf]; decide)]
end Bt
def DoMade (r : Option Bt.Mc) (w : World) (e : Ending) (w' : World) : Prop := match r with
 | none => e = .returned (.tuple #[.agg #[.slice none 0 0, .slice none 0 0, .slice none 0 0, .slice none 0 0], .bool false]) ∧ Below w.heap.size w w'
 | some m => ∃ vt vc vl vd xs, e = .returned (.tuple #[.agg #[vt, vc, vl, vd], .bool true]) ∧ Below w.heap.size w w' ∧ OwnMc w' w.heap.size vt vc vl vd xs m
set_option maxRecDepth 100000 in
set_option maxHeartbeats 8000000 in
theorem implDo_any {AT AC AL AD : Option Addr} {nt ct nc cc nl cl nd cd b o n cap : Nat} {m : Bt.Mc} {rs : List Bt.C4} (h : Int) (c : Bt.Ch) (w : World) (P : ArgPr w b o n cap rs)
  (H : ArgMc w AT nt ct AC nc cc AL nl cl AD nd cd m) (S : Small m) :
  Calls Try.prog 75 #[.agg #[.slice (some ⟨b, o, none⟩) n cap, .int .i64 h], .agg #[.slice AT nt ct, .slice AC nc cc, .slice AL nl cl, .slice AD nd cd], .agg #[.int .i64 c.who, .int .i64 c.kind, .int .i64 c.reply]] w (DoMade (Bt.doM rs h m c) w) := by
 obtain ⟨who, kd, rep⟩ := c
 simp only
 have hT := Lib.hid H.nT
 have hle := H.ths.2.1
 have hcp := P.cap
 have hnP := Lib.hid P.nP
 have HS := Lib.hid S; clear S
 obtain ⟨W0, hW0⟩ : ∃ W0 : World, W0 = (((w.alloc (.cells #[.slice (some ⟨b, o, none⟩) n cap, .int .i64 h] 36)).alloc (.cells #[.slice AT nt ct, .slice AC nc cc, .slice AL nl cl, .slice AD nd cd] 31)).alloc (.cells #[.int .i64 who, .int .i64 kd, .int .i64 rep] 80)).alloc (.cells #[.slice none 0 0, .slice none 0 0, .slice none 0 0, .slice none 0 0] 31) := ⟨_, rfl⟩
 have B0 := Lib.hid (show Below w.heap.size w W0 by rw [hW0]; exact ((((Below.refl _ _).alloc (Nat.le_refl _) _).alloc (by simp) _).alloc (by simp; omega) _).alloc (by simp; omega) _)
 have HP := Lib.hid (P.keep B0.out); have HH := Lib.hid (H.keep B0.out)
 have HP00 := Lib.hid P; have HH00 := Lib.hid H
 clear P H
 have a0 : W0.cell? ⟨w.heap.size, 0, none⟩ = some (.slice (some ⟨b, o, none⟩) n cap) := by rw [hW0]; go_simp
 have a1 : W0.cell? ⟨w.heap.size, 1, none⟩ = some (.int .i64 h) := by rw [hW0]; go_simp
 have b0 : W0.cell? ⟨w.heap.size + 1, 0, none⟩ = some (.slice AT nt ct) := by rw [hW0]; go_simp
 have b1 : W0.cell? ⟨w.heap.size + 1, 1, none⟩ = some (.slice AC nc cc) := by rw [hW0]; go_simp
 have b2 : W0.cell? ⟨w.heap.size + 1, 2, none⟩ = some (.slice AL nl cl) := by rw [hW0]; go_simp
 have b3 : W0.cell? ⟨w.heap.size + 1, 3, none⟩ = some (.slice AD nd cd) := by rw [hW0]; go_simp
 have d0 : W0.cell? ⟨w.heap.size + 1 + 1, 0, none⟩ = some (.int .i64 who) := by rw [hW0]; go_simp
 have d1 : W0.cell? ⟨w.heap.size + 1 + 1, 1, none⟩ = some (.int .i64 kd) := by rw [hW0]; go_simp
 have d2 : W0.cell? ⟨w.heap.size + 1 + 1, 2, none⟩ = some (.int .i64 rep) := by rw [hW0]; go_simp
 have y0 : W0.cell? ⟨w.heap.size + 1 + 1 + 1, 0, none⟩ = some (.slice none 0 0) := by rw [hW0]; go_simp
 have y1 : W0.cell? ⟨w.heap.size + 1 + 1 + 1, 1, none⟩ = some (.slice none 0 0) := by rw [hW0]; go_simp
 have y2 : W0.cell? ⟨w.heap.size + 1 + 1 + 1, 2, none⟩ = some (.slice none 0 0) := by rw [hW0]; go_simp
 have y3 : W0.cell? ⟨w.heap.size + 1 + 1 + 1, 3, none⟩ = some (.slice none 0 0) := by rw [hW0]; go_simp
 have g0 : W0.frozen? ⟨w.heap.size + 1 + 1 + 1, 0, none⟩ = false := by rw [hW0]; go_simp
 have g1 : W0.frozen? ⟨w.heap.size + 1 + 1 + 1, 1, none⟩ = false := by rw [hW0]; go_simp
 have g2 : W0.frozen? ⟨w.heap.size + 1 + 1 + 1, 2, none⟩ = false := by rw [hW0]; go_simp
 have g3 : W0.frozen? ⟨w.heap.size + 1 + 1 + 1, 3, none⟩ = false := by rw [hW0]; go_simp
 have hz0 : W0.heap.size = w.heap.size + 4 := by rw [hW0]; simp
 have HW := Lib.hid hW0; clear hW0
 go_enter Try.func75, Try.ntmps75
 go_wp2_with fail
 rw [← HW.out]
 refine (implCanDo_any h ⟨who, kd, rep⟩ _ HP.out HH.out HS.out).mono ?_
 cases hcd : Bt.canDo rs h m ⟨who, kd, rep⟩
 ·have HDO := Lib.hid (Bt.doM_no hcd)
  rintro e w1 ⟨rfl, hb1⟩
  have z0 := keeps hb1 y0
  have z1 := keeps hb1 y1
  have z2 := keeps hb1 y2
  have z3 := keeps hb1 y3
  have f0 := keepz hb1 y0 g0
  have f1 := keepz hb1 y1 g1
  have f2 := keepz hb1 y2 g2
  have f3 := keepz hb1 y3 g3
  have B1 := Lib.hid (B0.out.trans (hb1.mono B0.out.size))
  have hz1 := hb1.size
  clear hb1 a0 a1 b0 b1 b2 b3 d0 d1 d2 y0 y1 y2 y3 g0 g1 g2 g3
  go_wp2
  refine bodyPost_ret (v := .tuple #[.agg #[.slice none 0 0, .slice none 0 0, .slice none 0 0, .slice none 0 0], .bool false]) (by simp [results, Try.results75, go_sem, z0, z1, z2, z3]) rfl ?_
  unfold DoMade
  rw [HDO.out]
  refine ⟨rfl, ?_⟩
  repeat (refine Below.setCell ?_ (by simp; try omega) _)
  exact B1.out
 ·obtain ⟨hm, hr⟩ := Bt.canDo_true hcd
  simp only at hr
  have hlr := Bt.runs_lt hr
  rw [hT.out] at hlr
  obtain ⟨k, rfl⟩ : ∃ k : Nat, who = k := ⟨who.toNat, by omega⟩
  have hkn : k < nt := by omega
  have hk : k < m.ths.length := by rw [hT.out]; exact hkn
  have hst : m.ths[k].st = 0 := by rw [Bt.runs_in hk, beq_iff_eq] at hr; exact hr
  have MF := Lib.hid (Bt.machOk_facts hm)
  have TF := Lib.hid (Bt.thOk_facts (MF.out.th k hk))
  have hl4 := Bt.regsOk_len TF.out.regs
  clear hlr hr
  rintro e w1 ⟨rfl, hb1⟩
  obtain ⟨bt, ot, rfl, ht⟩ := (HH.out.keep hb1).ths.2.2 k hk
  obtain ⟨AR, cr, AS, cs, HT, x0, x1, x2, x3⟩ := ht.open
  rw [hl4] at x1 HT
  rw [hst] at x3
  have hz1 := hb1.size
  have B1 := Lib.hid (B0.out.trans (hb1.mono B0.out.size))
  obtain ⟨pl, hpl⟩ : ∃ pl, m.ths[k].pl = pl := ⟨_, rfl⟩
  obtain ⟨ns, hns⟩ : ∃ ns, m.ths[k].stack.length = ns := ⟨_, rfl⟩
  rw [hpl] at x0
  rw [hns] at x2 HT
  obtain ⟨W2, hW2⟩ : ∃ W2 : World, W2 = w1.alloc (.cells #[.int .i64 pl, .slice AR 4 cr, .slice AS ns cs, .int .i64 0] 123) := ⟨_, rfl⟩
  have hb2 : Below W0.heap.size W0 W2 := by rw [hW2]; exact hb1.alloc hz1 _
  have hb12 : Below w1.heap.size w1 W2 := by rw [hW2]; exact (Below.refl _ _).alloc (Nat.le_refl _) _
  have t0 : W2.cell? ⟨w1.heap.size, 0, none⟩ = some (.int .i64 pl) := by rw [hW2]; go_simp
  have t1 : W2.cell? ⟨w1.heap.size, 1, none⟩ = some (.slice AR 4 cr) := by rw [hW2]; go_simp
  have t2 : W2.cell? ⟨w1.heap.size, 2, none⟩ = some (.slice AS ns cs) := by rw [hW2]; go_simp
  have t3 : W2.cell? ⟨w1.heap.size, 3, none⟩ = some (.int .i64 0) := by rw [hW2]; go_simp
  have p0 := keeps hb2 a0
  have p1 := keeps hb2 a1
  have m0 := keeps hb2 b0
  have m1 := keeps hb2 b1
  have m2 := keeps hb2 b2
  have m3 := keeps hb2 b3
  have c0 := keeps hb2 d0
  have c1 := keeps hb2 d1
  have c2 := keeps hb2 d2
  have z0 := keeps hb2 y0
  have z1 := keeps hb2 y1
  have z2 := keeps hb2 y2
  have z3 := keeps hb2 y3
  have a0' := keeps hb1 a0
  have a1' := keeps hb1 a1
  have b0' := keeps hb1 b0
  have b1' := keeps hb1 b1
  have b2' := keeps hb1 b2
  have b3' := keeps hb1 b3
  have d0' := keeps hb1 d0
  have d1' := keeps hb1 d1
  have d2' := keeps hb1 d2
  have f0 := keepz hb2 y0 g0
  have f1 := keepz hb2 y1 g1
  have f2 := keepz hb2 y2 g2
  have f3 := keepz hb2 y3 g3
  have B2 := Lib.hid (B0.out.trans (hb2.mono B0.out.size))
  have hz2 : W2.heap.size = w1.heap.size + 1 := by rw [hW2]; simp
  have HM2 := Lib.hid (HH.out.keep hb2)
  have HP2 := Lib.hid (HP.out.keep hb2)
  have HT2 := Lib.hid (HT.keep hb12)
  have hl1 : w.heap.size + 1 + 1 + 1 < w1.heap.size := by omega
  have hl2 : w.heap.size + 1 + 1 < w1.heap.size := by omega
  have hl3 : w.heap.size + 1 < w1.heap.size := by omega
  have hl5 : w.heap.size < w1.heap.size := by omega
  have hbt : bt < w1.heap.size := cell_lt x0
  have HW2 := Lib.hid hW2
  have NS6 : Hid (ns ≤ 6) := Lib.hid (by rw [← hns]; exact TF.out.top)
  clear hW2 ht HT hb1 hb2 hb12 a0 a1 b0 b1 b2 b3 d0 d1 d2 y0 y1 y2 y3 g0 g1 g2 g3
  obtain ⟨HLR, HLS⟩ : Hid (m.ths[k].regs.length ≤ 1048576) ∧ Hid (m.ths[k].stack.length + 1 ≤ 1048576) := ⟨Lib.hid (by omega), Lib.hid (by rw [hns]; have := NS6.out; omega)⟩
  have HPL := Lib.hid hpl; have HL4 := Lib.hid hl4; have HNS := Lib.hid hns
  clear hpl hl4 hns
  have WT := Lib.hid (fun (W' : World) (hb : Below W2.heap.size W2 W') (t : Bt.Th) (A1 : Option Addr) (c1 : Nat) (A2 : Option Addr) (c2 : Nat) (r1 : IntRow W' W2.heap.size (.slice A1 t.regs.length c1) t.regs) (r2 : IntRow W' W2.heap.size (.slice A2 t.stack.length c2) t.stack) (h1 : t.regs.length ≤ 1048576) (h2 : t.stack.length ≤ 1048576) => withThread_any (k := k) (t := t) (HM2.out.keep hb) HS.out ⟨r1.arg, r2.arg, rfl, rfl⟩ h1 h2)
  by_cases hkd : kd = 1
  ·subst hkd
   have HDO := Lib.hid (Bt.doM_sig hcd hk)
   have SG := Lib.hid (fun (W' : World) (hb : Below W2.heap.size W2 W') => signalled_any (t := m.ths[k]) h (HT2.out.keep hb) (by decide) (by have := NS6.out; omega))
   rw [HPL.out, hst] at SG HDO
   obtain ⟨t', ht'⟩ : ∃ t' : Bt.Th, t' = ⟨h, m.ths[k].regs, m.ths[k].stack ++ [pl], 0⟩ := ⟨_, rfl⟩
   rw [← ht'] at SG HDO
   have HL : Hid (t'.regs.length ≤ 1048576 ∧ t'.stack.length ≤ 1048576) := Lib.hid ⟨by rw [ht']; exact HLR.out, by rw [ht']; simpa using HLS.out⟩
   clear ht'
   have SX := Lib.hid (fun (W' : World) (hb : Below W2.drew.heap.size W2.drew W') => (⟨keeps hb p0, keeps hb p1, keeps hb m0, keeps hb m1, keeps hb m2, keeps hb m3, keeps hb c0, keeps hb c1, keeps hb c2, keeps hb t0, keeps hb t1, keeps hb t2, keeps hb t3⟩ : W'.cell? ⟨w.heap.size, 0, none⟩ = some (.slice (some ⟨b, o, none⟩) n cap) ∧ W'.cell? ⟨w.heap.size, 1, none⟩ = some (.int .i64 h) ∧ W'.cell? ⟨w.heap.size + 1, 0, none⟩ = some (.slice (some ⟨bt, ot, none⟩) nt ct) ∧ W'.cell? ⟨w.heap.size + 1, 1, none⟩ = some (.slice AC nc cc) ∧ W'.cell? ⟨w.heap.size + 1, 2, none⟩ = some (.slice AL nl cl) ∧ W'.cell? ⟨w.heap.size + 1, 3, none⟩ = some (.slice AD nd cd) ∧ W'.cell? ⟨w.heap.size + 1 + 1, 0, none⟩ = some (.int .i64 (k : Int)) ∧ W'.cell? ⟨w.heap.size + 1 + 1, 1, none⟩ = some (.int .i64 1) ∧ W'.cell? ⟨w.heap.size + 1 + 1, 2, none⟩ = some (.int .i64 rep) ∧ W'.cell? ⟨w1.heap.size, 0, none⟩ = some (.int .i64 pl) ∧ W'.cell? ⟨w1.heap.size, 1, none⟩ = some (.slice AR 4 cr) ∧ W'.cell? ⟨w1.heap.size, 2, none⟩ = some (.slice AS ns cs) ∧ W'.cell? ⟨w1.heap.size, 3, none⟩ = some (.int .i64 0)))
   have SY := Lib.hid (fun (W' : World) (hb : Below W2.drew.heap.size W2.drew W') (u0 u1 u2 u3 : Value) => by
    have hh := SX.out W' hb
    have e : ∀ (b i : Nat), b ≠ w.heap.size + 1 + 1 + 1 → ((((W'.setCell ⟨w.heap.size + 1 + 1 + 1, 0, none⟩ u0).setCell ⟨w.heap.size + 1 + 1 + 1, 1, none⟩ u1).setCell ⟨w.heap.size + 1 + 1 + 1, 2, none⟩ u2).setCell ⟨w.heap.size + 1 + 1 + 1, 3, none⟩ u3).cell? ⟨b, i, none⟩ = W'.cell? ⟨b, i, none⟩ := fun b i hbi => by
     rw [World.cell?_setCell_far _ _ _ _ (by simp; omega), World.cell?_setCell_far _ _ _ _ (by simp; omega), World.cell?_setCell_far _ _ _ _ (by simp; omega), World.cell?_setCell_far _ _ _ _ (by simp; omega)]
    exact (show ((((W'.setCell ⟨w.heap.size + 1 + 1 + 1, 0, none⟩ u0).setCell ⟨w.heap.size + 1 + 1 + 1, 1, none⟩ u1).setCell ⟨w.heap.size + 1 + 1 + 1, 2, none⟩ u2).setCell ⟨w.heap.size + 1 + 1 + 1, 3, none⟩ u3).cell? ⟨w.heap.size, 0, none⟩ = some (.slice (some ⟨b, o, none⟩) n cap) ∧ ((((W'.setCell ⟨w.heap.size + 1 + 1 + 1, 0, none⟩ u0).setCell ⟨w.heap.size + 1 + 1 + 1, 1, none⟩ u1).setCell ⟨w.heap.size + 1 + 1 + 1, 2, none⟩ u2).setCell ⟨w.heap.size + 1 + 1 + 1, 3, none⟩ u3).cell? ⟨w.heap.size, 1, none⟩ = some (.int .i64 h) ∧ ((((W'.setCell ⟨w.heap.size + 1 + 1 + 1, 0, none⟩ u0).setCell ⟨w.heap.size + 1 + 1 + 1, 1, none⟩ u1).setCell ⟨w.heap.size + 1 + 1 + 1, 2, none⟩ u2).setCell ⟨w.heap.size + 1 + 1 + 1, 3, none⟩ u3).cell? ⟨w.heap.size + 1, 0, none⟩ = some (.slice (some ⟨bt, ot, none⟩) nt ct) ∧ ((((W'.setCell ⟨w.heap.size + 1 + 1 + 1, 0, none⟩ u0).setCell ⟨w.heap.size + 1 + 1 + 1, 1, none⟩ u1).setCell ⟨w.heap.size + 1 + 1 + 1, 2, none⟩ u2).setCell ⟨w.heap.size + 1 + 1 + 1, 3, none⟩ u3).cell? ⟨w.heap.size + 1, 1, none⟩ = some (.slice AC nc cc) ∧ ((((W'.setCell ⟨w.heap.size + 1 + 1 + 1, 0, none⟩ u0).setCell ⟨w.heap.size + 1 + 1 + 1, 1, none⟩ u1).setCell ⟨w.heap.size + 1 + 1 + 1, 2, none⟩ u2).setCell ⟨w.heap.size + 1 + 1 + 1, 3, none⟩ u3).cell? ⟨w.heap.size + 1, 2, none⟩ = some (.slice AL nl cl) ∧ ((((W'.setCell ⟨w.heap.size + 1 + 1 + 1, 0, none⟩ u0).setCell ⟨w.heap.size + 1 + 1 + 1, 1, none⟩ u1).setCell ⟨w.heap.size + 1 + 1 + 1, 2, none⟩ u2).setCell ⟨w.heap.size + 1 + 1 + 1, 3, none⟩ u3).cell? ⟨w.heap.size + 1, 3, none⟩ = some (.slice AD nd cd) ∧ ((((W'.setCell ⟨w.heap.size + 1 + 1 + 1, 0, none⟩ u0).setCell ⟨w.heap.size + 1 + 1 + 1, 1, none⟩ u1).setCell ⟨w.heap.size + 1 + 1 + 1, 2, none⟩ u2).setCell ⟨w.heap.size + 1 + 1 + 1, 3, none⟩ u3).cell? ⟨w.heap.size + 1 + 1, 0, none⟩ = some (.int .i64 (k : Int)) ∧ ((((W'.setCell ⟨w.heap.size + 1 + 1 + 1, 0, none⟩ u0).setCell ⟨w.heap.size + 1 + 1 + 1, 1, none⟩ u1).setCell ⟨w.heap.size + 1 + 1 + 1, 2, none⟩ u2).setCell ⟨w.heap.size + 1 + 1 + 1, 3, none⟩ u3).cell? ⟨w.heap.size + 1 + 1, 1, none⟩ = some (.int .i64 1) ∧ ((((W'.setCell ⟨w.heap.size + 1 + 1 + 1, 0, none⟩ u0).setCell ⟨w.heap.size + 1 + 1 + 1, 1, none⟩ u1).setCell ⟨w.heap.size + 1 + 1 + 1, 2, none⟩ u2).setCell ⟨w.heap.size + 1 + 1 + 1, 3, none⟩ u3).cell? ⟨w.heap.size + 1 + 1, 2, none⟩ = some (.int .i64 rep) ∧ ((((W'.setCell ⟨w.heap.size + 1 + 1 + 1, 0, none⟩ u0).setCell ⟨w.heap.size + 1 + 1 + 1, 1, none⟩ u1).setCell ⟨w.heap.size + 1 + 1 + 1, 2, none⟩ u2).setCell ⟨w.heap.size + 1 + 1 + 1, 3, none⟩ u3).cell? ⟨w1.heap.size, 0, none⟩ = some (.int .i64 pl) ∧ ((((W'.setCell ⟨w.heap.size + 1 + 1 + 1, 0, none⟩ u0).setCell ⟨w.heap.size + 1 + 1 + 1, 1, none⟩ u1).setCell ⟨w.heap.size + 1 + 1 + 1, 2, none⟩ u2).setCell ⟨w.heap.size + 1 + 1 + 1, 3, none⟩ u3).cell? ⟨w1.heap.size, 1, none⟩ = some (.slice AR 4 cr) ∧ ((((W'.setCell ⟨w.heap.size + 1 + 1 + 1, 0, none⟩ u0).setCell ⟨w.heap.size + 1 + 1 + 1, 1, none⟩ u1).setCell ⟨w.heap.size + 1 + 1 + 1, 2, none⟩ u2).setCell ⟨w.heap.size + 1 + 1 + 1, 3, none⟩ u3).cell? ⟨w1.heap.size, 2, none⟩ = some (.slice AS ns cs) ∧ ((((W'.setCell ⟨w.heap.size + 1 + 1 + 1, 0, none⟩ u0).setCell ⟨w.heap.size + 1 + 1 + 1, 1, none⟩ u1).setCell ⟨w.heap.size + 1 + 1 + 1, 2, none⟩ u2).setCell ⟨w.heap.size + 1 + 1 + 1, 3, none⟩ u3).cell? ⟨w1.heap.size, 3, none⟩ = some (.int .i64 0) from by rw [e _ _ (by omega), e _ _ (by omega), e _ _ (by omega), e _ _ (by omega), e _ _ (by omega), e _ _ (by omega), e _ _ (by omega), e _ _ (by omega), e _ _ (by omega), e _ _ (by omega), e _ _ (by omega), e _ _ (by omega), e _ _ (by omega)]; exact hh))
   go_wp2_with fail
   rw [← HW2.out]
   go_region_held3 (fun W' => W'.cell? ⟨w.heap.size, 0, none⟩ = some (.slice (some ⟨b, o, none⟩) n cap) ∧ W'.cell? ⟨w.heap.size, 1, none⟩ = some (.int .i64 h) ∧ W'.cell? ⟨w.heap.size + 1, 0, none⟩ = some (.slice (some ⟨bt, ot, none⟩) nt ct) ∧ W'.cell? ⟨w.heap.size + 1, 1, none⟩ = some (.slice AC nc cc) ∧ W'.cell? ⟨w.heap.size + 1, 2, none⟩ = some (.slice AL nl cl) ∧ W'.cell? ⟨w.heap.size + 1, 3, none⟩ = some (.slice AD nd cd) ∧ W'.cell? ⟨w.heap.size + 1 + 1, 0, none⟩ = some (.int .i64 (k : Int)) ∧ W'.cell? ⟨w.heap.size + 1 + 1, 1, none⟩ = some (.int .i64 1) ∧ W'.cell? ⟨w.heap.size + 1 + 1, 2, none⟩ = some (.int .i64 rep) ∧ W'.cell? ⟨w1.heap.size, 0, none⟩ = some (.int .i64 pl) ∧ W'.cell? ⟨w1.heap.size, 1, none⟩ = some (.slice AR 4 cr) ∧ W'.cell? ⟨w1.heap.size, 2, none⟩ = some (.slice AS ns cs) ∧ W'.cell? ⟨w1.heap.size, 3, none⟩ = some (.int .i64 0))
    (first | (exact SX.out _ hb3) | (exact SX.out _ hb34) | (exact SY.out _ hb34 _ _ _ _) | go_keep)
    (first | (go_at_call 111; refine (SG.out _ (Below.refl _ _).drew).mono ?_; rintro e w3 ⟨A1, c1, A2, c2, rfl, hb3, hr3, hs3, ha3⟩; have hb3' : Below W2.heap.size W2 w3 := (Below.refl _ _).drew.trans hb3) | (go_at_call 110; refine (WT.out w3 hb3' t' A1 c1 A2 c2 hr3 hs3 HL.out.1 HL.out.2).mono ?_; rintro e w4 ⟨vt, vc, vl, vd, xs, rfl, hb4, ho4⟩; obtain ⟨AT4, ct4, AC4, cc4, AL4, cl4, AD4, cd4, rfl, rfl, rfl, rfl⟩ := ho4.slices; have hb34 : Below W2.drew.heap.size W2.drew w4 := hb3.trans (hb4.mono hb3.size); have k0 := keeps hb34 z0; have i0 := keepz (W := W2.drew) hb34 z0 f0; have k1 := keeps hb34 z1; have i1 := keepz (W := W2.drew) hb34 z1 f1; have k2 := keeps hb34 z2; have i2 := keepz (W := W2.drew) hb34 z2 f2; have k3 := keeps hb34 z3; have i3 := keepz (W := W2.drew) hb34 z3 f3))
   go_wp2
   refine bodyPost_ret (v := .tuple #[.agg #[.slice AT4 m.ths.length ct4, .slice AC4 m.cells.length cc4, .slice AL4 m.locks.length cl4, .slice AD4 m.told.length cd4], .bool true]) (by simp [results, Try.results75, go_sem, k0, k1, k2, k3]) rfl ?_
   unfold DoMade
   rw [HDO.out]
   refine ⟨_, _, _, _, xs, rfl, ?_, ?_⟩
   ·repeat (refine Below.setCell ?_ (by simp; try omega) _)
    exact B2.out.trans ((show Below W2.heap.size W2 W2.drew from (Below.refl _ _).drew).trans hb34 |>.mono B2.out.size)
   ·refine OwnMc.mono (B := W2.heap.size) ?_ (by omega)
    repeat (refine OwnMc.setOther ?_ _ (by simp; try omega))
    exact (by have q := ho4.mono hb3'.size; simp only [List.length_set] at q; exact q)
  ·have dkd : (kd == 1) = false := by rw [beq_eq_false_iff_ne]; exact hkd
   go_wp2_with fail
   rw [← HW2.out]
   refine (stepFails_any h k _ HP2.out HM2.out hm hk).mono ?_
   cases hf : Bt.failsI rs m k m.ths[k]
   ·have hlen : ¬ (rs.length : Int) ≤ m.ths[k].pl := fun hh => by rw [Bt.failsI_end hh] at hf; cases hf
    have hlo := TF.out.lo
    rw [HPL.out] at hlen hlo
    obtain ⟨j, rfl⟩ : ∃ j : Nat, pl = j := ⟨pl.toNat, by omega⟩
    have hjr : j < rs.length := by omega
    have hjn : j < n := by rw [← hnP.out]; exact hjr
    have HDO := Lib.hid (Bt.doM_step hcd hk hkd HPL.out hjr hf)
    have HFF := Lib.hid (Bt.failsI_at hjr HPL.out ▸ hf : Bt.faultsI m k m.ths[k] rs[j] = false)
    have HC := Lib.hid (Bt.progOk_code MF.out.prog hjr)
    have hbo : b < w.heap.size := cell_lt (HP00.out.codes j hjr).1
    have h12 : Hid (rs[j].op = 12 → 0 < m.ths[k].stack.length) := Lib.hid (fun h => by
     have hh := HFF.out
     unfold Bt.faultsI at hh
     rw [h] at hh
     simp at hh
     have := List.length_pos_iff.2 hh
     exact this)
    have TF60 := Lib.hid (show Bt.ThFacts 60 m.ths[k] from TF.out.mono (by have := Bt.progOk_len MF.out.prog; omega))
    rintro e w3 ⟨rfl, hb3⟩
    have hz3 := hb3.size
    have B3 := Lib.hid (B2.out.trans (hb3.mono B2.out.size))
    have qp0 := keeps hb3 p0
    have qp1 := keeps hb3 p1
    have qm0 := keeps hb3 m0
    have qm1 := keeps hb3 m1
    have qm2 := keeps hb3 m2
    have qm3 := keeps hb3 m3
    have qc0 := keeps hb3 c0
    have qc1 := keeps hb3 c1
    have qc2 := keeps hb3 c2
    have qt0 := keeps hb3 t0
    have qt1 := keeps hb3 t1
    have qt2 := keeps hb3 t2
    have qt3 := keeps hb3 t3
    have qz0 := keeps hb3 z0
    have qz1 := keeps hb3 z1
    have qz2 := keeps hb3 z2
    have qz3 := keeps hb3 z3
    have qf0 := keepz hb3 z0 f0
    have qf1 := keepz hb3 z1 f1
    have qf2 := keepz hb3 z2 f2
    have qf3 := keepz hb3 z3 f3
    have hl1' : w.heap.size + 1 + 1 + 1 < w3.heap.size := by omega
    have hl2' : w.heap.size + 1 + 1 < w3.heap.size := by omega
    have hl3' : w.heap.size + 1 < w3.heap.size := by omega
    have hl5' : w.heap.size < w3.heap.size := by omega
    have hbt' : bt < w3.heap.size := by omega
    have hl6' : w1.heap.size < w3.heap.size := by omega
    have HM3 := Lib.hid (HM2.out.keep hb3)
    have HT3 := Lib.hid (HT2.out.keep hb3)
    obtain ⟨e0, e1, e2, e3⟩ := (HP2.out.keep hb3).codes j hjr
    generalize rs[j] = rj at *
    obtain ⟨op, xa, xb, xc⟩ := rj
    simp only at e0 e1 e2 e3 HC h12
    have hbo' : b < w3.heap.size := by omega
    have hbo1 : b ≠ w.heap.size + 1 + 1 + 1 := by omega
    have MB := Lib.hid (fun (W' : World) (hb : Below w3.heap.size w3 W') => machineBehind_any (k := k) op xa xb xc kd rep (HM3.out.keep hb) HS.out hk HC.out TF60.out MF.out.cells MF.out.few MF.out.locks h12.out)
    obtain ⟨m', hm'⟩ : ∃ m' : Bt.Mc, m' = ⟨Bt.thsI m k m.ths[k] ⟨op, xa, xb, xc⟩ rep, Bt.cellsI m m.ths[k] ⟨op, xa, xb, xc⟩, Bt.locksI m k ⟨op, xa, xb, xc⟩, Bt.toldI m m.ths[k] ⟨op, xa, xb, xc⟩⟩ := ⟨_, rfl⟩
    unfold Bt.stepM at HDO
    rw [← hm'] at MB HDO
    clear hm' HC h12 HFF hb3 hlen hlo hcd hf
    clear p0 p1 m0 m1 m2 m3 c0 c1 c2 t0 t1 t2 t3 z0 z1 z2 z3 f0 f1 f2 f3
    have SX := Lib.hid (fun (W' : World) (hb : Below w3.drew.heap.size w3.drew W') => (⟨keeps hb qp0, keeps hb qp1, keeps hb qm0, keeps hb qm1, keeps hb qm2, keeps hb qm3, keeps hb qc0, keeps hb qc1, keeps hb qc2, keeps hb qt0, keeps hb qt1, keeps hb qt2, keeps hb qt3, keeps hb e0, keeps hb e1, keeps hb e2, keeps hb e3⟩ : W'.cell? ⟨w.heap.size, 0, none⟩ = some (.slice (some ⟨b, o, none⟩) n cap) ∧ W'.cell? ⟨w.heap.size, 1, none⟩ = some (.int .i64 h) ∧ W'.cell? ⟨w.heap.size + 1, 0, none⟩ = some (.slice (some ⟨bt, ot, none⟩) nt ct) ∧ W'.cell? ⟨w.heap.size + 1, 1, none⟩ = some (.slice AC nc cc) ∧ W'.cell? ⟨w.heap.size + 1, 2, none⟩ = some (.slice AL nl cl) ∧ W'.cell? ⟨w.heap.size + 1, 3, none⟩ = some (.slice AD nd cd) ∧ W'.cell? ⟨w.heap.size + 1 + 1, 0, none⟩ = some (.int .i64 (k : Int)) ∧ W'.cell? ⟨w.heap.size + 1 + 1, 1, none⟩ = some (.int .i64 kd) ∧ W'.cell? ⟨w.heap.size + 1 + 1, 2, none⟩ = some (.int .i64 rep) ∧ W'.cell? ⟨w1.heap.size, 0, none⟩ = some (.int .i64 (j : Int)) ∧ W'.cell? ⟨w1.heap.size, 1, none⟩ = some (.slice AR 4 cr) ∧ W'.cell? ⟨w1.heap.size, 2, none⟩ = some (.slice AS ns cs) ∧ W'.cell? ⟨w1.heap.size, 3, none⟩ = some (.int .i64 0) ∧ W'.cell? ⟨b, o + j * 4, none⟩ = some (.int .i64 op) ∧ W'.cell? ⟨b, o + j * 4 + 1, none⟩ = some (.int .i64 xa) ∧ W'.cell? ⟨b, o + j * 4 + 2, none⟩ = some (.int .i64 xb) ∧ W'.cell? ⟨b, o + j * 4 + 3, none⟩ = some (.int .i64 xc)))
    have SY := Lib.hid (fun (W' : World) (hb : Below w3.drew.heap.size w3.drew W') (u0 u1 u2 u3 : Value) => by
     have hh := SX.out W' hb
     have e : ∀ (b i : Nat), b ≠ w.heap.size + 1 + 1 + 1 → ((((W'.setCell ⟨w.heap.size + 1 + 1 + 1, 0, none⟩ u0).setCell ⟨w.heap.size + 1 + 1 + 1, 1, none⟩ u1).setCell ⟨w.heap.size + 1 + 1 + 1, 2, none⟩ u2).setCell ⟨w.heap.size + 1 + 1 + 1, 3, none⟩ u3).cell? ⟨b, i, none⟩ = W'.cell? ⟨b, i, none⟩ := fun b i hbi => by
      rw [World.cell?_setCell_far _ _ _ _ (by simp; omega), World.cell?_setCell_far _ _ _ _ (by simp; omega), World.cell?_setCell_far _ _ _ _ (by simp; omega), World.cell?_setCell_far _ _ _ _ (by simp; omega)]
     exact (show ((((W'.setCell ⟨w.heap.size + 1 + 1 + 1, 0, none⟩ u0).setCell ⟨w.heap.size + 1 + 1 + 1, 1, none⟩ u1).setCell ⟨w.heap.size + 1 + 1 + 1, 2, none⟩ u2).setCell ⟨w.heap.size + 1 + 1 + 1, 3, none⟩ u3).cell? ⟨w.heap.size, 0, none⟩ = some (.slice (some ⟨b, o, none⟩) n cap) ∧ ((((W'.setCell ⟨w.heap.size + 1 + 1 + 1, 0, none⟩ u0).setCell ⟨w.heap.size + 1 + 1 + 1, 1, none⟩ u1).setCell ⟨w.heap.size + 1 + 1 + 1, 2, none⟩ u2).setCell ⟨w.heap.size + 1 + 1 + 1, 3, none⟩ u3).cell? ⟨w.heap.size, 1, none⟩ = some (.int .i64 h) ∧ ((((W'.setCell ⟨w.heap.size + 1 + 1 + 1, 0, none⟩ u0).setCell ⟨w.heap.size + 1 + 1 + 1, 1, none⟩ u1).setCell ⟨w.heap.size + 1 + 1 + 1, 2, none⟩ u2).setCell ⟨w.heap.size + 1 + 1 + 1, 3, none⟩ u3).cell? ⟨w.heap.size + 1, 0, none⟩ = some (.slice (some ⟨bt, ot, none⟩) nt ct) ∧ ((((W'.setCell ⟨w.heap.size + 1 + 1 + 1, 0, none⟩ u0).setCell ⟨w.heap.size + 1 + 1 + 1, 1, none⟩ u1).setCell ⟨w.heap.size + 1 + 1 + 1, 2, none⟩ u2).setCell ⟨w.heap.size + 1 + 1 + 1, 3, none⟩ u3).cell? ⟨w.heap.size + 1, 1, none⟩ = some (.slice AC nc cc) ∧ ((((W'.setCell ⟨w.heap.size + 1 + 1 + 1, 0, none⟩ u0).setCell ⟨w.heap.size + 1 + 1 + 1, 1, none⟩ u1).setCell ⟨w.heap.size + 1 + 1 + 1, 2, none⟩ u2).setCell ⟨w.heap.size + 1 + 1 + 1, 3, none⟩ u3).cell? ⟨w.heap.size + 1, 2, none⟩ = some (.slice AL nl cl) ∧ ((((W'.setCell ⟨w.heap.size + 1 + 1 + 1, 0, none⟩ u0).setCell ⟨w.heap.size + 1 + 1 + 1, 1, none⟩ u1).setCell ⟨w.heap.size + 1 + 1 + 1, 2, none⟩ u2).setCell ⟨w.heap.size + 1 + 1 + 1, 3, none⟩ u3).cell? ⟨w.heap.size + 1, 3, none⟩ = some (.slice AD nd cd) ∧ ((((W'.setCell ⟨w.heap.size + 1 + 1 + 1, 0, none⟩ u0).setCell ⟨w.heap.size + 1 + 1 + 1, 1, none⟩ u1).setCell ⟨w.heap.size + 1 + 1 + 1, 2, none⟩ u2).setCell ⟨w.heap.size + 1 + 1 + 1, 3, none⟩ u3).cell? ⟨w.heap.size + 1 + 1, 0, none⟩ = some (.int .i64 (k : Int)) ∧ ((((W'.setCell ⟨w.heap.size + 1 + 1 + 1, 0, none⟩ u0).setCell ⟨w.heap.size + 1 + 1 + 1, 1, none⟩ u1).setCell ⟨w.heap.size + 1 + 1 + 1, 2, none⟩ u2).setCell ⟨w.heap.size + 1 + 1 + 1, 3, none⟩ u3).cell? ⟨w.heap.size + 1 + 1, 1, none⟩ = some (.int .i64 kd) ∧ ((((W'.setCell ⟨w.heap.size + 1 + 1 + 1, 0, none⟩ u0).setCell ⟨w.heap.size + 1 + 1 + 1, 1, none⟩ u1).setCell ⟨w.heap.size + 1 + 1 + 1, 2, none⟩ u2).setCell ⟨w.heap.size + 1 + 1 + 1, 3, none⟩ u3).cell? ⟨w.heap.size + 1 + 1, 2, none⟩ = some (.int .i64 rep) ∧ ((((W'.setCell ⟨w.heap.size + 1 + 1 + 1, 0, none⟩ u0).setCell ⟨w.heap.size + 1 + 1 + 1, 1, none⟩ u1).setCell ⟨w.heap.size + 1 + 1 + 1, 2, none⟩ u2).setCell ⟨w.heap.size + 1 + 1 + 1, 3, none⟩ u3).cell? ⟨w1.heap.size, 0, none⟩ = some (.int .i64 (j : Int)) ∧ ((((W'.setCell ⟨w.heap.size + 1 + 1 + 1, 0, none⟩ u0).setCell ⟨w.heap.size + 1 + 1 + 1, 1, none⟩ u1).setCell ⟨w.heap.size + 1 + 1 + 1, 2, none⟩ u2).setCell ⟨w.heap.size + 1 + 1 + 1, 3, none⟩ u3).cell? ⟨w1.heap.size, 1, none⟩ = some (.slice AR 4 cr) ∧ ((((W'.setCell ⟨w.heap.size + 1 + 1 + 1, 0, none⟩ u0).setCell ⟨w.heap.size + 1 + 1 + 1, 1, none⟩ u1).setCell ⟨w.heap.size + 1 + 1 + 1, 2, none⟩ u2).setCell ⟨w.heap.size + 1 + 1 + 1, 3, none⟩ u3).cell? ⟨w1.heap.size, 2, none⟩ = some (.slice AS ns cs) ∧ ((((W'.setCell ⟨w.heap.size + 1 + 1 + 1, 0, none⟩ u0).setCell ⟨w.heap.size + 1 + 1 + 1, 1, none⟩ u1).setCell ⟨w.heap.size + 1 + 1 + 1, 2, none⟩ u2).setCell ⟨w.heap.size + 1 + 1 + 1, 3, none⟩ u3).cell? ⟨w1.heap.size, 3, none⟩ = some (.int .i64 0) ∧ ((((W'.setCell ⟨w.heap.size + 1 + 1 + 1, 0, none⟩ u0).setCell ⟨w.heap.size + 1 + 1 + 1, 1, none⟩ u1).setCell ⟨w.heap.size + 1 + 1 + 1, 2, none⟩ u2).setCell ⟨w.heap.size + 1 + 1 + 1, 3, none⟩ u3).cell? ⟨b, o + j * 4, none⟩ = some (.int .i64 op) ∧ ((((W'.setCell ⟨w.heap.size + 1 + 1 + 1, 0, none⟩ u0).setCell ⟨w.heap.size + 1 + 1 + 1, 1, none⟩ u1).setCell ⟨w.heap.size + 1 + 1 + 1, 2, none⟩ u2).setCell ⟨w.heap.size + 1 + 1 + 1, 3, none⟩ u3).cell? ⟨b, o + j * 4 + 1, none⟩ = some (.int .i64 xa) ∧ ((((W'.setCell ⟨w.heap.size + 1 + 1 + 1, 0, none⟩ u0).setCell ⟨w.heap.size + 1 + 1 + 1, 1, none⟩ u1).setCell ⟨w.heap.size + 1 + 1 + 1, 2, none⟩ u2).setCell ⟨w.heap.size + 1 + 1 + 1, 3, none⟩ u3).cell? ⟨b, o + j * 4 + 2, none⟩ = some (.int .i64 xb) ∧ ((((W'.setCell ⟨w.heap.size + 1 + 1 + 1, 0, none⟩ u0).setCell ⟨w.heap.size + 1 + 1 + 1, 1, none⟩ u1).setCell ⟨w.heap.size + 1 + 1 + 1, 2, none⟩ u2).setCell ⟨w.heap.size + 1 + 1 + 1, 3, none⟩ u3).cell? ⟨b, o + j * 4 + 3, none⟩ = some (.int .i64 xc) from by rw [e _ _ (by omega), e _ _ (by omega), e _ _ (by omega), e _ _ (by omega), e _ _ (by omega), e _ _ (by omega), e _ _ (by omega), e _ _ (by omega), e _ _ (by omega), e _ _ (by omega), e _ _ (by omega), e _ _ (by omega), e _ _ (by omega), e _ _ (by omega), e _ _ (by omega), e _ _ (by omega), e _ _ (by omega)]; exact hh))
    go_wp2_with fail
    go_region_held3 (fun W' => W'.cell? ⟨w.heap.size, 0, none⟩ = some (.slice (some ⟨b, o, none⟩) n cap) ∧ W'.cell? ⟨w.heap.size, 1, none⟩ = some (.int .i64 h) ∧ W'.cell? ⟨w.heap.size + 1, 0, none⟩ = some (.slice (some ⟨bt, ot, none⟩) nt ct) ∧ W'.cell? ⟨w.heap.size + 1, 1, none⟩ = some (.slice AC nc cc) ∧ W'.cell? ⟨w.heap.size + 1, 2, none⟩ = some (.slice AL nl cl) ∧ W'.cell? ⟨w.heap.size + 1, 3, none⟩ = some (.slice AD nd cd) ∧ W'.cell? ⟨w.heap.size + 1 + 1, 0, none⟩ = some (.int .i64 (k : Int)) ∧ W'.cell? ⟨w.heap.size + 1 + 1, 1, none⟩ = some (.int .i64 kd) ∧ W'.cell? ⟨w.heap.size + 1 + 1, 2, none⟩ = some (.int .i64 rep) ∧ W'.cell? ⟨w1.heap.size, 0, none⟩ = some (.int .i64 (j : Int)) ∧ W'.cell? ⟨w1.heap.size, 1, none⟩ = some (.slice AR 4 cr) ∧ W'.cell? ⟨w1.heap.size, 2, none⟩ = some (.slice AS ns cs) ∧ W'.cell? ⟨w1.heap.size, 3, none⟩ = some (.int .i64 0) ∧ W'.cell? ⟨b, o + j * 4, none⟩ = some (.int .i64 op) ∧ W'.cell? ⟨b, o + j * 4 + 1, none⟩ = some (.int .i64 xa) ∧ W'.cell? ⟨b, o + j * 4 + 2, none⟩ = some (.int .i64 xb) ∧ W'.cell? ⟨b, o + j * 4 + 3, none⟩ = some (.int .i64 xc))
     (first | (exact SX.out _ hb4) | (exact SY.out _ hb4 _ _ _ _) | go_keep)
     (first | (go_at_call 114; refine (MB.out _ (Below.refl _ _).drew).mono ?_; rintro e w4 ⟨vt, vc, vl, vd, xs, rfl, hb4, ho4⟩; obtain ⟨AT4, ct4, AC4, cc4, AL4, cl4, AD4, cd4, rfl, rfl, rfl, rfl⟩ := ho4.slices; have k0 := keeps hb4 qz0; have i0 := keepz (W := w3.drew) hb4 qz0 qf0; have k1 := keeps hb4 qz1; have i1 := keepz (W := w3.drew) hb4 qz1 qf1; have k2 := keeps hb4 qz2; have i2 := keepz (W := w3.drew) hb4 qz2 qf2; have k3 := keeps hb4 qz3; have i3 := keepz (W := w3.drew) hb4 qz3 qf3))
    go_wp2
    refine bodyPost_ret (v := .tuple #[.agg #[.slice AT4 m'.ths.length ct4, .slice AC4 m'.cells.length cc4, .slice AL4 m'.locks.length cl4, .slice AD4 m'.told.length cd4], .bool true]) (by simp [results, Try.results75, go_sem, k0, k1, k2, k3]) rfl ?_
    unfold DoMade
    rw [HDO.out]
    refine ⟨_, _, _, _, xs, rfl, ?_, ?_⟩
    ·repeat (refine Below.setCell ?_ (by simp; try omega) _)
     exact B3.out.trans ((show Below w3.heap.size w3 w3.drew from (Below.refl _ _).drew).trans hb4 |>.mono B3.out.size)
    ·refine OwnMc.mono (B := w3.heap.size) ?_ (by omega)
     repeat (refine OwnMc.setOther ?_ _ (by simp; try omega))
     exact ho4
   ·have HDO := Lib.hid (Bt.doM_fail hcd hk hkd hf)
    rintro e w3 ⟨rfl, hb3⟩
    have hz3 := hb3.size
    have B3 := Lib.hid (B2.out.trans (hb3.mono B2.out.size))
    have qp0 := keeps hb3 p0
    have qp1 := keeps hb3 p1
    have qm0 := keeps hb3 m0
    have qm1 := keeps hb3 m1
    have qm2 := keeps hb3 m2
    have qm3 := keeps hb3 m3
    have qc0 := keeps hb3 c0
    have qc1 := keeps hb3 c1
    have qc2 := keeps hb3 c2
    have qt0 := keeps hb3 t0
    have qt1 := keeps hb3 t1
    have qt2 := keeps hb3 t2
    have qt3 := keeps hb3 t3
    have qz0 := keeps hb3 z0
    have qz1 := keeps hb3 z1
    have qz2 := keeps hb3 z2
    have qz3 := keeps hb3 z3
    have qf0 := keepz hb3 z0 f0
    have qf1 := keepz hb3 z1 f1
    have qf2 := keepz hb3 z2 f2
    have qf3 := keepz hb3 z3 f3
    have hl1' : w.heap.size + 1 + 1 + 1 < w3.heap.size := by omega
    have hl2' : w.heap.size + 1 + 1 < w3.heap.size := by omega
    have hl3' : w.heap.size + 1 < w3.heap.size := by omega
    have hl5' : w.heap.size < w3.heap.size := by omega
    have hbt' : bt < w3.heap.size := by omega
    have hl6' : w1.heap.size < w3.heap.size := by omega
    have HM3 := Lib.hid (HM2.out.keep hb3)
    have HT3 := Lib.hid (HT2.out.keep hb3)
    have SG := Lib.hid (fun (W' : World) (hb : Below w3.heap.size w3 W') => failed_any (t := m.ths[k]) (HT3.out.keep hb) (by decide) (by have := NS6.out; omega))
    have WT3 := Lib.hid (fun (W' : World) (hb : Below w3.heap.size w3 W') (t : Bt.Th) (A1 : Option Addr) (c1 : Nat) (A2 : Option Addr) (c2 : Nat) (r1 : IntRow W' w3.heap.size (.slice A1 t.regs.length c1) t.regs) (r2 : IntRow W' w3.heap.size (.slice A2 t.stack.length c2) t.stack) (h1 : t.regs.length ≤ 1048576) (h2 : t.stack.length ≤ 1048576) => withThread_any (k := k) (t := t) (HM3.out.keep hb) HS.out ⟨r1.arg, r2.arg, rfl, rfl⟩ h1 h2)
    rw [HPL.out] at SG HDO
    rw [hst] at SG
    obtain ⟨t', ht'⟩ : ∃ t' : Bt.Th, t' = ⟨pl, m.ths[k].regs, m.ths[k].stack, 2⟩ := ⟨_, rfl⟩
    rw [← ht'] at SG HDO
    have HL : Hid (t'.regs.length ≤ 1048576 ∧ t'.stack.length ≤ 1048576) := Lib.hid ⟨by rw [ht']; exact HLR.out, by rw [ht']; have := HLS.out; simp only; omega⟩
    clear ht' hb3 hcd hf
    clear p0 p1 m0 m1 m2 m3 c0 c1 c2 t0 t1 t2 t3 z0 z1 z2 z3 f0 f1 f2 f3
    have SX := Lib.hid (fun (W' : World) (hb : Below w3.drew.heap.size w3.drew W') => (⟨keeps hb qp0, keeps hb qp1, keeps hb qm0, keeps hb qm1, keeps hb qm2, keeps hb qm3, keeps hb qc0, keeps hb qc1, keeps hb qc2, keeps hb qt0, keeps hb qt1, keeps hb qt2, keeps hb qt3⟩ : W'.cell? ⟨w.heap.size, 0, none⟩ = some (.slice (some ⟨b, o, none⟩) n cap) ∧ W'.cell? ⟨w.heap.size, 1, none⟩ = some (.int .i64 h) ∧ W'.cell? ⟨w.heap.size + 1, 0, none⟩ = some (.slice (some ⟨bt, ot, none⟩) nt ct) ∧ W'.cell? ⟨w.heap.size + 1, 1, none⟩ = some (.slice AC nc cc) ∧ W'.cell? ⟨w.heap.size + 1, 2, none⟩ = some (.slice AL nl cl) ∧ W'.cell? ⟨w.heap.size + 1, 3, none⟩ = some (.slice AD nd cd) ∧ W'.cell? ⟨w.heap.size + 1 + 1, 0, none⟩ = some (.int .i64 (k : Int)) ∧ W'.cell? ⟨w.heap.size + 1 + 1, 1, none⟩ = some (.int .i64 kd) ∧ W'.cell? ⟨w.heap.size + 1 + 1, 2, none⟩ = some (.int .i64 rep) ∧ W'.cell? ⟨w1.heap.size, 0, none⟩ = some (.int .i64 pl) ∧ W'.cell? ⟨w1.heap.size, 1, none⟩ = some (.slice AR 4 cr) ∧ W'.cell? ⟨w1.heap.size, 2, none⟩ = some (.slice AS ns cs) ∧ W'.cell? ⟨w1.heap.size, 3, none⟩ = some (.int .i64 0)))
    have SY := Lib.hid (fun (W' : World) (hb : Below w3.drew.heap.size w3.drew W') (u0 u1 u2 u3 : Value) => by
     have hh := SX.out W' hb
     have e : ∀ (b i : Nat), b ≠ w.heap.size + 1 + 1 + 1 → ((((W'.setCell ⟨w.heap.size + 1 + 1 + 1, 0, none⟩ u0).setCell ⟨w.heap.size + 1 + 1 + 1, 1, none⟩ u1).setCell ⟨w.heap.size + 1 + 1 + 1, 2, none⟩ u2).setCell ⟨w.heap.size + 1 + 1 + 1, 3, none⟩ u3).cell? ⟨b, i, none⟩ = W'.cell? ⟨b, i, none⟩ := fun b i hbi => by
      rw [World.cell?_setCell_far _ _ _ _ (by simp; omega), World.cell?_setCell_far _ _ _ _ (by simp; omega), World.cell?_setCell_far _ _ _ _ (by simp; omega), World.cell?_setCell_far _ _ _ _ (by simp; omega)]
     exact (show ((((W'.setCell ⟨w.heap.size + 1 + 1 + 1, 0, none⟩ u0).setCell ⟨w.heap.size + 1 + 1 + 1, 1, none⟩ u1).setCell ⟨w.heap.size + 1 + 1 + 1, 2, none⟩ u2).setCell ⟨w.heap.size + 1 + 1 + 1, 3, none⟩ u3).cell? ⟨w.heap.size, 0, none⟩ = some (.slice (some ⟨b, o, none⟩) n cap) ∧ ((((W'.setCell ⟨w.heap.size + 1 + 1 + 1, 0, none⟩ u0).setCell ⟨w.heap.size + 1 + 1 + 1, 1, none⟩ u1).setCell ⟨w.heap.size + 1 + 1 + 1, 2, none⟩ u2).setCell ⟨w.heap.size + 1 + 1 + 1, 3, none⟩ u3).cell? ⟨w.heap.size, 1, none⟩ = some (.int .i64 h) ∧ ((((W'.setCell ⟨w.heap.size + 1 + 1 + 1, 0, none⟩ u0).setCell ⟨w.heap.size + 1 + 1 + 1, 1, none⟩ u1).setCell ⟨w.heap.size + 1 + 1 + 1, 2, none⟩ u2).setCell ⟨w.heap.size + 1 + 1 + 1, 3, none⟩ u3).cell? ⟨w.heap.size + 1, 0, none⟩ = some (.slice (some ⟨bt, ot, none⟩) nt ct) ∧ ((((W'.setCell ⟨w.heap.size + 1 + 1 + 1, 0, none⟩ u0).setCell ⟨w.heap.size + 1 + 1 + 1, 1, none⟩ u1).setCell ⟨w.heap.size + 1 + 1 + 1, 2, none⟩ u2).setCell ⟨w.heap.size + 1 + 1 + 1, 3, none⟩ u3).cell? ⟨w.heap.size + 1, 1, none⟩ = some (.slice AC nc cc) ∧ ((((W'.setCell ⟨w.heap.size + 1 + 1 + 1, 0, none⟩ u0).setCell ⟨w.heap.size + 1 + 1 + 1, 1, none⟩ u1).setCell ⟨w.heap.size + 1 + 1 + 1, 2, none⟩ u2).setCell ⟨w.heap.size + 1 + 1 + 1, 3, none⟩ u3).cell? ⟨w.heap.size + 1, 2, none⟩ = some (.slice AL nl cl) ∧ ((((W'.setCell ⟨w.heap.size + 1 + 1 + 1, 0, none⟩ u0).setCell ⟨w.heap.size + 1 + 1 + 1, 1, none⟩ u1).setCell ⟨w.heap.size + 1 + 1 + 1, 2, none⟩ u2).setCell ⟨w.heap.size + 1 + 1 + 1, 3, none⟩ u3).cell? ⟨w.heap.size + 1, 3, none⟩ = some (.slice AD nd cd) ∧ ((((W'.setCell ⟨w.heap.size + 1 + 1 + 1, 0, none⟩ u0).setCell ⟨w.heap.size + 1 + 1 + 1, 1, none⟩ u1).setCell ⟨w.heap.size + 1 + 1 + 1, 2, none⟩ u2).setCell ⟨w.heap.size + 1 + 1 + 1, 3, none⟩ u3).cell? ⟨w.heap.size + 1 + 1, 0, none⟩ = some (.int .i64 (k : Int)) ∧ ((((W'.setCell ⟨w.heap.size + 1 + 1 + 1, 0, none⟩ u0).setCell ⟨w.heap.size + 1 + 1 + 1, 1, none⟩ u1).setCell ⟨w.heap.size + 1 + 1 + 1, 2, none⟩ u2).setCell ⟨w.heap.size + 1 + 1 + 1, 3, none⟩ u3).cell? ⟨w.heap.size + 1 + 1, 1, none⟩ = some (.int .i64 kd) ∧ ((((W'.setCell ⟨w.heap.size + 1 + 1 + 1, 0, none⟩ u0).setCell ⟨w.heap.size + 1 + 1 + 1, 1, none⟩ u1).setCell ⟨w.heap.size + 1 + 1 + 1, 2, none⟩ u2).setCell ⟨w.heap.size + 1 + 1 + 1, 3, none⟩ u3).cell? ⟨w.heap.size + 1 + 1, 2, none⟩ = some (.int .i64 rep) ∧ ((((W'.setCell ⟨w.heap.size + 1 + 1 + 1, 0, none⟩ u0).setCell ⟨w.heap.size + 1 + 1 + 1, 1, none⟩ u1).setCell ⟨w.heap.size + 1 + 1 + 1, 2, none⟩ u2).setCell ⟨w.heap.size + 1 + 1 + 1, 3, none⟩ u3).cell? ⟨w1.heap.size, 0, none⟩ = some (.int .i64 pl) ∧ ((((W'.setCell ⟨w.heap.size + 1 + 1 + 1, 0, none⟩ u0).setCell ⟨w.heap.size + 1 + 1 + 1, 1, none⟩ u1).setCell ⟨w.heap.size + 1 + 1 + 1, 2, none⟩ u2).setCell ⟨w.heap.size + 1 + 1 + 1, 3, none⟩ u3).cell? ⟨w1.heap.size, 1, none⟩ = some (.slice AR 4 cr) ∧ ((((W'.setCell ⟨w.heap.size + 1 + 1 + 1, 0, none⟩ u0).setCell ⟨w.heap.size + 1 + 1 + 1, 1, none⟩ u1).setCell ⟨w.heap.size + 1 + 1 + 1, 2, none⟩ u2).setCell ⟨w.heap.size + 1 + 1 + 1, 3, none⟩ u3).cell? ⟨w1.heap.size, 2, none⟩ = some (.slice AS ns cs) ∧ ((((W'.setCell ⟨w.heap.size + 1 + 1 + 1, 0, none⟩ u0).setCell ⟨w.heap.size + 1 + 1 + 1, 1, none⟩ u1).setCell ⟨w.heap.size + 1 + 1 + 1, 2, none⟩ u2).setCell ⟨w.heap.size + 1 + 1 + 1, 3, none⟩ u3).cell? ⟨w1.heap.size, 3, none⟩ = some (.int .i64 0) from by rw [e _ _ (by omega), e _ _ (by omega), e _ _ (by omega), e _ _ (by omega), e _ _ (by omega), e _ _ (by omega), e _ _ (by omega), e _ _ (by omega), e _ _ (by omega), e _ _ (by omega), e _ _ (by omega), e _ _ (by omega), e _ _ (by omega)]; exact hh))
    go_wp2_with fail
    go_region_held3 (fun W' => W'.cell? ⟨w.heap.size, 0, none⟩ = some (.slice (some ⟨b, o, none⟩) n cap) ∧ W'.cell? ⟨w.heap.size, 1, none⟩ = some (.int .i64 h) ∧ W'.cell? ⟨w.heap.size + 1, 0, none⟩ = some (.slice (some ⟨bt, ot, none⟩) nt ct) ∧ W'.cell? ⟨w.heap.size + 1, 1, none⟩ = some (.slice AC nc cc) ∧ W'.cell? ⟨w.heap.size + 1, 2, none⟩ = some (.slice AL nl cl) ∧ W'.cell? ⟨w.heap.size + 1, 3, none⟩ = some (.slice AD nd cd) ∧ W'.cell? ⟨w.heap.size + 1 + 1, 0, none⟩ = some (.int .i64 (k : Int)) ∧ W'.cell? ⟨w.heap.size + 1 + 1, 1, none⟩ = some (.int .i64 kd) ∧ W'.cell? ⟨w.heap.size + 1 + 1, 2, none⟩ = some (.int .i64 rep) ∧ W'.cell? ⟨w1.heap.size, 0, none⟩ = some (.int .i64 pl) ∧ W'.cell? ⟨w1.heap.size, 1, none⟩ = some (.slice AR 4 cr) ∧ W'.cell? ⟨w1.heap.size, 2, none⟩ = some (.slice AS ns cs) ∧ W'.cell? ⟨w1.heap.size, 3, none⟩ = some (.int .i64 0))
     (first | (exact SX.out _ hb4) | (exact SX.out _ hb45) | (exact SY.out _ hb45 _ _ _ _) | go_keep)
     (first | (go_at_call 113; refine (SG.out _ (Below.refl _ _).drew).mono ?_; rintro e w4 ⟨A1, c1, A2, c2, rfl, hb4, hr4, hs4, ha4⟩; have hb4' : Below w3.heap.size w3 w4 := (Below.refl _ _).drew.trans hb4) | (go_at_call 110; refine (WT3.out w4 hb4' t' A1 c1 A2 c2 hr4 hs4 HL.out.1 HL.out.2).mono ?_; rintro e w5 ⟨vt, vc, vl, vd, xs, rfl, hb5, ho5⟩; obtain ⟨AT4, ct4, AC4, cc4, AL4, cl4, AD4, cd4, rfl, rfl, rfl, rfl⟩ := ho5.slices; have hb45 : Below w3.drew.heap.size w3.drew w5 := hb4.trans (hb5.mono hb4.size); have k0 := keeps hb45 qz0; have i0 := keepz (W := w3.drew) hb45 qz0 qf0; have k1 := keeps hb45 qz1; have i1 := keepz (W := w3.drew) hb45 qz1 qf1; have k2 := keeps hb45 qz2; have i2 := keepz (W := w3.drew) hb45 qz2 qf2; have k3 := keeps hb45 qz3; have i3 := keepz (W := w3.drew) hb45 qz3 qf3))
    go_wp2
    refine bodyPost_ret (v := .tuple #[.agg #[.slice AT4 m.ths.length ct4, .slice AC4 m.cells.length cc4, .slice AL4 m.locks.length cl4, .slice AD4 m.told.length cd4], .bool true]) (by simp [results, Try.results75, go_sem, k0, k1, k2, k3]) rfl ?_
    unfold DoMade
    rw [HDO.out]
    refine ⟨_, _, _, _, xs, rfl, ?_, ?_⟩
    ·repeat (refine Below.setCell ?_ (by simp; try omega) _)
     exact B3.out.trans ((show Below w3.heap.size w3 w3.drew from (Below.refl _ _).drew).trans hb45 |>.mono B3.out.size)
    ·refine OwnMc.mono (B := w3.heap.size) ?_ (by omega)
     repeat (refine OwnMc.setOther ?_ _ (by simp; try omega))
     exact (by have q := ho5.mono hb4'.size; simp only [List.length_set] at q; exact q)
end Go.Proofs.Ytminfkedkkkhdaa
