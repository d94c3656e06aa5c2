/-
  Part of a proof: CanDB. No condition.
-/
import Derived.Test.YtminfkedkkkhdaaZAap
namespace Go.Proofs.Ytminfkedkkkhdaa
open Go.RowKit
namespace Bt
def waitsI (m : Mc) (x : C4) : Bool := if x.op = 15 then m.locks.getD x.c.toNat (-1) != -1 else if x.op = 14 then decide (1000 ≤ m.told.length) else false
theorem waitsI_lock {m : Mc} {x : C4} (h : x.op = 15) {q : Nat} (hq : q < m.locks.length) (hc : x.c = q) : waitsI m x = (m.locks[q] != -1) := by
 unfold waitsI
 rw [if_pos h, hc]
 simp [hq]
theorem waitsI_tell {m : Mc} {x : C4} (h : x.op = 14) : waitsI m x = decide (1000 ≤ m.told.length) := by
 unfold waitsI
 rw [if_neg (by omega), if_pos h]
theorem waitsI_else {m : Mc} {x : C4} (h1 : x.op ≠ 15) (h2 : x.op ≠ 14) : waitsI m x = false := by
 unfold waitsI
 rw [if_neg h1, if_neg h2]
theorem canDoI_waits {m : Mc} {x : C4} {rep : Int} (h : x.op ≠ 13) : canDoI m x rep = (rep == 0 && !waitsI m x) := by
 unfold canDoI waitsI
 by_cases h15 : x.op = 15
 ·rw [if_pos h15, if_pos h15, Bool.and_comm]; simp [bne]
 ·rw [if_neg h15, if_neg h15]
  by_cases h14 : x.op = 14
  ·rw [if_pos h14, if_pos h14, Bool.and_comm]
   congr 1
   by_cases hl : m.told.length < 1000
   ·rw [decide_eq_true hl, decide_eq_false (by omega)]; rfl
   ·rw [decide_eq_false hl, decide_eq_true (by omega)]; rfl
  ·rw [if_neg h14, if_neg h14, if_neg h]; simp
def stepI (rs : List C4) (m : Mc) (t : Th) (rep : Int) : Bool := if rs.length ≤ t.pl then rep == 0 else match rs[t.pl.toNat]? with
 | some x => canDoI m x rep
 | none => false
theorem stepI_end {rs : List C4} {m : Mc} {t : Th} {rep : Int} (h : (rs.length : Int) ≤ t.pl) : stepI rs m t rep = (rep == 0) := by unfold stepI; rw [if_pos h]
theorem stepI_at {rs : List C4} {m : Mc} {t : Th} {rep : Int} {j : Nat} (h : j < rs.length) (e : t.pl = j) : stepI rs m t rep = canDoI m rs[j] rep := by
 unfold stepI
 rw [if_neg (by omega), e]
 simp [h]
theorem canDo_step {rs : List C4} {h : Int} {m : Mc} {k : Nat} {rep : Int} (hm : machOk rs h m = true) (hk : k < m.ths.length) (hst : m.ths[k].st = 0) : canDo rs h m ⟨(k : Int), 0, rep⟩ = stepI rs m m.ths[k] rep := by
 have hlo := (thOk_facts ((machOk_facts hm).th k hk)).lo
 by_cases he : (rs.length : Int) ≤ m.ths[k].pl
 ·rw [canDo_end hm hk hst (instrOf_end hk he), stepI_end he]
 ·obtain ⟨j, hj⟩ : ∃ j : Nat, m.ths[k].pl = j := ⟨m.ths[k].pl.toNat, by omega⟩
  have hjl : j < rs.length := by omega
  rw [canDo_at hm hk hst (instrOf_at hm hk hst hjl hj), stepI_at hjl hj]
end Bt
set_option maxHeartbeats 1000000 in
theorem waits_any {AT AC AL AD : Option Addr} {nt ct nc cc nl cl nd cd : Nat} {m : Bt.Mc} {w : World} (op a b c : Int) (H : ArgMc w AT nt ct AC nc cc AL nl cl AD nd cd m) (hl : m.locks.length = 2) (hd : m.told.length ≤ 1000) (hc : Bt.codeOk op a b c = true) :
  Calls Try.prog 134 #[.agg #[.slice AT nt ct, .slice AC nc cc, .slice AL nl cl, .slice AD nd cd], .agg #[.int .i64 op, .int .i64 a, .int .i64 b, .int .i64 c]] w fun e w' => e = .returned (.bool (Bt.waitsI m ⟨op, a, b, c⟩)) ∧ Below w.heap.size w w' := by
 have hL := H.nL
 have hD := H.nD
 have HH := Lib.hid H; clear H
 have B0 : Below w.heap.size w ((w.alloc (.cells #[.slice AT nt ct, .slice AC nc cc, .slice AL nl cl, .slice AD nd cd] 31)).alloc (.cells #[.int .i64 op, .int .i64 a, .int .i64 b, .int .i64 c] 96)) := ((Below.refl _ _).alloc (Nat.le_refl _) _).alloc (by simp) _
 by_cases o15 : op = 15
 ·subst o15
  obtain ⟨q0, q1⟩ := Bt.lock_bounds hc (.inl rfl)
  obtain ⟨q, rfl⟩ : ∃ q : Nat, c = q := ⟨c.toNat, by omega⟩
  have hq : q < m.locks.length := by omega
  rw [Bt.waitsI_lock rfl hq rfl]
  obtain ⟨lcap, lat⟩ := HH.out.locks.at_ hL
  obtain ⟨bl, ol, rfl, fl⟩ := lat q hq
  have hbl : bl < w.heap.size := cell_lt fl
  have hqn : q < nl := by omega
  generalize m.locks[q] = lk at *
  clear lat hL hl hq q0 q1 hc hd hD
  go_enter Try.func134, Try.ntmps134
  go_wp2
  go_ret
  exact ⟨rfl, B0⟩
 ·have d15 : (op == 15) = false := by rw [beq_eq_false_iff_ne]; exact o15
  by_cases o14 : op = 14
  ·subst o14
   rw [Bt.waitsI_tell rfl]
   have HT : Hid ((decide ((1000 : Int) ≤ (nd : Int))) = decide (1000 ≤ m.told.length)) := Lib.hid (by rw [hD]; exact decide_eq_decide.2 (by omega))
   clear hL hl hc hd hD
   go_enter Try.func134, Try.ntmps134
   go_wp2
   go_ret
   exact ⟨ret_bool HT.out, B0⟩
  ·have d14 : (op == 14) = false := by rw [beq_eq_false_iff_ne]; exact o14
   rw [Bt.waitsI_else o15 o14]
   clear hL hl hc hd hD o15 o14
   go_enter Try.func134, Try.ntmps134
   go_wp2
   go_ret
   exact ⟨rfl, B0⟩
set_option maxRecDepth 100000 in
set_option maxHeartbeats 2000000 in
theorem canStep_any {AT AC AL AD : Option Addr} {nt ct nc cc nl cl nd cd b o n cap : Nat} {m : Bt.Mc} {rs : List Bt.C4} (h kd rep : Int) (k : Nat) (w : World) (P : ArgPr w b o n cap rs)
  (H : ArgMc w AT nt ct AC nc cc AL nl cl AD nd cd m) (S : Small m) (hm : Bt.machOk rs h m = true) (hk' : k < m.ths.length) :
  Calls Try.prog 123 #[.agg #[.slice (some ⟨b, o, none⟩) n cap, .int .i64 h], .agg #[.slice AT nt ct, .slice AC nc cc, .slice AL nl cl, .slice AD nd cd], .agg #[.int .i64 (k : Int), .int .i64 kd, .int .i64 rep]] w fun e w' => e = .returned (.bool (Bt.stepI rs m m.ths[k] rep)) ∧ Below w.heap.size w w' := by
 have hk : k < nt := by rw [← H.nT]; exact hk'
 have hle := H.ths.2.1
 have hcp := P.cap
 have hnP := P.nP
 have HP := Lib.hid P; clear P
 have HH := Lib.hid H; clear H
 have HS := Lib.hid S; clear S
 have MF := Lib.hid (Bt.machOk_facts hm)
 have L0 := (Bt.thOk_facts (MF.out.th k hk')).lo
 have BB := Lib.hid ((((Below.refl w.heap.size w).alloc (Nat.le_refl _) (.cells #[.slice (some ⟨b, o, none⟩) n cap, .int .i64 h] 36)).alloc (by simp) (.cells #[.slice AT nt ct, .slice AC nc cc, .slice AL nl cl, .slice AD nd cd] 31)).alloc (by simp; omega) (.cells #[.int .i64 (k : Int), .int .i64 kd, .int .i64 rep] 80))
 obtain ⟨bt, ot, rfl, ht⟩ := (HH.out.keep BB.out).ths.2.2 k hk'
 obtain ⟨AR, cr, AS, cs, HT, f0, f1, f2, f3⟩ := ht.open
 clear ht HT
 generalize hth : m.ths[k] = th at *
 obtain ⟨pl, rg, sk, st⟩ := th
 simp only at *
 by_cases c4 : (n : Int) ≤ pl
 ·rw [Bt.stepI_end (by rw [hnP]; exact c4)]
  generalize rg.length = nr at *
  generalize sk.length = ns at *
  clear hth
  go_enter Try.func123, Try.ntmps123
  go_wp2_with fail
  refine (behindEnd_any b o n cap h pl st AR AS nr cr ns cs _).mono ?_
  rw [decide_eq_true c4]
  rintro e w1 ⟨rfl, hb1⟩
  have hy : w.heap.size + 1 + 1 < w1.heap.size := by have := hb1.size; simp at this; omega
  have c2 : w1.cell? ⟨w.heap.size + 1 + 1, 2, none⟩ = some (.int .i64 rep) := keeps hb1 (by go_simp)
  have W1 := Lib.hid ((BB.out.alloc (by simp; omega) _).trans (hb1.mono (by simp; omega)))
  clear hb1
  go_wp2
  go_ret
  exact ⟨rfl, W1.out⟩
 ·obtain ⟨j, rfl⟩ : ∃ j : Nat, pl = j := ⟨pl.toNat, by omega⟩
  have hjn : j < n := by omega
  have hjr : j < rs.length := by rw [hnP]; exact hjn
  have HE := Lib.hid (Bt.stepI_at (m := m) (t := ⟨(j : Int), rg, sk, st⟩) (rep := rep) hjr rfl)
  rw [HE.out]
  have HC := Lib.hid (Bt.progOk_code MF.out.prog hjr)
  have hbo : b < w.heap.size := cell_lt (HP.out.codes j hjr).1
  obtain ⟨g0, g1, g2, g3⟩ := (HP.out.keep BB.out).codes j hjr
  generalize rg.length = nr at *
  generalize sk.length = ns at *
  generalize rs[j] = r at *
  obtain ⟨op, xa, xb, xc⟩ := r
  simp only at *
  clear hth HE L0 hm
  go_enter Try.func123, Try.ntmps123
  go_wp2_with fail
  refine (behindEnd_any b o n cap h (j : Int) st AR AS nr cr ns cs _).mono ?_
  rw [decide_eq_false (by omega)]
  rintro e w1 ⟨rfl, hb1⟩
  have hy : w.heap.size + 1 + 1 + 1 < w1.heap.size := by have := hb1.size; simp at this; omega
  have hy2 : w.heap.size + 1 + 1 < w1.heap.size := by omega
  have hy1 : w.heap.size + 1 < w1.heap.size := by omega
  have hy0 : w.heap.size < w1.heap.size := by omega
  have hyb : b < w1.heap.size := by omega
  have p0 : w1.cell? ⟨w.heap.size, 0, none⟩ = some (.slice (some ⟨b, o, none⟩) n cap) := keeps hb1 (by go_simp)
  have m0 : w1.cell? ⟨w.heap.size + 1, 0, none⟩ = some (.slice (some ⟨bt, ot, none⟩) nt ct) := keeps hb1 (by go_simp)
  have m1 : w1.cell? ⟨w.heap.size + 1, 1, none⟩ = some (.slice AC nc cc) := keeps hb1 (by go_simp)
  have m2 : w1.cell? ⟨w.heap.size + 1, 2, none⟩ = some (.slice AL nl cl) := keeps hb1 (by go_simp)
  have m3 : w1.cell? ⟨w.heap.size + 1, 3, none⟩ = some (.slice AD nd cd) := keeps hb1 (by go_simp)
  have c2 : w1.cell? ⟨w.heap.size + 1 + 1, 2, none⟩ = some (.int .i64 rep) := keeps hb1 (by go_simp)
  have t0 : w1.cell? ⟨w.heap.size + 1 + 1 + 1, 0, none⟩ = some (.int .i64 (j : Int)) := keeps hb1 (by go_simp)
  have e0 : w1.cell? ⟨b, o + j * 4, none⟩ = some (.int .i64 op) := keeps hb1 (keeps ((Below.refl _ _).alloc (Nat.le_refl _) _) g0)
  have e1 : w1.cell? ⟨b, o + j * 4 + 1, none⟩ = some (.int .i64 xa) := keeps hb1 (keeps ((Below.refl _ _).alloc (Nat.le_refl _) _) g1)
  have e2 : w1.cell? ⟨b, o + j * 4 + 2, none⟩ = some (.int .i64 xb) := keeps hb1 (keeps ((Below.refl _ _).alloc (Nat.le_refl _) _) g2)
  have e3 : w1.cell? ⟨b, o + j * 4 + 3, none⟩ = some (.int .i64 xc) := keeps hb1 (keeps ((Below.refl _ _).alloc (Nat.le_refl _) _) g3)
  have W1 := Lib.hid ((BB.out.alloc (by simp; omega) _).trans (hb1.mono (by simp; omega)))
  have hsz : w.heap.size ≤ w1.heap.size := by omega
  have HH1 := Lib.hid (HH.out.keep W1.out)
  clear hb1 f0 f1 f2 f3 g0 g1 g2 g3
  by_cases o13 : op = 13
  ·subst o13
   have HL := Lib.hid (Bt.canDoI_ask (m := m) (x := ⟨13, xa, xb, xc⟩) (rep := rep) rfl)
   by_cases r0 : 0 ≤ rep
   ·have HT := Lib.hid (decide_eq_true (p := 0 ≤ rep) r0)
    go_wp2
    go_ret
    exact ⟨ret_bool (by rw [HL.out, HT.out]; simp), W1.out.alloc (by omega) _⟩
   ·have HT := Lib.hid (decide_eq_false (p := 0 ≤ rep) (by omega))
    go_wp2
    go_ret
    exact ⟨ret_bool (by rw [HL.out, HT.out]; simp), W1.out.alloc (by omega) _⟩
  ·have d13 : (op == 13) = false := by rw [beq_eq_false_iff_ne]; exact o13
   have HL := Lib.hid (Bt.canDoI_waits (m := m) (x := ⟨op, xa, xb, xc⟩) (rep := rep) o13)
   clear o13
   by_cases r0 : rep = 0
   ·subst r0
    go_wp2_with fail
    refine (waits_any op xa xb xc (HH1.out.keep ((Below.refl _ _).alloc (Nat.le_refl _) _)) MF.out.locks MF.out.told HC.out).mono ?_
    rintro e w2 ⟨rfl, hb2⟩
    go_wp2
    go_ret
    exact ⟨ret_bool (by rw [HL.out]; simp), (W1.out.alloc (by omega) _).trans (hb2.mono (by simp; omega))⟩
   ·have HT := Lib.hid (beq_eq_false_iff_ne.2 r0)
    have r0' : (rep == 0) = false := HT.out
    clear r0
    go_wp2
    go_ret
    exact ⟨ret_bool (by rw [HL.out, HT.out]; simp), W1.out.alloc (by omega) _⟩
set_option maxRecDepth 100000 in
set_option maxHeartbeats 2000000 in
theorem implCanDo_any {AT AC AL AD : Option Addr} {nt ct nc cc nl cl nd cd b o n cap : Nat} {m : Bt.Mc} {rs : List Bt.C4} (h : Int) (c : Bt.Ch) (w : World) (P : ArgPr w b o n cap rs)
  (H : ArgMc w AT nt ct AC nc cc AL nl cl AD nd cd m) (S : Small m) :
  Calls Try.prog 102 #[.agg #[.slice (some ⟨b, o, none⟩) n cap, .int .i64 h], .agg #[.slice AT nt ct, .slice AC nc cc, .slice AL nl cl, .slice AD nd cd], .agg #[.int .i64 c.who, .int .i64 c.kind, .int .i64 c.reply]] w fun e w' => e = .returned (.bool (Bt.canDo rs h m c)) ∧ Below w.heap.size w w' := by
 obtain ⟨who, kd, rep⟩ := c
 simp only
 have hT := Lib.hid H.nT
 have hle := H.ths.2.1
 have hcp := P.cap
 have hnP := Lib.hid P.nP
 have HP := Lib.hid P; clear P
 have HH := Lib.hid H; clear H
 have HS := Lib.hid S; clear S
 have BB := Lib.hid ((((Below.refl w.heap.size w).alloc (Nat.le_refl _) (.cells #[.slice (some ⟨b, o, none⟩) n cap, .int .i64 h] 36)).alloc (by simp) (.cells #[.slice AT nt ct, .slice AC nc cc, .slice AL nl cl, .slice AD nd cd] 31)).alloc (by simp; omega) (.cells #[.int .i64 who, .int .i64 kd, .int .i64 rep] 80))
 cases hp : Bt.machOk rs h m
 ·have HF := Lib.hid (Bt.canDo_no (c := ⟨who, kd, rep⟩) (.inl hp))
  go_enter Try.func102, Try.ntmps102
  go_wp2_with fail
  refine (implMachineOk_any h _ (HP.out.keep BB.out) (HH.out.keep BB.out) HS.out).mono ?_
  rw [hp]
  rintro e w1 ⟨rfl, hb1⟩
  have hz : w.heap.size + 1 + 1 < w1.heap.size := by have := hb1.size; simp at this; omega
  have hz1 : w.heap.size + 1 < w1.heap.size := by omega
  have hz0 : w.heap.size < w1.heap.size := by omega
  have p0 : w1.cell? ⟨w.heap.size, 0, none⟩ = some (.slice (some ⟨b, o, none⟩) n cap) := keeps hb1 (by go_simp)
  have p1 : w1.cell? ⟨w.heap.size, 1, none⟩ = some (.int .i64 h) := keeps hb1 (by go_simp)
  have m0 : w1.cell? ⟨w.heap.size + 1, 0, none⟩ = some (.slice AT nt ct) := keeps hb1 (by go_simp)
  have m1 : w1.cell? ⟨w.heap.size + 1, 1, none⟩ = some (.slice AC nc cc) := keeps hb1 (by go_simp)
  have m2 : w1.cell? ⟨w.heap.size + 1, 2, none⟩ = some (.slice AL nl cl) := keeps hb1 (by go_simp)
  have m3 : w1.cell? ⟨w.heap.size + 1, 3, none⟩ = some (.slice AD nd cd) := keeps hb1 (by go_simp)
  have c0 : w1.cell? ⟨w.heap.size + 1 + 1, 0, none⟩ = some (.int .i64 who) := keeps hb1 (by go_simp)
  have c1 : w1.cell? ⟨w.heap.size + 1 + 1, 1, none⟩ = some (.int .i64 kd) := keeps hb1 (by go_simp)
  have c2 : w1.cell? ⟨w.heap.size + 1 + 1, 2, none⟩ = some (.int .i64 rep) := keeps hb1 (by go_simp)
  have W1 := Lib.hid (BB.out.trans (hb1.mono (by simp; omega)))
  have hsz : w.heap.size ≤ w1.heap.size := by omega
  clear hb1
  go_wp2
  go_ret
  refine ⟨ret_bool HF.out.symm, ?_⟩
  repeat (first | (refine Below.setCell ?_ (by first | omega | (simp; done) | (simp; omega)) _) | (refine Below.alloc ?_ (by first | omega | (simp; done) | (simp; omega)) _))
  exact W1.out
 ·have MF := Lib.hid (Bt.machOk_facts hp)
  go_enter Try.func102, Try.ntmps102
  go_wp2_with fail
  refine (implMachineOk_any h _ (HP.out.keep BB.out) (HH.out.keep BB.out) HS.out).mono ?_
  rw [hp]
  rintro e w1 ⟨rfl, hb1⟩
  have hz : w.heap.size + 1 + 1 < w1.heap.size := by have := hb1.size; simp at this; omega
  have hz1 : w.heap.size + 1 < w1.heap.size := by omega
  have hz0 : w.heap.size < w1.heap.size := by omega
  have p0 : w1.cell? ⟨w.heap.size, 0, none⟩ = some (.slice (some ⟨b, o, none⟩) n cap) := keeps hb1 (by go_simp)
  have p1 : w1.cell? ⟨w.heap.size, 1, none⟩ = some (.int .i64 h) := keeps hb1 (by go_simp)
  have m0 : w1.cell? ⟨w.heap.size + 1, 0, none⟩ = some (.slice AT nt ct) := keeps hb1 (by go_simp)
  have m1 : w1.cell? ⟨w.heap.size + 1, 1, none⟩ = some (.slice AC nc cc) := keeps hb1 (by go_simp)
  have m2 : w1.cell? ⟨w.heap.size + 1, 2, none⟩ = some (.slice AL nl cl) := keeps hb1 (by go_simp)
  have m3 : w1.cell? ⟨w.heap.size + 1, 3, none⟩ = some (.slice AD nd cd) := keeps hb1 (by go_simp)
  have c0 : w1.cell? ⟨w.heap.size + 1 + 1, 0, none⟩ = some (.int .i64 who) := keeps hb1 (by go_simp)
  have c1 : w1.cell? ⟨w.heap.size + 1 + 1, 1, none⟩ = some (.int .i64 kd) := keeps hb1 (by go_simp)
  have c2 : w1.cell? ⟨w.heap.size + 1 + 1, 2, none⟩ = some (.int .i64 rep) := keeps hb1 (by go_simp)
  have W1 := Lib.hid (BB.out.trans (hb1.mono (by simp; omega)))
  have hsz : w.heap.size ≤ w1.heap.size := by omega
  clear hb1
  have HP1 := Lib.hid (HP.out.keep W1.out)
  have HH1 := Lib.hid (HH.out.keep W1.out)
  cases hr : Bt.runs m who
  ·have HF := Lib.hid (Bt.canDo_no (rs := rs) (h := h) (m := m) (c := ⟨who, kd, rep⟩) (.inr hr))
   go_wp2_with fail
   refine (threadRuns_any who HH1.out).mono ?_
   rw [hr]
   rintro e w2 ⟨rfl, hb2⟩
   have W2 := Lib.hid (W1.out.trans (hb2.mono hsz))
   go_wp2
   go_ret
   exact ⟨ret_bool HF.out.symm, W2.out⟩
  ·have hlr := Bt.runs_lt hr
   rw [hT.out] at hlr
   obtain ⟨k, rfl⟩ : ∃ k : Nat, who = k := ⟨who.toNat, by omega⟩
   have hk : k < nt := by omega
   have hk' : k < m.ths.length := by rw [hT.out]; exact hk
   have c3 : m.ths[k].st = 0 := by rw [Bt.runs_in hk', beq_iff_eq] at hr; exact hr
   clear hlr
   go_wp2_with fail
   refine (threadRuns_any (k : Int) HH1.out).mono ?_
   rw [hr]
   rintro e w2 ⟨rfl, hb2⟩
   have s2 := hb2.size
   have q0 := keeps hb2 p0
   have q1 := keeps hb2 p1
   have n0 := keeps hb2 m0
   have n1 := keeps hb2 m1
   have n2 := keeps hb2 m2
   have n3 := keeps hb2 m3
   have d0 := keeps hb2 c0
   have d1 := keeps hb2 c1
   have d2 := keeps hb2 c2
   have hsz2 : w.heap.size ≤ w2.heap.size := by omega
   have W2 := Lib.hid (W1.out.trans (hb2.mono hsz))
   have HP2 := Lib.hid (HP1.out.keep hb2)
   have HH2 := Lib.hid (HH1.out.keep hb2)
   clear p0 p1 m0 m1 m2 m3 c0 c1 c2 hb2 hr hz hz0 hz1
   by_cases k0 : kd = 0
   ·subst k0
    have HE := Lib.hid (Bt.canDo_step (rep := rep) hp hk' c3)
    go_wp2_with fail
    refine (canStep_any h 0 rep k _ HP2.out HH2.out HS.out hp hk').mono ?_
    rintro e w3 ⟨rfl, hb3⟩
    go_wp2
    go_ret
    exact ⟨ret_bool HE.out.symm, W2.out.trans (hb3.mono hsz2)⟩
   ·have dk0 : (kd == 0) = false := by rw [beq_eq_false_iff_ne]; exact k0
    by_cases k1 : kd = 1
    ·subst k1
     have HE := Lib.hid (Bt.canDo_sig (rep := rep) hp hk' c3)
     obtain ⟨bt, ot, rfl, ht⟩ := HH2.out.ths.2.2 k hk'
     obtain ⟨AR, cr, AS, cs, HT, f0, f1, f2, f3⟩ := ht.open
     clear ht HT
     generalize m.ths[k].stack.length = ns at *
     clear f0 f1 f3 c3 k0
     by_cases h0 : 0 ≤ h
     ·by_cases h6 : ns < 6
      ·go_wp2
       go_ret
       exact ⟨ret_bool (by rw [HE.out, decide_eq_true h0, decide_eq_true h6]; simp), W2.out⟩
      ·go_wp2
       go_ret
       exact ⟨ret_bool (by rw [HE.out, decide_eq_false (p := ns < 6) (by omega)]; simp), W2.out⟩
     ·go_wp2
      go_ret
      exact ⟨ret_bool (by rw [HE.out, decide_eq_false (p := 0 ≤ h) (by omega)]; simp), W2.out⟩
    ·have dk1 : (kd == 1) = false := by rw [beq_eq_false_iff_ne]; exact k1
     have HE := Lib.hid (Bt.canDo_else (rep := rep) hp hk' c3 k1 k0)
     clear k0 k1
     go_wp2
     go_ret
     exact ⟨ret_bool HE.out.symm, W2.out⟩
end Go.Proofs.Ytminfkedkkkhdaa
