/-
  Part of a proof: CanD. No condition.
-/
import Derived.Test.YtminfkedkkkhdaaZAao
namespace Go.Proofs.Ytminfkedkkkhdaa
open Go.RowKit
namespace Bt
structure Ch where
 who : Int
 kind : Int
 reply : Int
def canDoI (m : Mc) (x : C4) (rep : Int) : Bool :=
 if x.op = 15 then (m.locks.getD x.c.toNat (-1) == -1) && rep == 0
 else if x.op = 14 then decide (m.told.length < 1000) && rep == 0
 else if x.op = 13 then decide (0 ≤ rep) && decide (rep < 10000)
 else rep == 0
def canDo (rs : List C4) (h : Int) (m : Mc) (c : Ch) : Bool := machOk rs h m && (match thAt m c.who with
 | none => false
 | some t => t.st == 0 && (if c.kind = 1 then decide (0 ≤ h) && decide (t.stack.length < 6) && c.reply == 0 else if c.kind = 0 then (match instrOf rs h m c.who with
  | none => c.reply == 0
  | some x => canDoI m x c.reply) else false))
theorem canDo_no {rs : List C4} {h : Int} {m : Mc} {c : Ch} (hh : machOk rs h m = false ∨ runs m c.who = false) : canDo rs h m c = false := by
 unfold canDo
 rcases hh with e | e
 ·rw [e, Bool.false_and]
 ·unfold runs at e
  cases ht : thAt m c.who with
  | none => simp
  | some t => rw [ht] at e; simp only at e ⊢; rw [e]; simp
theorem canDo_in {rs : List C4} {h : Int} {m : Mc} {k : Nat} {kd rep : Int} (hm : machOk rs h m = true) (hk : k < m.ths.length) (hst : m.ths[k].st = 0) :
  canDo rs h m ⟨(k : Int), kd, rep⟩ = (if kd = 1 then decide (0 ≤ h) && decide (m.ths[k].stack.length < 6) && rep == 0 else if kd = 0 then (match instrOf rs h m (k : Int) with
  | none => rep == 0
  | some x => canDoI m x rep) else false) := by
 unfold canDo
 rw [hm, Bool.true_and]
 simp only
 rw [thAt_in hk]
 simp only
 rw [hst]
 simp
theorem canDo_sig {rs : List C4} {h : Int} {m : Mc} {k : Nat} {rep : Int} (hm : machOk rs h m = true) (hk : k < m.ths.length) (hst : m.ths[k].st = 0) : canDo rs h m ⟨(k : Int), 1, rep⟩ = (decide (0 ≤ h) && decide (m.ths[k].stack.length < 6) && rep == 0) := by
 rw [canDo_in hm hk hst, if_pos rfl]
theorem canDo_else {rs : List C4} {h : Int} {m : Mc} {k : Nat} {kd rep : Int} (hm : machOk rs h m = true) (hk : k < m.ths.length) (hst : m.ths[k].st = 0) (h1 : kd ≠ 1) (h0 : kd ≠ 0) : canDo rs h m ⟨(k : Int), kd, rep⟩ = false := by
 rw [canDo_in hm hk hst, if_neg h1, if_neg h0]
theorem canDo_end {rs : List C4} {h : Int} {m : Mc} {k : Nat} {rep : Int} (hm : machOk rs h m = true) (hk : k < m.ths.length) (hst : m.ths[k].st = 0) (hi : instrOf rs h m (k : Int) = none) : canDo rs h m ⟨(k : Int), 0, rep⟩ = (rep == 0) := by
 rw [canDo_in hm hk hst, if_neg (by omega), if_pos rfl, hi]
theorem canDo_at {rs : List C4} {h : Int} {m : Mc} {k : Nat} {rep : Int} {x : C4} (hm : machOk rs h m = true) (hk : k < m.ths.length) (hst : m.ths[k].st = 0) (hi : instrOf rs h m (k : Int) = some x) : canDo rs h m ⟨(k : Int), 0, rep⟩ = canDoI m x rep := by
 rw [canDo_in hm hk hst, if_neg (by omega), if_pos rfl, hi]
theorem canDoI_lock {m : Mc} {x : C4} {rep : Int} (h : x.op = 15) {q : Nat} (hq : q < m.locks.length) (hc : x.c = q) : canDoI m x rep = ((m.locks[q] == -1) && rep == 0) := by
 unfold canDoI
 rw [if_pos h, hc]
 simp [hq]
theorem canDoI_tell {m : Mc} {x : C4} {rep : Int} (h : x.op = 14) : canDoI m x rep = (decide (m.told.length < 1000) && rep == 0) := by
 unfold canDoI
 rw [if_neg (by omega), if_pos h]
theorem canDoI_ask {m : Mc} {x : C4} {rep : Int} (h : x.op = 13) : canDoI m x rep = (decide (0 ≤ rep) && decide (rep < 10000)) := by
 unfold canDoI
 rw [if_neg (by omega), if_neg (by omega), if_pos h]
theorem canDoI_else {m : Mc} {x : C4} {rep : Int} (h1 : x.op ≠ 15) (h2 : x.op ≠ 14) (h3 : x.op ≠ 13) : canDoI m x rep = (rep == 0) := by
 unfold canDoI
 rw [if_neg h1, if_neg h2, if_neg h3]
theorem lock_bounds {op a b c : Int} (h : codeOk op a b c = true) (h2 : op = 15 ∨ op = 16) : 0 ≤ c ∧ c < 2 := by
 rcases h2 with rfl | rfl <;> simp [codeOk, uOk, uA, uB, uC, topC, below] at h <;> omega
theorem progOk_good {rs : List C4} {h : Int} (hp : progOk rs h = true) {j : Nat} (hj : j < rs.length) : good rs.length rs[j] = true := by
 simp only [progOk, Bool.and_eq_true, List.all_eq_true] at hp
 exact hp.1 _ (List.getElem_mem hj)
theorem progOk_code {rs : List C4} {h : Int} (hp : progOk rs h = true) {j : Nat} (hj : j < rs.length) : codeOk rs[j].op rs[j].a rs[j].b rs[j].c = true := by
 have := progOk_good hp hj
 unfold good at this
 rw [Bool.and_eq_true] at this
 exact this.1
theorem instrOf_code {rs : List C4} {h : Int} {m : Mc} {who : Int} {x : C4} (hi : instrOf rs h m who = some x) : codeOk x.op x.a x.b x.c = true := by
 unfold instrOf at hi
 split at hi
 ·rename_i hc
  rw [Bool.and_eq_true] at hc
  split at hi
  ·rename_i t ht
   split at hi
   ·have hp := (machOk_facts hc.1).prog
    obtain ⟨hlt, e⟩ := List.getElem?_eq_some_iff.1 hi
    subst e
    exact progOk_code hp hlt
   ·cases hi
  ·cases hi
 ·cases hi
end Bt
theorem codeVal_form (q : Option Bt.C4) : ∃ a b c d k, codeVal q = .tuple #[.agg #[.int .i64 a, .int .i64 b, .int .i64 c, .int .i64 d], .bool k] := by
 cases q with
 | none => exact ⟨_, _, _, _, _, rfl⟩
 | some r => exact ⟨_, _, _, _, _, rfl⟩
set_option maxRecDepth 100000 in
set_option maxHeartbeats 2000000 in
theorem specCanDo_any {AT AC AL AD : Option Addr} {nt ct nc cc nl cl nd cd b o n cap : Nat} {m : Bt.Mc} {rs : List Bt.C4} (h : Int) (c : Bt.Ch) (w : World) (P : ArgPr w b o n cap rs)
  (H : ArgMc w AT nt ct AC nc cc AL nl cl AD nd cd m) (S : Small m) :
  Calls Try.prog 67 #[.agg #[.slice (some ⟨b, o, none⟩) n cap, .int .i64 h], .agg #[.slice AT nt ct, .slice AC nc cc, .slice AL nl cl, .slice AD nd cd], .agg #[.int .i64 c.who, .int .i64 c.kind, .int .i64 c.reply]] w fun e w' => e = .returned (.bool (Bt.canDo rs h m c)) ∧ Below w.heap.size w w' := by
 obtain ⟨who, kd, rep⟩ := c
 simp only
 have hT := Lib.hid H.nT
 have hle := H.ths.2.1
 have hcp := P.cap
 have hnP := Lib.hid P.nP
 have HP := Lib.hid P; clear P
 have HH := Lib.hid H; clear H
 have HS := Lib.hid S; clear S
 have BB := Lib.hid ((((Below.refl w.heap.size w).alloc (Nat.le_refl _) (.cells #[.slice (some ⟨b, o, none⟩) n cap, .int .i64 h] 36)).alloc (by simp) (.cells #[.slice AT nt ct, .slice AC nc cc, .slice AL nl cl, .slice AD nd cd] 31)).alloc (by simp; omega) (.cells #[.int .i64 who, .int .i64 kd, .int .i64 rep] 80))
 cases hp : Bt.machOk rs h m
 ·have HF := Lib.hid (Bt.canDo_no (c := ⟨who, kd, rep⟩) (.inl hp))
  go_enter Try.func67, Try.ntmps67
  go_wp2_with fail
  refine (specMachineOk_any h _ (HP.out.keep BB.out) (HH.out.keep BB.out) HS.out).mono ?_
  rw [hp]
  rintro e w1 ⟨rfl, hb1⟩
  have hz : w.heap.size + 1 + 1 < w1.heap.size := by have := hb1.size; simp at this; omega
  have hz1 : w.heap.size + 1 < w1.heap.size := by omega
  have hz0 : w.heap.size < w1.heap.size := by omega
  have p0 : w1.cell? ⟨w.heap.size, 0, none⟩ = some (.slice (some ⟨b, o, none⟩) n cap) := keeps hb1 (by go_simp)
  have p1 : w1.cell? ⟨w.heap.size, 1, none⟩ = some (.int .i64 h) := keeps hb1 (by go_simp)
  have m0 : w1.cell? ⟨w.heap.size + 1, 0, none⟩ = some (.slice AT nt ct) := keeps hb1 (by go_simp)
  have m1 : w1.cell? ⟨w.heap.size + 1, 1, none⟩ = some (.slice AC nc cc) := keeps hb1 (by go_simp)
  have m2 : w1.cell? ⟨w.heap.size + 1, 2, none⟩ = some (.slice AL nl cl) := keeps hb1 (by go_simp)
  have m3 : w1.cell? ⟨w.heap.size + 1, 3, none⟩ = some (.slice AD nd cd) := keeps hb1 (by go_simp)
  have c0 : w1.cell? ⟨w.heap.size + 1 + 1, 0, none⟩ = some (.int .i64 who) := keeps hb1 (by go_simp)
  have c1 : w1.cell? ⟨w.heap.size + 1 + 1, 1, none⟩ = some (.int .i64 kd) := keeps hb1 (by go_simp)
  have c2 : w1.cell? ⟨w.heap.size + 1 + 1, 2, none⟩ = some (.int .i64 rep) := keeps hb1 (by go_simp)
  have W1 := Lib.hid (BB.out.trans (hb1.mono (by simp; omega)))
  have hsz : w.heap.size ≤ w1.heap.size := by omega
  clear hb1
  go_wp2
  go_ret
  refine ⟨ret_bool HF.out.symm, ?_⟩
  repeat (first | (refine Below.setCell ?_ (by first | omega | (simp; done) | (simp; omega)) _) | (refine Below.alloc ?_ (by first | omega | (simp; done) | (simp; omega)) _))
  exact W1.out
 ·have MF := Lib.hid (Bt.machOk_facts hp)
  go_enter Try.func67, Try.ntmps67
  go_wp2_with fail
  refine (specMachineOk_any h _ (HP.out.keep BB.out) (HH.out.keep BB.out) HS.out).mono ?_
  rw [hp]
  rintro e w1 ⟨rfl, hb1⟩
  have hz : w.heap.size + 1 + 1 < w1.heap.size := by have := hb1.size; simp at this; omega
  have hz1 : w.heap.size + 1 < w1.heap.size := by omega
  have hz0 : w.heap.size < w1.heap.size := by omega
  have p0 : w1.cell? ⟨w.heap.size, 0, none⟩ = some (.slice (some ⟨b, o, none⟩) n cap) := keeps hb1 (by go_simp)
  have p1 : w1.cell? ⟨w.heap.size, 1, none⟩ = some (.int .i64 h) := keeps hb1 (by go_simp)
  have m0 : w1.cell? ⟨w.heap.size + 1, 0, none⟩ = some (.slice AT nt ct) := keeps hb1 (by go_simp)
  have m1 : w1.cell? ⟨w.heap.size + 1, 1, none⟩ = some (.slice AC nc cc) := keeps hb1 (by go_simp)
  have m2 : w1.cell? ⟨w.heap.size + 1, 2, none⟩ = some (.slice AL nl cl) := keeps hb1 (by go_simp)
  have m3 : w1.cell? ⟨w.heap.size + 1, 3, none⟩ = some (.slice AD nd cd) := keeps hb1 (by go_simp)
  have c0 : w1.cell? ⟨w.heap.size + 1 + 1, 0, none⟩ = some (.int .i64 who) := keeps hb1 (by go_simp)
  have c1 : w1.cell? ⟨w.heap.size + 1 + 1, 1, none⟩ = some (.int .i64 kd) := keeps hb1 (by go_simp)
  have c2 : w1.cell? ⟨w.heap.size + 1 + 1, 2, none⟩ = some (.int .i64 rep) := keeps hb1 (by go_simp)
  have W1 := Lib.hid (BB.out.trans (hb1.mono (by simp; omega)))
  have hsz : w.heap.size ≤ w1.heap.size := by omega
  clear hb1
  by_cases c1 : who < 0
  ·have HF := Lib.hid (Bt.canDo_no (rs := rs) (h := h) (m := m) (c := ⟨who, kd, rep⟩) (.inr (Bt.runs_none (Bt.thAt_neg c1))))
   have dc1 : decide (who < 0) = true := by rw [decide_eq_true_eq]; exact c1
   go_wp2
   go_ret
   refine ⟨ret_bool HF.out.symm, ?_⟩
   repeat (first | (refine Below.setCell ?_ (by first | omega | (simp; done) | (simp; omega)) _) | (refine Below.alloc ?_ (by first | omega | (simp; done) | (simp; omega)) _))
   exact W1.out
  ·have dc1 : decide (who < 0) = false := by rw [decide_eq_false_iff_not]; exact c1
   by_cases c2 : (nt : Int) ≤ who
   ·have HF := Lib.hid (Bt.canDo_no (rs := rs) (h := h) (m := m) (c := ⟨who, kd, rep⟩) (.inr (Bt.runs_none (Bt.thAt_out (by rw [hT.out]; exact c2)))))
    have dc2 : decide ((nt : Int) ≤ who) = true := by rw [decide_eq_true_eq]; exact c2
    go_wp2
    go_ret
    refine ⟨ret_bool HF.out.symm, ?_⟩
    repeat (first | (refine Below.setCell ?_ (by first | omega | (simp; done) | (simp; omega)) _) | (refine Below.alloc ?_ (by first | omega | (simp; done) | (simp; omega)) _))
    exact W1.out
   ·obtain ⟨k, rfl⟩ : ∃ k : Nat, who = k := ⟨who.toNat, by omega⟩
    have hk : k < nt := by omega
    have hk' : k < m.ths.length := by rw [hT.out]; exact hk
    have dc2 : decide (nt ≤ k) = false := by rw [decide_eq_false_iff_not]; omega
    clear c1 c2
    obtain ⟨bt, ot, rfl, ht⟩ := (HH.out.keep W1.out).ths.2.2 k hk'
    obtain ⟨AR, cr, AS, cs, HT, f0, f1, f2, f3⟩ := ht.open
    have hbt : bt < w1.heap.size := cell_lt f0
    clear ht HT
    by_cases c3 : m.ths[k].st = 0
    ·rw [c3] at f3
     by_cases k1 : kd = 1
     ·subst k1
      have HE := Lib.hid (Bt.canDo_sig (rep := rep) hp hk' c3)
      generalize hns : m.ths[k].stack.length = ns at *
      generalize m.ths[k].regs.length = nr at *
      generalize m.ths[k].pl = pl at *
      clear c3 hns
      by_cases h0 : 0 ≤ h
      ·by_cases h6 : ns < 6
       ·go_wp2
        go_ret
        refine ⟨ret_bool (by rw [HE.out, decide_eq_true h0, decide_eq_true h6]; simp), ?_⟩
        repeat (first | (refine Below.setCell ?_ (by first | omega | (simp; done) | (simp; omega)) _) | (refine Below.alloc ?_ (by first | omega | (simp; done) | (simp; omega)) _))
        exact W1.out
       ·go_wp2
        go_ret
        refine ⟨ret_bool (by rw [HE.out, decide_eq_false (p := ns < 6) (by omega)]; simp), ?_⟩
        repeat (first | (refine Below.setCell ?_ (by first | omega | (simp; done) | (simp; omega)) _) | (refine Below.alloc ?_ (by first | omega | (simp; done) | (simp; omega)) _))
        exact W1.out
      ·go_wp2
       go_ret
       refine ⟨ret_bool (by rw [HE.out, decide_eq_false (p := 0 ≤ h) (by omega)]; simp), ?_⟩
       repeat (first | (refine Below.setCell ?_ (by first | omega | (simp; done) | (simp; omega)) _) | (refine Below.alloc ?_ (by first | omega | (simp; done) | (simp; omega)) _))
       exact W1.out
     ·have dk1 : (kd == 1) = false := by rw [beq_eq_false_iff_ne]; exact k1
      have HP1 := Lib.hid (HP.out.keep W1.out)
      have HH1 := Lib.hid (HH.out.keep W1.out)
      have HEL : Hid (kd ≠ 0 → Bt.canDo rs h m ⟨(k : Int), kd, rep⟩ = false) := Lib.hid (Bt.canDo_else hp hk' c3 k1)
      have HEN : Hid (kd = 0 → Bt.instrOf rs h m (k : Int) = none → Bt.canDo rs h m ⟨(k : Int), kd, rep⟩ = (rep == 0)) := Lib.hid (fun e hi => by subst e; exact Bt.canDo_end hp hk' c3 hi)
      have HEA : Hid (kd = 0 → ∀ x, Bt.instrOf rs h m (k : Int) = some x → Bt.canDo rs h m ⟨(k : Int), kd, rep⟩ = Bt.canDoI m x rep) := Lib.hid (fun e x hi => by subst e; exact Bt.canDo_at hp hk' c3 hi)
      have HCO : Hid (∀ x, Bt.instrOf rs h m (k : Int) = some x → Bt.codeOk x.op x.a x.b x.c = true) := Lib.hid (fun x hi => Bt.instrOf_code hi)
      generalize m.ths[k].stack.length = ns at *
      generalize m.ths[k].regs.length = nr at *
      generalize m.ths[k].pl = pl at *
      clear c3
      go_wp2_with fail
      refine (specInstrOf_any h (k : Int) _ (HP1.out.keep ?_) (HH1.out.keep ?_) HS.out).mono ?_
      ·repeat (first | (refine Below.setCell ?_ (by first | omega | (simp; done) | (simp; omega)) _) | (refine Below.alloc ?_ (by first | omega | (simp; done) | (simp; omega)) _))
       exact Below.refl _ _
      ·repeat (first | (refine Below.setCell ?_ (by first | omega | (simp; done) | (simp; omega)) _) | (refine Below.alloc ?_ (by first | omega | (simp; done) | (simp; omega)) _))
       exact Below.refl _ _
      rintro e w2 ⟨rfl, hb2⟩
      have g1 : w1.heap.size < w2.heap.size := by have := hb2.size; simp at this; omega
      have HB2 := Lib.hid hb2
      have W2 : Hid (Below w.heap.size w w2) := Lib.hid ((W1.out.alloc (by omega) _).trans (hb2.mono (by simp; omega)))
      have s2 : w.heap.size ≤ w2.heap.size := by omega
      have hy : w.heap.size + 1 + 1 < w2.heap.size := by omega
      have hy1 : w.heap.size + 1 < w2.heap.size := by omega
      have hy0 : w.heap.size < w2.heap.size := by omega
      have d1 : w2.cell? ⟨w.heap.size + 1 + 1, 1, none⟩ = some (.int .i64 kd) := keeps hb2 (by go_simp)
      have d2 : w2.cell? ⟨w.heap.size + 1 + 1, 2, none⟩ = some (.int .i64 rep) := keeps hb2 (by go_simp)
      have n2 : w2.cell? ⟨w.heap.size + 1, 2, none⟩ = some (.slice AL nl cl) := keeps hb2 (by go_simp)
      have n3 : w2.cell? ⟨w.heap.size + 1, 3, none⟩ = some (.slice AD nd cd) := keeps hb2 (by go_simp)
      have HH2 := Lib.hid (HH.out.keep W2.out)
      clear hb2 HH1 HP1 c0 c1 c2 m0 m1 m2 m3 p0 p1 f0 f1 f2 f3 hz hz0 hz1 hbt
      by_cases k0 : kd = 0
      ·subst k0
       cases hi : Bt.instrOf rs h m (k : Int) with
       | none =>
        have HE := Lib.hid (HEN.out rfl hi)
        simp only [codeVal]
        go_wp2
        go_ret
        refine ⟨ret_bool HE.out.symm, ?_⟩
        repeat (first | (refine Below.setCell ?_ (by first | omega | (simp; done) | (simp; omega)) _) | (refine Below.alloc ?_ (by first | omega | (simp; done) | (simp; omega)) _))
        exact W2.out
       | some x =>
        have HE := Lib.hid (HEA.out rfl x hi)
        have HC := Lib.hid (HCO.out x hi)
        clear hi
        simp only [codeVal]
        obtain ⟨op, xa, xb, xc⟩ := x
        simp only at *
        by_cases o15 : op = 15
        ·subst o15
         obtain ⟨q0, q1⟩ := Bt.lock_bounds HC.out (.inl rfl)
         obtain ⟨q, rfl⟩ : ∃ q : Nat, xc = q := ⟨xc.toNat, by omega⟩
         have hL : m.locks.length = nl := HH2.out.nL
         have hl2 := MF.out.locks
         have hq : q < m.locks.length := by omega
         have hIn := Bt.inR_at MF.out.locksIn hq
         have HL := Lib.hid (Bt.canDoI_lock (m := m) (x := ⟨15, xa, xb, (q : Int)⟩) (rep := rep) rfl hq rfl)
         obtain ⟨lcap, lat⟩ := HH2.out.locks.at_ hL
         obtain ⟨bl, ol, rfl, fl⟩ := lat q hq
         have hbl : bl < w2.heap.size := cell_lt fl
         have hqn : q < nl := by omega
         generalize m.locks[q] = lk at *
         clear lat hL hl2 hq q0 q1
         by_cases l1 : lk = -1
         ·subst l1
          go_wp2
          go_ret
          refine ⟨ret_bool (by rw [HE.out, HL.out]; simp), ?_⟩
          repeat (first | (refine Below.setCell ?_ (by first | omega | (simp; done) | (simp; omega)) _) | (refine Below.alloc ?_ (by first | omega | (simp; done) | (simp; omega)) _))
          exact W2.out
         ·have l0 : 0 ≤ lk := by omega
          go_wp2
          go_ret
          refine ⟨ret_bool (by rw [HE.out, HL.out, beq_eq_false_iff_ne.2 l1]; simp), ?_⟩
          repeat (first | (refine Below.setCell ?_ (by first | omega | (simp; done) | (simp; omega)) _) | (refine Below.alloc ?_ (by first | omega | (simp; done) | (simp; omega)) _))
          exact W2.out
        ·have d15 : (op == 15) = false := by rw [beq_eq_false_iff_ne]; exact o15
         by_cases o14 : op = 14
         ·subst o14
          have HL := Lib.hid (Bt.canDoI_tell (m := m) (x := ⟨14, xa, xb, xc⟩) (rep := rep) rfl)
          have hD : m.told.length = nd := HH2.out.nD
          have hd2 := MF.out.told
          rw [hD] at HL hd2
          clear hD
          by_cases t1 : nd = 1000
          ·subst t1
           go_wp2
           go_ret
           refine ⟨ret_bool (by rw [HE.out, HL.out]; simp), ?_⟩
           repeat (first | (refine Below.setCell ?_ (by first | omega | (simp; done) | (simp; omega)) _) | (refine Below.alloc ?_ (by first | omega | (simp; done) | (simp; omega)) _))
           exact W2.out
          ·have dt1 : ((nd : Int) == 1000) = false := by rw [beq_eq_false_iff_ne]; omega
           have HT := Lib.hid (decide_eq_true (p := nd < 1000) (by omega))
           clear t1 hd2
           go_wp2
           go_ret
           refine ⟨ret_bool (by rw [HE.out, HL.out, HT.out]; simp), ?_⟩
           repeat (first | (refine Below.setCell ?_ (by first | omega | (simp; done) | (simp; omega)) _) | (refine Below.alloc ?_ (by first | omega | (simp; done) | (simp; omega)) _))
           exact W2.out
         ·have d14 : (op == 14) = false := by rw [beq_eq_false_iff_ne]; exact o14
          by_cases o13 : op = 13
          ·subst o13
           have HL := Lib.hid (Bt.canDoI_ask (m := m) (x := ⟨13, xa, xb, xc⟩) (rep := rep) rfl)
           by_cases r0 : 0 ≤ rep
           ·have HT := Lib.hid (decide_eq_true (p := 0 ≤ rep) r0)
            go_wp2
            go_ret
            refine ⟨ret_bool (by rw [HE.out, HL.out, HT.out]; simp), ?_⟩
            repeat (first | (refine Below.setCell ?_ (by first | omega | (simp; done) | (simp; omega)) _) | (refine Below.alloc ?_ (by first | omega | (simp; done) | (simp; omega)) _))
            exact W2.out
           ·have HT := Lib.hid (decide_eq_false (p := 0 ≤ rep) (by omega))
            go_wp2
            go_ret
            refine ⟨ret_bool (by rw [HE.out, HL.out, HT.out]; simp), ?_⟩
            repeat (first | (refine Below.setCell ?_ (by first | omega | (simp; done) | (simp; omega)) _) | (refine Below.alloc ?_ (by first | omega | (simp; done) | (simp; omega)) _))
            exact W2.out
          ·have d13 : (op == 13) = false := by rw [beq_eq_false_iff_ne]; exact o13
           have HL := Lib.hid (Bt.canDoI_else (m := m) (x := ⟨op, xa, xb, xc⟩) (rep := rep) o15 o14 o13)
           clear o15 o14 o13
           go_wp2
           go_ret
           refine ⟨ret_bool (by rw [HE.out, HL.out]), ?_⟩
           repeat (first | (refine Below.setCell ?_ (by first | omega | (simp; done) | (simp; omega)) _) | (refine Below.alloc ?_ (by first | omega | (simp; done) | (simp; omega)) _))
           exact W2.out
      ·have HE := Lib.hid (HEL.out k0)
       have dk0 : (kd != 0) = true := by rw [bne_iff_ne]; exact k0
       obtain ⟨i0, i1, i2, i3, bb, hcv⟩ := codeVal_form (Bt.instrOf rs h m (k : Int))
       rw [hcv]
       clear k0 hcv
       go_wp2
       go_ret
       refine ⟨ret_bool HE.out.symm, ?_⟩
       repeat (first | (refine Below.setCell ?_ (by first | omega | (simp; done) | (simp; omega)) _) | (refine Below.alloc ?_ (by first | omega | (simp; done) | (simp; omega)) _))
       exact W2.out
    ·have HF := Lib.hid (Bt.canDo_no (rs := rs) (h := h) (m := m) (c := ⟨(k : Int), kd, rep⟩) (.inr (by rw [Bt.runs_in hk', beq_eq_false_iff_ne]; exact c3)))
     generalize m.ths[k].st = st at *
     have dc3 : (st != 0) = true := by rw [bne_iff_ne]; exact c3
     clear c3
     go_wp2
     go_ret
     refine ⟨ret_bool HF.out.symm, ?_⟩
     repeat (first | (refine Below.setCell ?_ (by first | omega | (simp; done) | (simp; omega)) _) | (refine Below.alloc ?_ (by first | omega | (simp; done) | (simp; omega)) _))
     exact W1.out
end Go.Proofs.Ytminfkedkkkhdaa
