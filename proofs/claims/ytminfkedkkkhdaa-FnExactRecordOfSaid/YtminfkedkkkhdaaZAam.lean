/-
  Part of a proof: Mem, Thok, MokI. No condition.
-/
import Derived.Test.YtminfkedkkkhdaaZAal
section
namespace Go.Proofs.Ytminfkedkkkhdaa
open Go.RowKit
def ThAt (w : World) (b o : Nat) (t : Bt.Th) : Prop :=
 w.cell? ⟨b, o, none⟩ = some (.int .i64 t.pl) ∧ (∃ A c, w.cell? ⟨b, o + 1, none⟩ = some (.slice A t.regs.length c) ∧ ArgInts w (.slice A t.regs.length c) t.regs) ∧
 (∃ A c, w.cell? ⟨b, o + 2, none⟩ = some (.slice A t.stack.length c) ∧ ArgInts w (.slice A t.stack.length c) t.stack) ∧ w.cell? ⟨b, o + 3, none⟩ = some (.int .i64 t.st)
theorem ThAt.keep {w w' : World} {b o : Nat} {t : Bt.Th} (h : ThAt w b o t) (hb : Below w.heap.size w w') : ThAt w' b o t := by
 obtain ⟨h0, ⟨A, c, h1, h2⟩, ⟨A', c', h3, h4⟩, h5⟩ := h
 exact ⟨keeps hb h0, ⟨A, c, keeps hb h1, h2.keep hb⟩, ⟨A', c', keeps hb h3, h4.keep hb⟩, keeps hb h5⟩
def ArgThs (w : World) (A : Option Addr) (n cap : Nat) (ts : List Bt.Th) : Prop :=
 ts.length = n ∧ n ≤ cap ∧ ∀ i (h : i < ts.length), ∃ b o, A = some ⟨b, o, none⟩ ∧ ThAt w b (o + i * 4) ts[i]
theorem ArgThs.keep {w w' : World} {A : Option Addr} {n cap : Nat} {ts : List Bt.Th} (h : ArgThs w A n cap ts) (hb : Below w.heap.size w w') : ArgThs w' A n cap ts := by
 obtain ⟨h0, h1, h2⟩ := h
 refine ⟨h0, h1, fun i hi => ?_⟩
 obtain ⟨b, o, hA, h⟩ := h2 i hi
 exact ⟨b, o, hA, h.keep hb⟩
structure ArgMc (w : World) (AT : Option Addr) (nt ct : Nat) (AC : Option Addr) (nc cc : Nat) (AL : Option Addr) (nl cl : Nat) (AD : Option Addr) (nd cd : Nat) (m : Bt.Mc) : Prop where
 ths : ArgThs w AT nt ct m.ths
 cells : ArgInts w (.slice AC nc cc) m.cells
 locks : ArgInts w (.slice AL nl cl) m.locks
 told : ArgInts w (.slice AD nd cd) m.told
 nC : m.cells.length = nc
 nL : m.locks.length = nl
 nD : m.told.length = nd
theorem ArgMc.keep {w w' : World} {AT AC AL AD : Option Addr} {nt ct nc cc nl cl nd cd : Nat} {m : Bt.Mc} (h : ArgMc w AT nt ct AC nc cc AL nl cl AD nd cd m) (hb : Below w.heap.size w w') :
  ArgMc w' AT nt ct AC nc cc AL nl cl AD nd cd m :=
 ⟨h.ths.keep hb, h.cells.keep hb, h.locks.keep hb, h.told.keep hb, h.nC, h.nL, h.nD⟩
theorem ArgMc.nT {w : World} {AT AC AL AD : Option Addr} {nt ct nc cc nl cl nd cd : Nat} {m : Bt.Mc} (h : ArgMc w AT nt ct AC nc cc AL nl cl AD nd cd m) : m.ths.length = nt := h.ths.1
structure Small (m : Bt.Mc) : Prop where
 ths : m.ths.length ≤ 1048576
 cells : m.cells.length ≤ 1048576
 locks : m.locks.length ≤ 1048576
 told : m.told.length ≤ 1048576
 regs : ∀ i (h : i < m.ths.length), m.ths[i].regs.length ≤ 1048576
 stack : ∀ i (h : i < m.ths.length), m.ths[i].stack.length ≤ 1048576
theorem le40 {n : Nat} (h : n ≤ 1048576) : n ≤ 1099511627776 := by omega
structure ArgTh (w : World) (AR : Option Addr) (nr cr : Nat) (AS : Option Addr) (ns cs : Nat) (t : Bt.Th) : Prop where
 regs : ArgInts w (.slice AR nr cr) t.regs
 stack : ArgInts w (.slice AS ns cs) t.stack
 nR : t.regs.length = nr
 nS : t.stack.length = ns
theorem ArgTh.keep {w w' : World} {AR AS : Option Addr} {nr cr ns cs : Nat} {t : Bt.Th} (h : ArgTh w AR nr cr AS ns cs t) (hb : Below w.heap.size w w') : ArgTh w' AR nr cr AS ns cs t :=
 ⟨h.regs.keep hb, h.stack.keep hb, h.nR, h.nS⟩
theorem ThAt.open {w : World} {b o : Nat} {t : Bt.Th} (h : ThAt w b o t) : ∃ AR cr AS cs, ArgTh w AR t.regs.length cr AS t.stack.length cs t ∧ w.cell? ⟨b, o, none⟩ = some (.int .i64 t.pl) ∧
  w.cell? ⟨b, o + 1, none⟩ = some (.slice AR t.regs.length cr) ∧ w.cell? ⟨b, o + 2, none⟩ = some (.slice AS t.stack.length cs) ∧ w.cell? ⟨b, o + 3, none⟩ = some (.int .i64 t.st) := by
 obtain ⟨h0, ⟨A, c, h1, h2⟩, ⟨A', c', h3, h4⟩, h5⟩ := h
 exact ⟨A, c, A', c', ⟨h2, h4, rfl, rfl⟩, h0, h1, h3, h5⟩
structure ArgPr (w : World) (b o n cap : Nat) (rs : List Bt.C4) : Prop where
 nP : rs.length = n
 le : n ≤ 1048576
 cap : n ≤ cap
 codes : CodesAt w b o rs
theorem ArgPr.keep {w w' : World} {b o n cap : Nat} {rs : List Bt.C4} (h : ArgPr w b o n cap rs) (hb : Below w.heap.size w w') : ArgPr w' b o n cap rs := ⟨h.nP, h.le, h.cap, h.codes.keep hb⟩
theorem specProg_any {w : World} {b o n cap : Nat} {rs : List Bt.C4} (P : ArgPr w b o n cap rs) (h : Int) :
  Calls Try.prog 69 #[.agg #[.slice (some ⟨b, o, none⟩) n cap, .int .i64 h]] w fun e w' => e = .returned (.bool (Bt.progOk rs h)) ∧ Below w.heap.size w w' := by
 obtain ⟨rfl, hn, hc, hr⟩ := P
 exact specProgramOk_any b o cap rs h w hn hc hr
theorem implProg_any {w : World} {b o n cap : Nat} {rs : List Bt.C4} (P : ArgPr w b o n cap rs) (h : Int) :
  Calls Try.prog 71 #[.agg #[.slice (some ⟨b, o, none⟩) n cap, .int .i64 h]] w fun e w' => e = .returned (.bool (Bt.progOk rs h)) ∧ Below w.heap.size w w' := by
 obtain ⟨rfl, hn, hc, hr⟩ := P
 exact implProgramOk_any b o cap rs h w hn hc hr
end Go.Proofs.Ytminfkedkkkhdaa
end
section
namespace Go.Proofs.Ytminfkedkkkhdaa
open Go.RowKit
namespace Bt
theorem thOk_no {n : Int} {t : Th} (h : t.pl < 0 ∨ n < t.pl ∨ 6 < t.stack.length ∨ t.st < 0 ∨ 2 < t.st ∨ regsOk t.regs = false ∨ inR 0 (n + 1) t.stack = false) : thOk n t = false := by
 refine false_of (fun e => ?_)
 have f := thOk_facts e
 rcases h with h | h | h | h | h | h | h
 ·have := f.lo; omega
 ·have := f.hi; omega
 ·have := f.top; omega
 ·have := f.stLo; omega
 ·have := f.stHi; omega
 ·rw [f.regs] at h; cases h
 ·rw [f.stack] at h; cases h
end Bt
set_option maxHeartbeats 1000000 in
theorem threadOk_any {AR AS : Option Addr} {nr cr ns cs : Nat} {t : Bt.Th} (n : Int) (w : World) (H : ArgTh w AR nr cr AS ns cs t) (hr : nr ≤ 1048576) (hs : ns ≤ 1048576) (h0 : 0 ≤ n) (h1 : n ≤ 1048576) :
  Calls Try.prog 132 #[.agg #[.int .i64 t.pl, .slice AR nr cr, .slice AS ns cs, .int .i64 t.st], .int .i64 n] w fun e w' => e = .returned (.bool (Bt.thOk n t)) ∧ Below w.heap.size w w' := by
 have HH := Lib.hid H
 have hS := H.nS
 clear H
 by_cases c1 : t.pl < 0
 ·rw [Bt.thOk_no (.inl c1)]
  clear hS
  generalize t.pl = pl at *
  go_enter Try.func132, Try.ntmps132
  go_wp2
  go_ret
  exact ⟨rfl, (Below.refl _ _).alloc (Nat.le_refl _) _⟩
 ·by_cases c2 : n < t.pl
  ·rw [Bt.thOk_no (.inr (.inl c2))]
   clear hS
   generalize t.pl = pl at *
   go_enter Try.func132, Try.ntmps132
   go_wp2
   go_ret
   exact ⟨rfl, (Below.refl _ _).alloc (Nat.le_refl _) _⟩
  ·by_cases c3 : 6 < ns
   ·rw [Bt.thOk_no (.inr (.inr (.inl (by omega))))]
    clear hS
    generalize t.pl = pl at *
    go_enter Try.func132, Try.ntmps132
    go_wp2
    go_ret
    exact ⟨rfl, (Below.refl _ _).alloc (Nat.le_refl _) _⟩
   ·by_cases c4 : t.st = 0 ∨ t.st = 1 ∨ t.st = 2
    ·have HE : Hid (Bt.thOk n t = (Bt.regsOk t.regs && Bt.inR 0 (n + 1) t.stack)) := Lib.hid (by simp only [Bt.thOk]; rw [decide_eq_true (by omega), Bool.true_and])
     rw [HE.out]
     clear hS
     generalize hst : t.st = st at *
     clear hst
     generalize t.pl = pl at *
     cases hR : Bt.regsOk t.regs
     ·rw [Bool.false_and]
      rcases c4 with rfl | rfl | rfl
      all_goals
       go_enter Try.func132, Try.ntmps132
       go_wp2_with (go_at_call 143; refine (regsOk_any _ t.regs _ (le40 (HH.out.nR ▸ hr)) (HH.out.regs.keep ((Below.refl _ _).alloc (Nat.le_refl _) _))).mono ?_; rintro e w' ⟨rfl, rfl⟩)
       go_ret
       exact ⟨rfl, (Below.refl _ _).alloc (Nat.le_refl _) _⟩
     ·rw [Bool.true_and]
      rcases c4 with rfl | rfl | rfl
      all_goals
       go_enter Try.func132, Try.ntmps132
       go_wp2_with (first | (go_at_call 143; refine (regsOk_any _ t.regs _ (le40 (HH.out.nR ▸ hr)) (HH.out.regs.keep ((Below.refl _ _).alloc (Nat.le_refl _) _))).mono ?_; rintro e w' ⟨rfl, rfl⟩) | (go_at_call 133; refine (within_any _ t.stack _ _ _ (le40 (HH.out.nS ▸ hs)) (HH.out.stack.keep ((Below.refl _ _).alloc (Nat.le_refl _) _))).mono ?_; rintro e w' ⟨rfl, rfl⟩))
       go_ret
       exact ⟨rfl, (Below.refl _ _).alloc (Nat.le_refl _) _⟩
    ·rw [Bt.thOk_no (by omega)]
     clear hS
     generalize t.st = st at *
     have n0 : (st != 0) = true := by rw [bne_iff_ne]; omega
     have n1 : (st != 1) = true := by rw [bne_iff_ne]; omega
     have n2 : (st != 2) = true := by rw [bne_iff_ne]; omega
     generalize t.pl = pl at *
     clear c4
     go_enter Try.func132, Try.ntmps132
     go_wp2
     go_ret
     exact ⟨rfl, (Below.refl _ _).alloc (Nat.le_refl _) _⟩
end Go.Proofs.Ytminfkedkkkhdaa
end
section
namespace Go.Proofs.Ytminfkedkkkhdaa
open Go.RowKit
namespace Bt
theorem machOk_no {rs : List C4} {h : Int} {m : Mc} (hh : progOk rs h = false ∨ m.ths.length < 1 ∨ 4 < m.ths.length ∨ m.cells.length ≠ 8 ∨ m.locks.length ≠ 2 ∨ 1000 < m.told.length ∨
  inR 0 10000 m.cells = false ∨ inR (-1) m.ths.length m.locks = false ∨ inR 0 10000 m.told = false) : machOk rs h m = false := by
 refine false_of (fun e => ?_)
 have f := machOk_facts e
 rcases hh with h | h | h | h | h | h | h | h | h
 ·rw [f.prog] at h; cases h
 ·have := f.many; omega
 ·have := f.few; omega
 ·exact h f.cells
 ·exact h f.locks
 ·have := f.told; omega
 ·rw [f.cellsIn] at h; cases h
 ·rw [f.locksIn] at h; cases h
 ·rw [f.toldIn] at h; cases h
end Bt
set_option maxHeartbeats 2000000 in
theorem implMachineOk_any {AT AC AL AD : Option Addr} {nt ct nc cc nl cl nd cd b o n cap : Nat} {m : Bt.Mc} {rs : List Bt.C4} (h : Int) (w : World) (P : ArgPr w b o n cap rs)
  (H : ArgMc w AT nt ct AC nc cc AL nl cl AD nd cd m) (S : Small m) :
  Calls Try.prog 121 #[.agg #[.slice (some ⟨b, o, none⟩) n cap, .int .i64 h], .agg #[.slice AT nt ct, .slice AC nc cc, .slice AL nl cl, .slice AD nd cd]] w fun e w' => e = .returned (.bool (Bt.machOk rs h m)) ∧ Below w.heap.size w w' := by
 have hT := Lib.hid H.nT
 have hC := Lib.hid H.nC
 have hL := Lib.hid H.nL
 have hD := Lib.hid H.nD
 have HP := Lib.hid P
 have hn := P.le
 have hcp := P.cap
 clear P
 have hle := H.ths.2.1
 have HH := Lib.hid H; clear H
 have sT : nt ≤ 1048576 := hT.out ▸ S.ths
 have HS := Lib.hid S; clear S
 have B0 : Below w.heap.size w ((w.alloc (.cells #[.slice (some ⟨b, o, none⟩) n cap, .int .i64 h] 36)).alloc (.cells #[.slice AT nt ct, .slice AC nc cc, .slice AL nl cl, .slice AD nd cd] 31)) := ((Below.refl _ _).alloc (Nat.le_refl _) _).alloc (by simp) _
 cases hp : Bt.progOk rs h
 ·have HF : Hid (Bt.machOk rs h m = false) := Lib.hid (Bt.machOk_no (.inl hp))
  go_enter Try.func121, Try.ntmps121
  go_wp2_with (go_at_call 71; refine (implProg_any (HP.out.keep B0) h).mono ?_; rw [hp]; rintro e w1 ⟨rfl, hb⟩; obtain ⟨hc, hf⟩ := bcell hb)
  go_ret
  exact ⟨ret_bool HF.out.symm, B0.trans (hb.mono (by simp; omega))⟩
 ·by_cases c1 : nt < 1
  ·have HF : Hid (Bt.machOk rs h m = false) := Lib.hid (Bt.machOk_no (.inr (.inl (by rw [hT.out]; exact c1))))
   go_enter Try.func121, Try.ntmps121
   go_wp2_with (go_at_call 71; refine (implProg_any (HP.out.keep B0) h).mono ?_; rw [hp]; rintro e w1 ⟨rfl, hb⟩; obtain ⟨hc, hf⟩ := bcell hb)
   go_ret
   exact ⟨ret_bool HF.out.symm, B0.trans (hb.mono (by simp; omega))⟩
  ·by_cases c2 : 4 < nt
   ·have HF : Hid (Bt.machOk rs h m = false) := Lib.hid (Bt.machOk_no (.inr (.inr (.inl (by rw [hT.out]; exact c2)))))
    go_enter Try.func121, Try.ntmps121
    go_wp2_with (go_at_call 71; refine (implProg_any (HP.out.keep B0) h).mono ?_; rw [hp]; rintro e w1 ⟨rfl, hb⟩; obtain ⟨hc, hf⟩ := bcell hb)
    go_ret
    exact ⟨ret_bool HF.out.symm, B0.trans (hb.mono (by simp; omega))⟩
   ·have dc1 : decide ((nt : Int) < 1) = false := by rw [decide_eq_false_iff_not]; omega
    have dc2 : decide (4 < (nt : Int)) = false := by rw [decide_eq_false_iff_not]; omega
    go_enter Try.func121, Try.ntmps121
    go_wp2_with (go_at_call 71; refine (implProg_any (HP.out.keep B0) h).mono ?_; rw [hp]; rintro e w1 ⟨rfl, hb⟩; obtain ⟨hc, hf⟩ := bcell hb)
    have W1 := B0.trans (hb.mono (by simp; omega))
    have p0 : w1.cell? ⟨w.heap.size, 0, none⟩ = some (.slice (some ⟨b, o, none⟩) n cap) := keeps hb (by simp)
    have m0 : w1.cell? ⟨w.heap.size + 1, 0, none⟩ = some (.slice AT nt ct) := keeps hb (by simp)
    have m1 : w1.cell? ⟨w.heap.size + 1, 1, none⟩ = some (.slice AC nc cc) := keeps hb (by simp)
    have m2 : w1.cell? ⟨w.heap.size + 1, 2, none⟩ = some (.slice AL nl cl) := keeps hb (by simp)
    have m3 : w1.cell? ⟨w.heap.size + 1, 3, none⟩ = some (.slice AD nd cd) := keeps hb (by simp)
    clear hc hf
    go_loopw [25] (fun i wr => ∃ k : Nat, k ≤ nt ∧ i = .int .i64 k ∧ (∀ j (hj : j < m.ths.length), j < k → Bt.thOk rs.length m.ths[j] = true) ∧ Below w1.heap.size w1 wr) (fun i _ => nt - (intOf i).toNat)
    case atStart => exact ⟨0, Nat.zero_le _, rfl, fun _ _ hj => absurd hj (by omega), Below.refl _ _⟩
    case round =>
     obtain ⟨k, hk, rfl, hall, hbr⟩ := hrel
     have HA := Lib.hid hall; clear hall
     have Wr := W1.trans (hbr.mono W1.size)
     have p0' := keeps hbr p0
     have m0' := keeps hbr m0
     have m1' := keeps hbr m1
     have m2' := keeps hbr m2
     have m3' := keeps hbr m3
     clear p0 m0 m1 m2 m3
     have hws : w.heap.size + 1 < wr.heap.size := by have h1 := hbr.size; have h2 := hb.size; simp at h2; omega
     have hws0 : w.heap.size < wr.heap.size := by omega
     by_cases hlt : k < nt
     ·have hlt' : k < m.ths.length := by rw [hT.out]; exact hlt
      obtain ⟨bt, ot, rfl, ht⟩ := (HH.out.keep Wr).ths.2.2 k hlt'
      obtain ⟨AR, cr, AS, cs, HT, f0, f1, f2, f3⟩ := ht.open
      have sR := HS.out.regs k hlt'
      have sS := HS.out.stack k hlt'
      clear ht
      generalize hth : m.ths[k] = th at *
      have HTH := Lib.hid hth; clear hth
      have HHT := Lib.hid HT; clear HT
      generalize th.regs.length = nr at *
      generalize th.stack.length = ns at *
      cases hok : Bt.thOk n th
      ·have HF : Hid (Bt.machOk rs h m = false) := Lib.hid (Bt.machOk_thread hlt' (by rw [HTH.out, HP.out.nP]; exact hok))
       go_wp2_with (go_at_call 132; refine (threadOk_any n _ (HHT.out.keep ((Below.refl _ _).alloc (Nat.le_refl _) _)) sR sS (by omega) (by omega)).mono ?_; rw [hok]; rintro e w2 ⟨rfl, hb2⟩)
       go_ret
       exact ⟨ret_bool HF.out.symm, (Wr.alloc (by omega) _).trans (hb2.mono (by simp; omega))⟩
      ·have HG : Hid (Bt.thOk rs.length th = true) := Lib.hid (by rw [HP.out.nP]; exact hok)
       go_wp2_with (go_at_call 132; refine (threadOk_any n _ (HHT.out.keep ((Below.refl _ _).alloc (Nat.le_refl _) _)) sR sS (by omega) (by omega)).mono ?_; rw [hok]; rintro e w2 ⟨rfl, hb2⟩)
       go_roundw
       case rel => exact ⟨k + 1, by omega, by go_num, fun j hj hjk => by
        by_cases hjk' : j < k
        ·exact HA.out j hj hjk'
        ·obtain rfl : j = k := by omega
         rw [HTH.out]; exact HG.out, (hbr.alloc (by have := hbr.size; omega) _).trans (hb2.mono (by have := hbr.size; simp; omega))⟩
       case measure => simp [intOf]; omega
     ·obtain rfl : k = nt := by omega
      have HE : Hid (Bt.machOk rs h m = (decide (nc = 8 ∧ nl = 2 ∧ nd ≤ 1000) && (Bt.inR 0 10000 m.cells && Bt.inR (-1) k m.locks && Bt.inR 0 10000 m.told))) := Lib.hid (by
       have ha : m.ths.all (Bt.thOk rs.length) = true := Bt.all_th (fun j hj => HA.out j hj (by have := hT.out; omega))
       have e1 : (1 ≤ m.ths.length ∧ m.ths.length ≤ 4 ∧ m.cells.length = 8 ∧ m.locks.length = 2 ∧ m.told.length ≤ 1000) ↔ (nc = 8 ∧ nl = 2 ∧ nd ≤ 1000) := by
        rw [hT.out, hC.out, hL.out, hD.out]; omega
       unfold Bt.machOk; rw [hp, ha, Bool.true_and, Bool.and_true, decide_eq_decide.2 e1, hT.out])
      by_cases d1 : nc = 8
      ·by_cases d2 : nl = 2
       ·by_cases d3 : nd ≤ 1000
        ·have HX : Hid (Bt.machOk rs h m = (Bt.inR 0 10000 m.cells && Bt.inR (-1) k m.locks && Bt.inR 0 10000 m.told)) := Lib.hid (by rw [HE.out, decide_eq_true (by omega), Bool.true_and])
         have KK := HH.out.keep Wr
         have Q1 := Lib.hid (KK.cells); have Q2 := Lib.hid KK.locks; have Q3 := Lib.hid KK.told
         clear KK
         have s1 : Hid (m.cells.length ≤ 1099511627776) := Lib.hid (le40 HS.out.cells)
         have s2 : Hid (m.locks.length ≤ 1099511627776) := Lib.hid (le40 HS.out.locks)
         have s3 : Hid (m.told.length ≤ 1099511627776) := Lib.hid (le40 HS.out.told)
         have dd1 : ((nc : Int) != 8) = false := by rw [bne_eq_false_iff_eq]; omega
         have dd2 : ((nl : Int) != 2) = false := by rw [bne_eq_false_iff_eq]; omega
         clear d1 d2
         cases r1 : Bt.inR 0 10000 m.cells
         ·go_wp2_with (go_at_call 133; (with_reducible refine (within_any _ m.cells _ _ _ s1.out Q1.out).mono ?_); rw [r1]; rintro e w' ⟨rfl, rfl⟩)
          go_ret
          exact ⟨ret_bool (by rw [HX.out, r1]; rfl), Wr⟩
         ·cases r2 : Bt.inR (-1) k m.locks
          ·go_wp2_with (first | (go_at_call 133; (with_reducible refine (within_any _ m.cells _ _ _ s1.out Q1.out).mono ?_); rw [r1]; rintro e w' ⟨rfl, rfl⟩) | (go_at_call 133; (with_reducible refine (within_any _ m.locks _ _ _ s2.out Q2.out).mono ?_); rw [r2]; rintro e w' ⟨rfl, rfl⟩))
           go_ret
           exact ⟨ret_bool (by rw [HX.out, r1, r2]; rfl), Wr⟩
          ·go_wp2_with (first | (go_at_call 133; (with_reducible refine (within_any _ m.cells _ _ _ s1.out Q1.out).mono ?_); rw [r1]; rintro e w' ⟨rfl, rfl⟩) | (go_at_call 133; (with_reducible refine (within_any _ m.locks _ _ _ s2.out Q2.out).mono ?_); rw [r2]; rintro e w' ⟨rfl, rfl⟩) | (go_at_call 133; (with_reducible refine (within_any _ m.told _ _ _ s3.out Q3.out).mono ?_); rintro e w' ⟨rfl, rfl⟩))
           go_ret
           exact ⟨ret_bool (by rw [HX.out, r1, r2]; rfl), Wr⟩
        ·have HX : Hid (Bt.machOk rs h m = false) := Lib.hid (by rw [HE.out, decide_eq_false (by omega)]; rfl)
         have dd1 : ((nc : Int) != 8) = false := by rw [bne_eq_false_iff_eq]; omega
         have dd2 : ((nl : Int) != 2) = false := by rw [bne_eq_false_iff_eq]; omega
         clear d1 d2
         go_wp2
         go_ret
         exact ⟨ret_bool HX.out.symm, Wr⟩
       ·have HX : Hid (Bt.machOk rs h m = false) := Lib.hid (by rw [HE.out, decide_eq_false (by omega)]; rfl)
        have dd1 : ((nc : Int) != 8) = false := by rw [bne_eq_false_iff_eq]; omega
        have dd2 : ((nl : Int) != 2) = true := by rw [bne_iff_ne]; omega
        clear d1 d2
        go_wp2
        go_ret
        exact ⟨ret_bool HX.out.symm, Wr⟩
      ·have HX : Hid (Bt.machOk rs h m = false) := Lib.hid (by rw [HE.out, decide_eq_false (by omega)]; rfl)
       have dd1 : ((nc : Int) != 8) = true := by rw [bne_iff_ne]; omega
       clear d1
       go_wp2
       go_ret
       exact ⟨ret_bool HX.out.symm, Wr⟩
end Go.Proofs.Ytminfkedkkkhdaa
end
