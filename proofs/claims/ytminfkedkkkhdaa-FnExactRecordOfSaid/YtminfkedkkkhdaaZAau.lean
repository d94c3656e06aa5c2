/-
  Part of a proof: StepG. No condition.
-/
import Derived.Test.YtminfkedkkkhdaaZAat
import Derived.Test.YtminfkedkkkhdaaZAaq
import Derived.Deep.RegionHeld3
namespace Go.Proofs.Ytminfkedkkkhdaa
open Go.RowKit
namespace Bt
def faultsI (m : Mc) (k : Nat) (t : Th) (x : C4) : Bool :=
 if x.op = 11 then decide (6 ≤ t.stack.length) else if x.op = 12 then decide (t.stack.length = 0) else if x.op = 16 then m.locks.getD x.c.toNat (-1) != (k : Int) else if x.op = 17 then decide (4 ≤ m.ths.length) else false
def placeI (t : Th) (x : C4) : Int :=
 if x.op = 0 then t.pl else if x.op = 9 ∨ x.op = 11 then x.c else if x.op = 10 then (if t.regs.getD x.a.toNat 0 = 0 then x.c else t.pl + 1) else if x.op = 12 then t.stack.getLastD 0 else t.pl + 1
def stateI (t : Th) (x : C4) : Int := if x.op = 0 then 1 else t.st
def setsR (op : Int) : Bool := decide (1 ≤ op ∧ op ≤ 7 ∨ op = 13)
def numI (m : Mc) (t : Th) (x : C4) (rep : Int) : Int :=
 if x.op = 1 then x.c else if x.op = 2 then t.regs.getD x.b.toNat 0 else if x.op = 3 then (t.regs.getD x.a.toNat 0 + t.regs.getD x.b.toNat 0) % 10000
 else if x.op = 4 then (t.regs.getD x.a.toNat 0 + 10000 - t.regs.getD x.b.toNat 0) % 10000 else if x.op = 5 then t.regs.getD x.a.toNat 0 * t.regs.getD x.b.toNat 0 % 10000
 else if x.op = 6 then (if t.regs.getD x.a.toNat 0 < t.regs.getD x.b.toNat 0 then 1 else 0) else if x.op = 7 then m.cells.getD (cellOf x t.regs).toNat 0 else if x.op = 13 then rep else t.regs.getD x.a.toNat 0
def regsI (m : Mc) (t : Th) (x : C4) (rep : Int) : List Int := if setsR x.op then t.regs.set x.a.toNat (numI m t x rep) else t.regs
def stackI (t : Th) (x : C4) : List Int := if x.op = 11 then t.stack ++ [t.pl + 1] else if x.op = 12 then t.stack.take (t.stack.length - 1) else t.stack
def cellsI (m : Mc) (t : Th) (x : C4) : List Int := if x.op = 8 then m.cells.set (cellOf x t.regs).toNat (t.regs.getD x.a.toNat 0) else m.cells
def locksI (m : Mc) (k : Nat) (x : C4) : List Int := if x.op = 15 then m.locks.set x.c.toNat k else if x.op = 16 then m.locks.set x.c.toNat (-1) else m.locks
def toldI (m : Mc) (t : Th) (x : C4) : List Int := if x.op = 14 then m.told ++ [t.regs.getD x.a.toNat 0] else m.told
def thsI (m : Mc) (k : Nat) (t : Th) (x : C4) (rep : Int) : List Th :=
 m.ths.set k ⟨placeI t x, regsI m t x rep, stackI t x, stateI t x⟩ ++ (if x.op = 17 then [⟨x.c, t.regs, [], 0⟩] else [])
def stepM (m : Mc) (k : Nat) (t : Th) (x : C4) (rep : Int) : Mc := ⟨thsI m k t x rep, cellsI m t x, locksI m k x, toldI m t x⟩
def doM (rs : List C4) (h : Int) (m : Mc) (c : Ch) : Option Mc := if canDo rs h m c then (match thAt m c.who with
 | none => none
 | some t => if c.kind = 1 then some ⟨m.ths.set c.who.toNat ⟨h, t.regs, t.stack ++ [t.pl], t.st⟩, m.cells, m.locks, m.told⟩ else match instrOf rs h m c.who with
  | none => some ⟨m.ths.set c.who.toNat ⟨t.pl, t.regs, t.stack, 2⟩, m.cells, m.locks, m.told⟩
  | some x => if faultsI m c.who.toNat t x then some ⟨m.ths.set c.who.toNat ⟨t.pl, t.regs, t.stack, 2⟩, m.cells, m.locks, m.told⟩ else some (stepM m c.who.toNat t x c.reply)) else none
theorem codeOk_A {op a b c : Int} (h : codeOk op a b c = true) : 0 ≤ a ∧ a < 4 := by
 unfold codeOk at h
 simp only [Bool.and_eq_true] at h
 have h1 := h.1.1.2
 unfold below at h1
 split at h1 <;> simp at h1 <;> omega
theorem codeOk_B {op a b c : Int} (h : codeOk op a b c = true) : 0 ≤ b ∧ b < 4 := by
 unfold codeOk at h
 simp only [Bool.and_eq_true] at h
 have h1 := h.1.2
 unfold below at h1
 split at h1 <;> simp at h1 <;> omega
end Bt
set_option maxHeartbeats 1000000 in
theorem placeBehind_any {AR AS : Option Addr} {nr cr ns cs : Nat} {t : Bt.Th} {w : World} (op a b c : Int) (H : ArgTh w AR nr cr AS ns cs t) (hc : Bt.codeOk op a b c = true) (hr : t.regs.length = 4) (h0 : 0 ≤ t.pl) (h1 : t.pl ≤ 1048576) (h12 : op = 12 → 0 < t.stack.length ∧ t.stack.length ≤ 1048576) :
  Calls Try.prog 137 #[.agg #[.int .i64 t.pl, .slice AR nr cr, .slice AS ns cs, .int .i64 t.st], .agg #[.int .i64 op, .int .i64 a, .int .i64 b, .int .i64 c]] w fun e w' => e = .returned (.int .i64 (Bt.placeI t ⟨op, a, b, c⟩)) ∧ Below w.heap.size w w' := by
 have B0 : Below w.heap.size w ((w.alloc (.cells #[.int .i64 t.pl, .slice AR nr cr, .slice AS ns cs, .int .i64 t.st] 123)).alloc (.cells #[.int .i64 op, .int .i64 a, .int .i64 b, .int .i64 c] 96)) := ((Below.refl _ _).alloc (Nat.le_refl _) _).alloc (by simp) _
 have HH := Lib.hid (H.keep B0)
 have nR := H.nR; have nS := H.nS; clear H
 by_cases o0 : op = 0
 ·subst o0
  have HE : Hid (Bt.placeI t ⟨0, a, b, c⟩ = t.pl) := Lib.hid (by simp [Bt.placeI])
  clear hc nS nR hr h12
  go_enter Try.func137, Try.ntmps137
  go_wp2
  go_ret
  exact ⟨ret_int HE.out.symm, B0⟩
 ·have d0 : (op == 0) = false := by rw [beq_eq_false_iff_ne]; exact o0
  by_cases o9 : op = 9
  ·subst o9
   have HE : Hid (Bt.placeI t ⟨9, a, b, c⟩ = c) := Lib.hid (by simp [Bt.placeI])
   clear hc nS nR hr h12
   go_enter Try.func137, Try.ntmps137
   go_wp2
   go_ret
   exact ⟨ret_int HE.out.symm, B0⟩
  ·have d9 : (op == 9) = false := by rw [beq_eq_false_iff_ne]; exact o9
   by_cases o11 : op = 11
   ·subst o11
    have HE : Hid (Bt.placeI t ⟨11, a, b, c⟩ = c) := Lib.hid (by simp [Bt.placeI])
    clear hc nS nR hr h12
    go_enter Try.func137, Try.ntmps137
    go_wp2
    go_ret
    exact ⟨ret_int HE.out.symm, B0⟩
   ·have d11 : (op == 11) = false := by rw [beq_eq_false_iff_ne]; exact o11
    by_cases o10 : op = 10
    ·subst o10
     have hA := Bt.codeOk_A hc
     obtain ⟨q, rfl⟩ : ∃ q : Nat, a = q := ⟨a.toNat, by omega⟩
     have hq : q < t.regs.length := by omega
     have hqn : q < nr := by omega
     have HE : Hid (Bt.placeI t ⟨10, (q : Int), b, c⟩ = if t.regs[q] = 0 then c else t.pl + 1) := Lib.hid (by simp [Bt.placeI, hq])
     obtain ⟨rcap, rat⟩ := HH.out.regs.at_ nR
     obtain ⟨br, orr, rfl, fr⟩ := rat q hq
     generalize t.regs[q] = z at *
     clear rat hA hc nS
     by_cases hz : z = 0
     ·subst hz
      have HF := Lib.hid (HE.out.trans (if_pos rfl))
      clear hr nR hq
      go_enter Try.func137, Try.ntmps137
      go_wp2
      go_ret
      exact ⟨ret_int HF.out.symm, B0⟩
     ·have HF := Lib.hid (HE.out.trans (if_neg hz))
      have dz : (z == 0) = false := by rw [beq_eq_false_iff_ne]; exact hz
      clear hr nR hq hz
      go_enter Try.func137, Try.ntmps137
      go_wp2
      go_ret
      exact ⟨ret_int HF.out.symm, B0⟩
    ·have d10 : (op == 10) = false := by rw [beq_eq_false_iff_ne]; exact o10
     by_cases o12 : op = 12
     ·subst o12
      obtain ⟨hl, hl6⟩ := h12 rfl
      obtain ⟨l, hl'⟩ : ∃ l, t.stack.length = l + 1 := ⟨t.stack.length - 1, by omega⟩
      have hq : l < t.stack.length := by omega
      have HE : Hid (Bt.placeI t ⟨12, a, b, c⟩ = t.stack[l]) := Lib.hid (by
       have e : Bt.placeI t ⟨12, a, b, c⟩ = t.stack.getLastD 0 := by simp [Bt.placeI]
       rw [e]
       simp [List.getLastD_eq_getLast?, List.getLast?_eq_getElem?, hl'])
      have hns : ns = l + 1 := by omega
      obtain ⟨scap, sat⟩ := HH.out.stack.at_ nS
      obtain ⟨bs, os, rfl, fs⟩ := sat l hq
      subst hns
      have hi : ((l + 1 : Nat) : Int) - 1 = (l : Int) := by omega
      have hi2 : ((l : Int) + 1) - 1 = (l : Int) := by omega
      have hl2 : l < l + 1 := by omega
      have hw : IntKind.i64.wrap (l : Int) = (l : Int) := by rw [IntKind.wrap_i64]; omega
      generalize t.stack[l] = z at *
      clear sat hc nS nR hr hl hl' hq h12
      go_enter Try.func137, Try.ntmps137
      go_wp2
      go_ret
      exact ⟨ret_int HE.out.symm, B0⟩
     ·have d12 : (op == 12) = false := by rw [beq_eq_false_iff_ne]; exact o12
      have HE : Hid (Bt.placeI t ⟨op, a, b, c⟩ = t.pl + 1) := Lib.hid (by simp [Bt.placeI, o0, o9, o11, o10, o12])
      clear hc nS nR hr h12 o0 o9 o11 o10 o12
      go_enter Try.func137, Try.ntmps137
      go_wp2
      go_ret
      exact ⟨ret_int HE.out.symm, B0⟩
set_option maxHeartbeats 1000000 in
theorem stateBehind_any {AR AS : Option Addr} {nr cr ns cs : Nat} {t : Bt.Th} {w : World} (op a b c : Int) :
  Calls Try.prog 140 #[.agg #[.int .i64 t.pl, .slice AR nr cr, .slice AS ns cs, .int .i64 t.st], .agg #[.int .i64 op, .int .i64 a, .int .i64 b, .int .i64 c]] w fun e w' => e = .returned (.int .i64 (Bt.stateI t ⟨op, a, b, c⟩)) ∧ Below w.heap.size w w' := by
 have B0 : Below w.heap.size w ((w.alloc (.cells #[.int .i64 t.pl, .slice AR nr cr, .slice AS ns cs, .int .i64 t.st] 123)).alloc (.cells #[.int .i64 op, .int .i64 a, .int .i64 b, .int .i64 c] 96)) := ((Below.refl _ _).alloc (Nat.le_refl _) _).alloc (by simp) _
 by_cases o0 : op = 0
 ·subst o0
  go_enter Try.func140, Try.ntmps140
  go_wp2
  go_ret
  exact ⟨rfl, B0⟩
 ·have d0 : (op == 0) = false := by rw [beq_eq_false_iff_ne]; exact o0
  have HE : Hid (Bt.stateI t ⟨op, a, b, c⟩ = t.st) := Lib.hid (by simp [Bt.stateI, o0])
  clear o0
  go_enter Try.func140, Try.ntmps140
  go_wp2
  go_ret
  exact ⟨ret_int HE.out.symm, B0⟩
set_option maxHeartbeats 1000000 in
theorem setsRegister_any (op : Int) (w : World) :
  Calls Try.prog 144 #[.int .i64 op] w fun e w' => e = .returned (.bool (Bt.setsR op)) ∧ w = w' := by
 by_cases o1 : op = 1
 ·subst o1
  go_enter Try.func144, Try.ntmps144
  go_wp2
  go_ret
  exact ⟨rfl, rfl⟩
 ·have d1 : (op == 1) = false := by rw [beq_eq_false_iff_ne]; exact o1
  by_cases o2 : op = 2
  ·subst o2
   go_enter Try.func144, Try.ntmps144
   go_wp2
   go_ret
   exact ⟨rfl, rfl⟩
  ·have d2 : (op == 2) = false := by rw [beq_eq_false_iff_ne]; exact o2
   by_cases o3 : op = 3
   ·subst o3
    go_enter Try.func144, Try.ntmps144
    go_wp2
    go_ret
    exact ⟨rfl, rfl⟩
   ·have d3 : (op == 3) = false := by rw [beq_eq_false_iff_ne]; exact o3
    by_cases o4 : op = 4
    ·subst o4
     go_enter Try.func144, Try.ntmps144
     go_wp2
     go_ret
     exact ⟨rfl, rfl⟩
    ·have d4 : (op == 4) = false := by rw [beq_eq_false_iff_ne]; exact o4
     by_cases o5 : op = 5
     ·subst o5
      go_enter Try.func144, Try.ntmps144
      go_wp2
      go_ret
      exact ⟨rfl, rfl⟩
     ·have d5 : (op == 5) = false := by rw [beq_eq_false_iff_ne]; exact o5
      by_cases o6 : op = 6
      ·subst o6
       go_enter Try.func144, Try.ntmps144
       go_wp2
       go_ret
       exact ⟨rfl, rfl⟩
      ·have d6 : (op == 6) = false := by rw [beq_eq_false_iff_ne]; exact o6
       by_cases o7 : op = 7
       ·subst o7
        go_enter Try.func144, Try.ntmps144
        go_wp2
        go_ret
        exact ⟨rfl, rfl⟩
       ·have d7 : (op == 7) = false := by rw [beq_eq_false_iff_ne]; exact o7
        by_cases o13 : op = 13
        ·subst o13
         go_enter Try.func144, Try.ntmps144
         go_wp2
         go_ret
         exact ⟨rfl, rfl⟩
        ·have d13 : (op == 13) = false := by rw [beq_eq_false_iff_ne]; exact o13
         have HE : Hid (Bt.setsR op = false) := Lib.hid (by unfold Bt.setsR; rw [decide_eq_false_iff_not]; omega)
         clear o1 o2 o3 o4 o5 o6 o7 o13
         go_enter Try.func144, Try.ntmps144
         go_wp2
         go_ret
         exact ⟨ret_bool HE.out.symm, rfl⟩
theorem oneIf_any (q : Bool) (w : World) : Calls Try.prog 146 #[.bool q] w fun e w' => e = .returned (.int .i64 (if q then 1 else 0)) ∧ w = w' := by
 cases q
 ·go_enter Try.func146, Try.ntmps146
  go_wp2
  go_ret
  exact ⟨rfl, rfl⟩
 ·go_enter Try.func146, Try.ntmps146
  go_wp2
  go_ret
  exact ⟨rfl, rfl⟩
end Go.Proofs.Ytminfkedkkkhdaa
namespace Go.Proofs.Ytminfkedkkkhdaa
open Go.RowKit
set_option maxHeartbeats 1000000 in
theorem numbersWith_any (v : Value) (xs : List Int) (k : Nat) (q : Int) (w : World) (hn : xs.length ≤ 1048576) (hk : k < xs.length) (hv : ArgInts w v xs) :
  Calls Try.prog 141 #[v, .int .i64 (k : Int), .int .i64 q] w (NumsMade (xs.set k q) w) := by
 unfold NumsMade
 go_enter Try.func141, Try.ntmps141
 go_wp2_with fail
 refine (copyNums_n rfl hn hv).mono ?_
 rintro e w1 ⟨rfl, hb1, hr1⟩
 have c0 : w1.cell? ⟨w.heap.size, k, none⟩ = some (.int .i64 xs[k]) := IntRow.cell hr1 k hk
 have z0 : w1.frozen? ⟨w.heap.size, k, none⟩ = false := World.ownsRow.frozenAt hr1 k
 have HR := Lib.hid hr1; clear hr1
 have HB := Lib.hid hb1; clear hb1
 generalize xs[k] = old at *
 have HK := Lib.hid hk
 generalize hN : xs.length = n at *
 have HN := Lib.hid hN; clear hN
 go_wp2
 go_ret
 exact ⟨_, rfl, IntRow.stored HR.out HN.out k q, HB.out.setCell (Nat.le_refl _) _⟩
namespace Bt
theorem mod_t {n : Int} (h : 0 ≤ n) : n.tmod 10000 = n % 10000 := by rw [Int.tmod_eq_emod_of_nonneg h]
theorem mul_b {a b : Int} (ha : 0 ≤ a) (ha' : a < 10000) (hb : 0 ≤ b) (hb' : b < 10000) : 0 ≤ a * b ∧ a * b ≤ 100000000 := by
 refine ⟨Int.mul_nonneg ha hb, ?_⟩
 have h1 : a * b ≤ 10000 * b := Int.mul_le_mul_of_nonneg_right (by omega) hb
 omega
theorem cellOf_bound {r : C4} {xs : List Int} (h1 : codeOk r.op r.a r.b r.c = true) (h2 : r.op = 7 ∨ r.op = 8) (h3 : regsOk xs = true) : 0 ≤ cellOf r xs ∧ cellOf r xs < 8 := by
 obtain ⟨_, ⟨b0, b1⟩, _, _⟩ := mem_bounds h1 h2
 have hl := regsOk_len h3
 obtain ⟨k, hk⟩ : ∃ k : Nat, r.b = k := ⟨r.b.toNat, by omega⟩
 rw [cellOf_good (r := r) (k := k) (by omega) hk h1 h2 h3]
 omega
end Bt
set_option maxRecDepth 100000 in
set_option maxHeartbeats 4000000 in
theorem numberSet_any {AT AC AL AD : Option Addr} {nt ct nc cc nl cl nd cd k : Nat} {m : Bt.Mc} {w : World} (op a b c kd rep : Int) (H : ArgMc w AT nt ct AC nc cc AL nl cl AD nd cd m) (hk : k < m.ths.length) (hc : Bt.codeOk op a b c = true) (hr : Bt.regsOk m.ths[k].regs = true) (h8 : m.cells.length = 8) :
  Calls Try.prog 145 #[.agg #[.slice AT nt ct, .slice AC nc cc, .slice AL nl cl, .slice AD nd cd], .agg #[.int .i64 (k : Int), .int .i64 kd, .int .i64 rep], .agg #[.int .i64 op, .int .i64 a, .int .i64 b, .int .i64 c]] w fun e w' => e = .returned (.int .i64 (Bt.numI m m.ths[k] ⟨op, a, b, c⟩ rep)) ∧ Below w.heap.size w w' := by
 obtain ⟨W0, hW0⟩ : ∃ W0 : World, W0 = (((w).alloc (.cells #[.slice AT nt ct, .slice AC nc cc, .slice AL nl cl, .slice AD nd cd] 31)).alloc (.cells #[.int .i64 (k : Int), .int .i64 kd, .int .i64 rep] 80)).alloc (.cells #[.int .i64 op, .int .i64 a, .int .i64 b, .int .i64 c] 96) := ⟨_, rfl⟩
 have B0 := Lib.hid (show Below w.heap.size w W0 by rw [hW0]; exact (((Below.refl _ _).alloc (Nat.le_refl _) _).alloc (by simp) _).alloc (by simp; omega) _)
 have HH := Lib.hid (H.keep B0.out)
 have hle := H.ths.2.1
 have hkn : k < nt := by rw [← H.nT]; exact hk
 have hC := Lib.hid H.nC; clear H
 have p00 : W0.cell? ⟨w.heap.size, 0, none⟩ = some (.slice AT nt ct) := by rw [hW0]; go_simp
 have p01 : W0.cell? ⟨w.heap.size, 1, none⟩ = some (.slice AC nc cc) := by rw [hW0]; go_simp
 have p02 : W0.cell? ⟨w.heap.size, 2, none⟩ = some (.slice AL nl cl) := by rw [hW0]; go_simp
 have p03 : W0.cell? ⟨w.heap.size, 3, none⟩ = some (.slice AD nd cd) := by rw [hW0]; go_simp
 have p10 : W0.cell? ⟨w.heap.size + 1, 0, none⟩ = some (.int .i64 (k : Int)) := by rw [hW0]; go_simp
 have p11 : W0.cell? ⟨w.heap.size + 1, 1, none⟩ = some (.int .i64 kd) := by rw [hW0]; go_simp
 have p12 : W0.cell? ⟨w.heap.size + 1, 2, none⟩ = some (.int .i64 rep) := by rw [hW0]; go_simp
 have p20 : W0.cell? ⟨w.heap.size + 1 + 1, 0, none⟩ = some (.int .i64 op) := by rw [hW0]; go_simp
 have p21 : W0.cell? ⟨w.heap.size + 1 + 1, 1, none⟩ = some (.int .i64 a) := by rw [hW0]; go_simp
 have p22 : W0.cell? ⟨w.heap.size + 1 + 1, 2, none⟩ = some (.int .i64 b) := by rw [hW0]; go_simp
 have p23 : W0.cell? ⟨w.heap.size + 1 + 1, 3, none⟩ = some (.int .i64 c) := by rw [hW0]; go_simp
 obtain ⟨bt, ot, rfl, ht⟩ := HH.out.ths.2.2 k hk
 obtain ⟨AR, cr, AS, cs, HT, f0, f1, f2, f3⟩ := ht.open
 have hl4 := Bt.regsOk_len hr
 obtain ⟨⟨a0, a1⟩, b0, b1⟩ := And.intro (Bt.codeOk_A hc) (Bt.codeOk_B hc)
 obtain ⟨qa, rfl⟩ : ∃ q : Nat, a = q := ⟨a.toNat, by omega⟩
 obtain ⟨qb, rfl⟩ : ∃ q : Nat, b = q := ⟨b.toNat, by omega⟩
 generalize hth : m.ths[k] = th at *
 obtain ⟨pl, rg, sk, st⟩ := th
 simp only at *
 have ha : qa < rg.length := by omega
 have hb : qb < rg.length := by omega
 obtain ⟨rcap, rat⟩ := HT.regs.at_ rfl
 obtain ⟨br, orr, rfl, fa⟩ := rat qa ha
 have fb : W0.cell? ⟨br, orr + qb, none⟩ = some (.int .i64 rg[qb]) := by
  obtain ⟨br', or', e, h⟩ := rat qb hb
  injection e with e; injection e with e1 e2 _
  rw [e1, e2]; exact h
 obtain ⟨z0, z1⟩ := Bt.regsOk_at hr ha
 obtain ⟨y0, y1⟩ := Bt.regsOk_at hr hb
 have EA : rg.getD qa 0 = rg[qa] := by simp [ha]
 have EB : rg.getD qb 0 = rg[qb] := by simp [hb]
 have HR := Lib.hid HT.regs
 have HRK := Lib.hid hr; have HC := Lib.hid hc
 have NUM : Hid (∀ op', Bt.numI m ⟨pl, rg, sk, st⟩ ⟨op', (qa : Int), (qb : Int), c⟩ rep = if op' = 1 then c else if op' = 2 then rg[qb] else if op' = 3 then (rg[qa] + rg[qb]) % 10000 else if op' = 4 then (rg[qa] + 10000 - rg[qb]) % 10000 else if op' = 5 then rg[qa] * rg[qb] % 10000 else if op' = 6 then (if rg[qa] < rg[qb] then 1 else 0) else if op' = 7 then m.cells.getD (Bt.cellOf ⟨op', (qa : Int), (qb : Int), c⟩ rg).toNat 0 else if op' = 13 then rep else rg[qa]) := Lib.hid (fun op' => by
  simp only [Bt.numI, Int.toNat_natCast, EA, EB])
 rw [hl4] at f1 HR
 have hqa4 : qa < 4 := by omega
 have hqb4 : qb < 4 := by omega
 generalize rg[qa] = za at *
 generalize rg[qb] = zb at *
 generalize sk.length = ns at *
 clear ht HT rat hth EA EB hr a0 a1 b0 b1 ha hb f0 f2 f3
 subst hW0
 by_cases o1 : op = 1
 ·subst o1
  have HE : Hid (Bt.numI m ⟨pl, rg, sk, st⟩ ⟨1, (qa : Int), (qb : Int), c⟩ rep = c) := Lib.hid ((NUM.out 1).trans (by simp))
  go_enter Try.func145, Try.ntmps145
  go_wp2_with fail
  go_ret
  exact ⟨ret_int HE.out.symm, B0.out⟩
 ·have d1 : (op == 1) = false := by rw [beq_eq_false_iff_ne]; exact o1
  by_cases o2 : op = 2
  ·subst o2
   have HE : Hid (Bt.numI m ⟨pl, rg, sk, st⟩ ⟨2, (qa : Int), (qb : Int), c⟩ rep = zb) := Lib.hid ((NUM.out 2).trans (by simp))
   go_enter Try.func145, Try.ntmps145
   go_wp2_with fail
   go_ret
   exact ⟨ret_int HE.out.symm, B0.out⟩
  ·have d2 : (op == 2) = false := by rw [beq_eq_false_iff_ne]; exact o2
   by_cases o3 : op = 3
   ·subst o3
    have HE : Hid (Bt.numI m ⟨pl, rg, sk, st⟩ ⟨3, (qa : Int), (qb : Int), c⟩ rep = (za + zb) % 10000) := Lib.hid ((NUM.out 3).trans (by simp))
    have e1 : IntKind.i64.wrap (za + zb) = za + zb := IntWalk.i64_in _ (by omega)
    have e2 := Bt.mod_t (n := za + zb) (by omega)
    go_enter Try.func145, Try.ntmps145
    go_wp2_with fail
    go_ret
    exact ⟨ret_int HE.out.symm, B0.out⟩
   ·have d3 : (op == 3) = false := by rw [beq_eq_false_iff_ne]; exact o3
    by_cases o4 : op = 4
    ·subst o4
     have HE : Hid (Bt.numI m ⟨pl, rg, sk, st⟩ ⟨4, (qa : Int), (qb : Int), c⟩ rep = (za + 10000 - zb) % 10000) := Lib.hid ((NUM.out 4).trans (by simp))
     have e1 : IntKind.i64.wrap (za + 10000) = za + 10000 := IntWalk.i64_in _ (by omega)
     have e3 : IntKind.i64.wrap (za + 10000 - zb) = za + 10000 - zb := IntWalk.i64_in _ (by omega)
     have e2 := Bt.mod_t (n := za + 10000 - zb) (by omega)
     go_enter Try.func145, Try.ntmps145
     go_wp2_with fail
     go_ret
     exact ⟨ret_int HE.out.symm, B0.out⟩
    ·have d4 : (op == 4) = false := by rw [beq_eq_false_iff_ne]; exact o4
     by_cases o5 : op = 5
     ·subst o5
      have HE : Hid (Bt.numI m ⟨pl, rg, sk, st⟩ ⟨5, (qa : Int), (qb : Int), c⟩ rep = za * zb % 10000) := Lib.hid ((NUM.out 5).trans (by simp))
      obtain ⟨m0, m1⟩ := Bt.mul_b z0 z1 y0 y1
      have e1 : IntKind.i64.wrap (za * zb) = za * zb := IntWalk.i64_in _ (by omega)
      have e2 := Bt.mod_t (n := za * zb) m0
      go_enter Try.func145, Try.ntmps145
      go_wp2_with fail
      go_ret
      exact ⟨ret_int HE.out.symm, B0.out⟩
     ·have d5 : (op == 5) = false := by rw [beq_eq_false_iff_ne]; exact o5
      by_cases o6 : op = 6
      ·subst o6
       by_cases hlt : za < zb
       ·have HE := Lib.hid ((NUM.out 6).trans (by simp [hlt] : _ = (1 : Int)))
        go_enter Try.func145, Try.ntmps145
        go_wp2_with fail
        refine (oneIf_any _ _).mono ?_
        rintro e w' ⟨rfl, rfl⟩
        go_wp2
        go_ret
        exact ⟨ret_int (by rw [HE.out]), B0.out⟩
       ·have HE := Lib.hid ((NUM.out 6).trans (by simp [hlt] : _ = (0 : Int)))
        go_enter Try.func145, Try.ntmps145
        go_wp2_with fail
        refine (oneIf_any _ _).mono ?_
        rintro e w' ⟨rfl, rfl⟩
        go_wp2
        go_ret
        exact ⟨ret_int (by rw [HE.out]), B0.out⟩
      ·have d6 : (op == 6) = false := by rw [beq_eq_false_iff_ne]; exact o6
       by_cases o7 : op = 7
       ·subst o7
        obtain ⟨i0, i1⟩ := Bt.cellOf_bound (r := ⟨7, (qa : Int), (qb : Int), c⟩) HC.out (.inl rfl) HRK.out
        have HV : Hid (Bt.numI m ⟨pl, rg, sk, st⟩ ⟨7, (qa : Int), (qb : Int), c⟩ rep = m.cells.getD (Bt.cellOf ⟨7, (qa : Int), (qb : Int), c⟩ rg).toNat 0) := Lib.hid ((NUM.out 7).trans (by simp))
        have HCA : Hid (∀ x : Cls (((w.alloc (.cells #[.slice (some ⟨bt, ot, none⟩) nt ct, .slice AC nc cc, .slice AL nl cl, .slice AD nd cd] 31)).alloc (.cells #[.int .i64 (k : Int), .int .i64 kd, .int .i64 rep] 80)).alloc (.cells #[.int .i64 7, .int .i64 (qa : Int), .int .i64 (qb : Int), .int .i64 c] 96)), Calls Try.prog 142 #[.agg #[.int .i64 7, .int .i64 (qa : Int), .int .i64 (qb : Int), .int .i64 c], .slice (some ⟨br, orr, none⟩) 4 cr] x.val fun e w' => e = .returned (.int .i64 (Bt.cellOf ⟨7, (qa : Int), (qb : Int), c⟩ rg)) ∧ Below x.val.heap.size x.val w') := Lib.hid (fun x => implCellOf_any 7 qa qb c _ rg _ (by omega) (HR.out.keep x.below))
        generalize Bt.cellOf ⟨7, (qa : Int), (qb : Int), c⟩ rg = ci at *
        obtain ⟨i, rfl⟩ : ∃ i : Nat, ci = i := ⟨ci.toNat, by omega⟩
        have hi8 : i < m.cells.length := by omega
        have hin : i < nc := by rw [← hC.out]; exact hi8
        have HE : Hid (Bt.numI m ⟨pl, rg, sk, st⟩ ⟨7, (qa : Int), (qb : Int), c⟩ rep = m.cells[i]) := Lib.hid (by rw [HV.out]; simp [hi8])
        obtain ⟨ccap, cat⟩ := HH.out.cells.at_ hC.out
        obtain ⟨bc, oc, rfl, fc⟩ := cat i hi8
        generalize m.cells[i] = ce at *
        have q0 := Cls.keeps p01
        have q1 := Cls.keeps p20
        have q2 := Cls.keeps p21
        have q3 := Cls.keeps p22
        have q4 := Cls.keeps p23
        have q5 := Cls.keeps fc
        clear cat hi8 i0 i1
        go_enter Try.func145, Try.ntmps145
        go_wp2
        refine wp_region_cls (by kernel_rfl) (by kernel_rfl) ?_
        repeat (go_big_quiet_step (((go_at_call 142; exact cls_of (HCA.out _)))))
        refine wpQuiet_nil ?_
        intro w2' hw2'
        obtain ⟨⟨w2, hb2⟩, rfl⟩ := hw2'
        go_wp2
        go_ret
        exact ⟨ret_int HE.out.symm, B0.out.trans (hb2.mono B0.out.size)⟩
       ·have d7 : (op == 7) = false := by rw [beq_eq_false_iff_ne]; exact o7
        by_cases o13 : op = 13
        ·subst o13
         have HE : Hid (Bt.numI m ⟨pl, rg, sk, st⟩ ⟨13, (qa : Int), (qb : Int), c⟩ rep = rep) := Lib.hid ((NUM.out 13).trans (by simp))
         go_enter Try.func145, Try.ntmps145
         go_wp2_with fail
         go_ret
         exact ⟨ret_int HE.out.symm, B0.out⟩
        ·have d13 : (op == 13) = false := by rw [beq_eq_false_iff_ne]; exact o13
         have HE : Hid (Bt.numI m ⟨pl, rg, sk, st⟩ ⟨op, (qa : Int), (qb : Int), c⟩ rep = za) := Lib.hid ((NUM.out op).trans (by simp [o1, o2, o3, o4, o5, o6, o7, o13]))
         clear o1 o2 o3 o4 o5 o6 o7 o13
         go_enter Try.func145, Try.ntmps145
         go_wp2_with fail
         go_ret
         exact ⟨ret_int HE.out.symm, B0.out⟩
end Go.Proofs.Ytminfkedkkkhdaa
namespace Go.Proofs.Ytminfkedkkkhdaa
open Go.RowKit
set_option maxHeartbeats 2000000 in
theorem locksBehind_any {AT AC AL AD : Option Addr} {nt ct nc cc nl cl nd cd k : Nat} {m : Bt.Mc} {w : World} (op a b c : Int) (H : ArgMc w AT nt ct AC nc cc AL nl cl AD nd cd m) (S : Small m) (hc : Bt.codeOk op a b c = true) (h2 : m.locks.length = 2) :
  Calls Try.prog 130 #[.agg #[.slice AT nt ct, .slice AC nc cc, .slice AL nl cl, .slice AD nd cd], .int .i64 (k : Int), .agg #[.int .i64 op, .int .i64 a, .int .i64 b, .int .i64 c]] w (NumsMade (Bt.locksI m k ⟨op, a, b, c⟩) w) := by
 unfold NumsMade
 have B0 := Lib.hid (show Below w.heap.size w ((w.alloc (.cells #[.slice AT nt ct, .slice AC nc cc, .slice AL nl cl, .slice AD nd cd] 31)).alloc (.cells #[.int .i64 op, .int .i64 a, .int .i64 b, .int .i64 c] 96)) from ((Below.refl _ _).alloc (Nat.le_refl _) _).alloc (by simp) _)
 have HL := Lib.hid (H.keep B0.out).locks
 have hs := S.locks
 clear H S
 by_cases o15 : op = 15
 ·subst o15
  obtain ⟨q0, q1⟩ := Bt.lock_bounds hc (.inl rfl)
  obtain ⟨q, rfl⟩ : ∃ q : Nat, c = q := ⟨c.toNat, by omega⟩
  have HE : Hid (Bt.locksI m k ⟨15, a, b, (q : Int)⟩ = m.locks.set q (k : Int)) := Lib.hid (by simp [Bt.locksI])
  have hq : q < m.locks.length := by omega
  clear q0 q1 hc
  go_enter Try.func130, Try.ntmps130
  go_wp2_with fail
  refine (numbersWith_any _ m.locks q (k : Int) _ hs hq HL.out).mono ?_
  rintro e w1 ⟨v, rfl, hr1, hb1⟩
  go_wp2
  go_ret
  exact ⟨v, rfl, HE.out ▸ hr1.mono (by simp; omega), B0.out.trans (hb1.mono (by simp; omega))⟩
 ·have d15 : (op == 15) = false := by rw [beq_eq_false_iff_ne]; exact o15
  by_cases o16 : op = 16
  ·subst o16
   obtain ⟨q0, q1⟩ := Bt.lock_bounds hc (.inr rfl)
   obtain ⟨q, rfl⟩ : ∃ q : Nat, c = q := ⟨c.toNat, by omega⟩
   have HE : Hid (Bt.locksI m k ⟨16, a, b, (q : Int)⟩ = m.locks.set q (-1)) := Lib.hid (by simp [Bt.locksI])
   have hq : q < m.locks.length := by omega
   clear q0 q1 hc
   go_enter Try.func130, Try.ntmps130
   go_wp2_with fail
   refine (numbersWith_any _ m.locks q (-1) _ hs hq HL.out).mono ?_
   rintro e w1 ⟨v, rfl, hr1, hb1⟩
   go_wp2
   go_ret
   exact ⟨v, rfl, HE.out ▸ hr1.mono (by simp; omega), B0.out.trans (hb1.mono (by simp; omega))⟩
  ·have d16 : (op == 16) = false := by rw [beq_eq_false_iff_ne]; exact o16
   have HE : Hid (Bt.locksI m k ⟨op, a, b, c⟩ = m.locks) := Lib.hid (by simp [Bt.locksI, o15, o16])
   clear o15 o16 hc h2
   go_enter Try.func130, Try.ntmps130
   go_wp2_with fail
   refine (copyNums_nm hs HL.out).mono ?_
   rintro e w1 ⟨v, rfl, hr1, hb1⟩
   go_wp2
   go_ret
   exact ⟨v, rfl, HE.out ▸ hr1.mono (by simp; omega), B0.out.trans (hb1.mono (by simp; omega))⟩
set_option maxRecDepth 100000 in
set_option maxHeartbeats 4000000 in
theorem regsBehind_any {AT AC AL AD : Option Addr} {nt ct nc cc nl cl nd cd k : Nat} {m : Bt.Mc} {w : World} (op a b c kd rep : Int) (H : ArgMc w AT nt ct AC nc cc AL nl cl AD nd cd m) (S : Small m) (hk : k < m.ths.length) (hc : Bt.codeOk op a b c = true) (hr : Bt.regsOk m.ths[k].regs = true) (h8 : m.cells.length = 8) :
  Calls Try.prog 138 #[.agg #[.slice AT nt ct, .slice AC nc cc, .slice AL nl cl, .slice AD nd cd], .agg #[.int .i64 (k : Int), .int .i64 kd, .int .i64 rep], .agg #[.int .i64 op, .int .i64 a, .int .i64 b, .int .i64 c]] w (NumsMade (Bt.regsI m m.ths[k] ⟨op, a, b, c⟩ rep) w) := by
 unfold NumsMade
 obtain ⟨W0, hW0⟩ : ∃ W0 : World, W0 = (((w).alloc (.cells #[.slice AT nt ct, .slice AC nc cc, .slice AL nl cl, .slice AD nd cd] 31)).alloc (.cells #[.int .i64 (k : Int), .int .i64 kd, .int .i64 rep] 80)).alloc (.cells #[.int .i64 op, .int .i64 a, .int .i64 b, .int .i64 c] 96) := ⟨_, rfl⟩
 have B0 := Lib.hid (show Below w.heap.size w W0 by rw [hW0]; exact (((Below.refl _ _).alloc (Nat.le_refl _) _).alloc (by simp) _).alloc (by simp; omega) _)
 have HH := Lib.hid (H.keep B0.out)
 have hle := H.ths.2.1
 have hkn : k < nt := by rw [← H.nT]; exact hk
 have hsr := S.regs k hk
 clear H S
 have p00 : W0.cell? ⟨w.heap.size, 0, none⟩ = some (.slice AT nt ct) := by rw [hW0]; go_simp
 have p01 : W0.cell? ⟨w.heap.size, 1, none⟩ = some (.slice AC nc cc) := by rw [hW0]; go_simp
 have p02 : W0.cell? ⟨w.heap.size, 2, none⟩ = some (.slice AL nl cl) := by rw [hW0]; go_simp
 have p03 : W0.cell? ⟨w.heap.size, 3, none⟩ = some (.slice AD nd cd) := by rw [hW0]; go_simp
 have p10 : W0.cell? ⟨w.heap.size + 1, 0, none⟩ = some (.int .i64 (k : Int)) := by rw [hW0]; go_simp
 have p11 : W0.cell? ⟨w.heap.size + 1, 1, none⟩ = some (.int .i64 kd) := by rw [hW0]; go_simp
 have p12 : W0.cell? ⟨w.heap.size + 1, 2, none⟩ = some (.int .i64 rep) := by rw [hW0]; go_simp
 have p20 : W0.cell? ⟨w.heap.size + 1 + 1, 0, none⟩ = some (.int .i64 op) := by rw [hW0]; go_simp
 have p21 : W0.cell? ⟨w.heap.size + 1 + 1, 1, none⟩ = some (.int .i64 a) := by rw [hW0]; go_simp
 have p22 : W0.cell? ⟨w.heap.size + 1 + 1, 2, none⟩ = some (.int .i64 b) := by rw [hW0]; go_simp
 have p23 : W0.cell? ⟨w.heap.size + 1 + 1, 3, none⟩ = some (.int .i64 c) := by rw [hW0]; go_simp
 obtain ⟨bt, ot, rfl, ht⟩ := HH.out.ths.2.2 k hk
 obtain ⟨AR, cr, AS, cs, HT, f0, f1, f2, f3⟩ := ht.open
 have HR := Lib.hid HT.regs
 have hl4 := Bt.regsOk_len hr
 rw [hl4] at f1 HR
 have HL4 := Lib.hid hl4; clear hl4
 obtain ⟨a0, a1⟩ := Bt.codeOk_A hc
 obtain ⟨qa, rfl⟩ : ∃ q : Nat, a = q := ⟨a.toNat, by omega⟩
 cases hset : Bt.setsR op
 ·have HE : Hid (Bt.regsI m m.ths[k] ⟨op, (qa : Int), b, c⟩ rep = m.ths[k].regs) := Lib.hid (by simp [Bt.regsI, hset])
  generalize m.ths[k].regs = rg at *
  clear ht HT f0 f2 f3
  subst hW0
  go_enter Try.func138, Try.ntmps138
  go_wp2_with fail
  refine (setsRegister_any op _).mono ?_
  rw [hset]
  rintro e w' ⟨rfl, rfl⟩
  go_wp2_with fail
  refine (copyNums_nm hsr HR.out).mono ?_
  rintro e w1 ⟨v, rfl, hr1, hb1⟩
  go_wp2
  go_ret
  exact ⟨v, rfl, HE.out ▸ hr1.mono (by simp; omega), B0.out.trans (hb1.mono (by simp; omega))⟩
 ·have HE : Hid (Bt.regsI m m.ths[k] ⟨op, (qa : Int), b, c⟩ rep = m.ths[k].regs.set qa (Bt.numI m m.ths[k] ⟨op, (qa : Int), b, c⟩ rep)) := Lib.hid (by simp [Bt.regsI, hset])
  have NS := Lib.hid (fun (W' : World) (hb : Below W0.heap.size W0 W') => numberSet_any (k := k) op qa b c kd rep (HH.out.keep hb) hk hc hr h8)
  have hqa : qa < m.ths[k].regs.length := by have := HL4.out; omega
  generalize Bt.numI m m.ths[k] ⟨op, (qa : Int), b, c⟩ rep = nu at *
  generalize m.ths[k].regs = rg at *
  clear ht HT f0 f2 f3
  have SX := Lib.hid (fun (W' : World) (hb : Below W0.drew.heap.size W0.drew W') => (⟨keeps hb p00, keeps hb p01, keeps hb p02, keeps hb p03, keeps hb p10, keeps hb p11, keeps hb p12, keeps hb p20, keeps hb p21, keeps hb p22, keeps hb p23⟩ : W'.cell? ⟨w.heap.size, 0, none⟩ = some (.slice (some ⟨bt, ot, none⟩) nt ct) ∧ W'.cell? ⟨w.heap.size, 1, none⟩ = some (.slice AC nc cc) ∧ W'.cell? ⟨w.heap.size, 2, none⟩ = some (.slice AL nl cl) ∧ W'.cell? ⟨w.heap.size, 3, none⟩ = some (.slice AD nd cd) ∧ W'.cell? ⟨w.heap.size + 1, 0, none⟩ = some (.int .i64 (k : Int)) ∧ W'.cell? ⟨w.heap.size + 1, 1, none⟩ = some (.int .i64 kd) ∧ W'.cell? ⟨w.heap.size + 1, 2, none⟩ = some (.int .i64 rep) ∧ W'.cell? ⟨w.heap.size + 1 + 1, 0, none⟩ = some (.int .i64 op) ∧ W'.cell? ⟨w.heap.size + 1 + 1, 1, none⟩ = some (.int .i64 (qa : Int)) ∧ W'.cell? ⟨w.heap.size + 1 + 1, 2, none⟩ = some (.int .i64 b) ∧ W'.cell? ⟨w.heap.size + 1 + 1, 3, none⟩ = some (.int .i64 c)))
  have HRX := Lib.hid (fun (W' : World) (hb : Below W0.heap.size W0 W') => HR.out.keep hb)
  have HW := Lib.hid hW0
  subst hW0
  go_enter Try.func138, Try.ntmps138
  go_wp2_with fail
  refine (setsRegister_any op _).mono ?_
  rw [hset]
  rintro e w' ⟨rfl, rfl⟩
  go_wp2_with fail
  go_region_held3 (fun W' => W'.cell? ⟨w.heap.size, 0, none⟩ = some (.slice (some ⟨bt, ot, none⟩) nt ct) ∧ W'.cell? ⟨w.heap.size, 1, none⟩ = some (.slice AC nc cc) ∧ W'.cell? ⟨w.heap.size, 2, none⟩ = some (.slice AL nl cl) ∧ W'.cell? ⟨w.heap.size, 3, none⟩ = some (.slice AD nd cd) ∧ W'.cell? ⟨w.heap.size + 1, 0, none⟩ = some (.int .i64 (k : Int)) ∧ W'.cell? ⟨w.heap.size + 1, 1, none⟩ = some (.int .i64 kd) ∧ W'.cell? ⟨w.heap.size + 1, 2, none⟩ = some (.int .i64 rep) ∧ W'.cell? ⟨w.heap.size + 1 + 1, 0, none⟩ = some (.int .i64 op) ∧ W'.cell? ⟨w.heap.size + 1 + 1, 1, none⟩ = some (.int .i64 (qa : Int)) ∧ W'.cell? ⟨w.heap.size + 1 + 1, 2, none⟩ = some (.int .i64 b) ∧ W'.cell? ⟨w.heap.size + 1 + 1, 3, none⟩ = some (.int .i64 c))
   (first | (exact SX.out _ hb1) | (exact SX.out _ (hb1.trans (hb2.mono hb1.size))) | go_keep)
   (first | (go_at_call 145; refine (NS.out _ (Below.refl _ _).drew).mono ?_; rintro e w1 ⟨rfl, hb1⟩; have hb1' : Below (((w.alloc (.cells #[.slice (some ⟨bt, ot, none⟩) nt ct, .slice AC nc cc, .slice AL nl cl, .slice AD nd cd] 31)).alloc (.cells #[.int .i64 (k : Int), .int .i64 kd, .int .i64 rep] 80)).alloc (.cells #[.int .i64 op, .int .i64 (qa : Int), .int .i64 b, .int .i64 c] 96)).heap.size (((w.alloc (.cells #[.slice (some ⟨bt, ot, none⟩) nt ct, .slice AC nc cc, .slice AL nl cl, .slice AD nd cd] 31)).alloc (.cells #[.int .i64 (k : Int), .int .i64 kd, .int .i64 rep] 80)).alloc (.cells #[.int .i64 op, .int .i64 (qa : Int), .int .i64 b, .int .i64 c] 96)).drew w1 := hb1) | (go_at_call 141; refine (numbersWith_any _ rg qa nu _ hsr hqa (HRX.out _ ((Below.refl _ _).drew.trans hb1'))).mono ?_; rintro e w2 ⟨v, rfl, hr2, hb2⟩))
  have hs1 := hb1'.size
  go_wp2
  go_ret
  exact ⟨v, rfl, HE.out ▸ hr2.mono (by simp at hs1; omega), B0.out.trans (((Below.refl _ _).drew.trans (hb1'.trans (hb2.mono hs1))).mono B0.out.size)⟩
end Go.Proofs.Ytminfkedkkkhdaa
