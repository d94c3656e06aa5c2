/-
  Part of a proof: StepM. No condition.
-/
import Derived.Test.YtminfkedkkkhdaaZAav
namespace Go.Proofs.Ytminfkedkkkhdaa
open Go.RowKit
namespace Bt
def failsI (rs : List C4) (m : Mc) (k : Nat) (t : Th) : Bool := if rs.length ≤ t.pl then true else match rs[t.pl.toNat]? with
 | some x => faultsI m k t x
 | none => false
theorem failsI_end {rs : List C4} {m : Mc} {k : Nat} {t : Th} (h : (rs.length : Int) ≤ t.pl) : failsI rs m k t = true := by unfold failsI; rw [if_pos h]
theorem failsI_at {rs : List C4} {m : Mc} {k : Nat} {t : Th} {j : Nat} (h : j < rs.length) (e : t.pl = j) : failsI rs m k t = faultsI m k t rs[j] := by
 unfold failsI
 rw [if_neg (by omega), e]
 simp [h]
end Bt
set_option maxRecDepth 100000 in
set_option maxHeartbeats 2000000 in
theorem stepFails_any {AT AC AL AD : Option Addr} {nt ct nc cc nl cl nd cd b o n cap : Nat} {m : Bt.Mc} {rs : List Bt.C4} (h : Int) (k : Nat) (w : World) (P : ArgPr w b o n cap rs)
  (H : ArgMc w AT nt ct AC nc cc AL nl cl AD nd cd m) (hm : Bt.machOk rs h m = true) (hk' : k < m.ths.length) :
  Calls Try.prog 112 #[.agg #[.slice (some ⟨b, o, none⟩) n cap, .int .i64 h], .agg #[.slice AT nt ct, .slice AC nc cc, .slice AL nl cl, .slice AD nd cd], .int .i64 (k : Int)] w fun e w' => e = .returned (.bool (Bt.failsI rs m k m.ths[k])) ∧ Below w.heap.size w w' := by
 have hk : k < nt := by rw [← H.nT]; exact hk'
 have hle := H.ths.2.1
 have hT := H.nT
 have hcp := P.cap
 have hnP := P.nP
 have HP := Lib.hid P; clear P
 have HH := Lib.hid H; clear H
 have MF := Lib.hid (Bt.machOk_facts hm)
 have TF := Lib.hid (Bt.thOk_facts (MF.out.th k hk'))
 have L0 := TF.out.lo
 have BB := Lib.hid (((Below.refl w.heap.size w).alloc (Nat.le_refl _) (.cells #[.slice (some ⟨b, o, none⟩) n cap, .int .i64 h] 36)).alloc (by simp) (.cells #[.slice AT nt ct, .slice AC nc cc, .slice AL nl cl, .slice AD nd cd] 31))
 obtain ⟨bt, ot, rfl, ht⟩ := (HH.out.keep BB.out).ths.2.2 k hk'
 obtain ⟨AR, cr, AS, cs, HT, f0, f1, f2, f3⟩ := ht.open
 clear ht HT
 generalize hth : m.ths[k] = th at *
 obtain ⟨pl, rg, sk, st⟩ := th
 simp only at *
 by_cases c4 : (n : Int) ≤ pl
 ·rw [Bt.failsI_end (by rw [hnP]; exact c4)]
  generalize rg.length = nr at *
  generalize sk.length = ns at *
  clear hth
  go_enter Try.func112, Try.ntmps112
  go_wp2_with fail
  refine (behindEnd_any b o n cap h pl st AR AS nr cr ns cs _).mono ?_
  rw [decide_eq_true c4]
  rintro e w1 ⟨rfl, hb1⟩
  have W1 := Lib.hid ((BB.out.alloc (by simp; omega) _).trans (hb1.mono (by simp; omega)))
  clear hb1
  go_wp2
  go_ret
  exact ⟨rfl, W1.out⟩
 ·obtain ⟨j, rfl⟩ : ∃ j : Nat, pl = j := ⟨pl.toNat, by omega⟩
  have hjn : j < n := by omega
  have hjr : j < rs.length := by rw [hnP]; exact hjn
  have HE := Lib.hid (Bt.failsI_at (m := m) (k := k) (t := ⟨(j : Int), rg, sk, st⟩) hjr rfl)
  rw [HE.out]
  have HC := Lib.hid (Bt.progOk_code MF.out.prog hjr)
  have hbo : b < w.heap.size := cell_lt (HP.out.codes j hjr).1
  obtain ⟨g0, g1, g2, g3⟩ := (HP.out.keep BB.out).codes j hjr
  generalize rg.length = nr at *
  generalize hns : sk.length = ns at *
  have HNS := Lib.hid hns
  generalize rs[j] = r at *
  obtain ⟨op, xa, xb, xc⟩ := r
  simp only at *
  clear hth HE L0 hm hns
  go_enter Try.func112, Try.ntmps112
  go_wp2_with fail
  refine (behindEnd_any b o n cap h (j : Int) st AR AS nr cr ns cs _).mono ?_
  rw [decide_eq_false (by omega)]
  rintro e w1 ⟨rfl, hb1⟩
  have hy2 : w.heap.size + 1 + 1 < w1.heap.size := by have := hb1.size; simp at this; omega
  have hy1 : w.heap.size + 1 < w1.heap.size := by omega
  have hy0 : w.heap.size < w1.heap.size := by omega
  have hyb : b < w1.heap.size := by omega
  have p0 : w1.cell? ⟨w.heap.size, 0, none⟩ = some (.slice (some ⟨b, o, none⟩) n cap) := keeps hb1 (by go_simp)
  have m0 : w1.cell? ⟨w.heap.size + 1, 0, none⟩ = some (.slice (some ⟨bt, ot, none⟩) nt ct) := keeps hb1 (by go_simp)
  have m2 : w1.cell? ⟨w.heap.size + 1, 2, none⟩ = some (.slice AL nl cl) := keeps hb1 (by go_simp)
  have t0 : w1.cell? ⟨w.heap.size + 1 + 1, 0, none⟩ = some (.int .i64 (j : Int)) := keeps hb1 (by go_simp)
  have t2 : w1.cell? ⟨w.heap.size + 1 + 1, 2, none⟩ = some (.slice AS ns cs) := keeps hb1 (by go_simp)
  have e0 : w1.cell? ⟨b, o + j * 4, none⟩ = some (.int .i64 op) := keeps hb1 (keeps ((Below.refl _ _).alloc (Nat.le_refl _) _) g0)
  have e1 : w1.cell? ⟨b, o + j * 4 + 1, none⟩ = some (.int .i64 xa) := keeps hb1 (keeps ((Below.refl _ _).alloc (Nat.le_refl _) _) g1)
  have e2 : w1.cell? ⟨b, o + j * 4 + 2, none⟩ = some (.int .i64 xb) := keeps hb1 (keeps ((Below.refl _ _).alloc (Nat.le_refl _) _) g2)
  have e3 : w1.cell? ⟨b, o + j * 4 + 3, none⟩ = some (.int .i64 xc) := keeps hb1 (keeps ((Below.refl _ _).alloc (Nat.le_refl _) _) g3)
  have W1 := Lib.hid ((BB.out.alloc (by simp; omega) _).trans (hb1.mono (by simp; omega)))
  have hsz : w.heap.size ≤ w1.heap.size := by omega
  have HL1 := Lib.hid (HH.out.keep W1.out).locks
  have hNL := HH.out.nL
  have hl2 := MF.out.locks
  clear hb1 f0 f1 f2 f3 g0 g1 g2 g3
  by_cases o11 : op = 11
  ·subst o11
   have HV : Hid (decide ((6 : Int) ≤ (ns : Int)) = Bt.faultsI m k ⟨(j : Int), rg, sk, st⟩ ⟨11, xa, xb, xc⟩) := Lib.hid (by simp only [Bt.faultsI, HNS.out]; rw [if_pos trivial]; exact decide_eq_decide.2 (by omega))
   go_wp2
   go_ret
   exact ⟨ret_bool HV.out, W1.out.alloc (by omega) _⟩
  ·have d11 : (op == 11) = false := by rw [beq_eq_false_iff_ne]; exact o11
   by_cases o12 : op = 12
   ·subst o12
    have HV : Hid (((ns : Int) == 0) = Bt.faultsI m k ⟨(j : Int), rg, sk, st⟩ ⟨12, xa, xb, xc⟩) := Lib.hid (by simp only [Bt.faultsI, HNS.out]; rw [if_neg (by omega), if_pos trivial, Bool.eq_iff_iff, beq_iff_eq, decide_eq_true_eq]; omega)
    go_wp2
    go_ret
    exact ⟨ret_bool HV.out, W1.out.alloc (by omega) _⟩
   ·have d12 : (op == 12) = false := by rw [beq_eq_false_iff_ne]; exact o12
    by_cases o16 : op = 16
    ·subst o16
     obtain ⟨q0, q1⟩ := Bt.lock_bounds HC.out (.inr rfl)
     obtain ⟨q, rfl⟩ : ∃ q : Nat, xc = q := ⟨xc.toNat, by omega⟩
     have hq : q < m.locks.length := by omega
     have HV : Hid ((m.locks[q] != (k : Int)) = Bt.faultsI m k ⟨(j : Int), rg, sk, st⟩ ⟨16, xa, xb, (q : Int)⟩) := Lib.hid (by simp only [Bt.faultsI]; rw [if_neg (by omega), if_neg (by omega), if_pos trivial]; simp [hq])
     obtain ⟨lcap, lat⟩ := HL1.out.at_ hNL
     obtain ⟨bl, ol, rfl, fl⟩ := lat q hq
     have hbl : bl < w1.heap.size := cell_lt fl
     have hqn : q < nl := by omega
     generalize m.locks[q] = lk at *
     clear lat hNL hl2 hq q0 q1
     go_wp2
     go_ret
     exact ⟨ret_bool HV.out, W1.out.alloc (by omega) _⟩
    ·have d16 : (op == 16) = false := by rw [beq_eq_false_iff_ne]; exact o16
     by_cases o17 : op = 17
     ·subst o17
      have HV : Hid (decide ((4 : Int) ≤ (nt : Int)) = Bt.faultsI m k ⟨(j : Int), rg, sk, st⟩ ⟨17, xa, xb, xc⟩) := Lib.hid (by simp only [Bt.faultsI, hT]; rw [if_neg (by omega), if_neg (by omega), if_neg (by omega), if_pos trivial]; exact decide_eq_decide.2 (by omega))
      go_wp2
      go_ret
      exact ⟨ret_bool HV.out, W1.out.alloc (by omega) _⟩
     ·have d17 : (op == 17) = false := by rw [beq_eq_false_iff_ne]; exact o17
      have HV : Hid (false = Bt.faultsI m k ⟨(j : Int), rg, sk, st⟩ ⟨op, xa, xb, xc⟩) := Lib.hid (by simp [Bt.faultsI, o11, o12, o16, o17])
      clear o11 o12 o16 o17
      go_wp2
      go_ret
      exact ⟨ret_bool HV.out, W1.out.alloc (by omega) _⟩
end Go.Proofs.Ytminfkedkkkhdaa
namespace Go.Proofs.Ytminfkedkkkhdaa
open Go.RowKit
theorem IntRow.neTh {w : World} {base b : Nat} {v : Value} {xs : List Int} {c : Array Value} {fr : Nat × Nat} (h : IntRow w base v xs) (hb : w.heap[b]? = some (.cells c 123 fr)) : v.ownBlock ≠ some b := by
 have h' : w.ownsRow base 3 1 v xs.length (xs.map (Value.int .i64)) := h
 rcases h'.2 with ⟨rfl, _⟩ | ⟨g, cap, cur, rfl, _, hg, _⟩
 ·simp [Value.ownBlock]
 ·intro e
  simp only [Value.ownBlock, Option.some.injEq] at e
  subst e
  rw [hb] at hg
  injection hg with e2
  injection e2 with _ e3 _
  exact absurd e3 (by decide)
theorem alloc_at (w : World) (o : Obj) : (w.alloc o).heap[w.heap.size]? = some o := by
 show (w.heap.push o)[w.heap.size]? = some o
 simp
theorem heap_keep {w w' : World} (hb : Below w.heap.size w w') {g : Nat} {o : Obj} (h : w.heap[g]? = some o) : w'.heap[g]? = some o := by
 rw [hb.block g (Array.getElem?_eq_some_iff.1 h).1, h]
def ThBox (w : World) (B g : Nat) (t : Bt.Th) : Prop := ∃ A c A' c', Four w g (.int .i64 t.pl) (.slice A t.regs.length c) (.slice A' t.stack.length c') (.int .i64 t.st) ∧ IntRow w B (.slice A t.regs.length c) t.regs ∧ IntRow w B (.slice A' t.stack.length c') t.stack ∧ Apart (.slice A t.regs.length c) (.slice A' t.stack.length c')
theorem ThBox.keep {w w' : World} {B g : Nat} {t : Bt.Th} (h : ThBox w B g t) (hb : Below w.heap.size w w') : ThBox w' B g t := by
 obtain ⟨A, c, A', c', h0, h1, h2, h3⟩ := h
 exact ⟨A, c, A', c', h0.keep hb, h1.keep hb, h2.keep hb, h3⟩
namespace Bt
theorem regsI_length (m : Mc) (t : Th) (x : C4) (rep : Int) : (regsI m t x rep).length = t.regs.length := by unfold regsI; split <;> simp
theorem stackI_length {t : Th} {x : C4} : (stackI t x).length ≤ t.stack.length + 1 := by
 unfold stackI
 split
 ·simp
 ·split
  ·rw [List.length_take]; omega
  ·omega
end Bt
set_option maxRecDepth 100000 in
set_option maxHeartbeats 4000000 in
theorem threadsBehind_any {AT AC AL AD : Option Addr} {nt ct nc cc nl cl nd cd k : Nat} {m : Bt.Mc} {w : World} (op a b c kd rep : Int) (H : ArgMc w AT nt ct AC nc cc AL nl cl AD nd cd m) (S : Small m) (hk : k < m.ths.length) (hc : Bt.codeOk op a b c = true) (hTF : Bt.ThFacts 60 m.ths[k]) (h8 : m.cells.length = 8) (h4 : m.ths.length ≤ 4) (h12 : op = 12 → 0 < m.ths[k].stack.length) :
  Calls Try.prog 128 #[.agg #[.slice AT nt ct, .slice AC nc cc, .slice AL nl cl, .slice AD nd cd], .agg #[.int .i64 (k : Int), .int .i64 kd, .int .i64 rep], .agg #[.int .i64 op, .int .i64 a, .int .i64 b, .int .i64 c]] w (ThsNew (Bt.thsI m k m.ths[k] ⟨op, a, b, c⟩ rep) w) := by
 unfold ThsNew
 have B3 := Lib.hid (show Below w.heap.size w (((w.alloc (.cells #[.slice AT nt ct, .slice AC nc cc, .slice AL nl cl, .slice AD nd cd] 31)).alloc (.cells #[.int .i64 (k : Int), .int .i64 kd, .int .i64 rep] 80)).alloc (.cells #[.int .i64 op, .int .i64 a, .int .i64 b, .int .i64 c] 96)) from (((Below.refl _ _).alloc (Nat.le_refl _) _).alloc (by simp) _).alloc (by simp; omega) _)
 have hle := H.ths.2.1
 have hnT := Lib.hid H.nT
 have hkn : k < nt := by rw [← H.nT]; exact hk
 have HS := Lib.hid S; clear S
 have hr := hTF.regs
 have hl4 := Bt.regsOk_len hr
 obtain ⟨bt, ot, rfl, ht⟩ := (H.keep B3.out).ths.2.2 k hk
 obtain ⟨AR, cr, AS, cs, HT, f0, f1, f2, f3⟩ := ht.open
 have NSK : Hid (m.ths[k].stack.length ≤ 6) := Lib.hid hTF.top
 rw [hl4] at f1 HT
 clear ht
 have L0 := Lib.hid hTF.lo; have L1 := Lib.hid hTF.hi
 have hTEQ : Hid (Bt.thsI m k m.ths[k] ⟨op, a, b, c⟩ rep = m.ths.set k ⟨Bt.placeI m.ths[k] ⟨op, a, b, c⟩, Bt.regsI m m.ths[k] ⟨op, a, b, c⟩ rep, Bt.stackI m.ths[k] ⟨op, a, b, c⟩, Bt.stateI m.ths[k] ⟨op, a, b, c⟩⟩ ++ (if op = 17 then [⟨c, m.ths[k].regs, [], 0⟩] else [])) := Lib.hid rfl
 have RB0 := Lib.hid (fun (W' : World) (hM : ArgMc W' (some ⟨bt, ot, none⟩) nt ct AC nc cc AL nl cl AD nd cd m) => regsBehind_any (k := k) op a b c kd rep hM HS.out hk hc hr h8)
 generalize hth : m.ths[k] = th at *
 obtain ⟨pl, rg, sk, st⟩ := th
 simp only at *
 obtain ⟨ns, hns⟩ : ∃ ns, sk.length = ns := ⟨_, rfl⟩
 rw [hns] at f2 HT
 obtain ⟨W0, hW0⟩ : ∃ W0 : World, W0 = ((((w).alloc (.cells #[.slice (some ⟨bt, ot, none⟩) nt ct, .slice AC nc cc, .slice AL nl cl, .slice AD nd cd] 31)).alloc (.cells #[.int .i64 (k : Int), .int .i64 kd, .int .i64 rep] 80)).alloc (.cells #[.int .i64 op, .int .i64 a, .int .i64 b, .int .i64 c] 96)).alloc (.cells #[.int .i64 pl, .slice AR 4 cr, .slice AS ns cs, .int .i64 st] 123) := ⟨_, rfl⟩
 have B0 := Lib.hid (show Below w.heap.size w W0 by rw [hW0]; exact ((((Below.refl _ _).alloc (Nat.le_refl _) _).alloc (by simp) _).alloc (by simp; omega) _).alloc (by simp; omega) _)
 have HM0 := Lib.hid (H.keep B0.out)
 have B30 : Below (((w.alloc (.cells #[.slice (some ⟨bt, ot, none⟩) nt ct, .slice AC nc cc, .slice AL nl cl, .slice AD nd cd] 31)).alloc (.cells #[.int .i64 (k : Int), .int .i64 kd, .int .i64 rep] 80)).alloc (.cells #[.int .i64 op, .int .i64 a, .int .i64 b, .int .i64 c] 96)).heap.size (((w.alloc (.cells #[.slice (some ⟨bt, ot, none⟩) nt ct, .slice AC nc cc, .slice AL nl cl, .slice AD nd cd] 31)).alloc (.cells #[.int .i64 (k : Int), .int .i64 kd, .int .i64 rep] 80)).alloc (.cells #[.int .i64 op, .int .i64 a, .int .i64 b, .int .i64 c] 96)) W0 := by rw [hW0]; exact (Below.refl _ _).alloc (Nat.le_refl _) _
 have HT0 := Lib.hid (HT.keep B30)
 clear H HT
 have p00 : W0.cell? ⟨w.heap.size, 0, none⟩ = some (.slice (some ⟨bt, ot, none⟩) nt ct) := by rw [hW0]; go_simp
 have p01 : W0.cell? ⟨w.heap.size, 1, none⟩ = some (.slice AC nc cc) := by rw [hW0]; go_simp
 have p02 : W0.cell? ⟨w.heap.size, 2, none⟩ = some (.slice AL nl cl) := by rw [hW0]; go_simp
 have p03 : W0.cell? ⟨w.heap.size, 3, none⟩ = some (.slice AD nd cd) := by rw [hW0]; go_simp
 have p10 : W0.cell? ⟨w.heap.size + 1, 0, none⟩ = some (.int .i64 (k : Int)) := by rw [hW0]; go_simp
 have p11 : W0.cell? ⟨w.heap.size + 1, 1, none⟩ = some (.int .i64 kd) := by rw [hW0]; go_simp
 have p12 : W0.cell? ⟨w.heap.size + 1, 2, none⟩ = some (.int .i64 rep) := by rw [hW0]; go_simp
 have p20 : W0.cell? ⟨w.heap.size + 1 + 1, 0, none⟩ = some (.int .i64 op) := by rw [hW0]; go_simp
 have p21 : W0.cell? ⟨w.heap.size + 1 + 1, 1, none⟩ = some (.int .i64 a) := by rw [hW0]; go_simp
 have p22 : W0.cell? ⟨w.heap.size + 1 + 1, 2, none⟩ = some (.int .i64 b) := by rw [hW0]; go_simp
 have p23 : W0.cell? ⟨w.heap.size + 1 + 1, 3, none⟩ = some (.int .i64 c) := by rw [hW0]; go_simp
 have p30 : W0.cell? ⟨w.heap.size + 1 + 1 + 1, 0, none⟩ = some (.int .i64 pl) := by rw [hW0]; go_simp
 have p31 : W0.cell? ⟨w.heap.size + 1 + 1 + 1, 1, none⟩ = some (.slice AR 4 cr) := by rw [hW0]; go_simp
 have p32 : W0.cell? ⟨w.heap.size + 1 + 1 + 1, 2, none⟩ = some (.slice AS ns cs) := by rw [hW0]; go_simp
 have p33 : W0.cell? ⟨w.heap.size + 1 + 1 + 1, 3, none⟩ = some (.int .i64 st) := by rw [hW0]; go_simp
 have HW := Lib.hid hW0; clear hW0
 have PB : Hid (∀ x : Cls W0, Calls Try.prog 137 #[.agg #[.int .i64 pl, .slice AR 4 cr, .slice AS ns cs, .int .i64 st], .agg #[.int .i64 op, .int .i64 a, .int .i64 b, .int .i64 c]] x.val fun e w' => e = .returned (.int .i64 (Bt.placeI ⟨pl, rg, sk, st⟩ ⟨op, a, b, c⟩)) ∧ Below x.val.heap.size x.val w') := Lib.hid (fun x => placeBehind_any (t := ⟨pl, rg, sk, st⟩) op a b c (HT0.out.keep x.below) hc hl4 L0.out (show pl ≤ 1048576 by have := L1.out; omega) (fun e => ⟨h12 e, show sk.length ≤ 1048576 by have := NSK.out; omega⟩))
 have TB : Hid (∀ x : Cls W0, Calls Try.prog 140 #[.agg #[.int .i64 pl, .slice AR 4 cr, .slice AS ns cs, .int .i64 st], .agg #[.int .i64 op, .int .i64 a, .int .i64 b, .int .i64 c]] x.val fun e w' => e = .returned (.int .i64 (Bt.stateI ⟨pl, rg, sk, st⟩ ⟨op, a, b, c⟩)) ∧ Below x.val.heap.size x.val w') := Lib.hid (fun x => stateBehind_any (t := ⟨pl, rg, sk, st⟩) op a b c)
 have SB : Hid (∀ x : Cls W0, Calls Try.prog 139 #[.agg #[.int .i64 pl, .slice AR 4 cr, .slice AS ns cs, .int .i64 st], .agg #[.int .i64 op, .int .i64 a, .int .i64 b, .int .i64 c]] x.val (NumsMade (Bt.stackI ⟨pl, rg, sk, st⟩ ⟨op, a, b, c⟩) x.val)) := Lib.hid (fun x => stackBehind_any (t := ⟨pl, rg, sk, st⟩) op a b c (HT0.out.keep x.below) L0.out (show pl ≤ 1048576 by have := L1.out; omega) (by have := NSK.out; omega) h12)
 have RB : Hid (∀ x : Cls W0, Calls Try.prog 138 #[.agg #[.slice (some ⟨bt, ot, none⟩) nt ct, .slice AC nc cc, .slice AL nl cl, .slice AD nd cd], .agg #[.int .i64 (k : Int), .int .i64 kd, .int .i64 rep], .agg #[.int .i64 op, .int .i64 a, .int .i64 b, .int .i64 c]] x.val (NumsMade (Bt.regsI m ⟨pl, rg, sk, st⟩ ⟨op, a, b, c⟩ rep) x.val)) := Lib.hid (fun x => RB0.out _ (HM0.out.keep x.below))
 have qt0 := Cls.keeps p30
 have qt1 := Cls.keeps p31
 have qt2 := Cls.keeps p32
 have qt3 := Cls.keeps p33
 have qx0 := Cls.keeps p20
 have qx1 := Cls.keeps p21
 have qx2 := Cls.keeps p22
 have qx3 := Cls.keeps p23
 have qm0 := Cls.keeps p00
 have qm1 := Cls.keeps p01
 have qm2 := Cls.keeps p02
 have qm3 := Cls.keeps p03
 have qc0 := Cls.keeps p10
 have qc1 := Cls.keeps p11
 have qc2 := Cls.keeps p12
 have HL4 := Lib.hid hl4
 have HNS := Lib.hid hns
 clear hl4 hns hth hTF
 generalize hPL : (Bt.placeI ⟨pl, rg, sk, st⟩ ⟨op, a, b, c⟩) = pv at *
 generalize hRG : (Bt.regsI m ⟨pl, rg, sk, st⟩ ⟨op, a, b, c⟩ rep) = rv at *
 generalize hSK : (Bt.stackI ⟨pl, rg, sk, st⟩ ⟨op, a, b, c⟩) = sv at *
 generalize hST : (Bt.stateI ⟨pl, rg, sk, st⟩ ⟨op, a, b, c⟩) = tv at *
 have HRG := Lib.hid hRG; have HSK := Lib.hid hSK
 clear hPL hRG hSK hST
 go_enter Try.func128, Try.ntmps128
 go_wp2_with fail
 rw [← HW.out]
 refine wp_region_ord_cls [Fact.is 16 (.agg #[.int .i64 pl, .slice AR 4 cr, .slice AS ns cs, .int .i64 st]),
   Fact.is 17 (.agg #[.int .i64 op, .int .i64 a, .int .i64 b, .int .i64 c]),
   Fact.is 18 (.int .i64 pv),
   Fact.is 19 (.agg #[.slice (some ⟨bt, ot, none⟩) nt ct, .slice AC nc cc, .slice AL nl cl, .slice AD nd cd]),
   Fact.is 20 (.agg #[.int .i64 (k : Int), .int .i64 kd, .int .i64 rep]),
   Fact.is 21 (.agg #[.int .i64 op, .int .i64 a, .int .i64 b, .int .i64 c]),
   Fact.upto 22 15 (fun v w' => ∃ A9 k9, v = .slice A9 rv.length k9 ∧ IntRow w' W0.heap.size (.slice A9 rv.length k9) rv),
   Fact.is 23 (.agg #[.int .i64 pl, .slice AR 4 cr, .slice AS ns cs, .int .i64 st]),
   Fact.is 24 (.agg #[.int .i64 op, .int .i64 a, .int .i64 b, .int .i64 c]),
   ⟨[25, 22], some 15, fun vs w' => ∃ A9 k9 A8 k8, vs = [.slice A8 sv.length k8, .slice A9 rv.length k9] ∧ IntRow w' W0.heap.size (.slice A8 sv.length k8) sv ∧ Apart (.slice A9 rv.length k9) (.slice A8 sv.length k8)⟩,
   Fact.is 26 (.agg #[.int .i64 pl, .slice AR 4 cr, .slice AS ns cs, .int .i64 st]),
   Fact.is 27 (.agg #[.int .i64 op, .int .i64 a, .int .i64 b, .int .i64 c]),
   Fact.is 28 (.int .i64 tv),
   Fact.upto 29 15 (fun v w' => ∃ A9 k9 A8 k8, v = .agg #[.int .i64 pv, .slice A9 rv.length k9, .slice A8 sv.length k8, .int .i64 tv] ∧ IntRow w' W0.heap.size (.slice A9 rv.length k9) rv ∧ IntRow w' W0.heap.size (.slice A8 sv.length k8) sv ∧ Apart (.slice A9 rv.length k9) (.slice A8 sv.length k8)),
   Fact.upto 8 15 (fun v w' => ∃ g, v = .pointer (some ⟨g, 0, none⟩) ∧ W0.heap.size ≤ g ∧ Four w' g (.int .i64 0) (.slice none 0 0) (.slice none 0 0) (.int .i64 0) ∧ ∃ cs fr, w'.heap[g]? = some (.cells cs 123 fr)),
   Fact.keep 8 (fun v w' => ∃ g, v = .pointer (some ⟨g, 0, none⟩) ∧ W0.heap.size ≤ g ∧ ThBox w' W0.heap.size g ⟨pv, rv, sv, tv⟩)]
  (by kernel_rfl) (by kernel_rfl) ?_ ?_ ?_
 ·exact ⟨Fact.is_stable _ _, Fact.is_stable _ _, Fact.is_stable _ _, Fact.is_stable _ _, Fact.is_stable _ _, Fact.is_stable _ _, Fact.upto_stable (fun v w w' hb ⟨A, c, e, h⟩ => ⟨A, c, e, h.keep hb⟩), Fact.is_stable _ _, Fact.is_stable _ _, (fun vs w w' hb ⟨A, c, A', c', e, h, h'⟩ => ⟨A, c, A', c', e, h.keep hb, h'⟩), Fact.is_stable _ _, Fact.is_stable _ _, Fact.is_stable _ _, Fact.upto_stable (fun v w w' hb ⟨A, c, A', c', e, h, h', h3⟩ => ⟨A, c, A', c', e, h.keep hb, h'.keep hb, h3⟩), Fact.upto_stable (fun v w w' hb ⟨g, e, l, h, cs, fr, hh⟩ => ⟨g, e, l, h.keep hb, cs, fr, heap_keep hb hh⟩), Fact.keep_stable (fun v w w' hb ⟨g, e, l, h⟩ => ⟨g, e, l, h.keep hb⟩), trivial⟩
 ·refine ⟨?_, ?_, ?_, ?_, ?_, ?_, ?_, ?_, ?_, ?_, ?_, ?_, ?_, ?_, ?_, ?_, trivial⟩
  ·intro A' x hoff hdep _hdif
   have a7 : A'.eval (.tmp 7) = .pointer (some ⟨w.heap.size + 1 + 1 + 1, 0, none⟩) := off_of hoff 7 (by kernel_rfl)
   exact good_is rfl rfl (by generalize A'.eval = ev at *; simp [go_sem, a7, qt0, qt1, qt2, qt3])
  ·intro A' x hoff hdep _hdif
   have a5 : A'.eval (.tmp 5) = .pointer (some ⟨w.heap.size + 1 + 1, 0, none⟩) := off_of hoff 5 (by kernel_rfl)
   exact good_is rfl rfl (by generalize A'.eval = ev at *; simp [go_sem, a5, qx0, qx1, qx2, qx3])
  ·intro A' x hoff hdep _hdif
   have ef : ∀ f, A'.eval (.func f) = .func (.func f) #[] #[] := fun _ => rfl
   have a16 := is_of (ask_of hdep (j := 0) (by kernel_rfl)) rfl
   have a17 := is_of (ask_of hdep (j := 1) (by kernel_rfl)) rfl
   exact good_call_is rfl rfl (by generalize A'.eval = ev at *; simp [go_sem, ef, a16, a17]) (PB.out x)
  ·intro A' x hoff hdep _hdif
   have a3 : A'.eval (.tmp 3) = .pointer (some ⟨w.heap.size, 0, none⟩) := off_of hoff 3 (by kernel_rfl)
   exact good_is rfl rfl (by generalize A'.eval = ev at *; simp [go_sem, a3, qm0, qm1, qm2, qm3])
  ·intro A' x hoff hdep _hdif
   have a4 : A'.eval (.tmp 4) = .pointer (some ⟨w.heap.size + 1, 0, none⟩) := off_of hoff 4 (by kernel_rfl)
   exact good_is rfl rfl (by generalize A'.eval = ev at *; simp [go_sem, a4, qc0, qc1, qc2])
  ·intro A' x hoff hdep _hdif
   have a5 : A'.eval (.tmp 5) = .pointer (some ⟨w.heap.size + 1 + 1, 0, none⟩) := off_of hoff 5 (by kernel_rfl)
   exact good_is rfl rfl (by generalize A'.eval = ev at *; simp [go_sem, a5, qx0, qx1, qx2, qx3])
  ·intro A' x hoff hdep _hdif
   have ef : ∀ f, A'.eval (.func f) = .func (.func f) #[] #[] := fun _ => rfl
   have a19 := is_of (ask_of hdep (j := 3) (by kernel_rfl)) rfl
   have a20 := is_of (ask_of hdep (j := 4) (by kernel_rfl)) rfl
   have a21 := is_of (ask_of hdep (j := 5) (by kernel_rfl)) rfl
   exact good_call_upto rfl rfl (by generalize A'.eval = ev at *; simp [go_sem, ef, a19, a20, a21]) ((RB.out x).mono fun e w3 ⟨v, h1, h3, h2⟩ => by obtain ⟨A1, c1, e1, _⟩ := h3.arg.form; subst e1; exact ⟨_, h1, h2, _, _, rfl, h3.mono x.below.size⟩)
  ·intro A' x hoff hdep _hdif
   have a7 : A'.eval (.tmp 7) = .pointer (some ⟨w.heap.size + 1 + 1 + 1, 0, none⟩) := off_of hoff 7 (by kernel_rfl)
   exact good_is rfl rfl (by generalize A'.eval = ev at *; simp [go_sem, a7, qt0, qt1, qt2, qt3])
  ·intro A' x hoff hdep _hdif
   have a5 : A'.eval (.tmp 5) = .pointer (some ⟨w.heap.size + 1 + 1, 0, none⟩) := off_of hoff 5 (by kernel_rfl)
   exact good_is rfl rfl (by generalize A'.eval = ev at *; simp [go_sem, a5, qx0, qx1, qx2, qx3])
  ·intro A' x hoff hdep _hdif
   have ef : ∀ f, A'.eval (.func f) = .func (.func f) #[] #[] := fun _ => rfl
   obtain ⟨A1, c1, a22, p22⟩ := upto_of (ask_of hdep (j := 6) (by kernel_rfl)) rfl
   have a23 := is_of (ask_of hdep (j := 7) (by kernel_rfl)) rfl
   have a24 := is_of (ask_of hdep (j := 8) (by kernel_rfl)) rfl
   refine good_call (by generalize A'.eval = ev at *; simp [go_sem, ef, a23, a24]) ((SB.out x).mono fun e w3 ⟨v, h1, h3, h2⟩ => ?_)
   obtain ⟨A2, c2, e2, _⟩ := h3.arg.form
   subst e2
   refine ⟨_, h1, h2, A1, c1, A2, c2, ?_, h3.mono x.below.size, Apart.of_lt (fun q e => (p22.bd q e).2) (fun q e => (h3.bd q e).1)⟩
   have e22 : slotAt A' 22 = .slice A1 rv.length c1 := a22
   simp [put1, e22]
  ·intro A' x hoff hdep _hdif
   have a7 : A'.eval (.tmp 7) = .pointer (some ⟨w.heap.size + 1 + 1 + 1, 0, none⟩) := off_of hoff 7 (by kernel_rfl)
   exact good_is rfl rfl (by generalize A'.eval = ev at *; simp [go_sem, a7, qt0, qt1, qt2, qt3])
  ·intro A' x hoff hdep _hdif
   have a5 : A'.eval (.tmp 5) = .pointer (some ⟨w.heap.size + 1 + 1, 0, none⟩) := off_of hoff 5 (by kernel_rfl)
   exact good_is rfl rfl (by generalize A'.eval = ev at *; simp [go_sem, a5, qx0, qx1, qx2, qx3])
  ·intro A' x hoff hdep _hdif
   have ef : ∀ f, A'.eval (.func f) = .func (.func f) #[] #[] := fun _ => rfl
   have a26 := is_of (ask_of hdep (j := 10) (by kernel_rfl)) rfl
   have a27 := is_of (ask_of hdep (j := 11) (by kernel_rfl)) rfl
   exact good_call_is rfl rfl (by generalize A'.eval = ev at *; simp [go_sem, ef, a26, a27]) (TB.out x)
  ·intro A' x hoff hdep _hdif
   have a18 := is_of (ask_of hdep (j := 2) (by kernel_rfl)) rfl
   have a28 := is_of (ask_of hdep (j := 12) (by kernel_rfl)) rfl
   obtain ⟨A1, c1, a22, p22⟩ := upto_of (ask_of hdep (j := 6) (by kernel_rfl)) rfl
   obtain ⟨A0, c0, A2, c2, e25, p25, p3⟩ := ask_of hdep (j := 9) (by kernel_rfl)
   have e25 : [slotAt A' 25, slotAt A' 22] = [.slice A2 sv.length c2, .slice A0 rv.length c0] := e25
   injection e25 with a25 e25
   injection e25 with a22' _
   have a25 : A'.eval (.tmp 25) = .slice A2 sv.length c2 := a25
   have a22' : A'.eval (.tmp 22) = .slice A0 rv.length c0 := a22'
   rw [a22] at a22'
   injection a22' with y1 _ y3
   subst y1 y3
   exact good_run (v := .agg #[.int .i64 pv, .slice A1 rv.length c1, .slice A2 sv.length c2, .int .i64 tv]) (w' := x.val) (by generalize A'.eval = ev at *; simp [go_sem, a18, a28, a22, a25]) (leaves_below (Below.refl _ _) (upto_to rfl rfl ⟨_, _, _, _, rfl, p22, p25, p3⟩))
  ·intro A' x hoff hdep _hdif
   refine good_run (v := .pointer (some ⟨x.val.heap.size, 0, none⟩)) (w' := x.val.alloc (.cells #[.int .i64 0, .slice none 0 0, .slice none 0 0, .int .i64 0] 123)) (by generalize A'.eval = ev at *; simp [go_sem]) (leaves_alloc (upto_to rfl rfl ⟨x.val.heap.size, rfl, x.below.size, ?_, _, (0, 0), alloc_at _ _⟩))
   clear hoff hdep
   unfold Four
   go_simp
  ·intro A' x hoff hdep _hdif
   obtain ⟨g, a8, l8, ⟨k0, k1, k2, k3, f0, f1, f2, f3⟩, cs', fr', hh⟩ := upto_of (ask_of hdep (j := 14) (by kernel_rfl)) rfl
   obtain ⟨A1, c1, A2, c2, a29, p22, p25, p3⟩ := upto_of (ask_of hdep (j := 13) (by kernel_rfl)) rfl
   have n1 := p22.neTh hh
   have n2 := p25.neTh hh
   refine good_skip (w' := (((x.val.setCell ⟨g, 0, none⟩ (.int .i64 pv)).setCell ⟨g, 1, none⟩ (.slice A1 rv.length c1)).setCell ⟨g, 2, none⟩ (.slice A2 sv.length c2)).setCell ⟨g, 3, none⟩ (.int .i64 tv)) (by generalize A'.eval = ev at *; simp [go_sem, a8, a29, k0, k1, k2, k3, f0, f1, f2, f3]) ⟨⟨by simp, fun h => absurd h (by decide)⟩, ⟨⟨_, ((((x.below.setCell l8 _).setCell l8 _).setCell l8 _).setCell l8 _)⟩, rfl⟩, .inr ?_, keep_to rfl (by simp) a8 ⟨g, rfl, l8, A1, c1, A2, c2, ?_, ?_, ?_, p3⟩⟩
   ·intro j hj hk hf
    match j, hj, hk, hf with
    | 0, _, _, hf => exact hf
    | 1, _, _, hf => exact hf
    | 2, _, _, hf => exact hf
    | 3, _, _, hf => exact hf
    | 4, _, _, hf => exact hf
    | 5, _, _, hf => exact hf
    | 6, _, hk, _ => exact absurd rfl (hk 15 rfl).1
    | 7, _, _, hf => exact hf
    | 8, _, _, hf => exact hf
    | 9, _, hk, _ => exact absurd rfl (hk 15 rfl).1
    | 10, _, _, hf => exact hf
    | 11, _, _, hf => exact hf
    | 12, _, _, hf => exact hf
    | 13, _, hk, _ => exact absurd rfl (hk 15 rfl).1
    | 14, _, hk, _ => exact absurd rfl (hk 15 rfl).1
    | 15, hj, _, _ => exact absurd rfl hj
    | _ + 16, _, _, _ => trivial
   ·clear hoff hdep _hdif
    unfold Four
    go_simp
   ·repeat (refine IntRow.setOther ?_ _ (by intro b hb e; exact n1 (by rw [hb, e])))
    exact p22
   ·repeat (refine IntRow.setOther ?_ _ (by intro b hb e; exact n2 (by rw [hb, e])))
    exact p25
 ·intro s w4 hb4 hf _hdf
  obtain ⟨g8, e8, l8, AA, ca, AB, cb, ⟨k0, k1, k2, k3, _, _, _, _⟩, r22, r25, rap⟩ := keep_of (hf 15 (by decide) rfl) rfl
  clear hf
  simp only [putAll, Act.put, List.setIfInBounds_toArray, List.set_cons_succ, List.set_cons_zero, e8]
  clear qt0 qt1 qt2 qt3 qx0 qx1 qx2 qx3 qm0 qm1 qm2 qm3 qc0 qc1 qc2
  have z0 := B0.out.size
  have HB4 := Lib.hid (B0.out.trans (hb4.mono z0))
  have x0 := keeps hb4 p00
  have x1 := keeps hb4 p10
  have x2 := keeps hb4 p20
  have x3 := keeps hb4 p23
  have x4 := keeps hb4 p31
  have hz4 : W0.heap.size ≤ w4.heap.size := hb4.size
  have HR0 := Lib.hid (HT0.out.regs.keep hb4)
  have R22 := Lib.hid r22; have R25 := Lib.hid r25; have RAP := Lib.hid rap
  have HSL : Hid (sv.length ≤ 1048576) := Lib.hid (by have h1 := Bt.stackI_length (t := ⟨pl, rg, sk, st⟩) (x := ⟨op, a, b, c⟩); rw [HSK.out] at h1; have := NSK.out; simp only at h1; omega)
  have HRL : Hid (rv.length ≤ 1048576) := Lib.hid (by have h1 := Bt.regsI_length m ⟨pl, rg, sk, st⟩ ⟨op, a, b, c⟩ rep; rw [HRG.out] at h1; have := HL4.out; simp only at h1; omega)
  have TW := Lib.hid (threadsWith_any (k := k) (t := ⟨pv, rv, sv, tv⟩) (HM0.out.keep hb4).ths ⟨r22.arg, r25.arg, rfl, rfl⟩ HRL.out HSL.out (by have := hnT.out; omega) (fun i h => ⟨HS.out.regs i h, HS.out.stack i h⟩))
  clear hb4 r22 r25 rap p00 p01 p02 p03 p10 p11 p12 p20 p21 p22 p23 p30 p31 p32 p33
  go_wp2_with fail
  refine TW.out.mono ?_
  rintro e w5 ⟨vt, xs, rfl, hb5, ha5⟩
  obtain ⟨AT5, ct5, rfl⟩ := ha5.slice
  have y0 := keeps hb5 x2
  have y1 := keeps hb5 x3
  have y2 := keeps hb5 x4
  have HA5 : Hid (ThsAcc w5 w4.heap.size (.slice AT5 m.ths.length ct5) (m.ths.set k ⟨pv, rv, sv, tv⟩) xs) := Lib.hid (by have h := ha5; rw [List.length_set] at h; exact h)
  have HB5 := Lib.hid (HB4.out.trans (hb5.mono HB4.out.size))
  have HR5 := Lib.hid (HR0.out.keep hb5)
  have hz5 := hb5.size
  clear x0 x1 x2 x3 x4 k0 k1 k2 k3 ha5 hb5
  by_cases o17 : op = 17
  ·subst o17
   have HTE := Lib.hid (hTEQ.out.trans (by rw [if_pos rfl]))
   have hlen : (m.ths.set k ⟨pv, rv, sv, tv⟩).length ≤ 1048576 := by rw [List.length_set]; omega
   have HLEN := Lib.hid hlen; clear hlen
   go_wp2_with (first | (go_at_call 107; refine (threadAt_any c _ rg 4 w5 HL4.out (by decide) HR5.out).mono ?_; rintro e w6 ⟨rfl, hb6, hr6⟩; have hz6 := hb6.size; have HB6 := Lib.hid hb6; have HR6 := Lib.hid hr6; have HA6 := Lib.hid (HA5.out.keep hb6); have HF := Lib.hid (fun u hu => And.intro (HA5.out.fresh (r := .slice (some ⟨w5.heap.size + 1, 0, none⟩) 4 4) (fun q e => by have := (hr6.bd q e).1; omega) u hu) (HA5.out.fresh (r := .slice none 0 0) (fun q e => by simp [Value.ownBlock] at e) u hu)); clear hb6 hr6) | (at_builtin; go_loud (refine wp_app_th rfl _ _ rfl w4.heap.size (.slice AT5 m.ths.length ct5) (m.ths.set k ⟨pv, rv, sv, tv⟩) xs rfl ?ca w6.heap.size 1 ⟨c, rg, [], 0⟩ (.slice (some ⟨w5.heap.size + 1, 0, none⟩) 4 4) (.slice none 0 0) ?cb ?cc ?cd ?ce rfl ?cf ?cg ?ch ?ci ?cj ?ck ?_); (case ca => exact HA6.out.keep ((Below.refl _ _).alloc (Nat.le_refl _) _)); (case cb => exact (HR6.out.mono (by omega)).keep ((Below.refl _ _).alloc (Nat.le_refl _) _)); (case cc => exact IntRow.nil _ _); (case cd => intro q e1 e2; simp [Value.ownBlock] at e2); (case ce => exact HF.out); (case cf => simp); (case cg => simp); (case ch => simp); (case ci => simp); (case cj => exact HLEN.out); (case ck => simp; omega); intro v7 w7 hr7 hg7; have HR7 := Lib.hid hr7; clear hr7; have HG7 := Lib.hid hg7; clear hg7))
   go_ret
   refine ⟨_, _, rfl, ?_, HTE.out ▸ HR7.out.mono (by have := B0.out.size; omega)⟩
   exact ((HB5.out.trans (HB6.out.mono HB5.out.size)).alloc (by have := HB5.out.size; omega) _).trans (grown_below_of HG7.out (fun q e => by have := (HA6.out.lt _ List.mem_cons_self q e).1; have := B0.out.size; omega) (by have := HB5.out.size; simp; omega))
  ·have d17 : (op == 17) = false := by rw [beq_eq_false_iff_ne]; exact o17
   have HTE : Hid (Bt.thsI m k ⟨pl, rg, sk, st⟩ ⟨op, a, b, c⟩ rep = m.ths.set k ⟨pv, rv, sv, tv⟩) := Lib.hid (hTEQ.out.trans (by rw [if_neg o17, List.append_nil]))
   go_wp2
   go_ret
   exact ⟨_, xs, rfl, HB5.out, HTE.out ▸ HA5.out.mono (by have := HB4.out.size; omega)⟩
end Go.Proofs.Ytminfkedkkkhdaa
namespace Go.Proofs.Ytminfkedkkkhdaa
open Go.RowKit
set_option maxRecDepth 100000 in
set_option maxHeartbeats 4000000 in
theorem machineBehind_any {AT0 AC AL AD : Option Addr} {nt ct0 nc cc nl cl nd cd k : Nat} {m : Bt.Mc} {w : World} (op a b c kd rep : Int) (HM : ArgMc w AT0 nt ct0 AC nc cc AL nl cl AD nd cd m) (S : Small m) (hk : k < m.ths.length) (hc : Bt.codeOk op a b c = true) (hTF : Bt.ThFacts 60 m.ths[k]) (h8 : m.cells.length = 8) (h4 : m.ths.length ≤ 4) (h2 : m.locks.length = 2) (h12 : op = 12 → 0 < m.ths[k].stack.length) :
  Calls Try.prog 114 #[.agg #[.slice AT0 nt ct0, .slice AC nc cc, .slice AL nl cl, .slice AD nd cd], .agg #[.int .i64 (k : Int), .int .i64 kd, .int .i64 rep], .agg #[.int .i64 op, .int .i64 a, .int .i64 b, .int .i64 c]] w (McNew ⟨(Bt.thsI m k m.ths[k] ⟨op, a, b, c⟩ rep), (Bt.cellsI m m.ths[k] ⟨op, a, b, c⟩), (Bt.locksI m k ⟨op, a, b, c⟩), (Bt.toldI m m.ths[k] ⟨op, a, b, c⟩)⟩ w) := by
 unfold McNew
 have HS := Lib.hid S; clear S
 have TB := Lib.hid (fun (W' : World) (hM : ArgMc W' AT0 nt ct0 AC nc cc AL nl cl AD nd cd m) => threadsBehind_any (k := k) op a b c kd rep hM HS.out hk hc hTF h8 h4 h12)
 have CB := Lib.hid (fun (W' : World) (hM : ArgMc W' AT0 nt ct0 AC nc cc AL nl cl AD nd cd m) => cellsBehind_any (k := k) op a b c hM HS.out hk hc hTF.regs h8)
 have LB := Lib.hid (fun (W' : World) (hM : ArgMc W' AT0 nt ct0 AC nc cc AL nl cl AD nd cd m) => locksBehind_any (k := k) op a b c hM HS.out hc h2)
 have DB := Lib.hid (fun (W' : World) (hM : ArgMc W' AT0 nt ct0 AC nc cc AL nl cl AD nd cd m) => toldBehind_any (k := k) op a b c hM HS.out hk hc hTF.regs)
 generalize (Bt.thsI m k m.ths[k] ⟨op, a, b, c⟩ rep) = tsv at *
 generalize (Bt.cellsI m m.ths[k] ⟨op, a, b, c⟩) = csv at *
 generalize (Bt.locksI m k ⟨op, a, b, c⟩) = lsv at *
 generalize (Bt.toldI m m.ths[k] ⟨op, a, b, c⟩) = dsv at *
 clear hTF h8 h4 h12 h2 hc
 obtain ⟨W0, hW0⟩ : ∃ W0 : World, W0 = ((((w).alloc (.cells #[.slice AT0 nt ct0, .slice AC nc cc, .slice AL nl cl, .slice AD nd cd] 31)).alloc (.cells #[.int .i64 (k : Int), .int .i64 kd, .int .i64 rep] 80)).alloc (.cells #[.int .i64 op, .int .i64 a, .int .i64 b, .int .i64 c] 96)).alloc (.cells #[.slice none 0 0, .slice none 0 0, .slice none 0 0, .slice none 0 0] 31) := ⟨_, rfl⟩
 have z0 : W0.heap.size = w.heap.size + 4 := by rw [hW0]; simp
 have B0 := Lib.hid (show Below w.heap.size w W0 by rw [hW0]; exact ((((Below.refl _ _).alloc (Nat.le_refl _) _).alloc (by simp) _).alloc (by simp; omega) _).alloc (by simp; omega) _)
 have p00 : W0.cell? ⟨w.heap.size, 0, none⟩ = some (.slice AT0 nt ct0) := by rw [hW0]; go_simp
 have p01 : W0.cell? ⟨w.heap.size, 1, none⟩ = some (.slice AC nc cc) := by rw [hW0]; go_simp
 have p02 : W0.cell? ⟨w.heap.size, 2, none⟩ = some (.slice AL nl cl) := by rw [hW0]; go_simp
 have p03 : W0.cell? ⟨w.heap.size, 3, none⟩ = some (.slice AD nd cd) := by rw [hW0]; go_simp
 have p10 : W0.cell? ⟨w.heap.size + 1, 0, none⟩ = some (.int .i64 (k : Int)) := by rw [hW0]; go_simp
 have p11 : W0.cell? ⟨w.heap.size + 1, 1, none⟩ = some (.int .i64 kd) := by rw [hW0]; go_simp
 have p12 : W0.cell? ⟨w.heap.size + 1, 2, none⟩ = some (.int .i64 rep) := by rw [hW0]; go_simp
 have p20 : W0.cell? ⟨w.heap.size + 1 + 1, 0, none⟩ = some (.int .i64 op) := by rw [hW0]; go_simp
 have p21 : W0.cell? ⟨w.heap.size + 1 + 1, 1, none⟩ = some (.int .i64 a) := by rw [hW0]; go_simp
 have p22 : W0.cell? ⟨w.heap.size + 1 + 1, 2, none⟩ = some (.int .i64 b) := by rw [hW0]; go_simp
 have p23 : W0.cell? ⟨w.heap.size + 1 + 1, 3, none⟩ = some (.int .i64 c) := by rw [hW0]; go_simp
 have r0 : W0.cell? ⟨w.heap.size + 1 + 1 + 1, 0, none⟩ = some (.slice none 0 0) := by rw [hW0]; go_simp
 have r1 : W0.cell? ⟨w.heap.size + 1 + 1 + 1, 1, none⟩ = some (.slice none 0 0) := by rw [hW0]; go_simp
 have r2 : W0.cell? ⟨w.heap.size + 1 + 1 + 1, 2, none⟩ = some (.slice none 0 0) := by rw [hW0]; go_simp
 have r3 : W0.cell? ⟨w.heap.size + 1 + 1 + 1, 3, none⟩ = some (.slice none 0 0) := by rw [hW0]; go_simp
 have f0 : W0.frozen? ⟨w.heap.size + 1 + 1 + 1, 0, none⟩ = false := by rw [hW0]; go_simp
 have f1 : W0.frozen? ⟨w.heap.size + 1 + 1 + 1, 1, none⟩ = false := by rw [hW0]; go_simp
 have f2 : W0.frozen? ⟨w.heap.size + 1 + 1 + 1, 2, none⟩ = false := by rw [hW0]; go_simp
 have f3 : W0.frozen? ⟨w.heap.size + 1 + 1 + 1, 3, none⟩ = false := by rw [hW0]; go_simp
 have HM0 := Lib.hid (HM.keep B0.out); clear HM
 have HW := Lib.hid hW0; clear hW0
 have SX := Lib.hid (fun (W' : World) (hb : Below W0.drew.heap.size W0.drew W') => (⟨keeps hb p00, keeps hb p01, keeps hb p02, keeps hb p03, keeps hb p10, keeps hb p11, keeps hb p12, keeps hb p20, keeps hb p21, keeps hb p22, keeps hb p23⟩ : W'.cell? ⟨w.heap.size, 0, none⟩ = some (.slice AT0 nt ct0) ∧ W'.cell? ⟨w.heap.size, 1, none⟩ = some (.slice AC nc cc) ∧ W'.cell? ⟨w.heap.size, 2, none⟩ = some (.slice AL nl cl) ∧ W'.cell? ⟨w.heap.size, 3, none⟩ = some (.slice AD nd cd) ∧ W'.cell? ⟨w.heap.size + 1, 0, none⟩ = some (.int .i64 (k : Int)) ∧ W'.cell? ⟨w.heap.size + 1, 1, none⟩ = some (.int .i64 kd) ∧ W'.cell? ⟨w.heap.size + 1, 2, none⟩ = some (.int .i64 rep) ∧ W'.cell? ⟨w.heap.size + 1 + 1, 0, none⟩ = some (.int .i64 op) ∧ W'.cell? ⟨w.heap.size + 1 + 1, 1, none⟩ = some (.int .i64 a) ∧ W'.cell? ⟨w.heap.size + 1 + 1, 2, none⟩ = some (.int .i64 b) ∧ W'.cell? ⟨w.heap.size + 1 + 1, 3, none⟩ = some (.int .i64 c)))
 have SY := Lib.hid (fun (W' : World) (hb : Below W0.drew.heap.size W0.drew W') (u0 u1 u2 u3 : Value) => by
  have h := SX.out W' hb
  have e : ∀ (b i : Nat), b < w.heap.size + 1 + 1 + 1 → ((((W'.setCell ⟨w.heap.size + 1 + 1 + 1, 0, none⟩ u0).setCell ⟨w.heap.size + 1 + 1 + 1, 1, none⟩ u1).setCell ⟨w.heap.size + 1 + 1 + 1, 2, none⟩ u2).setCell ⟨w.heap.size + 1 + 1 + 1, 3, none⟩ u3).cell? ⟨b, i, none⟩ = W'.cell? ⟨b, i, none⟩ := fun b i hbi => by
   rw [World.cell?_setCell_far _ _ _ _ (by simp; omega), World.cell?_setCell_far _ _ _ _ (by simp; omega), World.cell?_setCell_far _ _ _ _ (by simp; omega), World.cell?_setCell_far _ _ _ _ (by simp; omega)]
  exact (show ((((W'.setCell ⟨w.heap.size + 1 + 1 + 1, 0, none⟩ u0).setCell ⟨w.heap.size + 1 + 1 + 1, 1, none⟩ u1).setCell ⟨w.heap.size + 1 + 1 + 1, 2, none⟩ u2).setCell ⟨w.heap.size + 1 + 1 + 1, 3, none⟩ u3).cell? ⟨w.heap.size, 0, none⟩ = some (.slice AT0 nt ct0) ∧ ((((W'.setCell ⟨w.heap.size + 1 + 1 + 1, 0, none⟩ u0).setCell ⟨w.heap.size + 1 + 1 + 1, 1, none⟩ u1).setCell ⟨w.heap.size + 1 + 1 + 1, 2, none⟩ u2).setCell ⟨w.heap.size + 1 + 1 + 1, 3, none⟩ u3).cell? ⟨w.heap.size, 1, none⟩ = some (.slice AC nc cc) ∧ ((((W'.setCell ⟨w.heap.size + 1 + 1 + 1, 0, none⟩ u0).setCell ⟨w.heap.size + 1 + 1 + 1, 1, none⟩ u1).setCell ⟨w.heap.size + 1 + 1 + 1, 2, none⟩ u2).setCell ⟨w.heap.size + 1 + 1 + 1, 3, none⟩ u3).cell? ⟨w.heap.size, 2, none⟩ = some (.slice AL nl cl) ∧ ((((W'.setCell ⟨w.heap.size + 1 + 1 + 1, 0, none⟩ u0).setCell ⟨w.heap.size + 1 + 1 + 1, 1, none⟩ u1).setCell ⟨w.heap.size + 1 + 1 + 1, 2, none⟩ u2).setCell ⟨w.heap.size + 1 + 1 + 1, 3, none⟩ u3).cell? ⟨w.heap.size, 3, none⟩ = some (.slice AD nd cd) ∧ ((((W'.setCell ⟨w.heap.size + 1 + 1 + 1, 0, none⟩ u0).setCell ⟨w.heap.size + 1 + 1 + 1, 1, none⟩ u1).setCell ⟨w.heap.size + 1 + 1 + 1, 2, none⟩ u2).setCell ⟨w.heap.size + 1 + 1 + 1, 3, none⟩ u3).cell? ⟨w.heap.size + 1, 0, none⟩ = some (.int .i64 (k : Int)) ∧ ((((W'.setCell ⟨w.heap.size + 1 + 1 + 1, 0, none⟩ u0).setCell ⟨w.heap.size + 1 + 1 + 1, 1, none⟩ u1).setCell ⟨w.heap.size + 1 + 1 + 1, 2, none⟩ u2).setCell ⟨w.heap.size + 1 + 1 + 1, 3, none⟩ u3).cell? ⟨w.heap.size + 1, 1, none⟩ = some (.int .i64 kd) ∧ ((((W'.setCell ⟨w.heap.size + 1 + 1 + 1, 0, none⟩ u0).setCell ⟨w.heap.size + 1 + 1 + 1, 1, none⟩ u1).setCell ⟨w.heap.size + 1 + 1 + 1, 2, none⟩ u2).setCell ⟨w.heap.size + 1 + 1 + 1, 3, none⟩ u3).cell? ⟨w.heap.size + 1, 2, none⟩ = some (.int .i64 rep) ∧ ((((W'.setCell ⟨w.heap.size + 1 + 1 + 1, 0, none⟩ u0).setCell ⟨w.heap.size + 1 + 1 + 1, 1, none⟩ u1).setCell ⟨w.heap.size + 1 + 1 + 1, 2, none⟩ u2).setCell ⟨w.heap.size + 1 + 1 + 1, 3, none⟩ u3).cell? ⟨w.heap.size + 1 + 1, 0, none⟩ = some (.int .i64 op) ∧ ((((W'.setCell ⟨w.heap.size + 1 + 1 + 1, 0, none⟩ u0).setCell ⟨w.heap.size + 1 + 1 + 1, 1, none⟩ u1).setCell ⟨w.heap.size + 1 + 1 + 1, 2, none⟩ u2).setCell ⟨w.heap.size + 1 + 1 + 1, 3, none⟩ u3).cell? ⟨w.heap.size + 1 + 1, 1, none⟩ = some (.int .i64 a) ∧ ((((W'.setCell ⟨w.heap.size + 1 + 1 + 1, 0, none⟩ u0).setCell ⟨w.heap.size + 1 + 1 + 1, 1, none⟩ u1).setCell ⟨w.heap.size + 1 + 1 + 1, 2, none⟩ u2).setCell ⟨w.heap.size + 1 + 1 + 1, 3, none⟩ u3).cell? ⟨w.heap.size + 1 + 1, 2, none⟩ = some (.int .i64 b) ∧ ((((W'.setCell ⟨w.heap.size + 1 + 1 + 1, 0, none⟩ u0).setCell ⟨w.heap.size + 1 + 1 + 1, 1, none⟩ u1).setCell ⟨w.heap.size + 1 + 1 + 1, 2, none⟩ u2).setCell ⟨w.heap.size + 1 + 1 + 1, 3, none⟩ u3).cell? ⟨w.heap.size + 1 + 1, 3, none⟩ = some (.int .i64 c) from by rw [e _ _ (by omega), e _ _ (by omega), e _ _ (by omega), e _ _ (by omega), e _ _ (by omega), e _ _ (by omega), e _ _ (by omega), e _ _ (by omega), e _ _ (by omega), e _ _ (by omega), e _ _ (by omega)]; exact h))
 have Z0 := Lib.hid z0
 have e0 : W0.drew.heap.size = W0.heap.size := rfl
 have E0 := Lib.hid e0
 clear z0 e0
 go_enter Try.func114, Try.ntmps114
 go_wp2_with fail
 rw [← HW.out]
 go_region_held3 (fun W' => W'.cell? ⟨w.heap.size, 0, none⟩ = some (.slice AT0 nt ct0) ∧ W'.cell? ⟨w.heap.size, 1, none⟩ = some (.slice AC nc cc) ∧ W'.cell? ⟨w.heap.size, 2, none⟩ = some (.slice AL nl cl) ∧ W'.cell? ⟨w.heap.size, 3, none⟩ = some (.slice AD nd cd) ∧ W'.cell? ⟨w.heap.size + 1, 0, none⟩ = some (.int .i64 (k : Int)) ∧ W'.cell? ⟨w.heap.size + 1, 1, none⟩ = some (.int .i64 kd) ∧ W'.cell? ⟨w.heap.size + 1, 2, none⟩ = some (.int .i64 rep) ∧ W'.cell? ⟨w.heap.size + 1 + 1, 0, none⟩ = some (.int .i64 op) ∧ W'.cell? ⟨w.heap.size + 1 + 1, 1, none⟩ = some (.int .i64 a) ∧ W'.cell? ⟨w.heap.size + 1 + 1, 2, none⟩ = some (.int .i64 b) ∧ W'.cell? ⟨w.heap.size + 1 + 1, 3, none⟩ = some (.int .i64 c))
  (first | (exact SX.out _ hb1) | (exact SX.out _ hb12) | (exact SX.out _ hb13) | (exact SX.out _ hb14) | (exact SY.out _ hb14 _ _ _ _) | go_keep)
  (first | (go_at_call 128; refine (TB.out _ (HM0.out.keep ((Below.refl _ _).drew))).mono ?_; rintro e w1 ⟨vt, xs, rfl, hb1, ha1⟩; obtain ⟨AT, ct, rfl⟩ := ha1.slice; have hb1' : Below W0.heap.size W0.drew w1 := hb1) | (go_at_call 129; (with_reducible refine (CB.out _ (HM0.out.keep ((Below.refl _ _).drew.trans hb1'))).mono ?_); rintro e w2 ⟨v2, rfl, hr2, hb2⟩; obtain ⟨A2, c2, e2, _⟩ := hr2.arg.form; subst e2; have hb12 : Below W0.drew.heap.size W0.drew w2 := hb1.trans (hb2.mono hb1.size); have hb12' : Below W0.heap.size W0.drew w2 := hb12) | (go_at_call 130; (with_reducible refine (LB.out _ (HM0.out.keep ((Below.refl _ _).drew.trans hb12'))).mono ?_); rintro e w3 ⟨v3, rfl, hr3, hb3⟩; obtain ⟨A3, c3, e3, _⟩ := hr3.arg.form; subst e3; have hb13 : Below W0.drew.heap.size W0.drew w3 := hb12.trans (hb3.mono hb12.size); have hb13' : Below W0.heap.size W0.drew w3 := hb13) | (go_at_call 131; (with_reducible refine (DB.out _ (HM0.out.keep ((Below.refl _ _).drew.trans hb13'))).mono ?_); rintro e w4 ⟨v4, rfl, hr4, hb4⟩; obtain ⟨A4, c4, e4, _⟩ := hr4.arg.form; subst e4; have hb14 : Below W0.drew.heap.size W0.drew w4 := hb13.trans (hb4.mono hb13.size); have hb14' : Below W0.heap.size W0.drew w4 := hb14; have k0 := keeps hb14 r0; have i0 := keepz (W := W0.drew) hb14 r0 f0; have k1 := keeps hb14 r1; have i1 := keepz (W := W0.drew) hb14 r1 f1; have k2 := keeps hb14 r2; have i2 := keepz (W := W0.drew) hb14 r2 f2; have k3 := keeps hb14 r3; have i3 := keepz (W := W0.drew) hb14 r3 f3))
 have s0 := hb1.size
 have s1 := hb2.size
 have s2 := hb3.size
 have s3 := hb4.size
 have z0 := Z0.out
 have e0 := E0.out
 have A1 := ((ha1.keep hb2).keep hb3).keep hb4
 have A1' := A1.own
 have C1 := (hr2.keep hb3).keep hb4
 have L1 := hr3.keep hb4
 have bt := Lib.hid ha1.lt
 have bc := Lib.hid hr2.bd
 have bl := Lib.hid hr3.bd
 have bd := Lib.hid hr4.bd
 have W4 := B0.out.trans (((Below.refl _ _).drew.trans hb14').mono B0.out.size)
 have z4 : w.heap.size + 3 < w4.heap.size := by omega
 clear e0
 go_wp2
 refine bodyPost_ret (v := .agg #[.slice AT tsv.length ct, .slice A2 csv.length c2, .slice A3 lsv.length c3, .slice A4 dsv.length c4]) (by simp [results, Try.results114, go_sem, k0, k1, k2, k3]) rfl ⟨_, _, _, _, xs, rfl, ?_, ?_, ?_, ?_, ?_, ?_⟩
 ·repeat (refine Below.setCell ?_ (by simp; try omega) _)
  exact W4
 ·refine OwnThs.mono (B := W0.heap.size) ?_ (by omega)
  repeat (refine OwnThs.setOther ?_ _ (by simp; try omega))
  exact A1'
 ·refine IntRow.mono (base := W0.heap.size) ?_ (by omega)
  repeat (refine IntRow.setOther ?_ _ (by intro b hb; have := (bc.out b hb).1; have := E0.out; simp; omega))
  exact C1.mono (by have e0 := E0.out; omega)
 ·refine IntRow.mono (base := W0.heap.size) ?_ (by omega)
  repeat (refine IntRow.setOther ?_ _ (by intro b hb; have := (bl.out b hb).1; have := E0.out; simp; omega))
  exact L1.mono (by have e0 := E0.out; omega)
 ·refine IntRow.mono (base := W0.heap.size) ?_ (by omega)
  repeat (refine IntRow.setOther ?_ _ (by intro b hb; have := (bd.out b hb).1; have := E0.out; simp; omega))
  exact hr4.mono (by have e0 := E0.out; omega)
 ·exact apart3 ha1.apart (fun u hu k e => (bt.out u (List.mem_cons_of_mem _ hu) k e).2) (fun k e => bc.out k e) (fun k e => bl.out k e) (fun k e => (bd.out k e).1) s1 s2
end Go.Proofs.Ytminfkedkkkhdaa
namespace Go.Proofs.Ytminfkedkkkhdaa
open Go.RowKit
def ExcB (b : Nat) (W w' : World) : Prop := Only [.slice (some ⟨b, 0, none⟩) 0 0] W w'
theorem ExcB.cell {b : Nat} {W w' : World} (h : ExcB b W w') {p : Addr} {v : Value} (hp : W.cell? p = some v) (hne : p.block ≠ b) : w'.cell? p = some v := by
 rw [World.cell?_of_block (a := p) (h.block p.block (cell_lt hp) (fun u hu e => by
  simp only [List.mem_singleton] at hu
  subst hu
  simp only [Value.ownBlock, Option.some.injEq] at e
  exact hne e.symm))]
 exact hp
theorem Four.blk {w w' : World} {g : Nat} {a b c d : Value} (h : Four w g a b c d) (hb : w'.heap[g]? = w.heap[g]?) : Four w' g a b c d := by
 obtain ⟨h0, h1, h2, h3, f0, f1, f2, f3⟩ := h
 refine ⟨?_, ?_, ?_, ?_, ?_, ?_, ?_, ?_⟩
 ·rw [World.cell?_of_block (a := ⟨g, 0, none⟩) hb]; exact h0
 ·rw [World.cell?_of_block (a := ⟨g, 1, none⟩) hb]; exact h1
 ·rw [World.cell?_of_block (a := ⟨g, 2, none⟩) hb]; exact h2
 ·rw [World.cell?_of_block (a := ⟨g, 3, none⟩) hb]; exact h3
 ·rw [World.frozen?_of_block (a := ⟨g, 0, none⟩) hb]; exact f0
 ·rw [World.frozen?_of_block (a := ⟨g, 1, none⟩) hb]; exact f1
 ·rw [World.frozen?_of_block (a := ⟨g, 2, none⟩) hb]; exact f2
 ·rw [World.frozen?_of_block (a := ⟨g, 3, none⟩) hb]; exact f3
theorem ExcB.args {b : Nat} {W w' : World} {W0 : World} (h : ExcB b W w') {v : Value} {xs : List Int} (hb : ∀ p u, W0.cell? p = some u → p.block ≠ b) (hv0 : ArgInts W0 v xs) (h0 : Below W0.heap.size W0 W) : ArgInts w' v xs := by
 obtain ⟨A, cap, e, hc, hr⟩ := hv0
 refine ⟨A, cap, e, hc, fun hx => ?_⟩
 obtain ⟨b', o, hA, hcell⟩ := hr hx
 exact ⟨b', o, hA, fun i hi => h.cell (keeps h0 (hcell i hi)) (hb _ _ (hcell i hi))⟩
set_option maxRecDepth 100000 in
set_option maxHeartbeats 4000000 in
theorem signalled_any {AR AS : Option Addr} {nr cr ns cs : Nat} {t : Bt.Th} {w : World} (h : Int) (H : ArgTh w AR nr cr AS ns cs t) (hr : nr ≤ 1048576) (hs : ns ≤ 1048575) :
  Calls Try.prog 111 #[.agg #[.int .i64 t.pl, .slice AR nr cr, .slice AS ns cs, .int .i64 t.st], .int .i64 h] w (ThNew ⟨h, t.regs, t.stack ++ [t.pl], t.st⟩ w) := by
 unfold ThNew
 simp only [List.length_append, List.length_cons, List.length_nil]
 rw [H.nR, H.nS]
 have nR := Lib.hid H.nR; have nS := Lib.hid H.nS
 obtain ⟨W0, hW0⟩ : ∃ W0 : World, W0 = ((w).alloc (.cells #[.int .i64 t.pl, .slice AR nr cr, .slice AS ns cs, .int .i64 t.st] 123)).alloc (.cells #[.int .i64 0, .slice none 0 0, .slice none 0 0, .int .i64 0] 123) := ⟨_, rfl⟩
 have B0 := Lib.hid (show Below w.heap.size w W0 by rw [hW0]; exact ((Below.refl _ _).alloc (Nat.le_refl _) _).alloc (by simp) _)
 have HZ : Hid (W0.heap.size = w.heap.size + 2) := Lib.hid (by rw [hW0]; simp)
 have F0 : Hid (Four W0 (w.heap.size + 1) (.int .i64 0) (.slice none 0 0) (.slice none 0 0) (.int .i64 0)) := Lib.hid (by rw [hW0]; unfold Four; go_simp)
 have HR := Lib.hid (fun (w' : World) (hx : ExcB (w.heap.size + 1) W0 w') => hx.args (W0 := w) (fun p u hp => by have := cell_lt hp; omega) H.regs B0.out)
 have HSS := Lib.hid (fun (w' : World) (hx : ExcB (w.heap.size + 1) W0 w') => hx.args (W0 := w) (fun p u hp => by have := cell_lt hp; omega) H.stack B0.out)
 have HC : Hid (∀ (w1 w2 : World), Below w1.heap.size w1 w2 → (ExcB (w.heap.size + 1) W0 w1 ∧ ∃ a b c d, Four w1 (w.heap.size + 1) a b c d) → (ExcB (w.heap.size + 1) W0 w2 ∧ ∃ a b c d, Four w2 (w.heap.size + 1) a b c d)) :=
  Lib.hid (fun w1 w2 hb ⟨h1, a, b, c, d, h2⟩ => ⟨Only.trans h1 (Only.of_below hb), a, b, c, d, h2.keep hb⟩)
 clear H
 have p00 : W0.cell? ⟨w.heap.size, 0, none⟩ = some (.int .i64 t.pl) := by rw [hW0]; go_simp
 have p01 : W0.cell? ⟨w.heap.size, 1, none⟩ = some (.slice AR nr cr) := by rw [hW0]; go_simp
 have p02 : W0.cell? ⟨w.heap.size, 2, none⟩ = some (.slice AS ns cs) := by rw [hW0]; go_simp
 have p03 : W0.cell? ⟨w.heap.size, 3, none⟩ = some (.int .i64 t.st) := by rw [hW0]; go_simp
 have HW := Lib.hid hW0; clear hW0
 go_enter Try.func111, Try.ntmps111
 go_wp2_with fail
 rw [← HW.out]
 refine wp_region_ord [Fact.is 5 (.int .i64 h),
   Fact.is 6 (.pointer (some ⟨w.heap.size, 1, none⟩)),
   Fact.is 7 (.slice AR nr cr),
   Fact.keep 8 (fun v w' => ∃ A9 k9, v = .slice A9 nr k9 ∧ IntRow w' W0.heap.size (.slice A9 nr k9) t.regs),
   Fact.is 9 (.pointer (some ⟨w.heap.size, 2, none⟩)),
   Fact.is 10 (.slice AS ns cs),
   ⟨[11, 8], some 10, fun vs w' => ∃ gS cS A9 k9, vs = [.slice (some ⟨gS, 0, none⟩) ns cS, .slice A9 nr k9] ∧ IntRow w' gS (.slice (some ⟨gS, 0, none⟩) ns cS) t.stack ∧ W0.heap.size ≤ gS ∧ gS ≤ w'.heap.size ∧ ∀ k, (Value.slice A9 nr k9).ownBlock = some k → k < gS⟩,
   Fact.is 12 (.pointer (some ⟨w.heap.size, 0, none⟩)),
   Fact.is 13 (.int .i64 t.pl),
   Fact.upto 14 10 (fun v w' => ∃ g, v = .slice (some ⟨g, 0, none⟩) 1 1 ∧ w'.cell? ⟨g, 0, none⟩ = some (.int .i64 t.pl)),
   ⟨[15, 8], none, fun vs w' => ∃ A9 k9 A8 k8, vs = [.slice A9 (ns + 1) k9, .slice A8 nr k8] ∧ IntRow w' W0.heap.size (.slice A9 (ns + 1) k9) (t.stack ++ [t.pl]) ∧ Apart (.slice A8 nr k8) (.slice A9 (ns + 1) k9)⟩,
   Fact.is 16 (.pointer (some ⟨w.heap.size, 3, none⟩)),
   Fact.is 17 (.int .i64 t.st),
   ⟨[18, 8, 15], none, fun vs _ => ∃ A9 k9 A8 k8, vs = [.agg #[.int .i64 h, .slice A8 nr k8, .slice A9 (ns + 1) k9, .int .i64 t.st], .slice A8 nr k8, .slice A9 (ns + 1) k9]⟩,
   ⟨[18], none, fun vs w' => ∃ b0 b1 b2 b3, vs = [.agg #[b0, b1, b2, b3]] ∧ Four w' (w.heap.size + 1) b0 b1 b2 b3⟩]
  (fun w' => ExcB (w.heap.size + 1) W0 w' ∧ ∃ a b c d, Four w' (w.heap.size + 1) a b c d) (by kernel_rfl) (by kernel_rfl) ⟨Only.of_below (Below.refl _ _).drew, _, _, _, _, F0.out⟩ ?_ ?_ ?_
 ·exact ⟨Fact.is_stable _ _, Fact.is_stable _ _, Fact.is_stable _ _, Fact.keep_stable (fun v w w' hb ⟨A, c, e, h⟩ => ⟨A, c, e, h.keep hb⟩), Fact.is_stable _ _, Fact.is_stable _ _, (fun vs w w' hb ⟨gS, cS, A, c, e, h, hl, hu, hk⟩ => ⟨gS, cS, A, c, e, h.keep hb, hl, Nat.le_trans hu hb.size, hk⟩), Fact.is_stable _ _, Fact.is_stable _ _, Fact.upto_stable (fun v w w' hb ⟨g, e, h⟩ => ⟨g, e, keeps hb h⟩), (fun vs w w' hb ⟨A, c, A', c', e, h, h'⟩ => ⟨A, c, A', c', e, h.keep hb, h'⟩), Fact.is_stable _ _, Fact.is_stable _ _, (fun _ _ _ _ h => h), (fun vs w w' hb ⟨b0, b1, b2, b3, e, h⟩ => ⟨b0, b1, b2, b3, e, h.keep hb⟩), trivial⟩
 ·refine ⟨?_, ?_, ?_, ?_, ?_, ?_, ?_, ?_, ?_, ?_, ?_, ?_, ?_, ?_, ?_, trivial⟩
  ·intro A' w' hC hoff hdep _hdif
   have a1 : A'.eval (.tmp 1) = .int .i64 h := off_of hoff 1 (by kernel_rfl)
   exact good_gen (v := .int .i64 h) (w' := w') (by generalize A'.eval = ev at *; simp [go_sem, a1]) ⟨Nat.le_refl _, fun h => absurd h (by decide)⟩ hC (.inl (Below.refl _ _)) (is_to rfl rfl)
  ·intro A' w' hC hoff hdep _hdif
   have a2 : A'.eval (.tmp 2) = .pointer (some ⟨w.heap.size, 0, none⟩) := off_of hoff 2 (by kernel_rfl)
   exact good_gen (v := .pointer (some ⟨w.heap.size, 1, none⟩)) (w' := w') (by generalize A'.eval = ev at *; simp [go_sem, a2]) ⟨Nat.le_refl _, fun h => absurd h (by decide)⟩ hC (.inl (Below.refl _ _)) (is_to rfl rfl)
  ·intro A' w' hC hoff hdep _hdif
   have a6 := is_of (ask_of hdep (j := 1) (by kernel_rfl)) rfl
   have q1 := hC.1.cell p01 (by simp)
   exact good_gen (v := .slice AR nr cr) (w' := w') (by generalize A'.eval = ev at *; simp [go_sem, a6, q1]) ⟨Nat.le_refl _, fun h => absurd h (by decide)⟩ hC (.inl (Below.refl _ _)) (is_to rfl rfl)
  ·intro A' w' hC hoff hdep _hdif
   have ef : ∀ f, A'.eval (.func f) = .func (.func f) #[] #[] := fun _ => rfl
   have a7 := is_of (ask_of hdep (j := 2) (by kernel_rfl)) rfl
   have hz := hC.1.size
   refine surely_call (f := 93) (args := #[.slice AR nr cr]) (w' := w') (by generalize A'.eval = ev at *; simp [go_sem, ef, a7]) ((copyNums_n nR.out hr (HR.out w' hC.1)).mono fun e w3 ⟨h1, h2, h3⟩ => ⟨_, h1, ⟨h2.size, fun h => absurd h (by decide)⟩, HC.out _ _ h2 hC, .inl h2, keep_self rfl rfl ⟨_, _, rfl, h3.mono hz⟩⟩)
  ·intro A' w' hC hoff hdep _hdif
   have a2 : A'.eval (.tmp 2) = .pointer (some ⟨w.heap.size, 0, none⟩) := off_of hoff 2 (by kernel_rfl)
   exact good_gen (v := .pointer (some ⟨w.heap.size, 2, none⟩)) (w' := w') (by generalize A'.eval = ev at *; simp [go_sem, a2]) ⟨Nat.le_refl _, fun h => absurd h (by decide)⟩ hC (.inl (Below.refl _ _)) (is_to rfl rfl)
  ·intro A' w' hC hoff hdep _hdif
   have a9 := is_of (ask_of hdep (j := 4) (by kernel_rfl)) rfl
   have q1 := hC.1.cell p02 (by simp)
   exact good_gen (v := .slice AS ns cs) (w' := w') (by generalize A'.eval = ev at *; simp [go_sem, a9, q1]) ⟨Nat.le_refl _, fun h => absurd h (by decide)⟩ hC (.inl (Below.refl _ _)) (is_to rfl rfl)
  ·intro A' w' hC hoff hdep _hdif
   have ef : ∀ f, A'.eval (.func f) = .func (.func f) #[] #[] := fun _ => rfl
   obtain ⟨A1, c1, a8, p8⟩ := keep_of (ask_of hdep (j := 3) (by kernel_rfl)) rfl
   have a10 := is_of (ask_of hdep (j := 5) (by kernel_rfl)) rfl
   have hz := hC.1.size
   refine surely_call (f := 93) (args := #[.slice AS ns cs]) (w' := w') (by generalize A'.eval = ev at *; simp [go_sem, ef, a10]) ((copyNums_n nS.out (by omega) (HSS.out w' hC.1)).mono fun e w3 ⟨h1, h2, h3⟩ => ⟨_, h1, ⟨h2.size, fun h => absurd h (by decide)⟩, HC.out _ _ h2 hC, .inl h2, w'.heap.size, _, A1, c1, ?_, h3, hz, h2.size, fun q e => (p8.bd q e).2⟩)
   have e8 : slotAt A' 8 = .slice A1 nr c1 := a8
   simp [put1, e8]
  ·intro A' w' hC hoff hdep _hdif
   have a2 : A'.eval (.tmp 2) = .pointer (some ⟨w.heap.size, 0, none⟩) := off_of hoff 2 (by kernel_rfl)
   exact good_gen (v := .pointer (some ⟨w.heap.size, 0, none⟩)) (w' := w') (by generalize A'.eval = ev at *; simp [go_sem, a2]) ⟨Nat.le_refl _, fun h => absurd h (by decide)⟩ hC (.inl (Below.refl _ _)) (is_to rfl rfl)
  ·intro A' w' hC hoff hdep _hdif
   have a12 := is_of (ask_of hdep (j := 7) (by kernel_rfl)) rfl
   have q1 := hC.1.cell p00 (by simp)
   exact good_gen (v := .int .i64 t.pl) (w' := w') (by generalize A'.eval = ev at *; simp [go_sem, a12, q1]) ⟨Nat.le_refl _, fun h => absurd h (by decide)⟩ hC (.inl (Below.refl _ _)) (is_to rfl rfl)
  ·intro A' w' hC hoff hdep _hdif
   have a13 := is_of (ask_of hdep (j := 8) (by kernel_rfl)) rfl
   have hb : Below w'.heap.size w' (w'.alloc (.cells #[.int .i64 t.pl] 3)) := (Below.refl _ _).alloc (Nat.le_refl _) _
   exact good_gen (v := .slice (some ⟨w'.heap.size, 0, none⟩) 1 1) (w' := w'.alloc (.cells #[.int .i64 t.pl] 3)) (by generalize A'.eval = ev at *; simp [go_sem, a13]) ⟨hb.size, fun h => absurd h (by decide)⟩ (HC.out _ _ hb hC) (.inl hb) (upto_to rfl rfl ⟨_, rfl, by simp⟩)
  ·intro A' w' hC hoff hdep _hdif
   obtain ⟨gS, cS, A1, c1, e11, p11, hgl, hgu, hgk⟩ := ask_of hdep (j := 6) (by kernel_rfl)
   have e11 : [slotAt A' 11, slotAt A' 8] = [.slice (some ⟨gS, 0, none⟩) ns cS, .slice A1 nr c1] := e11
   injection e11 with a11 e11
   injection e11 with a8 _
   have a11 : A'.eval (.tmp 11) = .slice (some ⟨gS, 0, none⟩) ns cS := a11
   obtain ⟨g, a14, p14⟩ := upto_of (ask_of hdep (j := 9) (by kernel_rfl)) rfl
   obtain ⟨hx, u0, u1, u2, u3, h4⟩ := hC
   have hz := HZ.out
   refine surely_app_int (.tmp 11) (.tmp 14) rfl gS _ t.stack a11 p11 _ 1 (t.pl) a14 p14 (by have := nS.out; omega) hgu (fun v' w2 hr' hg => ⟨⟨hg.size, fun h => absurd h (by decide)⟩, ⟨⟨hg.os.trans hx.os, hg.tape.trans hx.tape, hg.output.trans hx.output, Nat.le_trans hx.size hg.size, fun k hk hrk => (hg.block k (Nat.lt_of_lt_of_le hk hx.size) (by simp only [Value.ownBlock, ne_eq, Option.some.injEq]; omega)).trans (hx.block k hk hrk)⟩, u0, u1, u2, u3, ?_⟩, .inr (fun j hj hk hf => ?_), ?_⟩)
   ·exact h4.blk (hg.block _ (cell_lt h4.1) (by simp only [Value.ownBlock, ne_eq, Option.some.injEq]; omega))
   ·match j, hj, hk, hf with
    | 0, _, _, hf => exact hf
    | 1, _, _, hf => exact hf
    | 2, _, _, hf => exact hf
    | 3, _, _, hf =>
     obtain ⟨v9, e9, A9, k9, e10, h9⟩ := hf
     refine ⟨v9, e9, A9, k9, e10, h9.grown hg ?_⟩
     have e9 : [slotAt A' 8] = [v9] := e9
     injection e9 with e9
     rw [a8, e10] at e9
     rw [← e9]
     rcases hA : (Value.slice A1 nr c1).ownBlock with _ | q
     ·exact .inl rfl
     ·refine .inr (fun e => ?_)
      have := hgk q hA
      simp only [Value.ownBlock, Option.some.injEq] at e
      omega
    | 4, _, _, hf => exact hf
    | 5, _, _, hf => exact hf
    | 6, _, hk, _ => exact absurd rfl (hk 10 rfl).1
    | 7, _, _, hf => exact hf
    | 8, _, _, hf => exact hf
    | 9, _, hk, _ => exact absurd rfl (hk 10 rfl).1
    | 10, hj, _, _ => exact absurd rfl hj
    | 11, _, _, hf => exact hf
    | 12, _, _, hf => exact hf
    | 13, _, _, hf => exact hf
    | 14, _, _, hf =>
     obtain ⟨b0, b1, b2, b3, e, h⟩ := hf
     exact ⟨b0, b1, b2, b3, e, h.blk (hg.block _ (cell_lt h.1) (by simp only [Value.ownBlock, ne_eq, Option.some.injEq]; omega))⟩
    | _ + 15, _, _, _ => trivial
   ·obtain ⟨A2, c2, e2, _⟩ := hr'.arg.form
    have e2 : v' = .slice A2 (ns + 1) c2 := by rw [e2, List.length_append, nS.out]; rfl
    subst e2
    refine ⟨A2, c2, A1, c1, by simp [put1, a8], hr'.mono hgl, Apart.of_lt hgk (fun q e => (hr'.bd q e).1)⟩
  ·intro A' w' hC hoff hdep _hdif
   have a2 : A'.eval (.tmp 2) = .pointer (some ⟨w.heap.size, 0, none⟩) := off_of hoff 2 (by kernel_rfl)
   exact good_gen (v := .pointer (some ⟨w.heap.size, 3, none⟩)) (w' := w') (by generalize A'.eval = ev at *; simp [go_sem, a2]) ⟨Nat.le_refl _, fun h => absurd h (by decide)⟩ hC (.inl (Below.refl _ _)) (is_to rfl rfl)
  ·intro A' w' hC hoff hdep _hdif
   have a16 := is_of (ask_of hdep (j := 11) (by kernel_rfl)) rfl
   have q1 := hC.1.cell p03 (by simp)
   exact good_gen (v := .int .i64 t.st) (w' := w') (by generalize A'.eval = ev at *; simp [go_sem, a16, q1]) ⟨Nat.le_refl _, fun h => absurd h (by decide)⟩ hC (.inl (Below.refl _ _)) (is_to rfl rfl)
  ·intro A' w' hC hoff hdep _hdif
   have a5 := is_of (ask_of hdep (j := 0) (by kernel_rfl)) rfl
   have a17 := is_of (ask_of hdep (j := 12) (by kernel_rfl)) rfl
   obtain ⟨A2, c2, A1, c1, e15, _, _⟩ := ask_of hdep (j := 10) (by kernel_rfl)
   have e15 : [slotAt A' 15, slotAt A' 8] = [.slice A2 (ns + 1) c2, .slice A1 nr c1] := e15
   injection e15 with a15 e15
   injection e15 with a8 _
   have b15 : A'.eval (.tmp 15) = .slice A2 (ns + 1) c2 := a15
   have b8 : A'.eval (.tmp 8) = .slice A1 nr c1 := a8
   exact good_gen (v := .agg #[.int .i64 h, .slice A1 nr c1, .slice A2 (ns + 1) c2, .int .i64 t.st]) (w' := w') (by generalize A'.eval = ev at *; simp [go_sem, a5, a17, b8, b15]) ⟨Nat.le_refl _, fun h => absurd h (by decide)⟩ hC (.inl (Below.refl _ _)) ⟨A2, c2, A1, c1, by simp [put1, a8, a15]⟩
  ·intro A' w' hC hoff hdep _hdif
   obtain ⟨A2, c2, A1, c1, e18⟩ := ask_of hdep (j := 13) (by kernel_rfl)
   have e18 : [slotAt A' 18, slotAt A' 8, slotAt A' 15] = [.agg #[.int .i64 h, .slice A1 nr c1, .slice A2 (ns + 1) c2, .int .i64 t.st], .slice A1 nr c1, .slice A2 (ns + 1) c2] := e18
   injection e18 with a18 _
   have b18 : A'.eval (.tmp 18) = .agg #[.int .i64 h, .slice A1 nr c1, .slice A2 (ns + 1) c2, .int .i64 t.st] := a18
   have a4 : A'.eval (.tmp 4) = .pointer (some ⟨w.heap.size + 1, 0, none⟩) := off_of hoff 4 (by kernel_rfl)
   obtain ⟨hx, u0, u1, u2, u3, k0, k1, k2, k3, f0, f1, f2, f3⟩ := hC
   have hz := HZ.out
   have hrb : (Value.slice (some ⟨w.heap.size + 1, 0, none⟩) 0 0).ownBlock = some (w.heap.size + 1) := rfl
   have F4 : Four ((((w'.setCell ⟨w.heap.size + 1, 0, none⟩ (.int .i64 h)).setCell ⟨w.heap.size + 1, 1, none⟩ (.slice A1 nr c1)).setCell ⟨w.heap.size + 1, 2, none⟩ (.slice A2 (ns + 1) c2)).setCell ⟨w.heap.size + 1, 3, none⟩ (.int .i64 t.st)) (w.heap.size + 1) (.int .i64 h) (.slice A1 nr c1) (.slice A2 (ns + 1) c2) (.int .i64 t.st) := by
    clear hoff hdep
    unfold Four
    go_simp
   refine good_gen' (w' := (((w'.setCell ⟨w.heap.size + 1, 0, none⟩ (.int .i64 h)).setCell ⟨w.heap.size + 1, 1, none⟩ (.slice A1 nr c1)).setCell ⟨w.heap.size + 1, 2, none⟩ (.slice A2 (ns + 1) c2)).setCell ⟨w.heap.size + 1, 3, none⟩ (.int .i64 t.st)) (by generalize A'.eval = ev at *; simp [go_sem, a4, b18, k0, k1, k2, k3, f0, f1, f2, f3]) ⟨by simp, fun h => absurd h (by decide)⟩ ⟨(((Only.set hx List.mem_cons_self (p := ⟨w.heap.size + 1, 0, none⟩) hrb _).set List.mem_cons_self (p := ⟨w.heap.size + 1, 1, none⟩) hrb _).set List.mem_cons_self (p := ⟨w.heap.size + 1, 2, none⟩) hrb _).set List.mem_cons_self (p := ⟨w.heap.size + 1, 3, none⟩) hrb _, _, _, _, _, F4⟩ (.inr (fun j hj hk hf => ?_)) ⟨_, _, _, _, by simp [put1, a18], F4⟩
   match j, hj, hk, hf with
   | 0, _, _, hf => exact hf
   | 1, _, _, hf => exact hf
   | 2, _, _, hf => exact hf
   | 3, _, _, hf =>
    obtain ⟨v9, e9, A9, k9, e10, h9⟩ := hf
    refine ⟨v9, e9, A9, k9, e10, ?_⟩
    repeat (refine IntRow.setOther ?_ _ (by intro b hb; have := (h9.bd b hb).1; simp; omega))
    exact h9
   | 4, _, _, hf => exact hf
   | 5, _, _, hf => exact hf
   | 6, _, hk, _ => exact absurd (List.contains_iff_mem.1 (by kernel_rfl)) (hk 10 rfl).2
   | 7, _, _, hf => exact hf
   | 8, _, _, hf => exact hf
   | 9, _, hk, _ => exact absurd (List.contains_iff_mem.1 (by kernel_rfl)) (hk 10 rfl).2
   | 10, _, _, hf =>
    obtain ⟨A9, k9, A8, k8, e, h9, ha⟩ := hf
    refine ⟨A9, k9, A8, k8, e, ?_, ha⟩
    repeat (refine IntRow.setOther ?_ _ (by intro b hb; have := (h9.bd b hb).1; simp; omega))
    exact h9
   | 11, _, _, hf => exact hf
   | 12, _, _, hf => exact hf
   | 13, _, _, hf => exact hf
   | 14, hj, _, _ => exact absurd rfl hj
   | _ + 15, _, _, _ => trivial
 ·intro s w4 hC hf _hdf
  have hr3 := keep_of (hf 3 (by decide) rfl) rfl
  obtain ⟨A2, c2, A1, c1, e15, r15, rap⟩ := hf 10 (by decide) rfl
  obtain ⟨A4, c4, A3, c3, e18⟩ := hf 13 (by decide) rfl
  obtain ⟨b0, b1, b2, b3, e14, h14⟩ := hf 14 (by decide) rfl
  have e15 : [s 15, s 8] = [.slice A2 (ns + 1) c2, .slice A1 nr c1] := e15
  have e18 : [s 18, s 8, s 15] = [.agg #[.int .i64 h, .slice A3 nr c3, .slice A4 (ns + 1) c4, .int .i64 t.st], .slice A3 nr c3, .slice A4 (ns + 1) c4] := e18
  have e14 : [s 18] = [.agg #[b0, b1, b2, b3]] := e14
  injection e15 with x15 e15
  injection e15 with x8 _
  injection e18 with x18 e18
  injection e18 with y8 e18
  injection e18 with y15 _
  injection e14 with z18 _
  rw [x8] at y8 hr3
  rw [x15] at y15
  obtain ⟨A9, k9, e9, r8⟩ := hr3
  rw [x18] at z18
  injection z18 with z18
  injection y8 with q1 _ q2
  injection y15 with q3 _ q4
  subst q1 q2 q3 q4
  injection e9 with q5 _ q6
  subst q5 q6
  have z18' : b0 = .int .i64 h ∧ b1 = .slice A1 nr c1 ∧ b2 = .slice A2 (ns + 1) c2 ∧ b3 = .int .i64 t.st := by
   simpa [eq_comm] using z18
  obtain ⟨rfl, rfl, rfl, rfl⟩ := z18'
  obtain ⟨k0, k1, k2, k3, _, _, _, _⟩ := h14
  have hx := hC.1
  have hz := HZ.out
  have W4 : Below w.heap.size w w4 := B0.out.trans ⟨hx.os, hx.tape, hx.output, hx.size, fun k hk => hx.block k (by omega) (fun u hu e => by
   simp only [List.mem_singleton] at hu
   subst hu
   simp only [Value.ownBlock, Option.some.injEq] at e
   omega)⟩
  clear hf hC hz
  simp only [putAll, Act.put, List.setIfInBounds_toArray, List.set_cons_succ, List.set_cons_zero]
  go_wp2
  refine bodyPost_ret (v := .agg #[.int .i64 h, .slice A1 nr c1, .slice A2 (ns + 1) c2, .int .i64 t.st]) (by simp [results, Try.results111, go_sem, k0, k1, k2, k3]) rfl ⟨A1, c1, A2, c2, rfl, W4, r8.mono (by have := HZ.out; omega), r15.mono (by have := HZ.out; omega), rap⟩
end Go.Proofs.Ytminfkedkkkhdaa
