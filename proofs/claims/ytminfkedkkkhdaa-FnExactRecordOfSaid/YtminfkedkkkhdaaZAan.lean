/-
  Part of a proof: MokS, Instr. No condition.
-/
import Derived.Test.YtminfkedkkkhdaaZAam
import Derived.StillTailTactics
section
namespace Go.Proofs.Ytminfkedkkkhdaa
open Go.RowKit
theorem Bt.machOk_locks {rs : List Bt.C4} {h : Int} {m : Bt.Mc} (hh : Bt.inR (-1) m.ths.length m.locks = false) : Bt.machOk rs h m = false :=
 Bt.machOk_no (.inr (.inr (.inr (.inr (.inr (.inr (.inr (.inl hh))))))))
set_option maxRecDepth 100000 in
set_option maxHeartbeats 4000000 in
theorem specMachineOk_any {AT AC AL AD : Option Addr} {nt ct nc cc nl cl nd cd b o n cap : Nat} {m : Bt.Mc} {rs : List Bt.C4} (h : Int) (w : World) (P : ArgPr w b o n cap rs)
  (H : ArgMc w AT nt ct AC nc cc AL nl cl AD nd cd m) (S : Small m) :
  Calls Try.prog 101 #[.agg #[.slice (some ⟨b, o, none⟩) n cap, .int .i64 h], .agg #[.slice AT nt ct, .slice AC nc cc, .slice AL nl cl, .slice AD nd cd]] w fun e w' => e = .returned (.bool (Bt.machOk rs h m)) ∧ Below w.heap.size w w' := by
 have hT := Lib.hid H.nT
 have hC := Lib.hid H.nC
 have hL := Lib.hid H.nL
 have hD := Lib.hid H.nD
 have HP := Lib.hid P
 have hn := P.le
 have hcp := P.cap
 clear P
 have hle := H.ths.2.1
 have HH := Lib.hid H; clear H
 have sT : nt ≤ 1048576 := hT.out ▸ S.ths
 have sL : nl ≤ 1048576 := hL.out ▸ S.locks
 have sD : nd ≤ 1048576 := hD.out ▸ S.told
 have s1 : Hid (m.cells.length ≤ 1099511627776) := Lib.hid (le40 S.cells)
 have s2 : Hid (m.locks.length ≤ 1099511627776) := Lib.hid (le40 S.locks)
 have s3 : Hid (m.told.length ≤ 1099511627776) := Lib.hid (le40 S.told)
 have HS := Lib.hid S; clear S
 have B0 : Below w.heap.size w ((w.alloc (.cells #[.slice (some ⟨b, o, none⟩) n cap, .int .i64 h] 36)).alloc (.cells #[.slice AT nt ct, .slice AC nc cc, .slice AL nl cl, .slice AD nd cd] 31)) := ((Below.refl _ _).alloc (Nat.le_refl _) _).alloc (by simp) _
 have HC8 : Hid ((Bt.inR 0 10000 m.cells && ((m.cells.length : Int) == 8)) = (Bt.inR 0 10000 m.cells && ((nc : Int) == 8))) := Lib.hid (by rw [hC.out])
 have HT8 : Hid ((Bt.inR 0 10000 m.told && ((m.told.length : Int) == (nd : Int))) = Bt.inR 0 10000 m.told) := Lib.hid (by rw [hD.out]; simp)
 cases hp : Bt.progOk rs h
 ·have HF : Hid (Bt.machOk rs h m = false) := Lib.hid (Bt.machOk_no (.inl hp))
  go_enter Try.func101, Try.ntmps101
  go_wp2_with (first | (go_at_call 69; refine (specProg_any (HP.out.keep B0) h).mono ?_; rw [hp]; rintro e w1 ⟨rfl, hb⟩; obtain ⟨hc, hf⟩ := bcell hb; have W1 := B0.trans (hb.mono (by simp; omega)); have Q1 := Lib.hid (HH.out.keep W1).cells; have Q3 := Lib.hid (HH.out.keep W1).told))
  go_ret
  exact ⟨ret_bool HF.out.symm, W1⟩
 ·by_cases c1 : nt < 1
  ·have HF : Hid (Bt.machOk rs h m = false) := Lib.hid (Bt.machOk_no (.inr (.inl (by rw [hT.out]; exact c1))))
   go_enter Try.func101, Try.ntmps101
   go_wp2_with (first | (go_at_call 69; refine (specProg_any (HP.out.keep B0) h).mono ?_; rw [hp]; rintro e w1 ⟨rfl, hb⟩; obtain ⟨hc, hf⟩ := bcell hb; have W1 := B0.trans (hb.mono (by simp; omega)); have Q1 := Lib.hid (HH.out.keep W1).cells; have Q3 := Lib.hid (HH.out.keep W1).told))
   go_ret
   exact ⟨ret_bool HF.out.symm, W1⟩
  ·by_cases c2 : 4 < nt
   ·have HF : Hid (Bt.machOk rs h m = false) := Lib.hid (Bt.machOk_no (.inr (.inr (.inl (by rw [hT.out]; exact c2)))))
    go_enter Try.func101, Try.ntmps101
    go_wp2_with (first | (go_at_call 69; refine (specProg_any (HP.out.keep B0) h).mono ?_; rw [hp]; rintro e w1 ⟨rfl, hb⟩; obtain ⟨hc, hf⟩ := bcell hb; have W1 := B0.trans (hb.mono (by simp; omega)); have Q1 := Lib.hid (HH.out.keep W1).cells; have Q3 := Lib.hid (HH.out.keep W1).told))
    go_ret
    exact ⟨ret_bool HF.out.symm, W1⟩
   ·have dc1 : decide ((nt : Int) < 1) = false := by rw [decide_eq_false_iff_not]; omega
    have dc2 : decide (4 < (nt : Int)) = false := by rw [decide_eq_false_iff_not]; omega
    cases hc8 : (Bt.inR 0 10000 m.cells && ((nc : Int) == 8))
    ·have HF : Hid (Bt.machOk rs h m = false) := Lib.hid (Bt.machOk_no (by rcases Bool.and_eq_false_iff.1 hc8 with e | e; exact .inr (.inr (.inr (.inr (.inr (.inr (.inl e)))))); exact .inr (.inr (.inr (.inl (by rw [hC.out]; rw [beq_eq_false_iff_ne] at e; omega))))))
     have HC8' : Hid ((Bt.inR 0 10000 m.cells && ((m.cells.length : Int) == 8)) = false) := Lib.hid (HC8.out.trans hc8)
     clear HC8 hc8
     have HC8 := HC8'
     go_enter Try.func101, Try.ntmps101
     go_wp2_with (first | (go_at_call 69; refine (specProg_any (HP.out.keep B0) h).mono ?_; rw [hp]; rintro e w1 ⟨rfl, hb⟩; obtain ⟨hc, hf⟩ := bcell hb; have W1 := B0.trans (hb.mono (by simp; omega)); have Q1 := Lib.hid (HH.out.keep W1).cells; have Q3 := Lib.hid (HH.out.keep W1).told) | (go_at_call 120; (with_reducible refine (l2n_any _ m.cells _ _ s1.out Q1.out).mono ?_); rw [HC8.out]; rintro e w' ⟨rfl, rfl⟩))
     go_ret
     exact ⟨ret_bool HF.out.symm, W1⟩
    ·have HC8' : Hid ((Bt.inR 0 10000 m.cells && ((m.cells.length : Int) == 8)) = true) := Lib.hid (HC8.out.trans hc8)
     have HcI : Hid (Bt.inR 0 10000 m.cells = true ∧ nc = 8) := Lib.hid (by rw [Bool.and_eq_true, beq_iff_eq] at hc8; exact ⟨hc8.1, by omega⟩)
     clear HC8 hc8
     have HC8 := HC8'
     clear HC8'
     by_cases c4 : nl = 2
     ·have dd4 : ((nl : Int) != 2) = false := by rw [bne_eq_false_iff_eq]; omega
      by_cases c5 : 1000 < nd
      ·have HF : Hid (Bt.machOk rs h m = false) := Lib.hid (Bt.machOk_no (.inr (.inr (.inr (.inr (.inr (.inl (by rw [hD.out]; exact c5))))))))
       clear c4
       go_enter Try.func101, Try.ntmps101
       go_wp2_with (first | (go_at_call 69; refine (specProg_any (HP.out.keep B0) h).mono ?_; rw [hp]; rintro e w1 ⟨rfl, hb⟩; obtain ⟨hc, hf⟩ := bcell hb; have W1 := B0.trans (hb.mono (by simp; omega)); have Q1 := Lib.hid (HH.out.keep W1).cells; have Q3 := Lib.hid (HH.out.keep W1).told) | (go_at_call 120; (with_reducible refine (l2n_any _ m.cells _ _ s1.out Q1.out).mono ?_); rw [HC8.out]; rintro e w' ⟨rfl, rfl⟩))
       go_ret
       exact ⟨ret_bool HF.out.symm, W1⟩
      ·have dc5 : decide (1000 < (nd : Int)) = false := by rw [decide_eq_false_iff_not]; omega
       cases ht8 : Bt.inR 0 10000 m.told
       ·have HF : Hid (Bt.machOk rs h m = false) := Lib.hid (Bt.machOk_no (.inr (.inr (.inr (.inr (.inr (.inr (.inr (.inr ht8)))))))))
        have HT8' : Hid ((Bt.inR 0 10000 m.told && ((m.told.length : Int) == (nd : Int))) = false) := Lib.hid (HT8.out.trans ht8)
        clear HT8 ht8 c4
        have HT8 := HT8'
        clear HT8'
        go_enter Try.func101, Try.ntmps101
        go_wp2_with (first | (go_at_call 69; refine (specProg_any (HP.out.keep B0) h).mono ?_; rw [hp]; rintro e w1 ⟨rfl, hb⟩; obtain ⟨hc, hf⟩ := bcell hb; have W1 := B0.trans (hb.mono (by simp; omega)); have Q1 := Lib.hid (HH.out.keep W1).cells; have Q3 := Lib.hid (HH.out.keep W1).told) | (go_at_call 120; (with_reducible refine (l2n_any _ m.cells _ _ s1.out Q1.out).mono ?_); rw [HC8.out]; rintro e w' ⟨rfl, rfl⟩) | (go_at_call 120; (with_reducible refine (l2n_any _ m.told _ _ s3.out Q3.out).mono ?_); rw [HT8.out]; rintro e w' ⟨rfl, rfl⟩))
        go_ret
        exact ⟨ret_bool HF.out.symm, W1⟩
       ·have HT8' : Hid ((Bt.inR 0 10000 m.told && ((m.told.length : Int) == (nd : Int))) = true) := Lib.hid (HT8.out.trans ht8)
        have HtI := Lib.hid ht8
        clear HT8 ht8
        have HT8 := HT8'
        clear HT8'
        have HL2 := Lib.hid c4
        have hnl2 : nl ≤ 2 ∧ 2 ≤ nl := by omega
        clear c4
        go_enter Try.func101, Try.ntmps101
        go_wp2_with (first | (go_at_call 69; refine (specProg_any (HP.out.keep B0) h).mono ?_; rw [hp]; rintro e w1 ⟨rfl, hb⟩; obtain ⟨hc, hf⟩ := bcell hb; have W1 := B0.trans (hb.mono (by simp; omega)); have Q1 := Lib.hid (HH.out.keep W1).cells; have Q3 := Lib.hid (HH.out.keep W1).told) | (go_at_call 120; (with_reducible refine (l2n_any _ m.cells _ _ s1.out Q1.out).mono ?_); rw [HC8.out]; rintro e w' ⟨rfl, rfl⟩) | (go_at_call 120; (with_reducible refine (l2n_any _ m.told _ _ s3.out Q3.out).mono ?_); rw [HT8.out]; rintro e w' ⟨rfl, rfl⟩))
        have p0 : w1.cell? ⟨w.heap.size, 0, none⟩ = some (.slice (some ⟨b, o, none⟩) n cap) := keeps hb (by simp)
        have m0 : w1.cell? ⟨w.heap.size + 1, 0, none⟩ = some (.slice AT nt ct) := keeps hb (by simp)
        have m2 : w1.cell? ⟨w.heap.size + 1, 2, none⟩ = some (.slice AL nl cl) := keeps hb (by simp)
        clear hc hf
        go_loopw [5] (fun i wr => ∃ k : Nat, k ≤ 2 ∧ i = .int .i64 k ∧ (∀ j (hj : j < m.locks.length), j < k → -1 ≤ m.locks[j] ∧ m.locks[j] < m.ths.length) ∧ Below w1.heap.size w1 wr) (fun i _ => 2 - (intOf i).toNat)
        case atStart => exact ⟨0, by omega, rfl, fun _ _ hj => absurd hj (by omega), Below.refl _ _⟩
        case round =>
         obtain ⟨k, hk, rfl, hall, hbr⟩ := hrel
         have HA := Lib.hid hall; clear hall
         have Wr := W1.trans (hbr.mono W1.size)
         have p0' := keeps hbr p0
         have m0' := keeps hbr m0
         have m2' := keeps hbr m2
         clear p0 m0 m2
         have hws : w.heap.size + 1 < wr.heap.size := by have h1 := hbr.size; have h2 := hb.size; simp at h2; omega
         by_cases hlt : k < 2
         ·have hltn : k < nl := by omega
          have hlt' : k < m.locks.length := by rw [hL.out]; omega
          obtain ⟨hcl, hat⟩ := (HH.out.keep Wr).locks.at_ hL.out
          obtain ⟨bl, ol, rfl, f0⟩ := hat k hlt'
          clear hat
          generalize hq : m.locks[k] = q at *
          have HQ := Lib.hid hq; clear hq
          by_cases h1 : q < -1
          ·have HF : Hid (Bt.machOk rs h m = false) := Lib.hid (Bt.machOk_locks (Bt.inR_false hlt' (by rw [HQ.out]; exact .inl h1)))
           have dq : decide (q < -1) = true := by rw [decide_eq_true_eq]; exact h1
           go_wp2
           go_quiet (fail)
           go_wp2
           go_ret
           exact ⟨ret_bool HF.out.symm, bDrewN Wr _⟩
          ·have dq : decide (q < -1) = false := by rw [decide_eq_false_iff_not]; exact h1
           by_cases h2 : (nt : Int) ≤ q
           ·have HF : Hid (Bt.machOk rs h m = false) := Lib.hid (Bt.machOk_locks (Bt.inR_false hlt' (by rw [HQ.out, hT.out]; exact .inr h2)))
            go_wp2
            go_quiet (fail)
            go_wp2
            go_ret
            exact ⟨ret_bool HF.out.symm, bDrewN Wr _⟩
           ·go_wp2
            go_quiet (fail)
            go_wp2
            go_roundw
            case rel => exact ⟨k + 1, by omega, by go_num, fun j hj hjk => by
             by_cases hjk' : j < k
             ·exact HA.out j hj hjk'
             ·obtain rfl : j = k := by omega
              rw [HQ.out, hT.out]; omega, bDrewN hbr _⟩
            case measure => simp [intOf]; omega
         ·obtain rfl : k = 2 := by omega
          have HlI : Hid (Bt.inR (-1) m.ths.length m.locks = true) := Lib.hid (Bt.inR_true (fun j hj => HA.out j hj (by have := hL.out; omega)))
          have LL := HA
          clear HA
          have z0 : Hid (w1.heap.size ≤ wr.heap.size) := Lib.hid hbr.size
          obtain ⟨wo, rfl⟩ : ∃ wo : World, wo = wr := ⟨_, rfl⟩
          clear hbr
          go_wp2
          go_loopw [6] (fun i wr => ∃ k : Nat, k ≤ nt ∧ i = .int .i64 k ∧ (∀ j (hj : j < m.ths.length), j < k → Bt.thOk rs.length m.ths[j] = true) ∧ Below wo.heap.size wo wr) (fun i _ => nt - (intOf i).toNat)
          case atStart => exact ⟨0, by omega, rfl, fun _ _ hj => absurd hj (by omega), Below.refl _ _⟩
          case round =>
           obtain ⟨k, hk, rfl, hall, hbr⟩ := hrel
           have HA := Lib.hid hall; clear hall
           have W2 := Wr.trans (hbr.mono Wr.size)
           have p0'' := keeps hbr p0'
           have m0'' := keeps hbr m0'
           clear p0' m0' m2'
           have hws2 : w.heap.size + 1 < wr.heap.size := by have h1 := hbr.size; omega
           have hws0 : w.heap.size < wr.heap.size := by omega
           by_cases hlt : k < nt
           ·have hlt' : k < m.ths.length := by rw [hT.out]; exact hlt
            obtain ⟨bt, ot, rfl, ht⟩ := (HH.out.keep W2).ths.2.2 k hlt'
            obtain ⟨AR, cr, AS, cs, HT, f0, f1, f2, f3⟩ := ht.open
            have sR := HS.out.regs k hlt'
            have sS := HS.out.stack k hlt'
            clear ht
            generalize hth : m.ths[k] = th at *
            have HTH := Lib.hid hth; clear hth
            have HHT := Lib.hid HT; clear HT
            have sR40 := Lib.hid (le40 sR)
            clear sR
            generalize hnr : th.regs.length = nr at *
            generalize hns : th.stack.length = ns at *
            have HNS := Lib.hid hns; clear hns
            have HNR := Lib.hid hnr; clear hnr
            have L4 : Hid (th.regs.length ≤ 1099511627776) := Lib.hid (by rw [HNR.out]; exact sR40.out)
            generalize hpl : th.pl = pl at *
            generalize hst : th.st = st at *
            have HPL := Lib.hid hpl; clear hpl
            have HST := Lib.hid hst; clear hst
            have BT := Lib.hid ((Below.refl wr.heap.size wr).alloc (Nat.le_refl _) (.cells #[.int .i64 pl, .slice AR nr cr, .slice AS ns cs, .int .i64 st] 123))
            have HNO : Hid (Bt.thOk n th = false → Bt.machOk rs h m = false) := Lib.hid (fun e => Bt.machOk_thread hlt' (by rw [HTH.out, HP.out.nP]; exact e))
            by_cases t1 : pl < 0
            ·have HF : Hid (Bt.machOk rs h m = false) := Lib.hid (HNO.out (Bt.thOk_no (.inl (by rw [HPL.out]; exact t1))))
             go_wp2
             go_ret
             exact ⟨ret_bool HF.out.symm, W2.trans (BT.out.mono (by omega))⟩
            ·by_cases t2 : (n : Int) < pl
             ·have HF : Hid (Bt.machOk rs h m = false) := Lib.hid (HNO.out (Bt.thOk_no (.inr (.inl (by rw [HPL.out]; exact t2)))))
              go_wp2
              go_ret
              exact ⟨ret_bool HF.out.symm, W2.trans (BT.out.mono (by omega))⟩
             ·cases hR : Bt.regsOk th.regs
              ·have HF : Hid (Bt.machOk rs h m = false) := Lib.hid (HNO.out (Bt.thOk_no (.inr (.inr (.inr (.inr (.inr (.inl hR))))))))
               go_wp2_with (go_at_call 120; refine (l2n_regs _ th.regs _ L4.out (HHT.out.regs.keep BT.out)).mono ?_; rw [hR]; rintro e w' ⟨rfl, rfl⟩)
               go_ret
               exact ⟨ret_bool HF.out.symm, W2.trans (BT.out.mono (by omega))⟩
              ·by_cases t4 : 6 < ns
               ·have HF : Hid (Bt.machOk rs h m = false) := Lib.hid (HNO.out (Bt.thOk_no (.inr (.inr (.inl (by rw [HNS.out]; exact t4))))))
                go_wp2_with (go_at_call 120; refine (l2n_regs _ th.regs _ L4.out (HHT.out.regs.keep BT.out)).mono ?_; rw [hR]; rintro e w' ⟨rfl, rfl⟩)
                go_ret
                exact ⟨ret_bool HF.out.symm, W2.trans (BT.out.mono (by omega))⟩
               ·have dt4 : decide (6 < (ns : Int)) = false := by rw [decide_eq_false_iff_not]; omega
                by_cases t5 : st < 0
                ·have HF : Hid (Bt.machOk rs h m = false) := Lib.hid (HNO.out (Bt.thOk_no (.inr (.inr (.inr (.inl (by rw [HST.out]; exact t5)))))))
                 go_wp2_with (go_at_call 120; refine (l2n_regs _ th.regs _ L4.out (HHT.out.regs.keep BT.out)).mono ?_; rw [hR]; rintro e w' ⟨rfl, rfl⟩)
                 go_ret
                 exact ⟨ret_bool HF.out.symm, W2.trans (BT.out.mono (by omega))⟩
                ·by_cases t6 : 2 < st
                 ·have HF : Hid (Bt.machOk rs h m = false) := Lib.hid (HNO.out (Bt.thOk_no (.inr (.inr (.inr (.inr (.inl (by rw [HST.out]; exact t6))))))))
                  go_wp2_with (go_at_call 120; refine (l2n_regs _ th.regs _ L4.out (HHT.out.regs.keep BT.out)).mono ?_; rw [hR]; rintro e w' ⟨rfl, rfl⟩)
                  go_ret
                  exact ⟨ret_bool HF.out.symm, W2.trans (BT.out.mono (by omega))⟩
                 ·go_wp2_with (go_at_call 120; refine (l2n_regs _ th.regs _ L4.out (HHT.out.regs.keep BT.out)).mono ?_; rw [hR]; rintro e w' ⟨rfl, rfl⟩)
                  obtain ⟨wa, rfl⟩ : ∃ wa : World, wa = wr := ⟨_, rfl⟩
                  have ZA := Lib.hid hbr.size
                  have HBR := Lib.hid hbr
                  clear hbr
                  go_loopw [8] (fun i wr => ∃ j : Nat, j ≤ ns ∧ i = .int .i64 j ∧ (∀ x (hx : x < th.stack.length), x < j → 0 ≤ th.stack[x] ∧ th.stack[x] < (n : Int) + 1) ∧ Below (wa.heap.size + 1) (wa.alloc (.cells #[.int .i64 pl, .slice AR nr cr, .slice AS ns cs, .int .i64 st] 123)) wr) (fun i _ => ns - (intOf i).toNat)
                  case atStart => exact ⟨0, by omega, rfl, fun _ _ hj => absurd hj (by omega), Below.refl _ _⟩
                  case round =>
                   obtain ⟨j, hj, rfl, hallj, hbj⟩ := hrel
                   have HAJ := Lib.hid hallj; clear hallj
                   have x0 : wr.cell? ⟨wa.heap.size, 2, none⟩ = some (.slice AS ns cs) := by rw [hbj.cell (p := ⟨wa.heap.size, 2, none⟩) (by simp)]; simp
                   have KJ : Below wa.heap.size wa wr := BT.out.trans (hbj.mono (by omega))
                   have p0j := keeps KJ p0''
                   have m0j := keeps KJ m0''
                   clear f0 f1 f2 f3
                   have hz : w.heap.size < wr.heap.size := by have := KJ.size; omega
                   by_cases hltj : j < ns
                   ·have hltj' : j < th.stack.length := by rw [HNS.out]; exact hltj
                    obtain ⟨hcs, hat⟩ := (HHT.out.stack.keep KJ).at_ HNS.out
                    obtain ⟨bs, os, rfl, g0⟩ := hat j hltj'
                    clear hat
                    generalize hq : th.stack[j] = q at *
                    have HQ := Lib.hid hq; clear hq
                    by_cases h1 : q < 0
                    ·have HF : Hid (Bt.machOk rs h m = false) := Lib.hid (HNO.out (Bt.thOk_no (.inr (.inr (.inr (.inr (.inr (.inr (Bt.inR_false hltj' (by rw [HQ.out]; exact .inl h1))))))))))
                     have dq : decide (q < 0) = true := by rw [decide_eq_true_eq]; exact h1
                     go_wp2
                     go_quiet (fail)
                     go_wp2
                     go_ret
                     exact ⟨ret_bool HF.out.symm, bDrewN (W2.trans (KJ.mono (by omega))) _⟩
                    ·have dq : decide (q < 0) = false := by rw [decide_eq_false_iff_not]; exact h1
                     by_cases h2 : (n : Int) < q
                     ·have HF : Hid (Bt.machOk rs h m = false) := Lib.hid (HNO.out (Bt.thOk_no (.inr (.inr (.inr (.inr (.inr (.inr (Bt.inR_false hltj' (by rw [HQ.out]; omega))))))))))
                      go_wp2
                      go_quiet (fail)
                      go_wp2
                      go_ret
                      exact ⟨ret_bool HF.out.symm, bDrewN (W2.trans (KJ.mono (by omega))) _⟩
                     ·go_wp2
                      go_quiet (fail)
                      go_wp2
                      go_roundw
                      case rel => exact ⟨j + 1, by omega, by go_num, fun x hx hxk => by
                       by_cases hxk' : x < j
                       ·exact HAJ.out x hx hxk'
                       ·obtain rfl : x = j := by omega
                        rw [HQ.out]; omega, bDrewN hbj _⟩
                      case measure => simp [intOf]; omega
                   ·obtain rfl : j = ns := by omega
                    have HG : Hid (Bt.thOk rs.length th = true) := Lib.hid (by
                     rw [HP.out.nP]
                     exact Bt.thOk_of ⟨by rw [HPL.out]; omega, by rw [HPL.out]; omega, by rw [HNS.out]; omega, by rw [HST.out]; omega, by rw [HST.out]; omega, hR, Bt.inR_true (fun x hx => HAJ.out x hx (by have := HNS.out; omega))⟩)
                    go_wp2
                    go_roundw
                    case rel =>
                     repeat apply Exists.intro
                     refine ⟨⟨k + 1, by omega, by go_num, fun x hx hxk => ?_, HBR.out.trans (KJ.mono ZA.out)⟩, rfl⟩
                     by_cases hxk' : x < k
                     ·exact HA.out x hx hxk'
                     ·obtain rfl : x = k := by omega
                      rw [HTH.out]; exact HG.out
                    case measure => simp [intOf]; omega
           ·obtain rfl : k = nt := by omega
            have HF : Hid (Bt.machOk rs h m = true) := Lib.hid (Bt.machOk_of ⟨hp, by rw [hT.out]; omega, by rw [hT.out]; omega, by rw [hC.out]; exact HcI.out.2, by rw [hL.out]; exact HL2.out, by rw [hD.out]; omega, HcI.out.1, HlI.out, HtI.out, fun j hj => HA.out j hj (by have := hT.out; omega)⟩)
            go_wp2
            go_ret
            exact ⟨ret_bool HF.out.symm, W2⟩
     ·have dd4 : ((nl : Int) != 2) = true := by rw [bne_iff_ne]; omega
      have HF : Hid (Bt.machOk rs h m = false) := Lib.hid (Bt.machOk_no (.inr (.inr (.inr (.inr (.inl (by rw [hL.out]; exact c4)))))))
      clear c4
      go_enter Try.func101, Try.ntmps101
      go_wp2_with (first | (go_at_call 69; refine (specProg_any (HP.out.keep B0) h).mono ?_; rw [hp]; rintro e w1 ⟨rfl, hb⟩; obtain ⟨hc, hf⟩ := bcell hb; have W1 := B0.trans (hb.mono (by simp; omega)); have Q1 := Lib.hid (HH.out.keep W1).cells; have Q3 := Lib.hid (HH.out.keep W1).told) | (go_at_call 120; (with_reducible refine (l2n_any _ m.cells _ _ s1.out Q1.out).mono ?_); rw [HC8.out]; rintro e w' ⟨rfl, rfl⟩))
      go_ret
      exact ⟨ret_bool HF.out.symm, W1⟩
end Go.Proofs.Ytminfkedkkkhdaa
end
section
namespace Go.Proofs.Ytminfkedkkkhdaa
open Go.RowKit
namespace Bt
def thAt (m : Mc) (who : Int) : Option Th := if who < 0 then none else m.ths[who.toNat]?
def runs (m : Mc) (who : Int) : Bool := match thAt m who with
 | some t => t.st == 0
 | none => false
def instrOf (rs : List C4) (h : Int) (m : Mc) (who : Int) : Option C4 := if machOk rs h m && runs m who then (match thAt m who with
 | some t => if t.pl < rs.length then rs[t.pl.toNat]? else none
 | none => none) else none
theorem thAt_neg {m : Mc} {who : Int} (h : who < 0) : thAt m who = none := if_pos h
theorem thAt_out {m : Mc} {who : Int} (h : (m.ths.length : Int) ≤ who) : thAt m who = none := by
 unfold thAt
 split
 ·rfl
 ·exact List.getElem?_eq_none (by omega)
theorem thAt_in {m : Mc} {k : Nat} (h : k < m.ths.length) : thAt m (k : Int) = some m.ths[k] := by
 unfold thAt
 rw [if_neg (by omega)]
 simp [h]
theorem runs_none {m : Mc} {who : Int} (h : thAt m who = none) : runs m who = false := by unfold runs; rw [h]
theorem runs_in {m : Mc} {k : Nat} (h : k < m.ths.length) : runs m (k : Int) = (m.ths[k].st == 0) := by unfold runs; rw [thAt_in h]
theorem runs_lt {m : Mc} {who : Int} (h : runs m who = true) : 0 ≤ who ∧ who < m.ths.length := by
 by_cases h1 : who < 0
 ·rw [runs_none (thAt_neg h1)] at h; cases h
 ·by_cases h2 : (m.ths.length : Int) ≤ who
  ·rw [runs_none (thAt_out h2)] at h; cases h
  ·omega
theorem instrOf_no {rs : List C4} {h : Int} {m : Mc} {who : Int} (hh : machOk rs h m = false ∨ runs m who = false) : instrOf rs h m who = none := by
 unfold instrOf
 rw [if_neg]
 rw [Bool.and_eq_true]
 rintro ⟨a, b⟩
 rcases hh with e | e
 ·rw [a] at e; cases e
 ·rw [b] at e; cases e
theorem instrOf_end {rs : List C4} {h : Int} {m : Mc} {k : Nat} (hk : k < m.ths.length) (he : (rs.length : Int) ≤ m.ths[k].pl) : instrOf rs h m (k : Int) = none := by
 unfold instrOf
 split
 ·rw [thAt_in hk]
  simp only
  rw [if_neg (by omega)]
 ·rfl
theorem instrOf_at {rs : List C4} {h : Int} {m : Mc} {k j : Nat} (hm : machOk rs h m = true) (hk : k < m.ths.length) (hr : m.ths[k].st = 0) (hj : j < rs.length) (he : m.ths[k].pl = j) : instrOf rs h m (k : Int) = some rs[j] := by
 unfold instrOf
 rw [if_pos (by rw [hm, runs_in hk, hr]; rfl), thAt_in hk]
 simp only
 rw [if_pos (by omega), he]
 simp [hj]
end Bt
def codeVal : Option Bt.C4 → Value
 | some r => .tuple #[.agg #[.int .i64 r.op, .int .i64 r.a, .int .i64 r.b, .int .i64 r.c], .bool true]
 | none => .tuple #[.agg #[.int .i64 0, .int .i64 0, .int .i64 0, .int .i64 0], .bool false]
set_option maxHeartbeats 1000000 in
theorem threadRuns_any {AT AC AL AD : Option Addr} {nt ct nc cc nl cl nd cd : Nat} {m : Bt.Mc} {w : World} (who : Int) (H : ArgMc w AT nt ct AC nc cc AL nl cl AD nd cd m) :
  Calls Try.prog 122 #[.agg #[.slice AT nt ct, .slice AC nc cc, .slice AL nl cl, .slice AD nd cd], .int .i64 who] w fun e w' => e = .returned (.bool (Bt.runs m who)) ∧ Below w.heap.size w w' := by
 have hT := Lib.hid H.nT
 have hle := H.ths.2.1
 have HH := Lib.hid H; clear H
 have B0 : Below w.heap.size w (w.alloc (.cells #[.slice AT nt ct, .slice AC nc cc, .slice AL nl cl, .slice AD nd cd] 31)) := (Below.refl _ _).alloc (Nat.le_refl _) _
 by_cases c1 : 0 ≤ who
 ·by_cases c2 : who < nt
  ·obtain ⟨k, rfl⟩ : ∃ k : Nat, who = k := ⟨who.toNat, by omega⟩
   have hk : k < nt := by omega
   have hk' : k < m.ths.length := by rw [hT.out]; exact hk
   rw [Bt.runs_in hk']
   obtain ⟨bt, ot, rfl, ht⟩ := (HH.out.keep B0).ths.2.2 k hk'
   obtain ⟨AR, cr, AS, cs, HT, f0, f1, f2, f3⟩ := ht.open
   clear ht HT f0 f1 f2 c1 c2
   generalize m.ths[k].st = st at *
   go_enter Try.func122, Try.ntmps122
   go_wp2
   go_ret
   exact ⟨rfl, B0⟩
  ·rw [Bt.runs_none (Bt.thAt_out (by rw [hT.out]; omega))]
   go_enter Try.func122, Try.ntmps122
   go_wp2
   go_ret
   exact ⟨rfl, B0⟩
 ·rw [Bt.runs_none (Bt.thAt_neg (by omega))]
  go_enter Try.func122, Try.ntmps122
  go_wp2
  go_ret
  exact ⟨rfl, B0⟩
set_option maxHeartbeats 1000000 in
theorem behindEnd_any (b o n cap : Nat) (h : Int) (pl st : Int) (AR AS : Option Addr) (nr cr ns cs : Nat) (w : World) :
  Calls Try.prog 126 #[.agg #[.slice (some ⟨b, o, none⟩) n cap, .int .i64 h], .agg #[.int .i64 pl, .slice AR nr cr, .slice AS ns cs, .int .i64 st]] w fun e w' => e = .returned (.bool (decide ((n : Int) ≤ pl))) ∧ Below w.heap.size w w' := by
 go_enter Try.func126, Try.ntmps126
 go_wp2
 go_ret
 exact ⟨rfl, ((Below.refl _ _).alloc (Nat.le_refl _) _).alloc (by simp) _⟩
end Go.Proofs.Ytminfkedkkkhdaa
end
