/-
  How the laws count and compare machines: contracts.
-/
import Derived.Test.YtdhkaediffiplaaThLaw
namespace Go.Proofs.Ytdhkaediffiplaa
open Go.RowKit

set_option maxHeartbeats 1000000 in
theorem szMachine_any {AT AC AL AD : Option Addr} {nt ct nc cc nl cl nd cd : Nat} {m : Bt.Mc} (left : Int) (w : World) (H : ArgMc w AT nt ct AC nc cc AL nl cl AD nd cd m) (hL : Lens m) (h0 : 0 ≤ left) (h1 : left ≤ 1048576) :
    Calls Try.prog 13 #[.agg #[.slice AT nt ct, .slice AC nc cc, .slice AL nl cl, .slice AD nd cd], .int .i64 left] w fun e w' => e = .returned (.int .i64 (rest left (Bt.mcSz m))) ∧ Below w.heap.size w w' := by
  have lT : nt ≤ maxLen := H.nT ▸ hL.ths
  have lC : nc ≤ maxLen := H.nC ▸ hL.cells
  have lL : nl ≤ maxLen := H.nL ▸ hL.locks
  have lD : nd ≤ maxLen := H.nD ▸ hL.told
  have HL : Hid (∀ i (h : i < m.ths.length), m.ths[i].regs.length ≤ maxLen ∧ m.ths[i].stack.length ≤ maxLen) := Lib.hid (fun i h => ⟨hL.regs i h, hL.stack i h⟩)
  clear hL
  have hE : Bt.mcSz m = nt + Bt.sumTh m.ths + nc + nl + nd := by unfold Bt.mcSz; rw [H.nT, H.nC, H.nL, H.nD]
  rw [hE]
  clear hE
  have HH := Lib.hid H; clear H
  have B0 : Below w.heap.size w (w.alloc (.cells #[.slice AT nt ct, .slice AC nc cc, .slice AL nl cl, .slice AD nd cd] 28)) := (Below.refl _ _).alloc (Nat.le_refl _) _
  have C1 := szThreads_any AT nt ct m.ths left _ (HH.out.keep B0).ths lT HL.out h0 h1
  generalize nt + Bt.sumTh m.ths = U at *
  have HC1 := Lib.hid C1; clear C1
  by_cases c1 : left < (U : Int)
  · have E1 := Lib.hid (rest_neg c1)
    rw [rest_neg (by omega)]
    go_enter Try.func13, Try.ntmps13
    go_wp2_with fail
    refine HC1.out.mono ?_
    rw [E1.out]
    rintro e w1 ⟨rfl, hb1⟩
    go_wp2
    go_ret
    exact ⟨rfl, B0.trans (hb1.mono (by simp))⟩
  · have E1 := Lib.hid (rest_pos c1)
    by_cases c2 : left - (U : Int) < nc
    · have E2 := Lib.hid (rest_neg c2)
      rw [rest_neg (by omega)]
      go_enter Try.func13, Try.ntmps13
      go_wp2_with fail
      refine HC1.out.mono ?_
      rw [E1.out]
      rintro e w1 ⟨rfl, hb1⟩
      obtain ⟨hc, hf⟩ := bcell hb1
      go_wp2_with fail
      refine (szInts_any _ _ _ _ _ lC (by omega) (by omega)).mono ?_
      rw [E2.out]
      rintro e w' ⟨rfl, rfl⟩
      go_wp2
      go_ret
      exact ⟨rfl, B0.trans (hb1.mono (by simp))⟩
    · have E2 := Lib.hid (rest_pos c2)
      by_cases c3 : left - (U : Int) - nc < nl
      · have E3 := Lib.hid (rest_neg c3)
        rw [rest_neg (by omega)]
        go_enter Try.func13, Try.ntmps13
        go_wp2_with fail
        refine HC1.out.mono ?_
        rw [E1.out]
        rintro e w1 ⟨rfl, hb1⟩
        obtain ⟨hc, hf⟩ := bcell hb1
        go_wp2_with fail
        refine (szInts_any _ _ _ _ _ lC (by omega) (by omega)).mono ?_
        rw [E2.out]
        rintro e w' ⟨rfl, rfl⟩
        go_wp2_with fail
        refine (szInts_any _ _ _ _ _ lL (by omega) (by omega)).mono ?_
        rw [E3.out]
        rintro e w' ⟨rfl, rfl⟩
        go_wp2
        go_ret
        exact ⟨rfl, B0.trans (hb1.mono (by simp))⟩
      · have E3 := Lib.hid (rest_pos c3)
        have E4 : Hid (rest (left - (U : Int) - nc - nl) nd = rest left (U + nc + nl + nd)) := Lib.hid (by unfold rest; split <;> split <;> omega)
        rw [← E4.out]
        go_enter Try.func13, Try.ntmps13
        go_wp2_with fail
        refine HC1.out.mono ?_
        rw [E1.out]
        rintro e w1 ⟨rfl, hb1⟩
        obtain ⟨hc, hf⟩ := bcell hb1
        go_wp2_with fail
        refine (szInts_any _ _ _ _ _ lC (by omega) (by omega)).mono ?_
        rw [E2.out]
        rintro e w' ⟨rfl, rfl⟩
        go_wp2_with fail
        refine (szInts_any _ _ _ _ _ lL (by omega) (by omega)).mono ?_
        rw [E3.out]
        rintro e w' ⟨rfl, rfl⟩
        by_cases c4 : left - (U : Int) - nc - nl < nd
        · have E5 := Lib.hid (rest_neg c4)
          go_wp2_with fail
          refine (szInts_any _ _ _ _ _ lD (by omega) (by omega)).mono ?_
          rw [E5.out]
          rintro e w' ⟨rfl, rfl⟩
          go_wp2
          go_ret
          exact ⟨ret_int E5.out.symm, B0.trans (hb1.mono (by simp))⟩
        · have E5 := Lib.hid (rest_pos c4)
          go_wp2_with fail
          refine (szInts_any _ _ _ _ _ lD (by omega) (by omega)).mono ?_
          rw [E5.out]
          rintro e w' ⟨rfl, rfl⟩
          go_wp2
          go_ret
          exact ⟨ret_int E5.out.symm, B0.trans (hb1.mono (by simp))⟩

set_option maxHeartbeats 1000000 in
theorem eqThread_same {AR AS AR' AS' : Option Addr} {nr cr ns cs nr' cr' ns' cs' : Nat} {t : Bt.Th} {w : World} (H : ArgTh w AR nr cr AS ns cs t) (H' : ArgTh w AR' nr' cr' AS' ns' cs' t) (hr : nr ≤ 1048576) (hs : ns ≤ 1048576) :
    Calls Try.prog 89 #[.agg #[.int .i64 t.pl, .slice AR nr cr, .slice AS ns cs, .int .i64 t.st], .agg #[.int .i64 t.pl, .slice AR' nr' cr', .slice AS' ns' cs', .int .i64 t.st]] w fun e w' => e = .returned (.bool true) ∧ Below w.heap.size w w' := by
  have HR := Lib.hid (le40 (H.nR ▸ hr))
  have HS := Lib.hid (le40 (H.nS ▸ hs))
  have B0 : Below w.heap.size w ((w.alloc (.cells #[.int .i64 t.pl, .slice AR nr cr, .slice AS ns cs, .int .i64 t.st] 71)).alloc (.cells #[.int .i64 t.pl, .slice AR' nr' cr', .slice AS' ns' cs', .int .i64 t.st] 71)) := ((Below.refl _ _).alloc (Nat.le_refl _) _).alloc (by simp) _
  have HH := Lib.hid (H.keep B0); have HH' := Lib.hid (H'.keep B0); clear H H'
  generalize t.pl = pl at *
  generalize t.st = st at *
  go_enter Try.func89, Try.ntmps89
  go_wp2_with fail
  refine (eqInts_any _ _ t.regs _ HR.out HH.out.regs HH'.out.regs).mono ?_
  rintro e w1 ⟨rfl, hb1⟩
  obtain ⟨hc, hf⟩ := bcell hb1
  go_wp2_with fail
  refine (eqInts_any _ _ t.stack _ HS.out (HH.out.keep hb1).stack (HH'.out.keep hb1).stack).mono ?_
  rintro e w2 ⟨rfl, hb2⟩
  have h12 := hb1.trans (hb2.mono hb1.size)
  clear hc hf
  obtain ⟨hc, hf⟩ := bcell h12
  go_wp2
  go_ret
  exact ⟨rfl, B0.trans (h12.mono (by simp; omega))⟩

set_option maxHeartbeats 2000000 in
theorem eqThreads_same {A A' : Option Addr} {n cap cap' : Nat} {ts : List Bt.Th} {w : World} (H : ArgThs w A n cap ts) (H' : ArgThs w A' n cap' ts) (hn : n ≤ 1048576) (hL : ∀ i (h : i < ts.length), ts[i].regs.length ≤ 1048576 ∧ ts[i].stack.length ≤ 1048576) :
    Calls Try.prog 58 #[.slice A n cap, .slice A' n cap'] w fun e w' => e = .returned (.bool true) ∧ Below w.heap.size w w' := by
  have hT := Lib.hid H.1
  have hcap := H.2.1
  have hcap' := H'.2.1
  have HH := Lib.hid H; have HH' := Lib.hid H'; clear H H'
  have HL := Lib.hid hL; clear hL
  go_enter Try.func58, Try.ntmps58
  go_wp2
  go_loopw [5] (fun i wr => ∃ k : Nat, k ≤ n ∧ i = .int .i64 k ∧ Below w.heap.size w wr) (fun i _ => n - (intOf i).toNat)
  case atStart => exact ⟨0, Nat.zero_le _, rfl, Below.refl _ _⟩
  case round =>
    obtain ⟨k, hk, rfl, hb⟩ := hrel
    by_cases hlt : k < n
    · have hlt' : k < ts.length := by rw [hT.out]; exact hlt
      obtain ⟨bt, ot, rfl, ht⟩ := (HH.out.keep hb).2.2 k hlt'
      obtain ⟨bt', ot', rfl, ht'⟩ := (HH'.out.keep hb).2.2 k hlt'
      obtain ⟨AR, cr, AS, cs, HT, f0, f1, f2, f3⟩ := ht.open
      obtain ⟨AR', cr', AS', cs', HT', f0', f1', f2', f3'⟩ := ht'.open
      obtain ⟨lr, ls⟩ := HL.out k hlt'
      clear ht ht'
      have G := fun (x : Cls wr) => eqThread_same (HT.keep x.below) (HT'.keep x.below) lr ls
      have HG := Lib.hid G; clear G HT HT'
      generalize ts[k] = th at *
      generalize th.regs.length = nr at *
      generalize th.stack.length = ns at *
      generalize th.pl = pl at *
      generalize th.st = st at *
      have q0 := Cls.keeps f0
      have q1 := Cls.keeps f1
      have q2 := Cls.keeps f2
      have q3 := Cls.keeps f3
      have q0' := Cls.keeps f0'
      have q1' := Cls.keeps f1'
      have q2' := Cls.keeps f2'
      have q3' := Cls.keeps f3'
      clear f0 f1 f2 f3 f0' f1' f2' f3'
      go_wp2
      refine wp_region_cls (by kernel_rfl) (by kernel_rfl) ?_
      repeat (go_big_quiet_step ((go_at_call 89; exact cls_of (HG.out _))))
      refine wpQuiet_nil ?_
      intro w2' hw2'
      obtain ⟨⟨w2, hb2⟩, rfl⟩ := hw2'
      go_wp2
      go_roundw
      case rel => exact ⟨k + 1, by omega, by go_num, hb.trans (hb2.mono hb.size)⟩
      case measure => simp [intOf]; omega
    · obtain rfl : k = n := by omega
      go_wp2
      go_ret
      exact ⟨rfl, hb⟩

set_option maxHeartbeats 1000000 in
theorem eqMachine_same {AT AC AL AD AT' AC' AL' AD' : Option Addr} {nt ct nc cc nl cl nd cd ct' cc' cl' cd' : Nat} {m : Bt.Mc} {w : World} (H : ArgMc w AT nt ct AC nc cc AL nl cl AD nd cd m) (H' : ArgMc w AT' nt ct' AC' nc cc' AL' nl cl' AD' nd cd' m) (S : Small m) :
    Calls Try.prog 19 #[.agg #[.slice AT nt ct, .slice AC nc cc, .slice AL nl cl, .slice AD nd cd], .agg #[.slice AT' nt ct', .slice AC' nc cc', .slice AL' nl cl', .slice AD' nd cd']] w fun e w' => e = .returned (.bool true) ∧ Below w.heap.size w w' := by
  have sT : nt ≤ 1048576 := H.nT ▸ S.ths
  have HS := Lib.hid S; clear S
  have B0 : Below w.heap.size w ((w.alloc (.cells #[.slice AT nt ct, .slice AC nc cc, .slice AL nl cl, .slice AD nd cd] 38)).alloc (.cells #[.slice AT' nt ct', .slice AC' nc cc', .slice AL' nl cl', .slice AD' nd cd'] 38)) := ((Below.refl _ _).alloc (Nat.le_refl _) _).alloc (by simp) _
  have HH := Lib.hid (H.keep B0); have HH' := Lib.hid (H'.keep B0); clear H H'
  go_enter Try.func19, Try.ntmps19
  go_wp2_with fail
  refine (eqThreads_same HH.out.ths HH'.out.ths sT (fun i h => ⟨HS.out.regs i h, HS.out.stack i h⟩)).mono ?_
  rintro e w1 ⟨rfl, hb1⟩
  obtain ⟨hc, hf⟩ := bcell hb1
  go_wp2_with fail
  refine (eqInts_any _ _ m.cells _ (le40 HS.out.cells) (HH.out.keep hb1).cells (HH'.out.keep hb1).cells).mono ?_
  rintro e w2 ⟨rfl, hb2⟩
  have h12 := hb1.trans (hb2.mono hb1.size)
  clear hc hf
  obtain ⟨hc, hf⟩ := bcell h12
  go_wp2_with fail
  refine (eqInts_any _ _ m.locks _ (le40 HS.out.locks) (HH.out.keep h12).locks (HH'.out.keep h12).locks).mono ?_
  rintro e w3 ⟨rfl, hb3⟩
  have h13 := h12.trans (hb3.mono h12.size)
  clear hc hf
  obtain ⟨hc, hf⟩ := bcell h13
  go_wp2_with fail
  refine (eqInts_any _ _ m.told _ (le40 HS.out.told) (HH.out.keep h13).told (HH'.out.keep h13).told).mono ?_
  rintro e w4 ⟨rfl, hb4⟩
  have h14 := h13.trans (hb4.mono h13.size)
  go_wp2
  go_ret
  exact ⟨rfl, B0.trans (h14.mono (by simp; omega))⟩
end Go.Proofs.Ytdhkaediffiplaa
