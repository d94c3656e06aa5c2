/-
  Whether two machines are equal, in the program's own package: a contract.
-/
import Derived.Test.YtdhkaediffiplaaSameT
namespace Go.Proofs.Ytdhkaediffiplaa
open Go.RowKit

set_option maxRecDepth 100000 in
set_option maxHeartbeats 4000000 in
theorem implSame_any {AT AC AL AD AT' AC' AL' AD' : Option Addr} {nt ct nc cc nl cl nd cd nt' ct' nc' cc' nl' cl' nd' cd' : Nat} {m m' : Bt.Mc} (w : World) (H : ArgMc w AT nt ct AC nc cc AL nl cl AD nd cd m) (H' : ArgMc w AT' nt' ct' AC' nc' cc' AL' nl' cl' AD' nd' cd' m') (S : Small m) (S' : Small m') :
    Calls Try.prog 25 #[.agg #[.slice AT nt ct, .slice AC nc cc, .slice AL nl cl, .slice AD nd cd], .agg #[.slice AT' nt' ct', .slice AC' nc' cc', .slice AL' nl' cl', .slice AD' nd' cd']] w fun e w' => e = .returned (.bool (Bt.mcSame m m')) ∧ Below w.heap.size w w' := by
  have hT := Lib.hid H.nT
  have hT' := Lib.hid H'.nT
  have hle := H.ths.2.1
  have hle' := H'.ths.2.1
  have hnt : nt ≤ 1048576 := H.nT ▸ S.ths
  have HS := Lib.hid S; clear S
  have HS' := Lib.hid S'; clear S'
  obtain ⟨W0, hW0⟩ : ∃ W0 : World, W0 = (w.alloc (.cells #[.slice AT nt ct, .slice AC nc cc, .slice AL nl cl, .slice AD nd cd] 38)).alloc (.cells #[.slice AT' nt' ct', .slice AC' nc' cc', .slice AL' nl' cl', .slice AD' nd' cd'] 38) := ⟨_, rfl⟩
  have B0 := Lib.hid (show Below w.heap.size w W0 by rw [hW0]; exact ((Below.refl _ _).alloc (Nat.le_refl _) _).alloc (by simp) _)
  have HH := Lib.hid (H.keep B0.out); have HH' := Lib.hid (H'.keep B0.out); clear H H'
  have a0 : W0.cell? ⟨w.heap.size, 0, none⟩ = some (.slice AT nt ct) := by rw [hW0]; go_simp
  have a1 : W0.cell? ⟨w.heap.size, 1, none⟩ = some (.slice AC nc cc) := by rw [hW0]; go_simp
  have a2 : W0.cell? ⟨w.heap.size, 2, none⟩ = some (.slice AL nl cl) := by rw [hW0]; go_simp
  have a3 : W0.cell? ⟨w.heap.size, 3, none⟩ = some (.slice AD nd cd) := by rw [hW0]; go_simp
  have b0 : W0.cell? ⟨w.heap.size + 1, 0, none⟩ = some (.slice AT' nt' ct') := by rw [hW0]; go_simp
  have b1 : W0.cell? ⟨w.heap.size + 1, 1, none⟩ = some (.slice AC' nc' cc') := by rw [hW0]; go_simp
  have b2 : W0.cell? ⟨w.heap.size + 1, 2, none⟩ = some (.slice AL' nl' cl') := by rw [hW0]; go_simp
  have b3 : W0.cell? ⟨w.heap.size + 1, 3, none⟩ = some (.slice AD' nd' cd') := by rw [hW0]; go_simp
  have HW := Lib.hid hW0
  by_cases hl : nt = nt'
  · subst hl
    clear hW0
    go_enter Try.func25, Try.ntmps25
    go_wp2
    rw [← HW.out]
    go_loopw [16] (fun i wr => ∃ k : Nat, k ≤ nt ∧ i = .int .i64 k ∧ (∀ j (hj : j < m.ths.length) (hj' : j < m'.ths.length), j < k → Bt.thSame m.ths[j] m'.ths[j] = true) ∧ Below W0.heap.size W0 wr) (fun i _ => nt - (intOf i).toNat)
    case atStart => exact ⟨0, Nat.zero_le _, rfl, fun _ _ _ hj => absurd hj (by omega), Below.refl _ _⟩
    case round =>
      obtain ⟨k, hk, rfl, hall, hb⟩ := hrel
      have HA := Lib.hid hall; clear hall
      have HB := Lib.hid hb
      have a0r := keeps hb a0
      have a1r := keeps hb a1
      have a2r := keeps hb a2
      have a3r := keeps hb a3
      have b0r := keeps hb b0
      have b1r := keeps hb b1
      have b2r := keeps hb b2
      have b3r := keeps hb b3
      clear a0 a1 a2 a3 b0 b1 b2 b3
      clear hb
      by_cases hlt : k < nt
      · have hlt' : k < m.ths.length := by rw [hT.out]; exact hlt
        have hlt'' : k < m'.ths.length := by rw [hT'.out]; exact hlt
        obtain ⟨bt, ot, rfl, ht⟩ := (HH.out.keep HB.out).ths.2.2 k hlt'
        obtain ⟨bt', ot', rfl, ht'⟩ := (HH'.out.keep HB.out).ths.2.2 k hlt''
        obtain ⟨AR, cr, AS, cs, HT, f0, f1, f2, f3⟩ := ht.open
        obtain ⟨AR', cr', AS', cs', HT', f0', f1', f2', f3'⟩ := ht'.open
        have lr := HS.out.regs k hlt'
        have ls := HS.out.stack k hlt'
        have lr' := HS'.out.regs k hlt''
        have ls' := HS'.out.stack k hlt''
        clear ht ht'
        have G := fun (x : Cls wr) => sameThread_any (HT.keep x.below) (HT'.keep x.below) lr ls lr' ls'
        have HG := Lib.hid G; clear G HT HT'
        have HTH : Hid (Bt.thSame m.ths[k] m'.ths[k] = Bt.thSame m.ths[k] m'.ths[k]) := Lib.hid rfl
        have HN : Hid (Bt.thSame m.ths[k] m'.ths[k] = false → Bt.mcSame m m' = false) := Lib.hid (Bt.mcSame_th hlt' hlt'')
        have HY : Hid (Bt.thSame m.ths[k] m'.ths[k] = true → ∀ j (hj : j < m.ths.length) (hj' : j < m'.ths.length), j < k + 1 → Bt.thSame m.ths[j] m'.ths[j] = true) := Lib.hid (fun e j hj hj' hjk => by
          by_cases hjk' : j < k
          · exact HA.out j hj hj' hjk'
          · obtain rfl : j = k := by omega
            exact e)
        generalize Bt.thSame m.ths[k] m'.ths[k] = same at *
        generalize m.ths[k].regs.length = nr at *
        generalize m.ths[k].stack.length = ns at *
        generalize m'.ths[k].regs.length = nr' at *
        generalize m'.ths[k].stack.length = ns' at *
        generalize m.ths[k].pl = pl at *
        generalize m.ths[k].st = st at *
        generalize m'.ths[k].pl = pl' at *
        generalize m'.ths[k].st = st' at *
        have q0 := Cls.keeps f0
        have q1 := Cls.keeps f1
        have q2 := Cls.keeps f2
        have q3 := Cls.keeps f3
        have q0' := Cls.keeps f0'
        have q1' := Cls.keeps f1'
        have q2' := Cls.keeps f2'
        have q3' := Cls.keeps f3'
        have qa := Cls.keeps a0r
        have qb := Cls.keeps b0r
        clear f0 f1 f2 f3 f0' f1' f2' f3' HTH
        cases same
        · go_wp2
          refine wp_region_cls (by kernel_rfl) (by kernel_rfl) ?_
          repeat (go_big_quiet_step ((go_at_call 66; exact cls_of (HG.out _))))
          refine wpQuiet_nil ?_
          intro w2' hw2'
          obtain ⟨⟨w2, hb2⟩, rfl⟩ := hw2'
          go_wp2
          go_ret
          exact ⟨ret_bool (HN.out (by trivial)).symm, B0.out.trans ((HB.out.trans (hb2.mono HB.out.size)).mono B0.out.size)⟩
        · go_wp2
          refine wp_region_cls (by kernel_rfl) (by kernel_rfl) ?_
          repeat (go_big_quiet_step ((go_at_call 66; exact cls_of (HG.out _))))
          refine wpQuiet_nil ?_
          intro w2' hw2'
          obtain ⟨⟨w2, hb2⟩, rfl⟩ := hw2'
          go_wp2
          go_roundw
          case rel => exact ⟨k + 1, by omega, by go_num, HY.out (by trivial), HB.out.trans (hb2.mono HB.out.size)⟩
          case measure => simp [intOf]; omega
      · obtain rfl : k = nt := by omega
        have HE : Hid (Bt.mcSame m m' = ((m.cells == m'.cells) && ((m.locks == m'.locks) && (m.told == m'.told)))) := Lib.hid (Bt.mcSame_eq (by rw [hT.out, hT'.out]) (fun j hj hj' => HA.out j hj hj' (by have := hT.out; omega)))
        go_wp2_with fail
        refine (sameNums_any _ _ m.cells m'.cells _ HS.out.cells HS'.out.cells (HH.out.keep HB.out).cells (HH'.out.keep HB.out).cells).mono ?_
        cases hC : (m.cells == m'.cells)
        · rintro e w1 ⟨rfl, hb1⟩
          go_wp2
          go_ret
          exact ⟨ret_bool (by rw [HE.out, hC]; rfl), B0.out.trans ((HB.out.trans (hb1.mono HB.out.size)).mono B0.out.size)⟩
        · rintro e w1 ⟨rfl, hb1⟩
          have HB1 := Lib.hid (HB.out.trans (hb1.mono HB.out.size))
          have a0s := keeps hb1 a0r
          have a1s := keeps hb1 a1r
          have a2s := keeps hb1 a2r
          have a3s := keeps hb1 a3r
          have b0s := keeps hb1 b0r
          have b1s := keeps hb1 b1r
          have b2s := keeps hb1 b2r
          have b3s := keeps hb1 b3r
          clear a0r a1r a2r a3r b0r b1r b2r b3r
          go_wp2_with fail
          refine (sameNums_any _ _ m.locks m'.locks _ HS.out.locks HS'.out.locks (HH.out.keep HB1.out).locks (HH'.out.keep HB1.out).locks).mono ?_
          cases hL : (m.locks == m'.locks)
          · rintro e w2 ⟨rfl, hb2⟩
            go_wp2
            go_ret
            exact ⟨ret_bool (by rw [HE.out, hC, hL]; rfl), B0.out.trans ((HB1.out.trans (hb2.mono HB1.out.size)).mono B0.out.size)⟩
          · rintro e w2 ⟨rfl, hb2⟩
            have HB2 := Lib.hid (HB1.out.trans (hb2.mono HB1.out.size))
            have a0t := keeps hb2 a0s
            have a1t := keeps hb2 a1s
            have a2t := keeps hb2 a2s
            have a3t := keeps hb2 a3s
            have b0t := keeps hb2 b0s
            have b1t := keeps hb2 b1s
            have b2t := keeps hb2 b2s
            have b3t := keeps hb2 b3s
            clear a0s a1s a2s a3s b0s b1s b2s b3s
            go_wp2_with fail
            refine (sameNums_any _ _ m.told m'.told _ HS.out.told HS'.out.told (HH.out.keep HB2.out).told (HH'.out.keep HB2.out).told).mono ?_
            rintro e w3 ⟨rfl, hb3⟩
            go_wp2
            go_ret
            exact ⟨ret_bool (by rw [HE.out, hC, hL]; rfl), B0.out.trans ((HB2.out.trans (hb3.mono HB2.out.size)).mono B0.out.size)⟩
  · have HF := Lib.hid (Bt.mcSame_len (m := m) (m' := m') (by rw [hT.out, hT'.out]; exact hl))
    have hne : ((nt : Int) != (nt' : Int)) = true := by rw [bne_iff_ne]; omega
    have B1 : Below w.heap.size w ((w.alloc (.cells #[.slice AT nt ct, .slice AC nc cc, .slice AL nl cl, .slice AD nd cd] 38)).alloc (.cells #[.slice AT' nt' ct', .slice AC' nc' cc', .slice AL' nl' cl', .slice AD' nd' cd'] 38)) := hW0 ▸ B0.out
    clear a0 a1 a2 a3 b0 b1 b2 b3 hW0
    go_enter Try.func25, Try.ntmps25
    go_wp2
    go_ret
    exact ⟨ret_bool HF.out.symm, B1⟩
end Go.Proofs.Ytdhkaediffiplaa
