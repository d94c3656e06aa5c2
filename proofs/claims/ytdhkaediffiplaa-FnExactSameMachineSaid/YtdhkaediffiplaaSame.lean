/-
  Whether two machines are equal, in the model: a contract.
-/
import Derived.Test.YtdhkaediffiplaaSameM
namespace Go.Proofs.Ytdhkaediffiplaa
open Go.RowKit

theorem Four.other {w : World} {g g' : Nat} {a b c d u0 u1 u2 u3 : Value} (h : Four w g' a b c d) (hne : g ≠ g') :
    Four ((((w.setCell ⟨g, 0, none⟩ u0).setCell ⟨g, 1, none⟩ u1).setCell ⟨g, 2, none⟩ u2).setCell ⟨g, 3, none⟩ u3) g' a b c d := by
  obtain ⟨h0, h1, h2, h3, f0, f1, f2, f3⟩ := h
  have e : ∀ (W : World) (i j : Nat) (u : Value), (W.setCell ⟨g, i, none⟩ u).cell? ⟨g', j, none⟩ = W.cell? ⟨g', j, none⟩ := fun W i j u => World.cell?_setCell_far W _ _ u hne
  have z : ∀ (W : World) (i j : Nat) (u : Value), (W.setCell ⟨g, i, none⟩ u).frozen? ⟨g', j, none⟩ = W.frozen? ⟨g', j, none⟩ := fun W i j u => by simp
  unfold Four
  simp only [e, z]
  exact ⟨h0, h1, h2, h3, f0, f1, f2, f3⟩

set_option maxRecDepth 100000 in
set_option maxHeartbeats 4000000 in
theorem specSame_any {AT AC AL AD AT' AC' AL' AD' : Option Addr} {nt ct nc cc nl cl nd cd nt' ct' nc' cc' nl' cl' nd' cd' : Nat} {m m' : Bt.Mc} (w : World) (H : ArgMc w AT nt ct AC nc cc AL nl cl AD nd cd m) (H' : ArgMc w AT' nt' ct' AC' nc' cc' AL' nl' cl' AD' nd' cd' m') (S : Small m) (S' : Small m') :
    Calls Try.prog 24 #[.agg #[.slice AT nt ct, .slice AC nc cc, .slice AL nl cl, .slice AD nd cd], .agg #[.slice AT' nt' ct', .slice AC' nc' cc', .slice AL' nl' cl', .slice AD' nd' cd']] w fun e w' => e = .returned (.bool (Bt.mcSame m m')) ∧ Below w.heap.size w w' := by
  have hT := Lib.hid H.nT
  have hT' := Lib.hid H'.nT
  have hle := H.ths.2.1
  have hle' := H'.ths.2.1
  have hnt : nt ≤ 1048576 := H.nT ▸ S.ths
  have HS := Lib.hid S; clear S
  have HS' := Lib.hid S'; clear S'
  obtain ⟨W0, hW0⟩ : ∃ W0 : World, W0 = (w.alloc (.cells #[.slice AT nt ct, .slice AC nc cc, .slice AL nl cl, .slice AD nd cd] 38)).alloc (.cells #[.slice AT' nt' ct', .slice AC' nc' cc', .slice AL' nl' cl', .slice AD' nd' cd'] 38) := ⟨_, rfl⟩
  have B0 := Lib.hid (show Below w.heap.size w W0 by rw [hW0]; exact ((Below.refl _ _).alloc (Nat.le_refl _) _).alloc (by simp) _)
  have HH := Lib.hid (H.keep B0.out); have HH' := Lib.hid (H'.keep B0.out); clear H H'
  have a0 : W0.cell? ⟨w.heap.size, 0, none⟩ = some (.slice AT nt ct) := by rw [hW0]; go_simp
  have a1 : W0.cell? ⟨w.heap.size, 1, none⟩ = some (.slice AC nc cc) := by rw [hW0]; go_simp
  have a2 : W0.cell? ⟨w.heap.size, 2, none⟩ = some (.slice AL nl cl) := by rw [hW0]; go_simp
  have a3 : W0.cell? ⟨w.heap.size, 3, none⟩ = some (.slice AD nd cd) := by rw [hW0]; go_simp
  have b0 : W0.cell? ⟨w.heap.size + 1, 0, none⟩ = some (.slice AT' nt' ct') := by rw [hW0]; go_simp
  have b1 : W0.cell? ⟨w.heap.size + 1, 1, none⟩ = some (.slice AC' nc' cc') := by rw [hW0]; go_simp
  have b2 : W0.cell? ⟨w.heap.size + 1, 2, none⟩ = some (.slice AL' nl' cl') := by rw [hW0]; go_simp
  have b3 : W0.cell? ⟨w.heap.size + 1, 3, none⟩ = some (.slice AD' nd' cd') := by rw [hW0]; go_simp
  have HW := Lib.hid hW0
  by_cases hl : nt = nt'
  · subst hl
    clear hW0
    go_enter Try.func24, Try.ntmps24
    go_wp2_with fail
    rw [← HW.out]
    refine (l2Same_any _ _ m.cells m'.cells _ HS.out.cells HS'.out.cells HH.out.cells HH'.out.cells).mono ?_
    cases hC : (m.cells == m'.cells)
    · have HF := Lib.hid (Bt.mcSame_cells hC)
      rintro e w1 ⟨rfl, hb1⟩
      go_wp2
      go_ret
      exact ⟨ret_bool HF.out.symm, B0.out.trans (hb1.mono B0.out.size)⟩
    · rintro e w1 ⟨rfl, hb1⟩
      have HB1 := Lib.hid hb1
      have a0x := keeps hb1 a0
      have a1x := keeps hb1 a1
      have a2x := keeps hb1 a2
      have a3x := keeps hb1 a3
      have b0x := keeps hb1 b0
      have b1x := keeps hb1 b1
      have b2x := keeps hb1 b2
      have b3x := keeps hb1 b3
      clear a0 a1 a2 a3 b0 b1 b2 b3
      go_wp2_with fail
      refine (l2Same_any _ _ m.locks m'.locks _ HS.out.locks HS'.out.locks (HH.out.keep HB1.out).locks (HH'.out.keep HB1.out).locks).mono ?_
      cases hL : (m.locks == m'.locks)
      · have HF := Lib.hid (Bt.mcSame_locks hL)
        rintro e w2 ⟨rfl, hb2⟩
        go_wp2
        go_ret
        exact ⟨ret_bool HF.out.symm, B0.out.trans ((HB1.out.trans (hb2.mono HB1.out.size)).mono B0.out.size)⟩
      · rintro e w2 ⟨rfl, hb2⟩
        have HB2 := Lib.hid (HB1.out.trans (hb2.mono HB1.out.size))
        have a0y := keeps hb2 a0x
        have a1y := keeps hb2 a1x
        have a2y := keeps hb2 a2x
        have a3y := keeps hb2 a3x
        have b0y := keeps hb2 b0x
        have b1y := keeps hb2 b1x
        have b2y := keeps hb2 b2x
        have b3y := keeps hb2 b3x
        clear a0x a1x a2x a3x b0x b1x b2x b3x
        go_wp2_with fail
        refine (l2Same_any _ _ m.told m'.told _ HS.out.told HS'.out.told (HH.out.keep HB2.out).told (HH'.out.keep HB2.out).told).mono ?_
        cases hD : (m.told == m'.told)
        · have HF := Lib.hid (Bt.mcSame_told hD)
          rintro e w3 ⟨rfl, hb3⟩
          go_wp2
          go_ret
          exact ⟨ret_bool HF.out.symm, B0.out.trans ((HB2.out.trans (hb3.mono HB2.out.size)).mono B0.out.size)⟩
        · rintro e w3 ⟨rfl, hb3⟩
          have HB3 := Lib.hid (HB2.out.trans (hb3.mono HB2.out.size))
          have a0z := keeps hb3 a0y
          have a1z := keeps hb3 a1y
          have a2z := keeps hb3 a2y
          have a3z := keeps hb3 a3y
          have b0z := keeps hb3 b0y
          have b1z := keeps hb3 b1y
          have b2z := keeps hb3 b2y
          have b3z := keeps hb3 b3y
          clear a0y a1y a2y a3y b0y b1y b2y b3y
          go_wp2
          go_loopw [5] (fun i wr => ∃ k : Nat, k ≤ nt ∧ i = .int .i64 k ∧ (∀ j (hj : j < m.ths.length) (hj' : j < m'.ths.length), j < k → Bt.thSame m.ths[j] m'.ths[j] = true) ∧ Below w3.heap.size w3 wr) (fun i _ => nt - (intOf i).toNat)
          case atStart => exact ⟨0, Nat.zero_le _, rfl, fun _ _ _ hj => absurd hj (by omega), Below.refl _ _⟩
          case round =>
            obtain ⟨k, hk, rfl, hall, hb⟩ := hrel
            have HA := Lib.hid hall; clear hall
            have HX := Lib.hid hb
            have HB := Lib.hid (HB3.out.trans (hb.mono HB3.out.size))
            have a0r := keeps hb a0z
            have a1r := keeps hb a1z
            have a2r := keeps hb a2z
            have a3r := keeps hb a3z
            have b0r := keeps hb b0z
            have b1r := keeps hb b1z
            have b2r := keeps hb b2z
            have b3r := keeps hb b3z
            clear a0z a1z a2z a3z b0z b1z b2z b3z
            clear hb
            by_cases hlt : k < nt
            · have hlt' : k < m.ths.length := by rw [hT.out]; exact hlt
              have hlt'' : k < m'.ths.length := by rw [hT'.out]; exact hlt
              obtain ⟨bt, ot, rfl, ht⟩ := (HH.out.keep HB.out).ths.2.2 k hlt'
              obtain ⟨bt', ot', rfl, ht'⟩ := (HH'.out.keep HB.out).ths.2.2 k hlt''
              obtain ⟨AR, cr, AS, cs, HT, f0, f1, f2, f3⟩ := ht.open
              obtain ⟨AR', cr', AS', cs', HT', f0', f1', f2', f3'⟩ := ht'.open
              have lr := HS.out.regs k hlt'
              have ls := HS.out.stack k hlt'
              have lr' := HS'.out.regs k hlt''
              have ls' := HS'.out.stack k hlt''
              clear ht ht'
              have G := HT
              have G' := HT'
              have HG := Lib.hid G; have HG' := Lib.hid G'; clear G G' HT HT'
              have HN : Hid (Bt.thSame m.ths[k] m'.ths[k] = false → Bt.mcSame m m' = false) := Lib.hid (Bt.mcSame_th hlt' hlt'')
              have HY : Hid (Bt.thSame m.ths[k] m'.ths[k] = true → ∀ j (hj : j < m.ths.length) (hj' : j < m'.ths.length), j < k + 1 → Bt.thSame m.ths[j] m'.ths[j] = true) := Lib.hid (fun e j hj hj' hjk => by
                by_cases hjk' : j < k
                · exact HA.out j hj hj' hjk'
                · obtain rfl : j = k := by omega
                  exact e)
              generalize m.ths[k] = t at *
              generalize m'.ths[k] = t' at *
              obtain ⟨pl, rg, sk, st⟩ := t
              obtain ⟨pl', rg', sk', st'⟩ := t'
              simp only at *
              have q0 := Cls.keeps f0
              have q1 := Cls.keeps f1
              have q2 := Cls.keeps f2
              have q3 := Cls.keeps f3
              have q0' := Cls.keeps f0'
              have q1' := Cls.keeps f1'
              have q2' := Cls.keeps f2'
              have q3' := Cls.keeps f3'
              have qa := Cls.keeps a0r
              have qb := Cls.keeps b0r
              have HRR : Hid (∀ x : Cls wr, Calls Try.prog 65 #[.slice AR rg.length cr, .slice AR' rg'.length cr'] x.val fun e w' => e = .returned (.bool (rg == rg')) ∧ Below x.val.heap.size x.val w') := Lib.hid (fun x => l2Same_any _ _ rg rg' _ lr lr' (HG.out.keep x.below).regs (HG'.out.keep x.below).regs)
              have HSS : Hid (∀ x : Cls wr, Calls Try.prog 65 #[.slice AS sk.length cs, .slice AS' sk'.length cs'] x.val fun e w' => e = .returned (.bool (sk == sk')) ∧ Below x.val.heap.size x.val w') := Lib.hid (fun x => l2Same_any _ _ sk sk' _ ls ls' (HG.out.keep x.below).stack (HG'.out.keep x.below).stack)
              have HE0 := Lib.hid (fun (e1 : pl = pl') (e2 : st = st') => Bt.thSame_eq (t := ⟨pl, rg, sk, st⟩) (t' := ⟨pl', rg', sk', st'⟩) e1 e2)
              have HE1 := Lib.hid (fun (e1 : pl ≠ pl') => Bt.thSame_pl (t := ⟨pl, rg, sk, st⟩) (t' := ⟨pl', rg', sk', st'⟩) e1)
              have HE2 := Lib.hid (fun (e1 : st ≠ st') => Bt.thSame_st (t := ⟨pl, rg, sk, st⟩) (t' := ⟨pl', rg', sk', st'⟩) e1)
              generalize Bt.thSame ⟨pl, rg, sk, st⟩ ⟨pl', rg', sk', st'⟩ = same at *
              generalize (rg == rg') = sR at *
              generalize (sk == sk') = sS at *
              generalize rg.length = nr at *
              generalize sk.length = ns at *
              generalize rg'.length = nr' at *
              generalize sk'.length = ns' at *
              clear f0 f1 f2 f3 f0' f1' f2' f3' lr ls lr' ls'
              go_wp2_with fail
              refine wp_region_ord_cls [Fact.is 46 (.pointer (some ⟨w.heap.size, 0, none⟩)),
                  Fact.is 47 (.slice (some ⟨bt, ot, none⟩) nt ct),
                  Fact.is 48 (.int .i64 (k : Int)),
                  Fact.is 49 (.pointer (some ⟨bt, ot + k * 4, none⟩)),
                  Fact.is 50 (.agg #[.int .i64 pl, .slice AR nr cr, .slice AS ns cs, .int .i64 st]),
                  Fact.is 51 (.pointer (some ⟨w.heap.size + 1, 0, none⟩)),
                  Fact.is 52 (.slice (some ⟨bt', ot', none⟩) nt ct'),
                  Fact.is 53 (.int .i64 (k : Int)),
                  Fact.is 54 (.pointer (some ⟨bt', ot' + k * 4, none⟩)),
                  Fact.is 55 (.agg #[.int .i64 pl', .slice AR' nr' cr', .slice AS' ns' cs', .int .i64 st']),
                  Fact.upto 6 12 (fun v w' => ∃ g, v = .pointer (some ⟨g, 0, none⟩) ∧ wr.heap.size ≤ g ∧ Four w' g (.int .i64 0) (.slice none 0 0) (.slice none 0 0) (.int .i64 0)),
                  Fact.upto 7 13 (fun v w' => ∃ g, v = .pointer (some ⟨g, 0, none⟩) ∧ wr.heap.size ≤ g ∧ Four w' g (.int .i64 0) (.slice none 0 0) (.slice none 0 0) (.int .i64 0)),
                  Fact.keep 6 (fun v w' => ∃ g, v = .pointer (some ⟨g, 0, none⟩) ∧ wr.heap.size ≤ g ∧ Four w' g (.int .i64 pl) (.slice AR nr cr) (.slice AS ns cs) (.int .i64 st)),
                  Fact.keep 7 (fun v w' => ∃ g, v = .pointer (some ⟨g, 0, none⟩) ∧ wr.heap.size ≤ g ∧ Four w' g (.int .i64 pl') (.slice AR' nr' cr') (.slice AS' ns' cs') (.int .i64 st'))]
                (by kernel_rfl) (by kernel_rfl) ?_ ?_ ?_
              · exact ⟨Fact.is_stable _ _, Fact.is_stable _ _, Fact.is_stable _ _, Fact.is_stable _ _, Fact.is_stable _ _, Fact.is_stable _ _, Fact.is_stable _ _, Fact.is_stable _ _, Fact.is_stable _ _, Fact.is_stable _ _, Fact.upto_stable (fun v w w' hb ⟨g, e, l, h⟩ => ⟨g, e, l, h.keep hb⟩), Fact.upto_stable (fun v w w' hb ⟨g, e, l, h⟩ => ⟨g, e, l, h.keep hb⟩), Fact.keep_stable (fun v w w' hb ⟨g, e, l, h⟩ => ⟨g, e, l, h.keep hb⟩), Fact.keep_stable (fun v w w' hb ⟨g, e, l, h⟩ => ⟨g, e, l, h.keep hb⟩), trivial⟩
              · refine ⟨?_, ?_, ?_, ?_, ?_, ?_, ?_, ?_, ?_, ?_, ?_, ?_, ?_, ?_, trivial⟩
                · intro A' x hoff hdep _hdif
                  have a2 : A'.eval (.tmp 2) = .pointer (some ⟨w.heap.size, 0, none⟩) := off_of hoff 2 (by kernel_rfl)
                  exact good_is rfl rfl (by generalize A'.eval = ev at *; simp [go_sem, a2])
                · intro A' x hoff hdep _hdif
                  have a46 := is_of (ask_of hdep (j := 0) (by kernel_rfl)) rfl
                  exact good_is rfl rfl (by generalize A'.eval = ev at *; simp [go_sem, a46, qa])
                · intro A' x hoff hdep _hdif
                  have a5 : A'.eval (.tmp 5) = .int .i64 (k : Int) := off_of hoff 5 (by kernel_rfl)
                  exact good_is rfl rfl (by generalize A'.eval = ev at *; simp [go_sem, a5])
                · intro A' x hoff hdep _hdif
                  have a47 := is_of (ask_of hdep (j := 1) (by kernel_rfl)) rfl
                  have a48 := is_of (ask_of hdep (j := 2) (by kernel_rfl)) rfl
                  exact good_is rfl rfl (by generalize A'.eval = ev at *; simp [go_sem, a47, a48, hlt])
                · intro A' x hoff hdep _hdif
                  have a49 := is_of (ask_of hdep (j := 3) (by kernel_rfl)) rfl
                  exact good_is rfl rfl (by generalize A'.eval = ev at *; simp [go_sem, a49, q0, q1, q2, q3])
                · intro A' x hoff hdep _hdif
                  have a3 : A'.eval (.tmp 3) = .pointer (some ⟨w.heap.size + 1, 0, none⟩) := off_of hoff 3 (by kernel_rfl)
                  exact good_is rfl rfl (by generalize A'.eval = ev at *; simp [go_sem, a3])
                · intro A' x hoff hdep _hdif
                  have a51 := is_of (ask_of hdep (j := 5) (by kernel_rfl)) rfl
                  exact good_is rfl rfl (by generalize A'.eval = ev at *; simp [go_sem, a51, qb])
                · intro A' x hoff hdep _hdif
                  have a5 : A'.eval (.tmp 5) = .int .i64 (k : Int) := off_of hoff 5 (by kernel_rfl)
                  exact good_is rfl rfl (by generalize A'.eval = ev at *; simp [go_sem, a5])
                · intro A' x hoff hdep _hdif
                  have a52 := is_of (ask_of hdep (j := 6) (by kernel_rfl)) rfl
                  have a53 := is_of (ask_of hdep (j := 7) (by kernel_rfl)) rfl
                  exact good_is rfl rfl (by generalize A'.eval = ev at *; simp [go_sem, a52, a53, hlt])
                · intro A' x hoff hdep _hdif
                  have a54 := is_of (ask_of hdep (j := 8) (by kernel_rfl)) rfl
                  exact good_is rfl rfl (by generalize A'.eval = ev at *; simp [go_sem, a54, q0', q1', q2', q3'])
                · intro A' x hoff hdep _hdif
                  refine good_run (v := .pointer (some ⟨x.val.heap.size, 0, none⟩)) (w' := x.val.alloc (.cells #[.int .i64 0, .slice none 0 0, .slice none 0 0, .int .i64 0] 71)) (by generalize A'.eval = ev at *; simp [go_sem]) (leaves_alloc (upto_to rfl rfl ⟨x.val.heap.size, rfl, x.below.size, ?_⟩))
                  clear hoff hdep
                  unfold Four
                  go_simp
                · intro A' x hoff hdep _hdif
                  refine good_run (v := .pointer (some ⟨x.val.heap.size, 0, none⟩)) (w' := x.val.alloc (.cells #[.int .i64 0, .slice none 0 0, .slice none 0 0, .int .i64 0] 71)) (by generalize A'.eval = ev at *; simp [go_sem]) (leaves_alloc (upto_to rfl rfl ⟨x.val.heap.size, rfl, x.below.size, ?_⟩))
                  clear hoff hdep
                  unfold Four
                  go_simp
                · intro A' x hoff hdep _hdif
                  obtain ⟨g, a6, l6, k0, k1, k2, k3, f0, f1, f2, f3⟩ := upto_of (ask_of hdep (j := 10) (by kernel_rfl)) rfl
                  have a50 := is_of (ask_of hdep (j := 4) (by kernel_rfl)) rfl
                  have HDF := Lib.hid (_hdif 10 11 6 7 rfl rfl (by decide) (List.contains_iff_mem.1 (by kernel_rfl)) (List.contains_iff_mem.1 (by kernel_rfl)))
                  have HA6 := Lib.hid a6
                  refine good_skip (w' := (((x.val.setCell ⟨g, 0, none⟩ (.int .i64 pl)).setCell ⟨g, 1, none⟩ (.slice AR nr cr)).setCell ⟨g, 2, none⟩ (.slice AS ns cs)).setCell ⟨g, 3, none⟩ (.int .i64 st)) (by generalize A'.eval = ev at *; simp [go_sem, a6, a50, k0, k1, k2, k3, f0, f1, f2, f3]) ⟨⟨by simp, fun h => absurd h (by decide)⟩, ⟨⟨_, ((((x.below.setCell l6 _).setCell l6 _).setCell l6 _).setCell l6 _)⟩, rfl⟩, .inr ?_, keep_to rfl (by simp) a6 ⟨g, rfl, l6, ?_⟩⟩
                  · intro j hj hk hf
                    match j, hj, hk, hf with
                    | 0, _, _, hf => exact hf
                    | 1, _, _, hf => exact hf
                    | 2, _, _, hf => exact hf
                    | 3, _, _, hf => exact hf
                    | 4, _, _, hf => exact hf
                    | 5, _, _, hf => exact hf
                    | 6, _, _, hf => exact hf
                    | 7, _, _, hf => exact hf
                    | 8, _, _, hf => exact hf
                    | 9, _, _, hf => exact hf
                    | 10, _, hk, _ => exact absurd rfl (hk 12 rfl).1
                    | 11, _, hk, hf =>
                      obtain ⟨v, e, g', e', l', h'⟩ := hf
                      refine ⟨v, e, g', e', l', Four.other h' (fun ee => ?_)⟩
                      have e : [slotAt A' 7] = [v] := e
                      injection e with e
                      exact HDF.out (by rw [e, e', ← ee]; exact HA6.out)
                    | 12, hj, _, _ => exact absurd rfl hj
                    | 13, _, hk, hf =>
                      obtain ⟨v, e, g', e', l', h'⟩ := hf
                      refine ⟨v, e, g', e', l', Four.other h' (fun ee => ?_)⟩
                      have e : [slotAt A' 7] = [v] := e
                      injection e with e
                      exact HDF.out (by rw [e, e', ← ee]; exact HA6.out)
                    | _ + 14, _, _, _ => trivial
                  · clear hoff hdep _hdif
                    unfold Four
                    go_simp
                · intro A' x hoff hdep _hdif
                  obtain ⟨g, a7, l7, k0, k1, k2, k3, f0, f1, f2, f3⟩ := upto_of (ask_of hdep (j := 11) (by kernel_rfl)) rfl
                  have a55 := is_of (ask_of hdep (j := 9) (by kernel_rfl)) rfl
                  have HDF := Lib.hid (_hdif 11 10 7 6 rfl rfl (by decide) (List.contains_iff_mem.1 (by kernel_rfl)) (List.contains_iff_mem.1 (by kernel_rfl)))
                  have HA7 := Lib.hid a7
                  refine good_skip (w' := (((x.val.setCell ⟨g, 0, none⟩ (.int .i64 pl')).setCell ⟨g, 1, none⟩ (.slice AR' nr' cr')).setCell ⟨g, 2, none⟩ (.slice AS' ns' cs')).setCell ⟨g, 3, none⟩ (.int .i64 st')) (by generalize A'.eval = ev at *; simp [go_sem, a7, a55, k0, k1, k2, k3, f0, f1, f2, f3]) ⟨⟨by simp, fun h => absurd h (by decide)⟩, ⟨⟨_, ((((x.below.setCell l7 _).setCell l7 _).setCell l7 _).setCell l7 _)⟩, rfl⟩, .inr ?_, keep_to rfl (by simp) a7 ⟨g, rfl, l7, ?_⟩⟩
                  · intro j hj hk hf
                    match j, hj, hk, hf with
                    | 0, _, _, hf => exact hf
                    | 1, _, _, hf => exact hf
                    | 2, _, _, hf => exact hf
                    | 3, _, _, hf => exact hf
                    | 4, _, _, hf => exact hf
                    | 5, _, _, hf => exact hf
                    | 6, _, _, hf => exact hf
                    | 7, _, _, hf => exact hf
                    | 8, _, _, hf => exact hf
                    | 9, _, _, hf => exact hf
                    | 10, _, hk, hf =>
                      obtain ⟨v, e, g', e', l', h'⟩ := hf
                      refine ⟨v, e, g', e', l', Four.other h' (fun ee => ?_)⟩
                      have e : [slotAt A' 6] = [v] := e
                      injection e with e
                      exact HDF.out (by rw [e, e', ← ee]; exact HA7.out)
                    | 11, _, hk, _ => exact absurd rfl (hk 13 rfl).1
                    | 12, _, hk, hf =>
                      obtain ⟨v, e, g', e', l', h'⟩ := hf
                      refine ⟨v, e, g', e', l', Four.other h' (fun ee => ?_)⟩
                      have e : [slotAt A' 6] = [v] := e
                      injection e with e
                      exact HDF.out (by rw [e, e', ← ee]; exact HA7.out)
                    | 13, hj, _, _ => exact absurd rfl hj
                    | _ + 14, _, _, _ => trivial
                  · clear hoff hdep _hdif
                    unfold Four
                    go_simp
              · intro s w4 hb4 hf hdf
                obtain ⟨ga, e6, la, fa0, fa1, fa2, fa3, _, _, _, _⟩ := keep_of (hf 12 (by decide) rfl) rfl
                obtain ⟨gb, e7, lb, fb0, fb1, fb2, fb3, _, _, _, _⟩ := keep_of (hf 13 (by decide) rfl) rfl
                clear hf hdf
                simp only [putAll, Act.put, List.setIfInBounds_toArray, List.set_cons_succ, List.set_cons_zero, e6, e7]
                have HB4 := Lib.hid (HB.out.trans (hb4.mono HB.out.size))
                have HX4 := Lib.hid (HX.out.trans (hb4.mono HX.out.size))
                have HC4 := Lib.hid hb4
                clear hb4 q0 q1 q2 q3 q0' q1' q2' q3' qa qb
                by_cases hp : pl = pl'
                · subst hp
                  by_cases hst : st = st'
                  · subst hst
                    have HEq := Lib.hid (HE0.out (by trivial) (by trivial))
                    cases sR
                    · go_wp2_with fail
                      refine (HRR.out ⟨w4, HC4.out⟩).mono ?_
                      rintro e w5 ⟨rfl, hb5⟩
                      go_wp2
                      go_ret
                      exact ⟨ret_bool (HN.out HEq.out).symm, B0.out.trans ((HB4.out.trans (hb5.mono HB4.out.size)).mono B0.out.size)⟩
                    · go_wp2_with fail
                      refine (HRR.out ⟨w4, HC4.out⟩).mono ?_
                      rintro e w5 ⟨rfl, hb5⟩
                      have HC5 := Lib.hid (HC4.out.trans (hb5.mono HC4.out.size))
                      have HB5 := Lib.hid (HB4.out.trans (hb5.mono HB4.out.size))
                      have HX5 := Lib.hid (HX4.out.trans (hb5.mono HX4.out.size))
                      have ga2 := keeps hb5 fa2
                      have gb2 := keeps hb5 fb2
                      clear fa0 fa1 fa2 fa3 fb0 fb1 fb2 fb3
                      go_wp2_with fail
                      refine (HSS.out ⟨w5, HC5.out⟩).mono ?_
                      cases sS
                      · rintro e w6 ⟨rfl, hb6⟩
                        go_wp2
                        go_ret
                        exact ⟨ret_bool (HN.out HEq.out).symm, B0.out.trans ((HB5.out.trans (hb6.mono HB5.out.size)).mono B0.out.size)⟩
                      · rintro e w6 ⟨rfl, hb6⟩
                        go_wp2
                        go_roundw
                        case rel => exact ⟨k + 1, by omega, by go_num, HY.out HEq.out, HX5.out.trans (hb6.mono HX5.out.size)⟩
                        case measure => simp [intOf]; omega
                  · have hq : (st != st') = true := by rw [bne_iff_ne]; exact hst
                    have HEq := Lib.hid (HE2.out hst)
                    clear hst
                    go_wp2
                    go_ret
                    exact ⟨ret_bool (HN.out HEq.out).symm, B0.out.trans (HB4.out.mono B0.out.size)⟩
                · have hq : (pl != pl') = true := by rw [bne_iff_ne]; exact hp
                  have HEq := Lib.hid (HE1.out hp)
                  clear hp
                  go_wp2
                  go_ret
                  exact ⟨ret_bool (HN.out HEq.out).symm, B0.out.trans (HB4.out.mono B0.out.size)⟩
            · obtain rfl : k = nt := by omega
              have HE : Hid (Bt.mcSame m m' = true) := Lib.hid (by
                rw [Bt.mcSame_eq (by rw [hT.out, hT'.out]) (fun j hj hj' => HA.out j hj hj' (by have := hT.out; omega)), hC, hL, hD]; rfl)
              go_wp2
              go_ret
              exact ⟨ret_bool HE.out.symm, B0.out.trans (HB.out.mono B0.out.size)⟩
  · have HF := Lib.hid (Bt.mcSame_len (m := m) (m' := m') (by rw [hT.out, hT'.out]; exact hl))
    have hne : ((nt : Int) != (nt' : Int)) = true := by rw [bne_iff_ne]; omega
    have B1 : Below w.heap.size w ((w.alloc (.cells #[.slice AT nt ct, .slice AC nc cc, .slice AL nl cl, .slice AD nd cd] 38)).alloc (.cells #[.slice AT' nt' ct', .slice AC' nc' cc', .slice AL' nl' cl', .slice AD' nd' cd'] 38)) := hW0 ▸ B0.out
    clear a0 a1 a2 a3 b0 b1 b2 b3 hW0
    go_enter Try.func24, Try.ntmps24
    go_wp2
    go_ret
    exact ⟨ret_bool HF.out.symm, B1⟩
end Go.Proofs.Ytdhkaediffiplaa
