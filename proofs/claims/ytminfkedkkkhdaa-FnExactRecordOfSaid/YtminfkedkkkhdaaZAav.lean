/-
  Part of a proof: StepH. No condition.
-/
import Derived.Test.YtminfkedkkkhdaaZAau
namespace Go.Proofs.Ytminfkedkkkhdaa
open Go.RowKit
theorem keep_self {F : List Fact} {i d : Nat} {v : Value} {R : Value → World → Prop} {A : Act} {o : Oper} {w : World} (e : F.getD i Fact.none' = Fact.keep d R) (h : o.dst = some d) (hr : R v w) : factAt F i (put1 A o v) w := by
 unfold factAt
 rw [e]
 refine ⟨v, ?_, hr⟩
 simp only [Fact.keep, List.map_cons, List.map_nil]
 rw [put1_self h]
theorem ArgInts.pre {w : World} {A : Option Addr} {n c : Nat} {xs : List Int} (h : ArgInts w (.slice A n c) xs) (hn : xs.length = n) {l : Nat} (hl : l ≤ n) : ArgInts w (.slice A l c) (xs.take l) := by
 obtain ⟨hc, hat⟩ := h.at_ hn
 have e : (xs.take l).length = l := by rw [List.length_take]; omega
 refine ⟨A, c, by rw [e], by rw [e]; omega, fun hne => ?_⟩
 have h0 : 0 < xs.length := by
  rcases Nat.eq_zero_or_pos xs.length with h0 | h0
  ·have : xs = [] := List.eq_nil_of_length_eq_zero h0
   subst this; simp at hne
  ·exact h0
 obtain ⟨b, o, hA, _⟩ := hat 0 h0
 refine ⟨b, o, hA, fun i hi => ?_⟩
 have hi' : i < xs.length := by omega
 obtain ⟨b', o', hA', hcell⟩ := hat i hi'
 rw [hA] at hA'
 injection hA' with e1
 injection e1 with e2 e3 _
 rw [e2, e3, hcell]
 simp
set_option maxRecDepth 100000 in
set_option maxHeartbeats 2000000 in
theorem stackBehind_any {AR AS : Option Addr} {nr cr ns cs : Nat} {t : Bt.Th} {w : World} (op a b c : Int) (H : ArgTh w AR nr cr AS ns cs t) (hp0 : 0 ≤ t.pl) (hp1 : t.pl ≤ 1048576) (hs : ns ≤ 1048576) (h12 : op = 12 → 0 < t.stack.length) :
  Calls Try.prog 139 #[.agg #[.int .i64 t.pl, .slice AR nr cr, .slice AS ns cs, .int .i64 t.st], .agg #[.int .i64 op, .int .i64 a, .int .i64 b, .int .i64 c]] w (NumsMade (Bt.stackI t ⟨op, a, b, c⟩) w) := by
 unfold NumsMade
 obtain ⟨W0, hW0⟩ : ∃ W0 : World, W0 = ((w).alloc (.cells #[.int .i64 t.pl, .slice AR nr cr, .slice AS ns cs, .int .i64 t.st] 123)).alloc (.cells #[.int .i64 op, .int .i64 a, .int .i64 b, .int .i64 c] 96) := ⟨_, rfl⟩
 have B0 := Lib.hid (show Below w.heap.size w W0 by rw [hW0]; exact ((Below.refl _ _).alloc (Nat.le_refl _) _).alloc (by simp) _)
 have HS := Lib.hid (H.keep B0.out).stack
 have nS := H.nS
 clear H
 have p00 : W0.cell? ⟨w.heap.size, 0, none⟩ = some (.int .i64 t.pl) := by rw [hW0]; go_simp
 have p01 : W0.cell? ⟨w.heap.size, 1, none⟩ = some (.slice AR nr cr) := by rw [hW0]; go_simp
 have p02 : W0.cell? ⟨w.heap.size, 2, none⟩ = some (.slice AS ns cs) := by rw [hW0]; go_simp
 have p03 : W0.cell? ⟨w.heap.size, 3, none⟩ = some (.int .i64 t.st) := by rw [hW0]; go_simp
 have p10 : W0.cell? ⟨w.heap.size + 1, 0, none⟩ = some (.int .i64 op) := by rw [hW0]; go_simp
 have p11 : W0.cell? ⟨w.heap.size + 1, 1, none⟩ = some (.int .i64 a) := by rw [hW0]; go_simp
 have p12 : W0.cell? ⟨w.heap.size + 1, 2, none⟩ = some (.int .i64 b) := by rw [hW0]; go_simp
 have p13 : W0.cell? ⟨w.heap.size + 1, 3, none⟩ = some (.int .i64 c) := by rw [hW0]; go_simp
 have HW := Lib.hid hW0
 by_cases o11 : op = 11
 ·subst o11
  have HE : Hid (Bt.stackI t ⟨11, a, b, c⟩ = t.stack ++ [t.pl + 1]) := Lib.hid (by simp [Bt.stackI])
  have e1 : IntKind.i64.wrap (t.pl + 1) = t.pl + 1 := IntWalk.i64_in _ (by omega)
  have q00 := Cls.keeps p00
  have q02 := Cls.keeps p02
  go_enter Try.func139, Try.ntmps139
  go_wp2_with fail
  rw [← HW.out]
  refine wp_region_ord_cls [Fact.is 9 (.pointer (some ⟨w.heap.size, 2, none⟩)),
    Fact.is 10 (.slice AS ns cs),
    Fact.upto 11 7 (fun v w' => ∃ A c, v = .slice A ns c ∧ IntRow w' W0.heap.size (.slice A ns c) t.stack),
    Fact.is 12 (.pointer (some ⟨w.heap.size, 0, none⟩)),
    Fact.is 13 (.int .i64 t.pl),
    Fact.is 14 (.int .i64 (t.pl + 1)),
    Fact.upto 15 7 (fun v w' => ∃ g, v = .slice (some ⟨g, 0, none⟩) 1 1 ∧ w'.cell? ⟨g, 0, none⟩ = some (.int .i64 (t.pl + 1))),
    Fact.keep 16 (fun v w' => IntRow w' W0.heap.size v (t.stack ++ [t.pl + 1])),
    ⟨[4, 16], none, fun vs _ => ∃ v, vs = [v, v]⟩]
   (by kernel_rfl) (by kernel_rfl) ?_ ?_ ?_
  ·exact ⟨Fact.is_stable _ _, Fact.is_stable _ _, Fact.upto_stable (fun v w w' hb ⟨A, c, e, h⟩ => ⟨A, c, e, h.keep hb⟩), Fact.is_stable _ _, Fact.is_stable _ _, Fact.is_stable _ _, Fact.upto_stable (fun v w w' hb ⟨g, e, h⟩ => ⟨g, e, keeps hb h⟩), Fact.keep_stable (fun v w w' hb h => h.keep hb), (fun _ _ _ _ h => h), trivial⟩
  ·refine ⟨?_, ?_, ?_, ?_, ?_, ?_, ?_, ?_, ?_, trivial⟩
   ·intro A' x hoff hdep _hdif
    have a2 : A'.eval (.tmp 2) = .pointer (some ⟨w.heap.size, 0, none⟩) := off_of hoff 2 (by kernel_rfl)
    exact good_is rfl rfl (by generalize A'.eval = ev at *; simp [go_sem, a2])
   ·intro A' x hoff hdep _hdif
    have a9 := is_of (ask_of hdep (j := 0) (by kernel_rfl)) rfl
    exact good_is rfl rfl (by generalize A'.eval = ev at *; simp [go_sem, a9, q02])
   ·intro A' x hoff hdep _hdif
    have ef : ∀ f, A'.eval (.func f) = .func (.func f) #[] #[] := fun _ => rfl
    have a10 := is_of (ask_of hdep (j := 1) (by kernel_rfl)) rfl
    exact good_call_upto rfl rfl (by generalize A'.eval = ev at *; simp [go_sem, ef, a10]) ((copyNums_n nS hs (HS.out.keep x.below)).mono fun e w3 ⟨h1, h2, h3⟩ => ⟨_, h1, h2, _, _, rfl, h3.mono x.below.size⟩)
   ·intro A' x hoff hdep _hdif
    have a2 : A'.eval (.tmp 2) = .pointer (some ⟨w.heap.size, 0, none⟩) := off_of hoff 2 (by kernel_rfl)
    exact good_is rfl rfl (by generalize A'.eval = ev at *; simp [go_sem, a2])
   ·intro A' x hoff hdep _hdif
    have a12 := is_of (ask_of hdep (j := 3) (by kernel_rfl)) rfl
    exact good_is rfl rfl (by generalize A'.eval = ev at *; simp [go_sem, a12, q00])
   ·intro A' x hoff hdep _hdif
    have ec : ∀ v, A'.eval (.const v) = v := fun _ => rfl
    have a13 := is_of (ask_of hdep (j := 4) (by kernel_rfl)) rfl
    exact good_is rfl rfl (by generalize A'.eval = ev at *; simp [go_sem, a13, ec, e1])
   ·intro A' x hoff hdep _hdif
    have a14 := is_of (ask_of hdep (j := 5) (by kernel_rfl)) rfl
    exact good_run (v := .slice (some ⟨x.val.heap.size, 0, none⟩) 1 1) (w' := x.val.alloc (.cells #[.int .i64 (t.pl + 1)] 3)) (by generalize A'.eval = ev at *; simp [go_sem, a14]) (leaves_below ((Below.refl _ _).alloc (Nat.le_refl _) _) (upto_to rfl rfl ⟨_, rfl, by simp⟩))
   ·intro A' x hoff hdep _hdif
    obtain ⟨A1, c1, a11, p1⟩ := upto_of (ask_of hdep (j := 2) (by kernel_rfl)) rfl
    obtain ⟨g, a15, p2⟩ := upto_of (ask_of hdep (j := 6) (by kernel_rfl)) rfl
    refine surely_app_int (.tmp 11) (.tmp 15) rfl W0.heap.size _ t.stack a11 p1 _ 1 (t.pl + 1) a15 p2 (by omega) x.below.size (fun v' w' hr hg => ⟨⟨hg.size, fun h => absurd h (by decide)⟩, ⟨⟨w', x.below.trans (grown_below_of hg (fun j e => (p1.bd j e).1) x.below.size)⟩, rfl⟩, .inr (fun j hj hk hf => ?_), ?_⟩)
    ·match j, hj, hk, hf with
     | 0, _, _, hf => exact hf
     | 1, _, _, hf => exact hf
     | 2, _, hk, _ => exact absurd rfl (hk 7 rfl).1
     | 3, _, _, hf => exact hf
     | 4, _, _, hf => exact hf
     | 5, _, _, hf => exact hf
     | 6, _, hk, _ => exact absurd rfl (hk 7 rfl).1
     | 7, hj, _, _ => exact absurd rfl hj
     | 8, _, _, hf => exact hf
     | _ + 9, _, _, _ => trivial
    ·exact keep_self rfl rfl hr
   ·intro A' x hoff hdep _hdif
    exact good_run (v := A'.eval (.tmp 16)) (w' := x.val) (by generalize A'.eval = ev at *; simp [go_sem]) (leaves_below (Below.refl _ _) ⟨A'.eval (.tmp 16), by simp [put1, eval_slot]⟩)
  ·intro s w4 hb4 hf _hdf
   have hr4 := keep_of (hf 7 (by decide) rfl) rfl
   obtain ⟨va, hva⟩ := hf 8 (by decide) rfl
   have hva : [s 4, s 16] = [va, va] := hva
   injection hva with ev1 ev2
   injection ev2 with ev2
   clear hf
   have e4 : s 4 = s 16 := by rw [ev1, ev2]
   clear ev1 ev2
   simp only [putAll, Act.put, List.setIfInBounds_toArray, List.set_cons_succ, List.set_cons_zero, e4]
   have z0 := B0.out.size
   clear q00 q02
   go_wp2
   go_ret
   exact ⟨_, rfl, HE.out ▸ hr4.mono z0, B0.out.trans (hb4.mono z0)⟩
 ·have d11 : (op == 11) = false := by rw [beq_eq_false_iff_ne]; exact o11
  by_cases o12 : op = 12
  ·subst o12
   have hl := h12 rfl
   obtain ⟨l, hl'⟩ : ∃ l, ns = l + 1 := ⟨ns - 1, by omega⟩
   have HE : Hid (Bt.stackI t ⟨12, a, b, c⟩ = t.stack.take l) := Lib.hid (by
    have : t.stack.length - 1 = l := by omega
    simp [Bt.stackI, this])
   have HP := Lib.hid (HS.out.pre nS (l := l) (by omega))
   subst hl'
   have hi : ((l + 1 : Nat) : Int) - 1 = (l : Int) := by omega
   have hw : IntKind.i64.wrap (l : Int) = (l : Int) := by rw [IntKind.wrap_i64]; omega
   have hcap : l ≤ cs := by have := (HS.out.at_ nS).1; omega
   have hlen : (t.stack.take l).length ≤ 1048576 := by rw [List.length_take]; omega
   subst hW0
   clear hl h12 nS
   go_enter Try.func139, Try.ntmps139
   go_wp2_with fail
   refine (copyNums_nm hlen HP.out).mono ?_
   rintro e w1 ⟨v, rfl, hr1, hb1⟩
   go_wp2
   go_ret
   exact ⟨v, rfl, HE.out ▸ hr1.mono (by simp; omega), B0.out.trans (hb1.mono (by simp; omega))⟩
  ·have d12 : (op == 12) = false := by rw [beq_eq_false_iff_ne]; exact o12
   have HE : Hid (Bt.stackI t ⟨op, a, b, c⟩ = t.stack) := Lib.hid (by simp [Bt.stackI, o11, o12])
   subst hW0
   clear o11 o12 h12
   go_enter Try.func139, Try.ntmps139
   go_wp2_with fail
   refine (copyNums_nm (by omega) HS.out).mono ?_
   rintro e w1 ⟨v, rfl, hr1, hb1⟩
   go_wp2
   go_ret
   exact ⟨v, rfl, HE.out ▸ hr1.mono (by simp; omega), B0.out.trans (hb1.mono (by simp; omega))⟩
set_option maxRecDepth 100000 in
set_option maxHeartbeats 2000000 in
theorem toldBehind_any {AT AC AL AD : Option Addr} {nt ct nc cc nl cl nd cd k : Nat} {m : Bt.Mc} {w : World} (op a b c : Int) (H : ArgMc w AT nt ct AC nc cc AL nl cl AD nd cd m) (S : Small m) (hk : k < m.ths.length) (hc : Bt.codeOk op a b c = true) (hr : Bt.regsOk m.ths[k].regs = true) :
  Calls Try.prog 131 #[.agg #[.slice AT nt ct, .slice AC nc cc, .slice AL nl cl, .slice AD nd cd], .int .i64 (k : Int), .agg #[.int .i64 op, .int .i64 a, .int .i64 b, .int .i64 c]] w (NumsMade (Bt.toldI m m.ths[k] ⟨op, a, b, c⟩) w) := by
 unfold NumsMade
 obtain ⟨W0, hW0⟩ : ∃ W0 : World, W0 = ((w).alloc (.cells #[.slice AT nt ct, .slice AC nc cc, .slice AL nl cl, .slice AD nd cd] 31)).alloc (.cells #[.int .i64 op, .int .i64 a, .int .i64 b, .int .i64 c] 96) := ⟨_, rfl⟩
 have B0 := Lib.hid (show Below w.heap.size w W0 by rw [hW0]; exact ((Below.refl _ _).alloc (Nat.le_refl _) _).alloc (by simp) _)
 have HH := Lib.hid (H.keep B0.out)
 have hle := H.ths.2.1
 have hkn : k < nt := by rw [← H.nT]; exact hk
 have hC := Lib.hid H.nC; have hD := Lib.hid H.nD
 have HS := Lib.hid S
 clear H S
 have p00 : W0.cell? ⟨w.heap.size, 0, none⟩ = some (.slice AT nt ct) := by rw [hW0]; go_simp
 have p01 : W0.cell? ⟨w.heap.size, 1, none⟩ = some (.slice AC nc cc) := by rw [hW0]; go_simp
 have p02 : W0.cell? ⟨w.heap.size, 2, none⟩ = some (.slice AL nl cl) := by rw [hW0]; go_simp
 have p03 : W0.cell? ⟨w.heap.size, 3, none⟩ = some (.slice AD nd cd) := by rw [hW0]; go_simp
 have p10 : W0.cell? ⟨w.heap.size + 1, 0, none⟩ = some (.int .i64 op) := by rw [hW0]; go_simp
 have p11 : W0.cell? ⟨w.heap.size + 1, 1, none⟩ = some (.int .i64 a) := by rw [hW0]; go_simp
 have p12 : W0.cell? ⟨w.heap.size + 1, 2, none⟩ = some (.int .i64 b) := by rw [hW0]; go_simp
 have p13 : W0.cell? ⟨w.heap.size + 1, 3, none⟩ = some (.int .i64 c) := by rw [hW0]; go_simp
 obtain ⟨bt, ot, rfl, ht⟩ := HH.out.ths.2.2 k hk
 obtain ⟨AR, cr, AS, cs, HT, f0, f1, f2, f3⟩ := ht.open
 have HR := Lib.hid HT.regs
 have hl4 := Bt.regsOk_len hr
 rw [hl4] at f1 HR
 obtain ⟨a0, a1⟩ := Bt.codeOk_A hc
 obtain ⟨qa, rfl⟩ : ∃ q : Nat, a = q := ⟨a.toNat, by omega⟩
 have ha : qa < m.ths[k].regs.length := by omega
 have hqa : qa < 4 := by omega
 have hqi : (qa : Int) < 4 := by omega
 have hqn : ¬ (4 : Int) ≤ (qa : Int) := by omega
 obtain ⟨rcap, rat⟩ := HR.out.at_ hl4
 obtain ⟨br, orr, rfl, fa⟩ := rat qa ha
 have EA : m.ths[k].regs.getD qa 0 = m.ths[k].regs[qa] := by simp [ha]
 have HRK := Lib.hid hr
 have HL4 := Lib.hid hl4
 have HD := Lib.hid HH.out.told
 have HW := Lib.hid hW0
 by_cases o14 : op = 14
 ·subst o14
  have HE : Hid (Bt.toldI m m.ths[k] ⟨14, (qa : Int), b, c⟩ = m.told ++ [m.ths[k].regs[qa]]) := Lib.hid (by simp only [Bt.toldI, Int.toNat_natCast, EA]; rfl)
  generalize m.ths[k].regs[qa] = za at *
  have hnd : m.told.length ≤ 1048576 := HS.out.told
  have q00 := Cls.keeps p00
  have q03 := Cls.keeps p03
  have q11 := Cls.keeps p11
  have qf1 := Cls.keeps f1
  have qfa := Cls.keeps fa
  clear EA rat ht HT ha a0 a1
  go_enter Try.func131, Try.ntmps131
  go_wp2_with fail
  rw [← HW.out]
  refine wp_region_ord_cls [Fact.is 13 (.pointer (some ⟨w.heap.size, 3, none⟩)),
    Fact.is 14 (.slice AD nd cd),
    Fact.upto 15 14 (fun v w' => ∃ A c, v = .slice A nd c ∧ IntRow w' W0.heap.size (.slice A nd c) m.told),
    Fact.is 16 (.pointer (some ⟨w.heap.size, 0, none⟩)),
    Fact.is 17 (.slice (some ⟨bt, ot, none⟩) nt ct),
    Fact.is 18 (.int .i64 (k : Int)),
    Fact.is 19 (.pointer (some ⟨bt, ot + k * 4, none⟩)),
    Fact.is 20 (.pointer (some ⟨bt, ot + k * 4 + 1, none⟩)),
    Fact.is 21 (.slice (some ⟨br, orr, none⟩) 4 cr),
    Fact.is 22 (.pointer (some ⟨w.heap.size + 1, 1, none⟩)),
    Fact.is 23 (.int .i64 (qa : Int)),
    Fact.is 24 (.pointer (some ⟨br, orr + qa, none⟩)),
    Fact.is 25 (.int .i64 za),
    Fact.upto 26 14 (fun v w' => ∃ g, v = .slice (some ⟨g, 0, none⟩) 1 1 ∧ w'.cell? ⟨g, 0, none⟩ = some (.int .i64 za)),
    Fact.keep 27 (fun v w' => IntRow w' W0.heap.size v (m.told ++ [za])),
    ⟨[6, 27], none, fun vs _ => ∃ v, vs = [v, v]⟩]
   (by kernel_rfl) (by kernel_rfl) ?_ ?_ ?_
  ·exact ⟨Fact.is_stable _ _, Fact.is_stable _ _, Fact.upto_stable (fun v w w' hb ⟨A, c, e, h⟩ => ⟨A, c, e, h.keep hb⟩), Fact.is_stable _ _, Fact.is_stable _ _, Fact.is_stable _ _, Fact.is_stable _ _, Fact.is_stable _ _, Fact.is_stable _ _, Fact.is_stable _ _, Fact.is_stable _ _, Fact.is_stable _ _, Fact.is_stable _ _, Fact.upto_stable (fun v w w' hb ⟨g, e, h⟩ => ⟨g, e, keeps hb h⟩), Fact.keep_stable (fun v w w' hb h => h.keep hb), (fun _ _ _ _ h => h), trivial⟩
  ·refine ⟨?_, ?_, ?_, ?_, ?_, ?_, ?_, ?_, ?_, ?_, ?_, ?_, ?_, ?_, ?_, ?_, trivial⟩
   ·intro A' x hoff hdep _hdif
    have a3 : A'.eval (.tmp 3) = .pointer (some ⟨w.heap.size, 0, none⟩) := off_of hoff 3 (by kernel_rfl)
    exact good_is rfl rfl (by generalize A'.eval = ev at *; simp [go_sem, a3])
   ·intro A' x hoff hdep _hdif
    have a13 := is_of (ask_of hdep (j := 0) (by kernel_rfl)) rfl
    exact good_is rfl rfl (by generalize A'.eval = ev at *; simp [go_sem, a13, q03])
   ·intro A' x hoff hdep _hdif
    have ef : ∀ f, A'.eval (.func f) = .func (.func f) #[] #[] := fun _ => rfl
    have a14 := is_of (ask_of hdep (j := 1) (by kernel_rfl)) rfl
    exact good_call_upto rfl rfl (by generalize A'.eval = ev at *; simp [go_sem, ef, a14]) ((copyNums_n hD.out (by have := HS.out.told; have := hD.out; omega) (HD.out.keep x.below)).mono fun e w3 ⟨h1, h2, h3⟩ => ⟨_, h1, h2, _, _, rfl, h3.mono x.below.size⟩)
   ·intro A' x hoff hdep _hdif
    have a3 : A'.eval (.tmp 3) = .pointer (some ⟨w.heap.size, 0, none⟩) := off_of hoff 3 (by kernel_rfl)
    exact good_is rfl rfl (by generalize A'.eval = ev at *; simp [go_sem, a3])
   ·intro A' x hoff hdep _hdif
    have a16 := is_of (ask_of hdep (j := 3) (by kernel_rfl)) rfl
    exact good_is rfl rfl (by generalize A'.eval = ev at *; simp [go_sem, a16, q00])
   ·intro A' x hoff hdep _hdif
    have a1 : A'.eval (.tmp 1) = .int .i64 (k : Int) := off_of hoff 1 (by kernel_rfl)
    exact good_is rfl rfl (by generalize A'.eval = ev at *; simp [go_sem, a1])
   ·intro A' x hoff hdep _hdif
    have a17 := is_of (ask_of hdep (j := 4) (by kernel_rfl)) rfl
    have a18 := is_of (ask_of hdep (j := 5) (by kernel_rfl)) rfl
    exact good_is rfl rfl (by generalize A'.eval = ev at *; simp [go_sem, a17, a18, hkn])
   ·intro A' x hoff hdep _hdif
    have a19 := is_of (ask_of hdep (j := 6) (by kernel_rfl)) rfl
    exact good_is rfl rfl (by generalize A'.eval = ev at *; simp [go_sem, a19])
   ·intro A' x hoff hdep _hdif
    have a20 := is_of (ask_of hdep (j := 7) (by kernel_rfl)) rfl
    exact good_is rfl rfl (by generalize A'.eval = ev at *; simp [go_sem, a20, qf1])
   ·intro A' x hoff hdep _hdif
    have a5 : A'.eval (.tmp 5) = .pointer (some ⟨w.heap.size + 1, 0, none⟩) := off_of hoff 5 (by kernel_rfl)
    exact good_is rfl rfl (by generalize A'.eval = ev at *; simp [go_sem, a5])
   ·intro A' x hoff hdep _hdif
    have a22 := is_of (ask_of hdep (j := 9) (by kernel_rfl)) rfl
    exact good_is rfl rfl (by generalize A'.eval = ev at *; simp [go_sem, a22, q11])
   ·intro A' x hoff hdep _hdif
    have a21 := is_of (ask_of hdep (j := 8) (by kernel_rfl)) rfl
    have a23 := is_of (ask_of hdep (j := 10) (by kernel_rfl)) rfl
    exact good_is rfl rfl (by generalize A'.eval = ev at *; simp [go_sem, a21, a23, hqn])
   ·intro A' x hoff hdep _hdif
    have a24 := is_of (ask_of hdep (j := 11) (by kernel_rfl)) rfl
    exact good_is rfl rfl (by generalize A'.eval = ev at *; simp [go_sem, a24, qfa])
   ·intro A' x hoff hdep _hdif
    have a25 := is_of (ask_of hdep (j := 12) (by kernel_rfl)) rfl
    exact good_run (v := .slice (some ⟨x.val.heap.size, 0, none⟩) 1 1) (w' := x.val.alloc (.cells #[.int .i64 za] 3)) (by generalize A'.eval = ev at *; simp [go_sem, a25]) (leaves_below ((Below.refl _ _).alloc (Nat.le_refl _) _) (upto_to rfl rfl ⟨_, rfl, by simp⟩))
   ·intro A' x hoff hdep _hdif
    obtain ⟨A1, c1, a15, p1⟩ := upto_of (ask_of hdep (j := 2) (by kernel_rfl)) rfl
    obtain ⟨g, a26, p2⟩ := upto_of (ask_of hdep (j := 13) (by kernel_rfl)) rfl
    refine surely_app_int (.tmp 15) (.tmp 26) rfl W0.heap.size _ m.told a15 p1 _ 1 (za) a26 p2 (by omega) x.below.size (fun v' w' hr hg => ⟨⟨hg.size, fun h => absurd h (by decide)⟩, ⟨⟨w', x.below.trans (grown_below_of hg (fun j e => (p1.bd j e).1) x.below.size)⟩, rfl⟩, .inr (fun j hj hk hf => ?_), ?_⟩)
    ·match j, hj, hk, hf with
     | 0, _, _, hf => exact hf
     | 1, _, _, hf => exact hf
     | 2, _, hk, _ => exact absurd rfl (hk 14 rfl).1
     | 3, _, _, hf => exact hf
     | 4, _, _, hf => exact hf
     | 5, _, _, hf => exact hf
     | 6, _, _, hf => exact hf
     | 7, _, _, hf => exact hf
     | 8, _, _, hf => exact hf
     | 9, _, _, hf => exact hf
     | 10, _, _, hf => exact hf
     | 11, _, _, hf => exact hf
     | 12, _, _, hf => exact hf
     | 13, _, hk, _ => exact absurd rfl (hk 14 rfl).1
     | 14, hj, _, _ => exact absurd rfl hj
     | 15, _, _, hf => exact hf
     | _ + 16, _, _, _ => trivial
    ·exact keep_self rfl rfl hr
   ·intro A' x hoff hdep _hdif
    exact good_run (v := A'.eval (.tmp 27)) (w' := x.val) (by generalize A'.eval = ev at *; simp [go_sem]) (leaves_below (Below.refl _ _) ⟨A'.eval (.tmp 27), by simp [put1, eval_slot]⟩)
  ·intro s w4 hb4 hf _hdf
   have hr4 := keep_of (hf 14 (by decide) rfl) rfl
   obtain ⟨va, hva⟩ := hf 15 (by decide) rfl
   have hva : [s 6, s 27] = [va, va] := hva
   injection hva with ev1 ev2
   injection ev2 with ev2
   clear hf
   have e6 : s 6 = s 27 := by rw [ev1, ev2]
   clear ev1 ev2
   simp only [putAll, Act.put, List.setIfInBounds_toArray, List.set_cons_succ, List.set_cons_zero, e6]
   have z0 := B0.out.size
   clear q00 q03 q11 qf1 qfa
   go_wp2
   go_ret
   exact ⟨_, rfl, HE.out ▸ hr4.mono z0, B0.out.trans (hb4.mono z0)⟩
 ·have d14 : (op == 14) = false := by rw [beq_eq_false_iff_ne]; exact o14
  have HE : Hid (Bt.toldI m m.ths[k] ⟨op, (qa : Int), b, c⟩ = m.told) := Lib.hid (by simp [Bt.toldI, o14])
  have dd : (op != 14) = true := by rw [bne_iff_ne]; exact o14
  subst hW0
  clear o14
  go_enter Try.func131, Try.ntmps131
  go_wp2_with fail
  refine (copyNums_nm HS.out.told HD.out).mono ?_
  rintro e w1 ⟨v, rfl, hr1, hb1⟩
  go_wp2
  go_ret
  exact ⟨v, rfl, HE.out ▸ hr1.mono (by simp; omega), B0.out.trans (hb1.mono (by simp; omega))⟩
set_option maxRecDepth 100000 in
set_option maxHeartbeats 2000000 in
theorem cellsBehind_any {AT AC AL AD : Option Addr} {nt ct nc cc nl cl nd cd k : Nat} {m : Bt.Mc} {w : World} (op a b c : Int) (H : ArgMc w AT nt ct AC nc cc AL nl cl AD nd cd m) (S : Small m) (hk : k < m.ths.length) (hc : Bt.codeOk op a b c = true) (hr : Bt.regsOk m.ths[k].regs = true) (h8 : m.cells.length = 8) :
  Calls Try.prog 129 #[.agg #[.slice AT nt ct, .slice AC nc cc, .slice AL nl cl, .slice AD nd cd], .int .i64 (k : Int), .agg #[.int .i64 op, .int .i64 a, .int .i64 b, .int .i64 c]] w (NumsMade (Bt.cellsI m m.ths[k] ⟨op, a, b, c⟩) w) := by
 unfold NumsMade
 obtain ⟨W0, hW0⟩ : ∃ W0 : World, W0 = ((w).alloc (.cells #[.slice AT nt ct, .slice AC nc cc, .slice AL nl cl, .slice AD nd cd] 31)).alloc (.cells #[.int .i64 op, .int .i64 a, .int .i64 b, .int .i64 c] 96) := ⟨_, rfl⟩
 have B0 := Lib.hid (show Below w.heap.size w W0 by rw [hW0]; exact ((Below.refl _ _).alloc (Nat.le_refl _) _).alloc (by simp) _)
 have HH := Lib.hid (H.keep B0.out)
 have hle := H.ths.2.1
 have hkn : k < nt := by rw [← H.nT]; exact hk
 have hC := Lib.hid H.nC; have hD := Lib.hid H.nD
 have HS := Lib.hid S
 clear H S
 have p00 : W0.cell? ⟨w.heap.size, 0, none⟩ = some (.slice AT nt ct) := by rw [hW0]; go_simp
 have p01 : W0.cell? ⟨w.heap.size, 1, none⟩ = some (.slice AC nc cc) := by rw [hW0]; go_simp
 have p02 : W0.cell? ⟨w.heap.size, 2, none⟩ = some (.slice AL nl cl) := by rw [hW0]; go_simp
 have p03 : W0.cell? ⟨w.heap.size, 3, none⟩ = some (.slice AD nd cd) := by rw [hW0]; go_simp
 have p10 : W0.cell? ⟨w.heap.size + 1, 0, none⟩ = some (.int .i64 op) := by rw [hW0]; go_simp
 have p11 : W0.cell? ⟨w.heap.size + 1, 1, none⟩ = some (.int .i64 a) := by rw [hW0]; go_simp
 have p12 : W0.cell? ⟨w.heap.size + 1, 2, none⟩ = some (.int .i64 b) := by rw [hW0]; go_simp
 have p13 : W0.cell? ⟨w.heap.size + 1, 3, none⟩ = some (.int .i64 c) := by rw [hW0]; go_simp
 obtain ⟨bt, ot, rfl, ht⟩ := HH.out.ths.2.2 k hk
 obtain ⟨AR, cr, AS, cs, HT, f0, f1, f2, f3⟩ := ht.open
 have HR := Lib.hid HT.regs
 have hl4 := Bt.regsOk_len hr
 rw [hl4] at f1 HR
 obtain ⟨a0, a1⟩ := Bt.codeOk_A hc
 obtain ⟨qa, rfl⟩ : ∃ q : Nat, a = q := ⟨a.toNat, by omega⟩
 have ha : qa < m.ths[k].regs.length := by omega
 have hqa : qa < 4 := by omega
 have hqi : (qa : Int) < 4 := by omega
 have hqn : ¬ (4 : Int) ≤ (qa : Int) := by omega
 obtain ⟨rcap, rat⟩ := HR.out.at_ hl4
 obtain ⟨br, orr, rfl, fa⟩ := rat qa ha
 have EA : m.ths[k].regs.getD qa 0 = m.ths[k].regs[qa] := by simp [ha]
 have HRK := Lib.hid hr
 have HL4 := Lib.hid hl4
 have HCE := Lib.hid HH.out.cells
 by_cases o8 : op = 8
 ·subst o8
  obtain ⟨i0, i1⟩ := Bt.cellOf_bound (r := ⟨8, (qa : Int), b, c⟩) hc (.inr rfl) HRK.out
  have HV : Hid (Bt.cellsI m m.ths[k] ⟨8, (qa : Int), b, c⟩ = m.cells.set (Bt.cellOf ⟨8, (qa : Int), b, c⟩ m.ths[k].regs).toNat m.ths[k].regs[qa]) := Lib.hid (by simp only [Bt.cellsI, Int.toNat_natCast, EA]; rfl)
  have HCA := Lib.hid (fun (W' : World) (hb : Below W0.heap.size W0 W') => implCellOf_any 8 qa b c _ m.ths[k].regs W' (by omega) (HR.out.keep hb))
  generalize Bt.cellOf ⟨8, (qa : Int), b, c⟩ m.ths[k].regs = ci at *
  obtain ⟨i, rfl⟩ : ∃ i : Nat, ci = i := ⟨ci.toNat, by omega⟩
  have hi8 : i < m.cells.length := by omega
  have HE : Hid (Bt.cellsI m m.ths[k] ⟨8, (qa : Int), b, c⟩ = m.cells.set i m.ths[k].regs[qa]) := Lib.hid (by rw [HV.out]; simp)
  generalize m.ths[k].regs[qa] = za at *
  have hcl : m.cells.length ≤ 1048576 := HS.out.cells
  clear EA rat ht HT ha a0 a1 i0 i1 HV hl4
  have SX := Lib.hid (fun (W' : World) (hb : Below W0.drew.heap.size W0.drew W') => (⟨keeps hb fa, keeps hb p00, keeps hb p01, keeps hb p02, keeps hb p03, keeps hb p10, keeps hb p11, keeps hb p12, keeps hb p13⟩ : W'.cell? ⟨br, orr + qa, none⟩ = some (.int .i64 za) ∧ W'.cell? ⟨w.heap.size, 0, none⟩ = some (.slice (some ⟨bt, ot, none⟩) nt ct) ∧ W'.cell? ⟨w.heap.size, 1, none⟩ = some (.slice AC nc cc) ∧ W'.cell? ⟨w.heap.size, 2, none⟩ = some (.slice AL nl cl) ∧ W'.cell? ⟨w.heap.size, 3, none⟩ = some (.slice AD nd cd) ∧ W'.cell? ⟨w.heap.size + 1, 0, none⟩ = some (.int .i64 8) ∧ W'.cell? ⟨w.heap.size + 1, 1, none⟩ = some (.int .i64 (qa : Int)) ∧ W'.cell? ⟨w.heap.size + 1, 2, none⟩ = some (.int .i64 b) ∧ W'.cell? ⟨w.heap.size + 1, 3, none⟩ = some (.int .i64 c)))
  have HCX := Lib.hid (fun (W' : World) (hb : Below W0.heap.size W0 W') => HCE.out.keep hb)
  subst hW0
  go_enter Try.func129, Try.ntmps129
  go_wp2_with fail
  go_region_held3 (fun W' => W'.cell? ⟨br, orr + qa, none⟩ = some (.int .i64 za) ∧ W'.cell? ⟨w.heap.size, 0, none⟩ = some (.slice (some ⟨bt, ot, none⟩) nt ct) ∧ W'.cell? ⟨w.heap.size, 1, none⟩ = some (.slice AC nc cc) ∧ W'.cell? ⟨w.heap.size, 2, none⟩ = some (.slice AL nl cl) ∧ W'.cell? ⟨w.heap.size, 3, none⟩ = some (.slice AD nd cd) ∧ W'.cell? ⟨w.heap.size + 1, 0, none⟩ = some (.int .i64 8) ∧ W'.cell? ⟨w.heap.size + 1, 1, none⟩ = some (.int .i64 (qa : Int)) ∧ W'.cell? ⟨w.heap.size + 1, 2, none⟩ = some (.int .i64 b) ∧ W'.cell? ⟨w.heap.size + 1, 3, none⟩ = some (.int .i64 c))
   (first | (exact SX.out _ hb1) | (exact SX.out _ (hb1.trans (hb2.mono hb1.size))) | go_keep)
   (first | (go_at_call 142; refine (HCA.out _ (Below.refl _ _).drew).mono ?_; rintro e w1 ⟨rfl, hb1⟩; have hb1' : Below ((w.alloc (.cells #[.slice (some ⟨bt, ot, none⟩) nt ct, .slice AC nc cc, .slice AL nl cl, .slice AD nd cd] 31)).alloc (.cells #[.int .i64 8, .int .i64 (qa : Int), .int .i64 b, .int .i64 c] 96)).heap.size ((w.alloc (.cells #[.slice (some ⟨bt, ot, none⟩) nt ct, .slice AC nc cc, .slice AL nl cl, .slice AD nd cd] 31)).alloc (.cells #[.int .i64 8, .int .i64 (qa : Int), .int .i64 b, .int .i64 c] 96)).drew w1 := hb1) | (go_at_call 141; refine (numbersWith_any _ m.cells i za _ hcl hi8 (HCX.out _ ((Below.refl _ _).drew.trans hb1'))).mono ?_; rintro e w2 ⟨v, rfl, hr2, hb2⟩))
  have hs1 := hb1'.size
  go_wp2
  go_ret
  exact ⟨v, rfl, HE.out ▸ hr2.mono (by simp at hs1; omega), B0.out.trans (((Below.refl _ _).drew.trans (hb1'.trans (hb2.mono hs1))).mono B0.out.size)⟩
 ·have d8 : (op == 8) = false := by rw [beq_eq_false_iff_ne]; exact o8
  have HE : Hid (Bt.cellsI m m.ths[k] ⟨op, (qa : Int), b, c⟩ = m.cells) := Lib.hid (by simp [Bt.cellsI, o8])
  have dd : (op != 8) = true := by rw [bne_iff_ne]; exact o8
  subst hW0
  clear o8
  go_enter Try.func129, Try.ntmps129
  go_wp2_with fail
  refine (copyNums_nm HS.out.cells HCE.out).mono ?_
  rintro e w1 ⟨v, rfl, hr1, hb1⟩
  go_wp2
  go_ret
  exact ⟨v, rfl, HE.out ▸ hr1.mono (by simp; omega), B0.out.trans (hb1.mono (by simp; omega))⟩
end Go.Proofs.Ytminfkedkkkhdaa
