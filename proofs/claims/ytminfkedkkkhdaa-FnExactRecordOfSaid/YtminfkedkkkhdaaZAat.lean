/-
  Part of a proof: StepD. No condition.
-/
import Derived.Test.YtminfkedkkkhdaaZAas
import Derived.Deep.RegionHeld3
namespace Go.Proofs.Ytminfkedkkkhdaa
open Go.RowKit
theorem keepz {W w' : World} (hb : Below W.heap.size W w') {p : Addr} {v : Value} (h : W.cell? p = some v) (hz : W.frozen? p = false) : w'.frozen? p = false := by
 rw [hb.frozen (cell_lt h), hz]
def ThNew (t : Bt.Th) (w : World) (e : Ending) (w' : World) : Prop :=
 ∃ AR cr AS cs, e = .returned (.agg #[.int .i64 t.pl, .slice AR t.regs.length cr, .slice AS t.stack.length cs, .int .i64 t.st]) ∧ Below w.heap.size w w' ∧
  IntRow w' w.heap.size (.slice AR t.regs.length cr) t.regs ∧ IntRow w' w.heap.size (.slice AS t.stack.length cs) t.stack ∧ Apart (.slice AR t.regs.length cr) (.slice AS t.stack.length cs)
set_option maxHeartbeats 2000000 in
theorem copyThread_any {AR AS : Option Addr} {nr cr ns cs : Nat} {t : Bt.Th} {w : World} (H : ArgTh w AR nr cr AS ns cs t) (hr : nr ≤ 1048576) (hs : ns ≤ 1048576) :
  Calls Try.prog 136 #[.agg #[.int .i64 t.pl, .slice AR nr cr, .slice AS ns cs, .int .i64 t.st]] w (ThNew t w) := by
 unfold ThNew
 rw [H.nR, H.nS]
 have nR := Lib.hid H.nR; have nS := Lib.hid H.nS
 obtain ⟨W0, hW0⟩ : ∃ W0 : World, W0 = (w.alloc (.cells #[.int .i64 t.pl, .slice AR nr cr, .slice AS ns cs, .int .i64 t.st] 123)).alloc (.cells #[.int .i64 0, .slice none 0 0, .slice none 0 0, .int .i64 0] 123) := ⟨_, rfl⟩
 have B0 := Lib.hid (show Below w.heap.size w W0 by rw [hW0]; exact ((Below.refl _ _).alloc (Nat.le_refl _) _).alloc (by simp) _)
 have HH := Lib.hid (H.keep B0.out); clear H
 have p0 : W0.cell? ⟨w.heap.size, 0, none⟩ = some (.int .i64 t.pl) := by rw [hW0]; go_simp
 have p1 : W0.cell? ⟨w.heap.size, 1, none⟩ = some (.slice AR nr cr) := by rw [hW0]; go_simp
 have p2 : W0.cell? ⟨w.heap.size, 2, none⟩ = some (.slice AS ns cs) := by rw [hW0]; go_simp
 have p3 : W0.cell? ⟨w.heap.size, 3, none⟩ = some (.int .i64 t.st) := by rw [hW0]; go_simp
 have z0 : W0.cell? ⟨w.heap.size + 1, 0, none⟩ = some (.int .i64 0) := by rw [hW0]; go_simp
 have z1 : W0.cell? ⟨w.heap.size + 1, 1, none⟩ = some (.slice none 0 0) := by rw [hW0]; go_simp
 have z2 : W0.cell? ⟨w.heap.size + 1, 2, none⟩ = some (.slice none 0 0) := by rw [hW0]; go_simp
 have z3 : W0.cell? ⟨w.heap.size + 1, 3, none⟩ = some (.int .i64 0) := by rw [hW0]; go_simp
 have f0 : W0.frozen? ⟨w.heap.size + 1, 0, none⟩ = false := by rw [hW0]; go_simp
 have f1 : W0.frozen? ⟨w.heap.size + 1, 1, none⟩ = false := by rw [hW0]; go_simp
 have f2 : W0.frozen? ⟨w.heap.size + 1, 2, none⟩ = false := by rw [hW0]; go_simp
 have f3 : W0.frozen? ⟨w.heap.size + 1, 3, none⟩ = false := by rw [hW0]; go_simp
 have hz0 : w.heap.size + 1 < W0.heap.size := by rw [hW0]; simp
 have HW := Lib.hid hW0; clear hW0
 generalize t.pl = pl at *
 generalize t.st = st at *
 have SX := Lib.hid (fun (W' : World) (hb : Below W0.drew.heap.size W0.drew W') => (⟨keeps hb p0, keeps hb p1, keeps hb p2, keeps hb p3⟩ : W'.cell? ⟨w.heap.size, 0, none⟩ = some (.int .i64 pl) ∧ W'.cell? ⟨w.heap.size, 1, none⟩ = some (.slice AR nr cr) ∧ W'.cell? ⟨w.heap.size, 2, none⟩ = some (.slice AS ns cs) ∧ W'.cell? ⟨w.heap.size, 3, none⟩ = some (.int .i64 st)))
 go_enter Try.func136, Try.ntmps136
 go_wp2_with fail
 rw [← HW.out]
 go_region_held3 (fun W' => W'.cell? ⟨w.heap.size, 0, none⟩ = some (.int .i64 pl) ∧ W'.cell? ⟨w.heap.size, 1, none⟩ = some (.slice AR nr cr) ∧ W'.cell? ⟨w.heap.size, 2, none⟩ = some (.slice AS ns cs) ∧ W'.cell? ⟨w.heap.size, 3, none⟩ = some (.int .i64 st))
  (first | (exact SX.out _ hb1) | (exact SX.out _ (hb1.trans (hb2.mono hb1.size))) | go_keep)
  (first | (go_at_call 93; (with_reducible refine (copyNums_n nR.out hr (HH.out.keep (Below.refl _ _).drew).regs).mono ?_); rintro e w1 ⟨rfl, hb1, hr1⟩; have hb1' : Below W0.heap.size W0.drew w1 := hb1) | (go_at_call 93; (with_reducible refine (copyNums_n nS.out hs (HH.out.keep ((Below.refl _ _).drew.trans hb1')).stack).mono ?_); rintro e w2 ⟨rfl, hb2, hr2⟩; have hb12 : Below W0.drew.heap.size W0.drew w2 := hb1.trans (hb2.mono hb1.size); have k0 := keeps hb12 z0; have k1 := keeps hb12 z1; have k2 := keeps hb12 z2; have k3 := keeps hb12 z3; have i0 := keepz (W := W0.drew) hb12 z0 f0; have i1 := keepz (W := W0.drew) hb12 z1 f1; have i2 := keepz (W := W0.drew) hb12 z2 f2; have i3 := keepz (W := W0.drew) hb12 z3 f3))
 have B2 := B0.out.trans ((Below.refl _ _).drew.trans ((show Below W0.heap.size W0.drew w2 from hb12).mono (Nat.le_refl _)) |>.mono B0.out.size)
 have hs2 := hb2.size
 have hr1' := hr1.keep hb2
 have hz2 : w.heap.size + 1 < w2.heap.size := by have := hb12.size; have e : W0.drew.heap.size = W0.heap.size := rfl; omega
 have e0 : W0.drew.heap.size = W0.heap.size := rfl
 have hlt1 : W0.heap.size < w1.heap.size := (hr1.bd _ rfl).2
 go_wp2
 refine bodyPost_ret (v := .agg #[.int .i64 pl, .slice (some ⟨W0.heap.size, 0, none⟩) nr nr, .slice (some ⟨w1.heap.size, 0, none⟩) ns ns, .int .i64 st]) (by simp [results, Try.results136, go_sem, k0, k1, k2, k3]) rfl ⟨_, _, _, _, rfl, ?_, ?_, ?_, ?_⟩
 ·repeat (refine Below.setCell ?_ (by simp) _)
  exact B2
 ·repeat (refine IntRow.setOther ?_ _ (by intro b hb; simp [Value.ownBlock] at hb; simp; omega))
  exact hr1'.mono (by omega)
 ·repeat (refine IntRow.setOther ?_ _ (by intro b hb; simp [Value.ownBlock] at hb; simp; omega))
  exact hr2.mono (by omega)
 ·intro b h1 h2
  simp [Value.ownBlock] at h1 h2
  omega
end Go.Proofs.Ytminfkedkkkhdaa
namespace Go.Proofs.Ytminfkedkkkhdaa
open Go.RowKit
set_option maxHeartbeats 2000000 in
theorem failed_any {AR AS : Option Addr} {nr cr ns cs : Nat} {t : Bt.Th} {w : World} (H : ArgTh w AR nr cr AS ns cs t) (hr : nr ≤ 1048576) (hs : ns ≤ 1048576) :
  Calls Try.prog 113 #[.agg #[.int .i64 t.pl, .slice AR nr cr, .slice AS ns cs, .int .i64 t.st]] w (ThNew ⟨t.pl, t.regs, t.stack, 2⟩ w) := by
 unfold ThNew
 simp only
 rw [H.nR, H.nS]
 have nR := Lib.hid H.nR; have nS := Lib.hid H.nS
 obtain ⟨W0, hW0⟩ : ∃ W0 : World, W0 = (w.alloc (.cells #[.int .i64 t.pl, .slice AR nr cr, .slice AS ns cs, .int .i64 t.st] 123)).alloc (.cells #[.int .i64 0, .slice none 0 0, .slice none 0 0, .int .i64 0] 123) := ⟨_, rfl⟩
 have B0 := Lib.hid (show Below w.heap.size w W0 by rw [hW0]; exact ((Below.refl _ _).alloc (Nat.le_refl _) _).alloc (by simp) _)
 have HH := Lib.hid (H.keep B0.out); clear H
 have p0 : W0.cell? ⟨w.heap.size, 0, none⟩ = some (.int .i64 t.pl) := by rw [hW0]; go_simp
 have p1 : W0.cell? ⟨w.heap.size, 1, none⟩ = some (.slice AR nr cr) := by rw [hW0]; go_simp
 have p2 : W0.cell? ⟨w.heap.size, 2, none⟩ = some (.slice AS ns cs) := by rw [hW0]; go_simp
 have p3 : W0.cell? ⟨w.heap.size, 3, none⟩ = some (.int .i64 t.st) := by rw [hW0]; go_simp
 have z0 : W0.cell? ⟨w.heap.size + 1, 0, none⟩ = some (.int .i64 0) := by rw [hW0]; go_simp
 have z1 : W0.cell? ⟨w.heap.size + 1, 1, none⟩ = some (.slice none 0 0) := by rw [hW0]; go_simp
 have z2 : W0.cell? ⟨w.heap.size + 1, 2, none⟩ = some (.slice none 0 0) := by rw [hW0]; go_simp
 have z3 : W0.cell? ⟨w.heap.size + 1, 3, none⟩ = some (.int .i64 0) := by rw [hW0]; go_simp
 have f0 : W0.frozen? ⟨w.heap.size + 1, 0, none⟩ = false := by rw [hW0]; go_simp
 have f1 : W0.frozen? ⟨w.heap.size + 1, 1, none⟩ = false := by rw [hW0]; go_simp
 have f2 : W0.frozen? ⟨w.heap.size + 1, 2, none⟩ = false := by rw [hW0]; go_simp
 have f3 : W0.frozen? ⟨w.heap.size + 1, 3, none⟩ = false := by rw [hW0]; go_simp
 have hz0 : w.heap.size + 1 < W0.heap.size := by rw [hW0]; simp
 have HW := Lib.hid hW0; clear hW0
 generalize t.pl = pl at *
 generalize t.st = st at *
 have SX := Lib.hid (fun (W' : World) (hb : Below W0.drew.heap.size W0.drew W') => (⟨keeps hb p0, keeps hb p1, keeps hb p2, keeps hb p3⟩ : W'.cell? ⟨w.heap.size, 0, none⟩ = some (.int .i64 pl) ∧ W'.cell? ⟨w.heap.size, 1, none⟩ = some (.slice AR nr cr) ∧ W'.cell? ⟨w.heap.size, 2, none⟩ = some (.slice AS ns cs) ∧ W'.cell? ⟨w.heap.size, 3, none⟩ = some (.int .i64 st)))
 go_enter Try.func113, Try.ntmps113
 go_wp2_with fail
 rw [← HW.out]
 go_region_held3 (fun W' => W'.cell? ⟨w.heap.size, 0, none⟩ = some (.int .i64 pl) ∧ W'.cell? ⟨w.heap.size, 1, none⟩ = some (.slice AR nr cr) ∧ W'.cell? ⟨w.heap.size, 2, none⟩ = some (.slice AS ns cs) ∧ W'.cell? ⟨w.heap.size, 3, none⟩ = some (.int .i64 st))
  (first | (exact SX.out _ hb1) | (exact SX.out _ (hb1.trans (hb2.mono hb1.size))) | go_keep)
  (first | (go_at_call 93; (with_reducible refine (copyNums_n nR.out hr (HH.out.keep (Below.refl _ _).drew).regs).mono ?_); rintro e w1 ⟨rfl, hb1, hr1⟩; have hb1' : Below W0.heap.size W0.drew w1 := hb1) | (go_at_call 93; (with_reducible refine (copyNums_n nS.out hs (HH.out.keep ((Below.refl _ _).drew.trans hb1')).stack).mono ?_); rintro e w2 ⟨rfl, hb2, hr2⟩; have hb12 : Below W0.drew.heap.size W0.drew w2 := hb1.trans (hb2.mono hb1.size); have k0 := keeps hb12 z0; have k1 := keeps hb12 z1; have k2 := keeps hb12 z2; have k3 := keeps hb12 z3; have i0 := keepz (W := W0.drew) hb12 z0 f0; have i1 := keepz (W := W0.drew) hb12 z1 f1; have i2 := keepz (W := W0.drew) hb12 z2 f2; have i3 := keepz (W := W0.drew) hb12 z3 f3))
 have B2 := B0.out.trans ((Below.refl _ _).drew.trans ((show Below W0.heap.size W0.drew w2 from hb12).mono (Nat.le_refl _)) |>.mono B0.out.size)
 have hs2 := hb2.size
 have hr1' := hr1.keep hb2
 have hz2 : w.heap.size + 1 < w2.heap.size := by have := hb12.size; have e : W0.drew.heap.size = W0.heap.size := rfl; omega
 have e0 : W0.drew.heap.size = W0.heap.size := rfl
 have hlt1 : W0.heap.size < w1.heap.size := (hr1.bd _ rfl).2
 go_wp2
 refine bodyPost_ret (v := .agg #[.int .i64 pl, .slice (some ⟨W0.heap.size, 0, none⟩) nr nr, .slice (some ⟨w1.heap.size, 0, none⟩) ns ns, .int .i64 2]) (by simp [results, Try.results113, go_sem, k0, k1, k2, k3]) rfl ⟨_, _, _, _, rfl, ?_, ?_, ?_, ?_⟩
 ·repeat (refine Below.setCell ?_ (by simp) _)
  exact B2
 ·repeat (refine IntRow.setOther ?_ _ (by intro b hb; simp [Value.ownBlock] at hb; simp; omega))
  exact hr1'.mono (by omega)
 ·repeat (refine IntRow.setOther ?_ _ (by intro b hb; simp [Value.ownBlock] at hb; simp; omega))
  exact hr2.mono (by omega)
 ·intro b h1 h2
  simp [Value.ownBlock] at h1 h2
  omega
end Go.Proofs.Ytminfkedkkkhdaa
namespace Go.Proofs.Ytminfkedkkkhdaa
open Go.RowKit
def ThsNew (ts : List Bt.Th) (w : World) (e : Ending) (w' : World) : Prop := ∃ v xs, e = .returned v ∧ Below w.heap.size w w' ∧ ThsAcc w' w.heap.size v ts xs
theorem ThsAcc.mono {w : World} {B B' : Nat} {v : Value} {ts : List Bt.Th} {xs : List (Value × Value)} (h : ThsAcc w B v ts xs) (hB : B' ≤ B) : ThsAcc w B' v ts xs := ⟨h.own.mono hB, h.apart⟩
theorem ThsAcc.nil (w : World) : ThsAcc (w.alloc (.cells #[] 123)) w.heap.size (.slice (some ⟨w.heap.size, 0, none⟩) 0 0) [] [] := by
 refine ⟨⟨rfl, ⟨[], World.ownsRow_lit (base := w.heap.size) (e := 123) (size := 4) w #[] 0 (Nat.le_refl _) (by decide) rfl, fun i hi => absurd hi (by simp)⟩, fun i hi => absurd hi (by simp)⟩, by simp [rowsOf]⟩
theorem ThsAcc.fresh {w : World} {B : Nat} {v : Value} {ts : List Bt.Th} {xs : List (Value × Value)} (h : ThsAcc w B v ts xs) {r : Value} (hr : ∀ k, r.ownBlock = some k → w.heap.size ≤ k) : ∀ u ∈ rowsOf xs, Apart u r := fun u hu =>
 Apart.of_lt (fun k e => (h.lt u (List.mem_cons_of_mem _ hu) k e).2) hr
set_option maxRecDepth 100000 in
set_option maxHeartbeats 4000000 in
theorem threadsWith_any {A AR AS : Option Addr} {n cap nr cr ns cs k : Nat} {ts : List Bt.Th} {t : Bt.Th} {w : World} (HT : ArgThs w A n cap ts) (H : ArgTh w AR nr cr AS ns cs t) (hr : nr ≤ 1048576) (hs : ns ≤ 1048576) (hn : n ≤ 1048576)
  (hL : ∀ i (h : i < ts.length), ts[i].regs.length ≤ 1048576 ∧ ts[i].stack.length ≤ 1048576) :
  Calls Try.prog 127 #[.slice A n cap, .int .i64 (k : Int), .agg #[.int .i64 t.pl, .slice AR nr cr, .slice AS ns cs, .int .i64 t.st]] w (ThsNew (ts.set k t) w) := by
 unfold ThsNew
 have nT := Lib.hid HT.1
 have hcap := HT.2.1
 obtain ⟨W1, hW1⟩ : ∃ W1 : World, W1 = w.alloc (.cells #[.int .i64 t.pl, .slice AR nr cr, .slice AS ns cs, .int .i64 t.st] 123) := ⟨_, rfl⟩
 have B1 := Lib.hid (show Below w.heap.size w W1 by rw [hW1]; exact (Below.refl _ _).alloc (Nat.le_refl _) _)
 have z1 : W1.heap.size = w.heap.size + 1 := by rw [hW1]; simp
 have HA := Lib.hid (HT.keep B1.out); have HH := Lib.hid (H.keep B1.out); clear HT H
 have HL := Lib.hid hL; clear hL
 have p0 : W1.cell? ⟨w.heap.size, 0, none⟩ = some (.int .i64 t.pl) := by rw [hW1]; go_simp
 have p1 : W1.cell? ⟨w.heap.size, 1, none⟩ = some (.slice AR nr cr) := by rw [hW1]; go_simp
 have p2 : W1.cell? ⟨w.heap.size, 2, none⟩ = some (.slice AS ns cs) := by rw [hW1]; go_simp
 have p3 : W1.cell? ⟨w.heap.size, 3, none⟩ = some (.int .i64 t.st) := by rw [hW1]; go_simp
 have HW := Lib.hid hW1; clear hW1
 go_enter Try.func127, Try.ntmps127
 go_wp2
 rw [← HW.out, ← z1]
 have Z1 := Lib.hid z1
 clear z1
 go_loopw [7, 12] (fun o i wr => ∃ j : Nat, j ≤ n ∧ i = .int .i64 j ∧ Below W1.heap.size W1 wr ∧ ∃ v xs, v = o ∧ ThsAcc wr W1.heap.size v ((ts.set k t).take j) xs) (fun _ i _ => n - (intOf i).toNat)
 case atStart => exact ⟨0, Nat.zero_le _, rfl, (Below.refl _ _).alloc (Nat.le_refl _) _, _, [], rfl, ThsAcc.nil W1⟩
 case round =>
  obtain ⟨j, hj, rfl, hb, v, xs, hv, hacc⟩ := hrel
  subst hv
  have HB := Lib.hid hb
  have HC := Lib.hid hacc; clear hacc
  have hsz := hb.size
  have p0' := keeps hb p0
  have p1' := keeps hb p1
  have p2' := keeps hb p2
  have p3' := keeps hb p3
  by_cases hlt : j < n
  ·have hlt' : j < ts.length := by rw [nT.out]; exact hlt
   have hset : j < (ts.set k t).length := by rw [List.length_set]; exact hlt'
   by_cases hjk : j = k
   ·subst hjk
    have HTK : Hid ((ts.set j t).take (j + 1) = (ts.set j t).take j ++ [t]) := Lib.hid (by rw [List.take_succ_eq_append_getElem hset, List.getElem_set_self])
    have G := Lib.hid (copyThread_any (HH.out.keep HB.out) hr hs)
    have hlen : ((ts.set j t).take j).length ≤ 1048576 := by rw [List.length_take, List.length_set]; omega
    have HLEN := Lib.hid hlen
    have NRS : Hid (t.regs.length = nr ∧ t.stack.length = ns) := Lib.hid ⟨HH.out.nR, HH.out.nS⟩
    clear hset hlen hb p0 p1 p2 p3
    go_wp2_with (first | (go_at_call 136; refine G.out.mono ?_; rintro e w2 ⟨AR2, cr2, AS2, cs2, rfl, hb2, hr2, hs2, hap⟩; have hz2 := hb2.size; have HB2 := Lib.hid hb2; have HR2 := Lib.hid hr2; have HS2 := Lib.hid hs2; have HAP := Lib.hid hap; have HC2 := Lib.hid (HC.out.keep hb2); have HF := Lib.hid (fun u hu => And.intro (HC.out.fresh (fun q e => (hr2.bd q e).1) u hu) (HC.out.fresh (fun q e => (hs2.bd q e).1) u hu)); clear hb2 hr2 hs2 hap) | (at_builtin; go_loud (refine wp_app_th rfl _ _ rfl W1.heap.size v ((ts.set j t).take j) xs rfl ?ca w2.heap.size 1 t (.slice AR2 t.regs.length cr2) (.slice AS2 t.stack.length cs2) ?cb ?cc ?cd ?ce rfl ?cf ?cg ?ch ?ci ?cj ?ck ?_); (case ca => exact HC2.out.keep ((Below.refl _ _).alloc (Nat.le_refl _) _)); (case cb => exact (HR2.out.mono hsz).keep ((Below.refl _ _).alloc (Nat.le_refl _) _)); (case cc => exact (HS2.out.mono hsz).keep ((Below.refl _ _).alloc (Nat.le_refl _) _)); (case cd => exact HAP.out); (case ce => exact HF.out); (case cf => simp); (case cg => simp); (case ch => simp); (case ci => simp); (case cj => exact HLEN.out); (case ck => simp; omega); intro v3 w3 hr3 hg3; have HR3 := Lib.hid hr3; clear hr3; have HG3 := Lib.hid hg3; clear hg3))
    go_roundw
    case rel =>
     refine ⟨j + 1, by omega, by go_num, ?_, _, _, rfl, HTK.out ▸ HR3.out⟩
     exact ((HB.out.trans (HB2.out.mono hsz)).alloc (by omega) _).trans (grown_below_of HG3.out (fun q e => (HC2.out.lt _ List.mem_cons_self q e).1) (by simp; omega))
    case measure => simp [intOf]; omega
   ·have HTK : Hid ((ts.set k t).take (j + 1) = (ts.set k t).take j ++ [ts[j]]) := Lib.hid (by rw [List.take_succ_eq_append_getElem hset, List.getElem_set_ne (by omega)])
    obtain ⟨bt, ot, rfl, ht⟩ := (HA.out.keep HB.out).2.2 j hlt'
    obtain ⟨ARj, crj, ASj, csj, HTj, f0, f1, f2, f3⟩ := ht.open
    obtain ⟨lr, ls⟩ := HL.out j hlt'
    have G := Lib.hid (copyThread_any HTj lr ls)
    have hlen : ((ts.set k t).take j).length ≤ 1048576 := by rw [List.length_take, List.length_set]; omega
    have HLEN := Lib.hid hlen
    have djk : ((j : Int) == (k : Int)) = false := by rw [beq_eq_false_iff_ne]; omega
    clear hset hlen hb p0 p1 p2 p3 ht HTj lr ls hjk
    generalize ts[j] = tj at *
    generalize tj.regs.length = nrj at *
    generalize tj.stack.length = nsj at *
    go_wp2_with (first | (go_at_call 136; refine G.out.mono ?_; rintro e w2 ⟨AR2, cr2, AS2, cs2, rfl, hb2, hr2, hs2, hap⟩; have hz2 := hb2.size; have HB2 := Lib.hid hb2; have HR2 := Lib.hid hr2; have HS2 := Lib.hid hs2; have HAP := Lib.hid hap; have HC2 := Lib.hid (HC.out.keep hb2); have HF := Lib.hid (fun u hu => And.intro (HC.out.fresh (fun q e => (hr2.bd q e).1) u hu) (HC.out.fresh (fun q e => (hs2.bd q e).1) u hu)); clear hb2 hr2 hs2 hap) | (at_builtin; go_loud (refine wp_app_th rfl _ _ rfl W1.heap.size v ((ts.set k t).take j) xs rfl ?ca w2.heap.size 1 tj (.slice AR2 tj.regs.length cr2) (.slice AS2 tj.stack.length cs2) ?cb ?cc ?cd ?ce rfl ?cf ?cg ?ch ?ci ?cj ?ck ?_); (case ca => exact HC2.out.keep ((Below.refl _ _).alloc (Nat.le_refl _) _)); (case cb => exact (HR2.out.mono hsz).keep ((Below.refl _ _).alloc (Nat.le_refl _) _)); (case cc => exact (HS2.out.mono hsz).keep ((Below.refl _ _).alloc (Nat.le_refl _) _)); (case cd => exact HAP.out); (case ce => exact HF.out); (case cf => simp); (case cg => simp); (case ch => simp); (case ci => simp); (case cj => exact HLEN.out); (case ck => simp; omega); intro v3 w3 hr3 hg3; have HR3 := Lib.hid hr3; clear hr3; have HG3 := Lib.hid hg3; clear hg3))
    go_roundw
    case rel =>
     refine ⟨j + 1, by omega, by go_num, ?_, _, _, rfl, HTK.out ▸ HR3.out⟩
     exact ((HB.out.trans (HB2.out.mono hsz)).alloc (by omega) _).trans (grown_below_of HG3.out (fun q e => (HC2.out.lt _ List.mem_cons_self q e).1) (by simp; omega))
    case measure => simp [intOf]; omega
  ·obtain rfl : j = n := by omega
   have HE : Hid ((ts.set k t).take j = ts.set k t) := Lib.hid (List.take_of_length_le (by rw [List.length_set, nT.out]; omega))
   clear p0 p1 p2 p3 hb
   go_wp2
   go_ret
   exact ⟨_, _, rfl, B1.out.trans (HB.out.mono B1.out.size), HE.out ▸ HC.out.mono B1.out.size⟩
end Go.Proofs.Ytminfkedkkkhdaa
namespace Go.Proofs.Ytminfkedkkkhdaa
open Go.RowKit
theorem ThsAcc.slice {w : World} {B : Nat} {v : Value} {ts : List Bt.Th} {xs : List (Value × Value)} (h : ThsAcc w B v ts xs) : ∃ A c, v = .slice A ts.length c := by
 rcases h.own.forms with ⟨e, e'⟩ | ⟨g, cap, e, _⟩
 ·exact ⟨none, 0, by rw [e, e']; rfl⟩
 ·exact ⟨some ⟨g, 0, none⟩, cap, e⟩
theorem copyNums_nm {v : Value} {xs : List Int} {w : World} (hn : xs.length ≤ 1048576) (hv : ArgInts w v xs) : Calls Try.prog 93 #[v] w (NumsMade xs w) :=
 (copyNums_any v xs w hn hv).mono fun _ _ ⟨h1, h2, h3⟩ => ⟨_, h1, h3, h2⟩
set_option maxRecDepth 100000 in
set_option maxHeartbeats 4000000 in
theorem withThread_any {AT0 AC AL AD AR AS : Option Addr} {nt ct0 nc cc nl cl nd cd nr cr ns cs k : Nat} {m : Bt.Mc} {t : Bt.Th} {w : World} (HM : ArgMc w AT0 nt ct0 AC nc cc AL nl cl AD nd cd m) (S : Small m) (H : ArgTh w AR nr cr AS ns cs t) (hr : nr ≤ 1048576) (hs : ns ≤ 1048576) :
  Calls Try.prog 110 #[.agg #[.slice AT0 nt ct0, .slice AC nc cc, .slice AL nl cl, .slice AD nd cd], .int .i64 (k : Int), .agg #[.int .i64 t.pl, .slice AR nr cr, .slice AS ns cs, .int .i64 t.st]] w (McNew ⟨m.ths.set k t, m.cells, m.locks, m.told⟩ w) := by
 unfold McNew
 have hT := Lib.hid HM.nT
 have sT : nt ≤ 1048576 := hT.out ▸ S.ths
 have hC := Lib.hid HM.nC; have hL := Lib.hid HM.nL; have hD := Lib.hid HM.nD
 have HS := Lib.hid S; clear S
 obtain ⟨W0, hW0⟩ : ∃ W0 : World, W0 = (((w).alloc (.cells #[.slice AT0 nt ct0, .slice AC nc cc, .slice AL nl cl, .slice AD nd cd] 31)).alloc (.cells #[.int .i64 t.pl, .slice AR nr cr, .slice AS ns cs, .int .i64 t.st] 123)).alloc (.cells #[.slice none 0 0, .slice none 0 0, .slice none 0 0, .slice none 0 0] 31) := ⟨_, rfl⟩
 have z0 : W0.heap.size = w.heap.size + 3 := by rw [hW0]; simp
 have B0 := Lib.hid (show Below w.heap.size w W0 by rw [hW0]; exact (((Below.refl _ _).alloc (Nat.le_refl _) _).alloc (by simp) _).alloc (by simp; omega) _)
 have p00 : W0.cell? ⟨w.heap.size, 0, none⟩ = some (.slice AT0 nt ct0) := by rw [hW0]; go_simp
 have p01 : W0.cell? ⟨w.heap.size, 1, none⟩ = some (.slice AC nc cc) := by rw [hW0]; go_simp
 have p02 : W0.cell? ⟨w.heap.size, 2, none⟩ = some (.slice AL nl cl) := by rw [hW0]; go_simp
 have p03 : W0.cell? ⟨w.heap.size, 3, none⟩ = some (.slice AD nd cd) := by rw [hW0]; go_simp
 have p10 : W0.cell? ⟨w.heap.size + 1, 0, none⟩ = some (.int .i64 t.pl) := by rw [hW0]; go_simp
 have p11 : W0.cell? ⟨w.heap.size + 1, 1, none⟩ = some (.slice AR nr cr) := by rw [hW0]; go_simp
 have p12 : W0.cell? ⟨w.heap.size + 1, 2, none⟩ = some (.slice AS ns cs) := by rw [hW0]; go_simp
 have p13 : W0.cell? ⟨w.heap.size + 1, 3, none⟩ = some (.int .i64 t.st) := by rw [hW0]; go_simp
 have r0 : W0.cell? ⟨w.heap.size + 1 + 1, 0, none⟩ = some (.slice none 0 0) := by rw [hW0]; go_simp
 have r1 : W0.cell? ⟨w.heap.size + 1 + 1, 1, none⟩ = some (.slice none 0 0) := by rw [hW0]; go_simp
 have r2 : W0.cell? ⟨w.heap.size + 1 + 1, 2, none⟩ = some (.slice none 0 0) := by rw [hW0]; go_simp
 have r3 : W0.cell? ⟨w.heap.size + 1 + 1, 3, none⟩ = some (.slice none 0 0) := by rw [hW0]; go_simp
 have f0 : W0.frozen? ⟨w.heap.size + 1 + 1, 0, none⟩ = false := by rw [hW0]; go_simp
 have f1 : W0.frozen? ⟨w.heap.size + 1 + 1, 1, none⟩ = false := by rw [hW0]; go_simp
 have f2 : W0.frozen? ⟨w.heap.size + 1 + 1, 2, none⟩ = false := by rw [hW0]; go_simp
 have f3 : W0.frozen? ⟨w.heap.size + 1 + 1, 3, none⟩ = false := by rw [hW0]; go_simp
 have HM0 := Lib.hid (HM.keep B0.out); have HT0 := Lib.hid (H.keep B0.out); clear HM H
 have HW := Lib.hid hW0; clear hW0
 have SX := Lib.hid (fun (W' : World) (hb : Below W0.drew.heap.size W0.drew W') => (⟨keeps hb p00, keeps hb p01, keeps hb p02, keeps hb p03, keeps hb p10, keeps hb p11, keeps hb p12, keeps hb p13⟩ : W'.cell? ⟨w.heap.size, 0, none⟩ = some (.slice AT0 nt ct0) ∧ W'.cell? ⟨w.heap.size, 1, none⟩ = some (.slice AC nc cc) ∧ W'.cell? ⟨w.heap.size, 2, none⟩ = some (.slice AL nl cl) ∧ W'.cell? ⟨w.heap.size, 3, none⟩ = some (.slice AD nd cd) ∧ W'.cell? ⟨w.heap.size + 1, 0, none⟩ = some (.int .i64 t.pl) ∧ W'.cell? ⟨w.heap.size + 1, 1, none⟩ = some (.slice AR nr cr) ∧ W'.cell? ⟨w.heap.size + 1, 2, none⟩ = some (.slice AS ns cs) ∧ W'.cell? ⟨w.heap.size + 1, 3, none⟩ = some (.int .i64 t.st)))
 have SY := Lib.hid (fun (W' : World) (hb : Below W0.drew.heap.size W0.drew W') (u0 u1 u2 u3 : Value) => by
  have h := SX.out W' hb
  have e : ∀ (b i : Nat), b < w.heap.size + 1 + 1 → ((((W'.setCell ⟨w.heap.size + 1 + 1, 0, none⟩ u0).setCell ⟨w.heap.size + 1 + 1, 1, none⟩ u1).setCell ⟨w.heap.size + 1 + 1, 2, none⟩ u2).setCell ⟨w.heap.size + 1 + 1, 3, none⟩ u3).cell? ⟨b, i, none⟩ = W'.cell? ⟨b, i, none⟩ := fun b i hbi => by
   rw [World.cell?_setCell_far _ _ _ _ (by simp; omega), World.cell?_setCell_far _ _ _ _ (by simp; omega), World.cell?_setCell_far _ _ _ _ (by simp; omega), World.cell?_setCell_far _ _ _ _ (by simp; omega)]
  exact (show ((((W'.setCell ⟨w.heap.size + 1 + 1, 0, none⟩ u0).setCell ⟨w.heap.size + 1 + 1, 1, none⟩ u1).setCell ⟨w.heap.size + 1 + 1, 2, none⟩ u2).setCell ⟨w.heap.size + 1 + 1, 3, none⟩ u3).cell? ⟨w.heap.size, 0, none⟩ = some (.slice AT0 nt ct0) ∧ ((((W'.setCell ⟨w.heap.size + 1 + 1, 0, none⟩ u0).setCell ⟨w.heap.size + 1 + 1, 1, none⟩ u1).setCell ⟨w.heap.size + 1 + 1, 2, none⟩ u2).setCell ⟨w.heap.size + 1 + 1, 3, none⟩ u3).cell? ⟨w.heap.size, 1, none⟩ = some (.slice AC nc cc) ∧ ((((W'.setCell ⟨w.heap.size + 1 + 1, 0, none⟩ u0).setCell ⟨w.heap.size + 1 + 1, 1, none⟩ u1).setCell ⟨w.heap.size + 1 + 1, 2, none⟩ u2).setCell ⟨w.heap.size + 1 + 1, 3, none⟩ u3).cell? ⟨w.heap.size, 2, none⟩ = some (.slice AL nl cl) ∧ ((((W'.setCell ⟨w.heap.size + 1 + 1, 0, none⟩ u0).setCell ⟨w.heap.size + 1 + 1, 1, none⟩ u1).setCell ⟨w.heap.size + 1 + 1, 2, none⟩ u2).setCell ⟨w.heap.size + 1 + 1, 3, none⟩ u3).cell? ⟨w.heap.size, 3, none⟩ = some (.slice AD nd cd) ∧ ((((W'.setCell ⟨w.heap.size + 1 + 1, 0, none⟩ u0).setCell ⟨w.heap.size + 1 + 1, 1, none⟩ u1).setCell ⟨w.heap.size + 1 + 1, 2, none⟩ u2).setCell ⟨w.heap.size + 1 + 1, 3, none⟩ u3).cell? ⟨w.heap.size + 1, 0, none⟩ = some (.int .i64 t.pl) ∧ ((((W'.setCell ⟨w.heap.size + 1 + 1, 0, none⟩ u0).setCell ⟨w.heap.size + 1 + 1, 1, none⟩ u1).setCell ⟨w.heap.size + 1 + 1, 2, none⟩ u2).setCell ⟨w.heap.size + 1 + 1, 3, none⟩ u3).cell? ⟨w.heap.size + 1, 1, none⟩ = some (.slice AR nr cr) ∧ ((((W'.setCell ⟨w.heap.size + 1 + 1, 0, none⟩ u0).setCell ⟨w.heap.size + 1 + 1, 1, none⟩ u1).setCell ⟨w.heap.size + 1 + 1, 2, none⟩ u2).setCell ⟨w.heap.size + 1 + 1, 3, none⟩ u3).cell? ⟨w.heap.size + 1, 2, none⟩ = some (.slice AS ns cs) ∧ ((((W'.setCell ⟨w.heap.size + 1 + 1, 0, none⟩ u0).setCell ⟨w.heap.size + 1 + 1, 1, none⟩ u1).setCell ⟨w.heap.size + 1 + 1, 2, none⟩ u2).setCell ⟨w.heap.size + 1 + 1, 3, none⟩ u3).cell? ⟨w.heap.size + 1, 3, none⟩ = some (.int .i64 t.st) from by rw [e _ _ (by omega), e _ _ (by omega), e _ _ (by omega), e _ _ (by omega), e _ _ (by omega), e _ _ (by omega), e _ _ (by omega), e _ _ (by omega)]; exact h))
 have Z0 := Lib.hid z0
 have e0 : W0.drew.heap.size = W0.heap.size := rfl
 have E0 := Lib.hid e0
 clear z0 e0
 go_enter Try.func110, Try.ntmps110
 go_wp2_with fail
 rw [← HW.out]
 go_region_held3 (fun W' => W'.cell? ⟨w.heap.size, 0, none⟩ = some (.slice AT0 nt ct0) ∧ W'.cell? ⟨w.heap.size, 1, none⟩ = some (.slice AC nc cc) ∧ W'.cell? ⟨w.heap.size, 2, none⟩ = some (.slice AL nl cl) ∧ W'.cell? ⟨w.heap.size, 3, none⟩ = some (.slice AD nd cd) ∧ W'.cell? ⟨w.heap.size + 1, 0, none⟩ = some (.int .i64 t.pl) ∧ W'.cell? ⟨w.heap.size + 1, 1, none⟩ = some (.slice AR nr cr) ∧ W'.cell? ⟨w.heap.size + 1, 2, none⟩ = some (.slice AS ns cs) ∧ W'.cell? ⟨w.heap.size + 1, 3, none⟩ = some (.int .i64 t.st))
  (first | (exact SX.out _ hb1) | (exact SX.out _ hb12) | (exact SX.out _ hb13) | (exact SX.out _ hb14) | (exact SY.out _ hb14 _ _ _ _) | go_keep)
  (first | (go_at_call 127; refine (threadsWith_any (k := k) (HM0.out.keep ((Below.refl _ _).drew)).ths (HT0.out.keep ((Below.refl _ _).drew)) hr hs sT (fun i h => ⟨HS.out.regs i h, HS.out.stack i h⟩)).mono ?_; rintro e w1 ⟨vt, xs, rfl, hb1, ha1⟩; obtain ⟨AT, ct, rfl⟩ := ha1.slice; have hb1' : Below W0.heap.size W0.drew w1 := hb1) | (go_at_call 93; (with_reducible refine (copyNums_nm HS.out.cells (HM0.out.keep ((Below.refl _ _).drew.trans hb1')).cells).mono ?_); rintro e w2 ⟨v2, rfl, hr2, hb2⟩; obtain ⟨A2, c2, e2, _⟩ := hr2.arg.form; subst e2; have hb12 : Below W0.drew.heap.size W0.drew w2 := hb1.trans (hb2.mono hb1.size); have hb12' : Below W0.heap.size W0.drew w2 := hb12) | (go_at_call 93; (with_reducible refine (copyNums_nm HS.out.locks (HM0.out.keep ((Below.refl _ _).drew.trans hb12')).locks).mono ?_); rintro e w3 ⟨v3, rfl, hr3, hb3⟩; obtain ⟨A3, c3, e3, _⟩ := hr3.arg.form; subst e3; have hb13 : Below W0.drew.heap.size W0.drew w3 := hb12.trans (hb3.mono hb12.size); have hb13' : Below W0.heap.size W0.drew w3 := hb13) | (go_at_call 93; (with_reducible refine (copyNums_nm HS.out.told (HM0.out.keep ((Below.refl _ _).drew.trans hb13')).told).mono ?_); rintro e w4 ⟨v4, rfl, hr4, hb4⟩; obtain ⟨A4, c4, e4, _⟩ := hr4.arg.form; subst e4; have hb14 : Below W0.drew.heap.size W0.drew w4 := hb13.trans (hb4.mono hb13.size); have hb14' : Below W0.heap.size W0.drew w4 := hb14; have k0 := keeps hb14 r0; have i0 := keepz (W := W0.drew) hb14 r0 f0; have k1 := keeps hb14 r1; have i1 := keepz (W := W0.drew) hb14 r1 f1; have k2 := keeps hb14 r2; have i2 := keepz (W := W0.drew) hb14 r2 f2; have k3 := keeps hb14 r3; have i3 := keepz (W := W0.drew) hb14 r3 f3))
 have s0 := hb1.size
 have s1 := hb2.size
 have s2 := hb3.size
 have s3 := hb4.size
 have z0 := Z0.out
 have e0 := E0.out
 have A1 := ((ha1.keep hb2).keep hb3).keep hb4
 have A1' := A1.own
 rw [List.length_set] at A1'
 have C1 := (hr2.keep hb3).keep hb4
 have L1 := hr3.keep hb4
 have bt := Lib.hid ha1.lt
 have bc := Lib.hid hr2.bd
 have bl := Lib.hid hr3.bd
 have bd := Lib.hid hr4.bd
 have W4 := B0.out.trans (((Below.refl _ _).drew.trans hb14').mono B0.out.size)
 have z4 : w.heap.size + 2 < w4.heap.size := by omega
 clear e0
 go_wp2
 refine bodyPost_ret (v := .agg #[.slice AT m.ths.length ct, .slice A2 m.cells.length c2, .slice A3 m.locks.length c3, .slice A4 m.told.length c4]) (by simp [results, Try.results110, go_sem, k0, k1, k2, k3]) rfl ⟨_, _, _, _, xs, rfl, ?_, ?_, ?_, ?_, ?_, ?_⟩
 ·repeat (refine Below.setCell ?_ (by simp; try omega) _)
  exact W4
 ·refine OwnThs.mono (B := W0.heap.size) ?_ (by omega)
  repeat (refine OwnThs.setOther ?_ _ (by simp; try omega))
  exact A1'
 ·refine IntRow.mono (base := W0.heap.size) ?_ (by omega)
  repeat (refine IntRow.setOther ?_ _ (by intro b hb; have := (bc.out b hb).1; have := E0.out; simp; omega))
  exact C1.mono (by have e0 := E0.out; omega)
 ·refine IntRow.mono (base := W0.heap.size) ?_ (by omega)
  repeat (refine IntRow.setOther ?_ _ (by intro b hb; have := (bl.out b hb).1; have := E0.out; simp; omega))
  exact L1.mono (by have e0 := E0.out; omega)
 ·refine IntRow.mono (base := W0.heap.size) ?_ (by omega)
  repeat (refine IntRow.setOther ?_ _ (by intro b hb; have := (bd.out b hb).1; have := E0.out; simp; omega))
  exact hr4.mono (by have e0 := E0.out; omega)
 ·exact apart3 ha1.apart (fun u hu k e => (bt.out u (List.mem_cons_of_mem _ hu) k e).2) (fun k e => bc.out k e) (fun k e => bl.out k e) (fun k e => (bd.out k e).1) s1 s2
end Go.Proofs.Ytminfkedkkkhdaa
