/-
  Part of a proof: MarkM, OwnB, New, Sz, NewL, App. No condition.
-/
import Derived.Test.YtminfkedkkkhdaaZAar
import Derived.Test.YtminfkedkkkhdaaZAaj
import Derived.Deep.RegionHeld3
import Derived.Test.YtminfkedkkkhdaaZAah
section
namespace Go.Proofs.Ytminfkedkkkhdaa
open Go.RowKit
section
variable {w w' : World} {B g n cap : Nat} {ts : List Bt.Th} {xs : List (Value × Value)} {i : Nat} {t : Bt.Th} {x : Value × Value}
end
theorem OwnMc.rows {w : World} {B : Nat} {vt vc vl vd : Value} {xs : List (Value × Value)} {m : Bt.Mc} (h : OwnMc w B vt vc vl vd xs m) : (rowsOf xs).Pairwise Apart ∧ (∀ u ∈ rowsOf xs, Apart u vc ∧ Apart u vl ∧ Apart u vd) ∧ Apart vc vl ∧ Apart vc vd ∧ Apart vl vd := by
 have h1 := h.apart
 rw [List.pairwise_append] at h1
 obtain ⟨a, b, c⟩ := h1
 simp only [List.pairwise_cons, List.mem_cons, List.not_mem_nil, or_false, forall_eq_or_imp, forall_eq] at b
 exact ⟨a, fun u hu => ⟨c u hu vc (by simp), c u hu vl (by simp), c u hu vd (by simp)⟩, b.1.1, b.1.2, b.2.1⟩
def mcVals (vt vc vl vd : Value) (xs : List (Value × Value)) : List Value := vt :: (rowsOf xs ++ [vc, vl, vd])
end Go.Proofs.Ytminfkedkkkhdaa
end
section
namespace Go.Proofs.Ytminfkedkkkhdaa
open Go.RowKit
theorem OwnMc.bd {w : World} {B : Nat} {vt vc vl vd : Value} {xs : List (Value × Value)} {m : Bt.Mc} (h : OwnMc w B vt vc vl vd xs m) : ∀ u ∈ mcVals vt vc vl vd xs, ∀ k, u.ownBlock = some k → B ≤ k ∧ k < w.heap.size := by
 intro u hu k e
 unfold mcVals at hu
 simp only [List.mem_cons, List.mem_append, List.not_mem_nil, or_false] at hu
 rcases hu with rfl | hu | rfl | rfl | rfl
 ·obtain ⟨L, hL, _⟩ := h.ths.row
  exact World.ownsRow.lt hL _ e
 ·obtain ⟨i, hi, he⟩ := rowsOf_mem hu
  have hi' : i < m.ths.length := by rw [← h.ths.len]; exact hi
  have := h.ths.ints i hi' hi
  rcases he with rfl | rfl
  ·exact this.1.bd _ e
  ·exact this.2.bd _ e
 ·exact h.cells.bd _ e
 ·exact h.locks.bd _ e
 ·exact h.told.bd _ e
theorem OwnMc.slices {w : World} {B : Nat} {vt vc vl vd : Value} {xs : List (Value × Value)} {m : Bt.Mc} (h : OwnMc w B vt vc vl vd xs m) : ∃ AT ct AC cc AL cl AD cd, vt = .slice AT m.ths.length ct ∧ vc = .slice AC m.cells.length cc ∧ vl = .slice AL m.locks.length cl ∧ vd = .slice AD m.told.length cd := by
 obtain ⟨AC, cc, e1, _⟩ := h.cells.arg.form
 obtain ⟨AL, cl, e2, _⟩ := h.locks.arg.form
 obtain ⟨AD, cd, e3, _⟩ := h.told.arg.form
 rcases h.ths.forms with ⟨e, e'⟩ | ⟨g, cap, e, _⟩
 ·exact ⟨none, 0, AC, cc, AL, cl, AD, cd, by rw [e, e']; rfl, e1, e2, e3⟩
 ·exact ⟨some ⟨g, 0, none⟩, cap, AC, cc, AL, cl, AD, cd, e, e1, e2, e3⟩
theorem OwnMc.mono {w : World} {B B' : Nat} {vt vc vl vd : Value} {xs : List (Value × Value)} {m : Bt.Mc} (h : OwnMc w B vt vc vl vd xs m) (hB : B' ≤ B) : OwnMc w B' vt vc vl vd xs m := ⟨h.ths.mono hB, h.cells.mono hB, h.locks.mono hB, h.told.mono hB, h.apart⟩
theorem OwnMc.setOther {w : World} {B : Nat} {vt vc vl vd : Value} {xs : List (Value × Value)} {m : Bt.Mc} (h : OwnMc w B vt vc vl vd xs m) {p : Addr} (u : Value) (hp : p.block < B) : OwnMc (w.setCell p u) B vt vc vl vd xs m :=
 ⟨h.ths.setOther u hp, h.cells.setOther u (fun b e => by have := (h.cells.bd b e).1; omega), h.locks.setOther u (fun b e => by have := (h.locks.bd b e).1; omega), h.told.setOther u (fun b e => by have := (h.told.bd b e).1; omega), h.apart⟩
end Go.Proofs.Ytminfkedkkkhdaa
end
section
namespace Go.Proofs.Ytminfkedkkkhdaa
open Go.RowKit
def NumsMade (xs : List Int) (w : World) (e : Ending) (w' : World) : Prop := ∃ v, e = .returned v ∧ IntRow w' w.heap.size v xs ∧ Below w.heap.size w w'
theorem grown_below_of {B : Nat} {w w' : World} {row : Option Nat} (h : w.grownBy w' row) (hr : ∀ k, row = some k → B ≤ k) (hB : B ≤ w.heap.size) : Below B w w' :=
 ⟨h.os, h.tape, h.output, h.size, fun k hk => h.block k (by omega) (fun e => by have := hr k e.symm; omega)⟩
set_option maxRecDepth 100000 in
set_option maxHeartbeats 2000000 in
theorem numbersOf_any (many : Nat) (q : Int) (w : World) (hn : many ≤ 1048576) :
  Calls Try.prog 108 #[.int .i64 (many : Int), .int .i64 q] w (NumsMade (List.replicate many q) w) := by
 have H0 := Lib.hid (IntRow.lit w [] (by simp))
 unfold NumsMade
 go_enter Try.func108, Try.ntmps108
 go_wp2
 go_loopw [5, 6] (fun o i wr => ∃ k : Nat, k ≤ many ∧ i = .int .i64 k ∧ (∃ v, v = o ∧ IntRow wr w.heap.size v (List.replicate k q)) ∧ Below w.heap.size w wr) (fun _ i _ => many - (intOf i).toNat)
 case atStart => exact ⟨0, Nat.zero_le _, rfl, ⟨_, rfl, by simpa using H0.out⟩, (Below.refl _ _).alloc (Nat.le_refl _) _⟩
 case round =>
  obtain ⟨k, hk, rfl, ⟨v, hv, hr⟩, hb⟩ := hrel
  subst hv
  have HR := Lib.hid hr; clear hr
  have HB := Lib.hid hb
  have hsz := hb.size
  clear hb
  by_cases hlt : k < many
  ·go_wp2_with (at_builtin; refine wp_app_int rfl _ _ rfl w.heap.size v (List.replicate k q) rfl ?ca _ 1 q rfl ?cb ?cc ?cd ?_; (case ca => exact HR.out.keep ((Below.refl _ _).alloc (Nat.le_refl _) _)); (case cb => simp); (case cc => simp; omega); (case cd => simp; omega); intro v2 w2 hr2 hg2; have HR2 := Lib.hid hr2; clear hr2; have HG2 := Lib.hid hg2; clear hg2)
   go_roundw
   case rel =>
    refine ⟨k + 1, by omega, by go_num, ?_, ?_⟩
    ·exact ⟨_, rfl, by rw [List.replicate_succ']; exact HR2.out⟩
    ·exact (HB.out.alloc hsz _).trans (grown_below_of HG2.out (fun j e => (HR.out.bd j e).1) (by simp; omega))
   case measure => simp [intOf]; omega
  ·obtain rfl : k = many := by omega
   go_wp2
   go_ret
   exact ⟨_, rfl, HR.out, HB.out⟩
set_option maxHeartbeats 1000000 in
theorem copyNums_any (v : Value) (xs : List Int) (w : World) (hn : xs.length ≤ 1048576) (hv : ArgInts w v xs) :
  Calls Try.prog 93 #[v] w (CopyInts xs w) := by
 obtain ⟨A, cap, rfl, hv⟩ := hv.form
 unfold CopyInts
 generalize hN : xs.length = n at *
 obtain ⟨hc, hr⟩ := hv.at_ hN
 have HN := Lib.hid hN; clear hN
 have HR := Lib.hid hr; clear hr hv
 have hmk := run_make_ints n hn
 go_enter Try.func93, Try.ntmps93
 go_wp2
 clear hmk
 go_loopw [10] (fun i wr => ∃ k : Nat, k ≤ n ∧ i = .int .i64 k ∧ Below w.heap.size w wr ∧ ∃ ys : List Int, ys.length = n ∧ IntRow wr w.heap.size (.slice (some ⟨w.heap.size, 0, none⟩) n n) ys ∧ ∀ j (hj : j < xs.length) (hj' : j < ys.length), j < k → ys[j] = xs[j]) (fun i _ => n - (intOf i).toNat)
 case atStart => exact ⟨0, Nat.zero_le _, rfl, (Below.refl _ _).alloc (Nat.le_refl _) _, _, by simp, IntRow.made w n hn, fun _ _ _ hj => absurd hj (by omega)⟩
 case round =>
  obtain ⟨k, hk, rfl, hb, ys, hys, hrow, hall⟩ := hrel
  have HA := Lib.hid hall; clear hall
  have HB := Lib.hid hb
  have HY := Lib.hid hys; clear hys
  have HW := Lib.hid hrow; clear hrow
  by_cases hlt : k < n
  ·have hlt' : k < xs.length := by rw [HN.out]; exact hlt
   have hly' : k < ys.length := by rw [HY.out]; exact hlt
   obtain ⟨b, o, rfl, f0⟩ := HR.out k hlt'
   have f1 := keeps hb f0
   clear f0
   generalize hq : xs[k] = q at *
   have HQ := Lib.hid hq; clear hq
   have c0 : wr.cell? ⟨w.heap.size, k, none⟩ = some (.int .i64 ys[k]) := IntRow.cell (by rw [HY.out]; exact HW.out) k hly'
   have hz : wr.frozen? ⟨w.heap.size, k, none⟩ = false := World.ownsRow.frozenAt (HY.out ▸ HW.out) k
   clear hb
   go_wp2
   go_roundw
   case rel =>
    refine ⟨k + 1, by omega, by go_num, HB.out.setCell (Nat.le_refl _) _, ys.set k q, by rw [List.length_set]; exact HY.out, IntRow.stored HW.out HY.out _ _, fun j hj hj' hjk => ?_⟩
    rw [List.length_set] at hj'
    by_cases e : j = k
    ·subst e; rw [List.getElem_set_self, HQ.out]
    ·rw [List.getElem_set_ne (by omega)]
     exact HA.out j hj hj' (by omega)
   case measure => simp [intOf]; omega
  ·obtain rfl : k = n := by omega
   have HE : Hid (ys = xs) := Lib.hid (List.ext_getElem (by rw [HY.out, HN.out]) (fun j hj hj' => HA.out j hj' hj (by have := HN.out; omega)))
   clear hb
   go_wp2
   go_ret
   exact ⟨rfl, HB.out, HE.out ▸ HW.out⟩
theorem copyNums_n {v : Value} {xs : List Int} {n : Nat} {w : World} (h : xs.length = n) (hn : n ≤ 1048576) (hv : ArgInts w v xs) :
  Calls Try.prog 93 #[v] w fun e w' => e = .returned (.slice (some ⟨w.heap.size, 0, none⟩) n n) ∧ Below w.heap.size w w' ∧ IntRow w' w.heap.size (.slice (some ⟨w.heap.size, 0, none⟩) n n) xs := by
 subst h
 exact copyNums_any v xs w hn hv
set_option maxHeartbeats 1000000 in
theorem threadAt_any (at' : Int) (v : Value) (xs : List Int) (n : Nat) (w : World) (h : xs.length = n) (hn : n ≤ 1048576) (hv : ArgInts w v xs) :
  Calls Try.prog 107 #[.int .i64 at', v] w fun e w' => e = .returned (.agg #[.int .i64 at', .slice (some ⟨w.heap.size + 1, 0, none⟩) n n, .slice none 0 0, .int .i64 0]) ∧ Below w.heap.size w w' ∧ IntRow w' (w.heap.size + 1) (.slice (some ⟨w.heap.size + 1, 0, none⟩) n n) xs := by
 have HV := Lib.hid hv; clear hv
 have HN := Lib.hid h; clear h
 go_enter Try.func107, Try.ntmps107
 go_wp2_with fail
 refine (copyNums_n HN.out hn (HV.out.keep ((Below.refl _ _).alloc (Nat.le_refl _) _))).mono ?_
 rintro e w1 ⟨rfl, hb1, hr1⟩
 obtain ⟨hc1, hf1⟩ := bcell hb1
 have R1 : Hid (IntRow w1 (w.heap.size + 1) (.slice (some ⟨w.heap.size + 1, 0, none⟩) n n) xs) := Lib.hid (by simpa using hr1)
 have W1 : Below w.heap.size w w1 := ((Below.refl w.heap.size w).alloc (Nat.le_refl _) _).trans (hb1.mono (by simp))
 have hz : w.heap.size < w1.heap.size := by have := hb1.size; simp at this; omega
 have e0 : w1.cell? ⟨w.heap.size, 0, none⟩ = some (.int .i64 0) := keeps hb1 (by simp)
 have e1 : w1.cell? ⟨w.heap.size, 1, none⟩ = some (.slice none 0 0) := keeps hb1 (by simp)
 have e2 : w1.cell? ⟨w.heap.size, 2, none⟩ = some (.slice none 0 0) := keeps hb1 (by simp)
 have e3 : w1.cell? ⟨w.heap.size, 3, none⟩ = some (.int .i64 0) := keeps hb1 (by simp)
 clear hr1
 go_wp2
 refine bodyPost_ret (v := .agg #[.int .i64 at', .slice (some ⟨w.heap.size + 1, 0, none⟩) n n, .slice none 0 0, .int .i64 0]) (by simp [results, Try.results107, go_sem, e0, e1, e2, e3]) rfl ⟨rfl, ?_, ?_⟩
 ·repeat (refine Below.setCell ?_ (by simp; try omega) _)
  exact W1
 ·repeat (refine IntRow.setOther ?_ _ (by intro b hb; simp [Value.ownBlock] at hb; simp; omega))
  exact R1.out
end Go.Proofs.Ytminfkedkkkhdaa
end
section
namespace Go.Proofs.Ytminfkedkkkhdaa
open Go.ChangeShapes Go.WideShapes Go.ChangeAt Go.RowKit Go.Joins
def Four (w : World) (g : Nat) (a b c d : Value) : Prop := w.cell? ⟨g, 0, none⟩ = some a ∧ w.cell? ⟨g, 1, none⟩ = some b ∧ w.cell? ⟨g, 2, none⟩ = some c ∧ w.cell? ⟨g, 3, none⟩ = some d ∧
 w.frozen? ⟨g, 0, none⟩ = false ∧ w.frozen? ⟨g, 1, none⟩ = false ∧ w.frozen? ⟨g, 2, none⟩ = false ∧ w.frozen? ⟨g, 3, none⟩ = false
theorem Four.keep {w w' : World} {g : Nat} {a b c d : Value} (h : Four w g a b c d) (hb : Below w.heap.size w w') : Four w' g a b c d := by
 obtain ⟨h0, h1, h2, h3, f0, f1, f2, f3⟩ := h
 exact ⟨keeps hb h0, keeps hb h1, keeps hb h2, keeps hb h3, (hb.frozen (cell_lt h0)).trans f0, (hb.frozen (cell_lt h1)).trans f1, (hb.frozen (cell_lt h2)).trans f2, (hb.frozen (cell_lt h3)).trans f3⟩
end Go.Proofs.Ytminfkedkkkhdaa
end
section
namespace Go.Proofs.Ytminfkedkkkhdaa
open Go.RowKit
namespace Bt
def mcNew : Mc := ⟨[⟨0, [0, 0, 0, 0], [], 0⟩], [0, 0, 0, 0, 0, 0, 0, 0], [-1, -1], []⟩
end Bt
def McNew (m : Bt.Mc) (w : World) (e : Ending) (w' : World) : Prop :=
 ∃ vt vc vl vd xs, e = .returned (.agg #[vt, vc, vl, vd]) ∧ Below w.heap.size w w' ∧ OwnMc w' w.heap.size vt vc vl vd xs m
theorem OwnThs.lit1 (w : World) (B : Nat) (t : Bt.Th) (r s : Value) (hB : B ≤ w.heap.size) (hr : IntRow w B r t.regs) (hs : IntRow w B s t.stack) :
  OwnThs (w.alloc (.cells #[.int .i64 t.pl, r, s, .int .i64 t.st] 123)) B (.slice (some ⟨w.heap.size, 0, none⟩) 1 1) [t] [(r, s)] := by
 have hb : Below w.heap.size w (w.alloc (.cells #[.int .i64 t.pl, r, s, .int .i64 t.st] 123)) := (Below.refl _ _).alloc (Nat.le_refl _) _
 refine ⟨rfl, ⟨[.int .i64 t.pl, r, s, .int .i64 t.st], Joins.ownsRow_le (World.ownsRow_lit (base := w.heap.size) (e := 123) (size := 4) w #[.int .i64 t.pl, r, s, .int .i64 t.st] 1 (Nat.le_refl _) (by decide) rfl) hB, fun i hi hi' => ?_⟩, fun i hi hi' => ?_⟩
 ·have : i = 0 := by simp at hi; omega
  subst this
  exact ⟨rfl, rfl, rfl, rfl⟩
 ·have : i = 0 := by simp at hi; omega
  subst this
  exact ⟨hr.keep hb, hs.keep hb⟩
set_option maxRecDepth 100000 in
set_option maxHeartbeats 2000000 in
theorem implNew_any (w : World) : Calls Try.prog 72 #[] w (McNew Bt.mcNew w) := by
 unfold McNew
 go_enter Try.func72, Try.ntmps72
 go_wp2_with fail
 refine (numbersOf_any 4 0 _ (by decide)).mono ?_
 rintro e w1 ⟨v1, rfl, hr1, hb1⟩
 have R1 : Hid (IntRow w1 (w.heap.size + 1) v1 [0, 0, 0, 0]) := Lib.hid (by simpa using hr1)
 have W1 : Below w.heap.size w w1 := ((Below.refl w.heap.size w).alloc (Nat.le_refl _) _).trans (hb1.mono (by simp))
 have hz1 : w.heap.size + 1 ≤ w1.heap.size := by have := hb1.size; simpa using this
 have b0 : w1.cell? ⟨w.heap.size, 0, none⟩ = some (.slice none 0 0) := keeps hb1 (by simp)
 have b1 : w1.cell? ⟨w.heap.size, 1, none⟩ = some (.slice none 0 0) := keeps hb1 (by simp)
 have b2 : w1.cell? ⟨w.heap.size, 2, none⟩ = some (.slice none 0 0) := keeps hb1 (by simp)
 have b3 : w1.cell? ⟨w.heap.size, 3, none⟩ = some (.slice none 0 0) := keeps hb1 (by simp)
 have f0 : w1.frozen? ⟨w.heap.size, 0, none⟩ = false := (hb1.frozen (by simp)).trans (by simp)
 have f1 : w1.frozen? ⟨w.heap.size, 1, none⟩ = false := (hb1.frozen (by simp)).trans (by simp)
 have f2 : w1.frozen? ⟨w.heap.size, 2, none⟩ = false := (hb1.frozen (by simp)).trans (by simp)
 have f3 : w1.frozen? ⟨w.heap.size, 3, none⟩ = false := (hb1.frozen (by simp)).trans (by simp)
 clear hr1 hb1
 go_wp2_with fail
 refine (threadAt_any 0 v1 [0, 0, 0, 0] 4 _ rfl (by decide) R1.out.arg).mono ?_
 rintro e w2 ⟨rfl, hb2, hr2⟩
 have R2 := Lib.hid hr2
 have W2 := Lib.hid (W1.trans (hb2.mono W1.size))
 have hz2 : w1.heap.size + 1 < w2.heap.size := (hr2.bd _ rfl).2
 have T2 := Lib.hid (OwnThs.lit1 w2 (w1.heap.size + 1) ⟨0, [0, 0, 0, 0], [], 0⟩ _ _ (by omega) hr2 (IntRow.nil w2 (w1.heap.size + 1)))
 have BA := Lib.hid (show Below w2.heap.size w2 (w2.alloc (.cells #[.int .i64 0, .slice (some ⟨w1.heap.size + 1, 0, none⟩) 4 4, .slice none 0 0, .int .i64 0] 123)) from (Below.refl _ _).alloc (Nat.le_refl _) _)
 have c0 := keeps hb2 b0
 have c1 := keeps hb2 b1
 have c2 := keeps hb2 b2
 have c3 := keeps hb2 b3
 have g0 := (hb2.frozen (cell_lt b0)).trans f0
 have g1 := (hb2.frozen (cell_lt b1)).trans f1
 have g2 := (hb2.frozen (cell_lt b2)).trans f2
 have g3 := (hb2.frozen (cell_lt b3)).trans f3
 clear b0 b1 b2 b3 f0 f1 f2 f3 hr2 hb2
 go_wp2_with fail
 refine (numbersOf_any 8 0 _ (by decide)).mono ?_
 rintro e w3 ⟨v3, rfl, hr3, hb3⟩
 obtain ⟨A3, n3, e3, _⟩ := hr3.arg.form
 subst e3
 simp only [List.length_replicate] at hr3
 simp only [List.length_replicate]
 have R3 : Hid (IntRow w3 (w2.heap.size + 1) (.slice A3 8 n3) [0, 0, 0, 0, 0, 0, 0, 0]) := Lib.hid (by simpa using hr3)
 have HB3 := Lib.hid (BA.out.trans (hb3.mono (by simp)))
 have hz3 : w2.heap.size + 1 ≤ w3.heap.size := by have := hb3.size; simpa using this
 have d0 := keeps HB3.out c0
 have d1 := keeps HB3.out c1
 have d2 := keeps HB3.out c2
 have d3 := keeps HB3.out c3
 have h0 := (HB3.out.frozen (cell_lt c0)).trans g0
 have h1 := (HB3.out.frozen (cell_lt c1)).trans g1
 have h2 := (HB3.out.frozen (cell_lt c2)).trans g2
 have h3 := (HB3.out.frozen (cell_lt c3)).trans g3
 have T3 := Lib.hid (T2.out.keep hb3)
 clear c0 c1 c2 c3 g0 g1 g2 g3 hr3 hb3
 go_wp2_with fail
 refine (numbersOf_any 2 (-1) _ (by decide)).mono ?_
 rintro e w4 ⟨v4, rfl, hr4, hb4⟩
 obtain ⟨A4, n4, e4, _⟩ := hr4.arg.form
 subst e4
 simp only [List.length_replicate] at hr4
 simp only [List.length_replicate]
 have R4 : Hid (IntRow w4 w3.heap.size (.slice A4 2 n4) [-1, -1]) := Lib.hid (by simpa using hr4)
 have T4 := Lib.hid (T3.out.keep hb4)
 have R34 := Lib.hid (R3.out.keep hb4)
 have W4 := Lib.hid ((W2.out.trans (HB3.out.mono W2.out.size)).trans (hb4.mono (by have := W2.out.size; omega)))
 have k0 := keeps hb4 d0
 have k1 := keeps hb4 d1
 have k2 := keeps hb4 d2
 have k3 := keeps hb4 d3
 have i0 := (hb4.frozen (cell_lt d0)).trans h0
 have i1 := (hb4.frozen (cell_lt d1)).trans h1
 have i2 := (hb4.frozen (cell_lt d2)).trans h2
 have i3 := (hb4.frozen (cell_lt d3)).trans h3
 have hz4 := hb4.size
 have bd3 := Lib.hid R3.out.bd
 clear d0 d1 d2 d3 h0 h1 h2 h3 hr4 hb4
 go_wp2
 refine bodyPost_ret (v := .agg #[.slice (some ⟨w2.heap.size, 0, none⟩) 1 1, .slice A3 8 n3, .slice A4 2 n4, .slice none 0 0]) (by simp [results, Try.results72, go_sem, k0, k1, k2, k3]) rfl ⟨_, _, _, _, [(.slice (some ⟨w1.heap.size + 1, 0, none⟩) 4 4, .slice none 0 0)], rfl, ?_, ?_, ?_, ?_, ?_, ?_⟩
 ·repeat (refine Below.setCell ?_ (by simp; try omega) _)
  exact W4.out
 ·refine OwnThs.mono (B := w.heap.size + 1) ?_ (by omega)
  repeat (refine OwnThs.setOther ?_ _ (by simp; try omega))
  exact T4.out.mono (by omega)
 ·refine IntRow.mono (base := w.heap.size + 1) ?_ (by omega)
  repeat (refine IntRow.setOther ?_ _ (by intro b hb; have := (R34.out.bd b hb).1; simp; omega))
  exact R34.out.mono (by omega)
 ·refine IntRow.mono (base := w.heap.size + 1) ?_ (by omega)
  repeat (refine IntRow.setOther ?_ _ (by intro b hb; have := (R4.out.bd b hb).1; simp; omega))
  exact R4.out.mono (by omega)
 ·exact IntRow.nil _ _
 ·have a0 : ∀ k, (Value.slice (some ⟨w1.heap.size + 1, 0, none⟩) 4 4).ownBlock = some k → k < w2.heap.size := by
   intro k e; simp [Value.ownBlock] at e; omega
  have a3 : ∀ k, (Value.slice A3 8 n3).ownBlock = some k → w2.heap.size ≤ k ∧ k < w3.heap.size := fun k e => by have := bd3.out k e; omega
  have a4 : ∀ k, (Value.slice A4 2 n4).ownBlock = some k → w3.heap.size ≤ k := fun k e => (R4.out.bd k e).1
  have an : ∀ u : Value, Apart (.slice none 0 0) u := fun u b e => by simp [Value.ownBlock] at e
  simp only [rowsOf, List.flatMap_cons, List.flatMap_nil, List.append_nil, List.cons_append, List.nil_append, List.pairwise_cons, List.mem_cons, List.not_mem_nil, or_false, forall_eq_or_imp, forall_eq, List.Pairwise.nil, and_true, false_implies, implies_true]
  refine ⟨⟨(an _).symm, Apart.of_lt a0 (fun k e => (a3 k e).1), Apart.of_lt a0 (fun k e => by have := a4 k e; omega), (an _).symm⟩, ⟨an _, an _, an _⟩, ⟨Apart.of_lt (fun k e => (a3 k e).2) a4, (an _).symm⟩, (an _).symm⟩
theorem good_gen {P : Program} {ops : List Oper} {F : List Fact} {C : World → Prop} {i : Nat} {o : Oper} {A : Act} {w w' : World} {v : Value} (h : (execOp A.eval o).run P w = .ok (.value v) w') (hg : Grows o w v w') (hC : C w')
  (hb : (Below w.heap.size w w' ∨ ∀ j, j ≠ i → (∀ k, (F.getD j Fact.none').kill = some k → k ≠ i ∧ k ∉ anc ops ops.length i) → factAt F j (slotAt A) w → factAt F j (slotAt A) w')) (hf : factAt F i (put1 A o v) w') :
  surely P o A w fun v w' => Grows o w v w' ∧ C w' ∧ (Below w.heap.size w w' ∨ ∀ j, j ≠ i → (∀ k, (F.getD j Fact.none').kill = some k → k ≠ i ∧ k ∉ anc ops ops.length i) → factAt F j (slotAt A) w → factAt F j (slotAt A) w') ∧ factAt F i (put1 A o v) w' := surely_value h ⟨hg, hC, hb, hf⟩
theorem good_gen' {P : Program} {ops : List Oper} {F : List Fact} {C : World → Prop} {i : Nat} {o : Oper} {A : Act} {w w' : World} (h : (execOp A.eval o).run P w = .ok .skip w') (hg : Grows o w undef w') (hC : C w')
  (hb : (Below w.heap.size w w' ∨ ∀ j, j ≠ i → (∀ k, (F.getD j Fact.none').kill = some k → k ≠ i ∧ k ∉ anc ops ops.length i) → factAt F j (slotAt A) w → factAt F j (slotAt A) w')) (hf : factAt F i (put1 A o undef) w') :
  surely P o A w fun v w' => Grows o w v w' ∧ C w' ∧ (Below w.heap.size w w' ∨ ∀ j, j ≠ i → (∀ k, (F.getD j Fact.none').kill = some k → k ≠ i ∧ k ∉ anc ops ops.length i) → factAt F j (slotAt A) w → factAt F j (slotAt A) w') ∧ factAt F i (put1 A o v) w' := surely_skip h ⟨hg, hC, hb, hf⟩
end Go.Proofs.Ytminfkedkkkhdaa
end
section
namespace Go.Proofs.Ytminfkedkkkhdaa
open Go.RowKit
theorem surely_app_int {o : Oper} {a : Act} {w : World} {R : Value → World → Prop} (s x : Operand)
  (ho : o.op = .call { callee := .builtin .append, args := #[s, x], argTypes := #[29, 29] }) (base : Nat) (v : Value) (xs : List Int) (hs : a.eval s = v) (hown : IntRow w base v xs)
  (ad : Addr) (c : Nat) (q : Int) (hx : a.eval x = .slice (some ad) 1 c) (hq : w.cell? ad = some (.int .i64 q)) (hlen : xs.length ≤ 1099511627776) (hbase : base ≤ w.heap.size)
  (h : ∀ v' w', IntRow w' base v' (xs ++ [q]) → w.grownBy w' v.ownBlock → R v' w') : surely Try.prog o a w R := by
 obtain ⟨i, hi, hz⟩ := Option.map_eq_some_iff.1 infoInt
 simp only [Prod.mk.injEq] at hz
 obtain ⟨hz, hsz, hby⟩ := hz
 intro K Q hK
 refine wp_append_own (P := Try.prog) w s x 29 ho base 3 i (.int .i64 0) 1 8 Try.underlying29 hi hz hsz hby rfl (by decide) v xs.length (xs.map (Value.int .i64)) hs hown ad 1 c [.int .i64 q] hx rfl ?_ ?_ ?_ ?_ hbase ?_
 ·intro j u hu
  cases j with
  | zero =>
   simp only [List.getElem?_cons_zero, Option.some.injEq] at hu
   subst hu
   exact hq
  | succ j => simp at hu
 ·intro u hu
  simp only [List.mem_singleton] at hu
  subst hu
  rfl
 ·unfold maxLen; omega
 ·omega
 ·intro v' w' h1 h2 _
  refine hK v' w' (h v' w' ?_ h2)
  have e : (xs ++ [q]).length = xs.length + 1 := by simp
  unfold IntRow
  rw [e, List.map_append]
  exact h1
structure ThsAcc (w : World) (B : Nat) (v : Value) (ts : List Bt.Th) (xs : List (Value × Value)) : Prop where
 own : OwnThs w B v ts xs
 apart : (rowsOf xs).Pairwise Apart
theorem ThsAcc.keep {w w' : World} {B : Nat} {v : Value} {ts : List Bt.Th} {xs : List (Value × Value)} (h : ThsAcc w B v ts xs) (hb : Below w.heap.size w w') : ThsAcc w' B v ts xs := ⟨h.own.keep hb, h.apart⟩
theorem ThsAcc.lt {w : World} {B : Nat} {v : Value} {ts : List Bt.Th} {xs : List (Value × Value)} (h : ThsAcc w B v ts xs) : ∀ u ∈ v :: rowsOf xs, ∀ k, u.ownBlock = some k → B ≤ k ∧ k < w.heap.size := by
 intro u hu k e
 rcases List.mem_cons.1 hu with rfl | hu
 ·obtain ⟨L, hL, _⟩ := h.own.row
  exact World.ownsRow.lt hL _ e
 ·obtain ⟨i, hi, he⟩ := rowsOf_mem hu
  have hi' : i < ts.length := by rw [← h.own.len]; exact hi
  have := h.own.ints i hi' hi
  rcases he with rfl | rfl
  ·exact this.1.bd _ e
  ·exact this.2.bd _ e
theorem infoTh : (Try.prog.info? 123).map (fun i => (i.zero, i.size, i.bytes)) = some (some (.agg #[.int .i64 0, .slice none 0 0, .slice none 0 0, .int .i64 0]), 4, 64) := by kernel_rfl
theorem wp_app_th {ops : Array Oper} {rest : List Oper} {o : Oper} {a : Act} {Q : Exit → Act → World → Prop} {w : World} (hgd : o.guard = none) (s x : Operand)
  (ho : o.op = .call { callee := .builtin .append, args := #[s, x], argTypes := #[28, 28] }) (base : Nat) (v : Value) (ts : List Bt.Th) (xs : List (Value × Value)) (hs : a.eval s = v) (hown : ThsAcc w base v ts xs)
  (g c : Nat) (t : Bt.Th) (r k : Value) (hr : IntRow w base r t.regs) (hk : IntRow w base k t.stack) (hrk : Apart r k) (hnew : ∀ u ∈ rowsOf xs, Apart u r ∧ Apart u k) (hx : a.eval x = .slice (some ⟨g, 0, none⟩) 1 c)
  (h0 : w.cell? ⟨g, 0, none⟩ = some (.int .i64 t.pl)) (h1 : w.cell? ⟨g, 1, none⟩ = some r) (h2 : w.cell? ⟨g, 2, none⟩ = some k) (h3 : w.cell? ⟨g, 3, none⟩ = some (.int .i64 t.st)) (hlen : ts.length ≤ 1048576) (hbase : base ≤ w.heap.size)
  (h : ∀ v' w', ThsAcc w' base v' (ts ++ [t]) (xs ++ [(r, k)]) → w.grownBy w' v.ownBlock → wpList Try.prog ops Q rest (a.put o.dst v') w') : wpList Try.prog ops Q (o :: rest) a w := by
 obtain ⟨i, hi, hz⟩ := Option.map_eq_some_iff.1 infoTh
 simp only [Prod.mk.injEq] at hz
 obtain ⟨hz, hsz, hby⟩ := hz
 obtain ⟨L, hL, hT⟩ := hown.own.row
 have hrs : ∃ A n c, r = .slice A n c := by
  obtain ⟨A, c, e, _⟩ := hr.arg.form
  exact ⟨A, _, c, e⟩
 have hks : ∃ A n c, k = .slice A n c := by
  obtain ⟨A, c, e, _⟩ := hk.arg.form
  exact ⟨A, _, c, e⟩
 refine wpList_append_own (P := Try.prog) w hgd s x 28 ho base 123 i (.agg #[.int .i64 0, .slice none 0 0, .slice none 0 0, .int .i64 0]) 4 64 Try.underlying28 hi hz hsz hby rfl (by decide) v ts.length L hs hL ⟨g, 0, none⟩ 1 c [.int .i64 t.pl, r, k, .int .i64 t.st] hx rfl ?_ ?_ ?_ ?_ hbase ?_
 ·intro j u hu
  rw [add_plain, Nat.zero_add]
  match j, hu with
  | 0, hu => simp at hu; subst hu; exact h0
  | 1, hu => simp at hu; subst hu; exact h1
  | 2, hu => simp at hu; subst hu; exact h2
  | 3, hu => simp at hu; subst hu; exact h3
  | j + 4, hu => simp at hu
 ·intro u hu
  obtain ⟨A1, n1, c1, rfl⟩ := hrs
  obtain ⟨A2, n2, c2, rfl⟩ := hks
  simp only [List.mem_cons, List.not_mem_nil, or_false] at hu
  rcases hu with rfl | rfl | rfl | rfl <;> rfl
 ·unfold maxLen; omega
 ·omega
 ·intro v' w' hrow hg _
  refine h v' w' ?_ hg
  have hv : ∀ u ys, IntRow w base u ys → u.ownBlock = none ∨ u.ownBlock ≠ v.ownBlock := fun u ys hu => by
   have ha := hown.own.apart hu
   exact ha.keep
  refine ⟨⟨by simp [hown.own.len], ⟨L ++ [.int .i64 t.pl, r, k, .int .i64 t.st], by rw [List.length_append]; exact hrow, fun j hj hj' => ?_⟩, fun j hj hj' => ?_⟩, ?_⟩
  ·have hl := hL.1
   by_cases hjl : j < ts.length
   ·have hjx : j < xs.length := by rw [hown.own.len]; exact hjl
    rw [List.getElem_append_left hjl, List.getElem_append_left hjx]
    obtain ⟨a0, a1, a2, a3⟩ := hT j hjl hjx
    refine ⟨?_, ?_, ?_, ?_⟩
    ·rw [List.getElem?_append_left (by omega)]; exact a0
    ·rw [List.getElem?_append_left (by omega)]; exact a1
    ·rw [List.getElem?_append_left (by omega)]; exact a2
    ·rw [List.getElem?_append_left (by omega)]; exact a3
   ·have e : j = ts.length := by simp at hj; omega
    subst e
    have ex : ts.length = xs.length := hown.own.len.symm
    have e1 : (ts ++ [t])[ts.length]'hj = t := by simp
    have e2 : (xs ++ [(r, k)])[ts.length]'hj' = (r, k) := by
     rw [List.getElem_append_right (by omega)]
     simp [ex]
    rw [e1, e2]
    refine ⟨?_, ?_, ?_, ?_⟩
    all_goals rw [List.getElem?_append_right (by omega)]
    ·rw [show ts.length * 4 - L.length = 0 by omega]; rfl
    ·rw [show ts.length * 4 + 1 - L.length = 1 by omega]; rfl
    ·rw [show ts.length * 4 + 2 - L.length = 2 by omega]; rfl
    ·rw [show ts.length * 4 + 3 - L.length = 3 by omega]; rfl
  ·by_cases hjl : j < ts.length
   ·have hjx : j < xs.length := by rw [hown.own.len]; exact hjl
    rw [List.getElem_append_left hjl, List.getElem_append_left hjx]
    obtain ⟨b1, b2⟩ := hown.own.ints j hjl hjx
    exact ⟨b1.grown hg (hv _ _ b1), b2.grown hg (hv _ _ b2)⟩
   ·have e : j = ts.length := by simp at hj; omega
    subst e
    have ex : ts.length = xs.length := hown.own.len.symm
    have e1 : (ts ++ [t])[ts.length]'hj = t := by simp
    have e2 : (xs ++ [(r, k)])[ts.length]'hj' = (r, k) := by
     rw [List.getElem_append_right (by omega)]
     simp [ex]
    rw [e1, e2]
    exact ⟨hr.grown hg (hv _ _ hr), hk.grown hg (hv _ _ hk)⟩
  ·rw [rowsOf_snoc, List.pairwise_append]
   refine ⟨hown.apart, by simpa using hrk, fun u hu u' hu' => ?_⟩
   simp only [List.mem_cons, List.not_mem_nil, or_false] at hu'
   rcases hu' with rfl | rfl
   ·exact (hnew u hu).1
   ·exact (hnew u hu).2
end Go.Proofs.Ytminfkedkkkhdaa
end
