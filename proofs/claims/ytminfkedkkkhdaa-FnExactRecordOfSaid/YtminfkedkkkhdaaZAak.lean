/-
  Part of a proof: CodeC, PokI, ToProg, Plaw. No condition.
-/
import Derived.Test.YtminfkedkkkhdaaZAaa
import Derived.Test.YtminfkedkkkhdaaRows
import Derived.Lib.SmallJoins
import Derived.Deep.RegionHeld3
import Derived.Deep.OwnRows
section
namespace Go.Proofs.Ytminfkedkkkhdaa
open Go.RowKit
theorem ops_none {op : Int} (h : op < 0 ∨ 17 < op) (k : Int) (h0 : 0 ≤ k) (h1 : k ≤ 17) : (op == k) = false := by
 rw [beq_eq_false_iff_ne]; omega
set_option maxHeartbeats 1000000 in
theorem uses_any (op : Int) (w : World) :
  Calls Try.prog 103 #[.int .i64 op] w fun e w' => e = .returned (.tuple #[.bool (Bt.uA op), .bool (Bt.uB op), .int .i64 (Bt.uC op), .bool (Bt.uOk op)]) ∧ w = w' := by
 rcases Bt.ops op with h | h | h | h | h | h | h | h | h | h | h | h | h | h | h | h | h | h | h
 case inr.inr.inr.inr.inr.inr.inr.inr.inr.inr.inr.inr.inr.inr.inr.inr.inr.inr =>
  have hE : Ending.returned (.tuple #[.bool (Bt.uA op), .bool (Bt.uB op), .int .i64 (Bt.uC op), .bool (Bt.uOk op)]) = Ending.returned (.tuple #[.bool false, .bool false, .int .i64 0, .bool false]) := by
   have e1 : Bt.uA op = false := by simp only [Bt.uA, decide_eq_false_iff_not]; omega
   have e2 : Bt.uB op = false := by simp only [Bt.uB, decide_eq_false_iff_not]; omega
   have e3 : Bt.uOk op = false := by simp only [Bt.uOk, decide_eq_false_iff_not]; omega
   have e4 : Bt.uC op = 0 := by unfold Bt.uC; repeat (rw [if_neg (by omega)])
   rw [e1, e2, e3, e4]
  rw [hE]
  have t0 := ops_none h 0 (by decide) (by decide)
  have t1 := ops_none h 1 (by decide) (by decide)
  have t2 := ops_none h 2 (by decide) (by decide)
  have t3 := ops_none h 3 (by decide) (by decide)
  have t4 := ops_none h 4 (by decide) (by decide)
  have t5 := ops_none h 5 (by decide) (by decide)
  have t6 := ops_none h 6 (by decide) (by decide)
  have t7 := ops_none h 7 (by decide) (by decide)
  have t8 := ops_none h 8 (by decide) (by decide)
  have t9 := ops_none h 9 (by decide) (by decide)
  have t10 := ops_none h 10 (by decide) (by decide)
  have t11 := ops_none h 11 (by decide) (by decide)
  have t12 := ops_none h 12 (by decide) (by decide)
  have t13 := ops_none h 13 (by decide) (by decide)
  have t14 := ops_none h 14 (by decide) (by decide)
  have t15 := ops_none h 15 (by decide) (by decide)
  have t16 := ops_none h 16 (by decide) (by decide)
  have t17 := ops_none h 17 (by decide) (by decide)
  clear hE h
  go_enter Try.func103, Try.ntmps103
  go_wp2
  exact bodyPost_ret (by simp [results, Try.results103, go_sem]) rfl ⟨rfl, rfl⟩
 all_goals
  subst h
  go_enter Try.func103, Try.ntmps103
  go_wp2
  exact bodyPost_ret (by simp [results, Try.results103, go_sem]; decide) rfl ⟨rfl, rfl⟩
set_option maxHeartbeats 1000000 in
theorem below_any (n top : Int) (u : Bool) (w : World) :
  Calls Try.prog 124 #[.int .i64 n, .int .i64 top, .bool u] w fun e w' => e = .returned (.bool (Bt.below n top u)) ∧ w = w' := by
 cases u
 ·have hE : Bt.below n top false = (n == 0) := rfl
  rw [hE]
  go_enter Try.func124, Try.ntmps124
  go_wp2
  go_ret
  exact ⟨rfl, rfl⟩
 ·by_cases h : 0 ≤ n
  ·have hE : Bt.below n top true = decide (n < top) := by simp [Bt.below, h]
   rw [hE]
   go_enter Try.func124, Try.ntmps124
   go_wp2
   go_ret
   exact ⟨rfl, rfl⟩
  ·have hE : Bt.below n top true = false := by simp [Bt.below, h]
   rw [hE]
   go_enter Try.func124, Try.ntmps124
   go_wp2
   go_ret
   exact ⟨rfl, rfl⟩
set_option maxHeartbeats 1000000 in
theorem ftop_any (k : Int) (w : World) :
  Calls Try.prog 135 #[.int .i64 k] w fun e w' => e = .returned (.int .i64 (Bt.fTop k)) ∧ w = w' := by
 by_cases h : 1 ≤ k ∧ k ≤ 5
 ·rcases (show k = 1 ∨ k = 2 ∨ k = 3 ∨ k = 4 ∨ k = 5 by omega) with rfl | rfl | rfl | rfl | rfl
  all_goals
   go_enter Try.func135, Try.ntmps135
   go_wp2
   go_ret
   exact ⟨rfl, rfl⟩
 ·have hE : Bt.fTop k = 1 := by unfold Bt.fTop; repeat (rw [if_neg (by omega)])
  rw [hE]
  have t1 : (k == 1) = false := by rw [beq_eq_false_iff_ne]; omega
  have t2 : (k == 2) = false := by rw [beq_eq_false_iff_ne]; omega
  have t3 : (k == 3) = false := by rw [beq_eq_false_iff_ne]; omega
  have t4 : (k == 4) = false := by rw [beq_eq_false_iff_ne]; omega
  have t5 : (k == 5) = false := by rw [beq_eq_false_iff_ne]; omega
  clear h hE
  go_enter Try.func135, Try.ntmps135
  go_wp2
  go_ret
  exact ⟨rfl, rfl⟩
set_option maxHeartbeats 1000000 in
theorem fok_any (n k : Int) (w : World) :
  Calls Try.prog 125 #[.int .i64 n, .int .i64 k] w fun e w' => e = .returned (.bool (Bt.fOk n k)) ∧ w = w' := by
 by_cases h : 0 ≤ n
 ·have hE : Bt.fOk n k = decide (n < Bt.fTop k) := by simp [Bt.fOk, h]
  rw [hE]
  go_enter Try.func125, Try.ntmps125
  go_wp2_with (go_at_call 135; refine (ftop_any _ _).mono ?_; rintro e w' ⟨rfl, rfl⟩)
  go_ret
  exact ⟨rfl, rfl⟩
 ·have hE : Bt.fOk n k = false := by simp [Bt.fOk, h]
  rw [hE]
  go_enter Try.func125, Try.ntmps125
  go_wp2
  go_ret
  exact ⟨rfl, rfl⟩
end Go.Proofs.Ytminfkedkkkhdaa
namespace Go.Proofs.Ytminfkedkkkhdaa
open Go.RowKit
set_option maxHeartbeats 1000000 in
theorem formOf_any (op : Int) (w : World) :
  Calls Try.prog 106 #[.int .i64 op] w fun e w' => e = .returned (.agg #[.string ⟨(Bt.name op).toArray⟩, .int .i64 (Bt.fA op), .int .i64 (Bt.fB op), .int .i64 (Bt.fC op)]) ∧ Below w.heap.size w w' := by
 rcases Bt.ops op with h | h | h | h | h | h | h | h | h | h | h | h | h | h | h | h | h | h | h
 case inr.inr.inr.inr.inr.inr.inr.inr.inr.inr.inr.inr.inr.inr.inr.inr.inr.inr =>
  have t0 := ops_none h 0 (by decide) (by decide)
  have t1 := ops_none h 1 (by decide) (by decide)
  have t2 := ops_none h 2 (by decide) (by decide)
  have t3 := ops_none h 3 (by decide) (by decide)
  have t4 := ops_none h 4 (by decide) (by decide)
  have t5 := ops_none h 5 (by decide) (by decide)
  have t6 := ops_none h 6 (by decide) (by decide)
  have t7 := ops_none h 7 (by decide) (by decide)
  have t8 := ops_none h 8 (by decide) (by decide)
  have t9 := ops_none h 9 (by decide) (by decide)
  have t10 := ops_none h 10 (by decide) (by decide)
  have t11 := ops_none h 11 (by decide) (by decide)
  have t12 := ops_none h 12 (by decide) (by decide)
  have t13 := ops_none h 13 (by decide) (by decide)
  have t14 := ops_none h 14 (by decide) (by decide)
  have t15 := ops_none h 15 (by decide) (by decide)
  have t16 := ops_none h 16 (by decide) (by decide)
  have t17 := ops_none h 17 (by decide) (by decide)
  go_enter Try.func106, Try.ntmps106
  go_wp2
  refine bodyPost_ret (v := .agg #[.string ⟨#[]⟩, .int .i64 0, .int .i64 0, .int .i64 0]) (by simp [results, Try.results106, go_sem]) rfl ⟨?_, (Below.refl _ _).alloc (Nat.le_refl _) _⟩
  have e1 : Bt.uA op = false := by simp only [Bt.uA, decide_eq_false_iff_not]; omega
  have e2 : Bt.uB op = false := by simp only [Bt.uB, decide_eq_false_iff_not]; omega
  have e4 : Bt.uC op = 0 := by unfold Bt.uC; repeat (rw [if_neg (by omega)])
  simp [Bt.name_none h, Bt.fA, Bt.fB, Bt.fC, e1, e2, e4]
 all_goals
  subst h
  go_enter Try.func106, Try.ntmps106
  go_wp2
  exact bodyPost_ret (by simp [results, Try.results106, go_sem]; decide) rfl ⟨rfl, (Below.refl _ _).alloc (Nat.le_refl _) _⟩
end Go.Proofs.Ytminfkedkkkhdaa
namespace Go.Proofs.Ytminfkedkkkhdaa
open Go.RowKit
theorem below_q (n top : Int) (u : Bool) (w : World) :
  Calls Try.prog 124 #[.int .i64 n, .int .i64 top, .bool u] w fun e w' => e = .returned (.bool (Bt.below n top u)) ∧ w' = w :=
 (below_any n top u w).mono fun _ _ ⟨he, hw⟩ => ⟨he, hw.symm⟩
set_option maxHeartbeats 1000000 in
theorem specCodeOk_any (op a b c : Int) (w : World) :
  Calls Try.prog 104 #[.agg #[.int .i64 op, .int .i64 a, .int .i64 b, .int .i64 c]] w fun e w' => e = .returned (.bool (Bt.codeOk op a b c)) ∧ Below w.heap.size w w' := by
 have hk : Bt.uC op = 0 ∨ Bt.uC op = 1 ∨ Bt.uC op = 2 ∨ Bt.uC op = 3 ∨ Bt.uC op = 4 := by unfold Bt.uC; omega
 cases hu : Bt.uOk op
 ·have hE : Bt.codeOk op a b c = false := by simp [Bt.codeOk, hu]
  rw [hE]
  clear hk hE
  go_enter Try.func104, Try.ntmps104
  go_wp2_with (go_at_call 103; refine (uses_any _ _).mono ?_; rintro e w' ⟨rfl, rfl⟩)
  go_quiet (fail)
  go_wp2
  go_ret
  exact ⟨rfl, bDrewN (((Below.refl _ _).alloc (Nat.le_refl _) _).alloc (by simp) _) _⟩
 ·cases hA : Bt.below a 4 (Bt.uA op)
  ·have hE : Bt.codeOk op a b c = false := by simp [Bt.codeOk, hA]
   rw [hE]
   clear hk hE
   go_enter Try.func104, Try.ntmps104
   go_wp2_with (go_at_call 103; refine (uses_any _ _).mono ?_; rintro e w' ⟨rfl, rfl⟩)
   go_quiet ((go_at_call 124; exact Calls.quiet_of_same (below_q _ _ _ _)))
   go_wp2
   go_ret
   exact ⟨rfl, bDrewN (((Below.refl _ _).alloc (Nat.le_refl _) _).alloc (by simp) _) _⟩
  ·cases hB : Bt.below b 4 (Bt.uB op)
   ·have hE : Bt.codeOk op a b c = false := by simp [Bt.codeOk, hB]
    rw [hE]
    clear hk hE
    go_enter Try.func104, Try.ntmps104
    go_wp2_with (go_at_call 103; refine (uses_any _ _).mono ?_; rintro e w' ⟨rfl, rfl⟩)
    go_quiet ((go_at_call 124; exact Calls.quiet_of_same (below_q _ _ _ _)))
    go_wp2
    go_ret
    exact ⟨rfl, bDrewN (((Below.refl _ _).alloc (Nat.le_refl _) _).alloc (by simp) _) _⟩
   ·have hE : Bt.codeOk op a b c = Bt.below c (Bt.topC (Bt.uC op)) (decide (0 < Bt.uC op)) := by simp [Bt.codeOk, hu, hA, hB]
    rw [hE]
    clear hE
    rcases hk with hk | hk | hk | hk | hk
    all_goals
     rw [hk]
     simp only [Bt.topC]
     go_enter Try.func104, Try.ntmps104
     go_wp2_with (go_at_call 103; refine (uses_any _ _).mono ?_; rintro e w' ⟨rfl, rfl⟩)
     go_quiet ((go_at_call 124; exact Calls.quiet_of_same (below_q _ _ _ _)))
     go_wp2
     go_ret
     exact ⟨rfl, bDrewN (((Below.refl _ _).alloc (Nat.le_refl _) _).alloc (by simp) _) _⟩
set_option maxHeartbeats 1000000 in
theorem implCodeOk_any (op a b c : Int) (w : World) :
  Calls Try.prog 105 #[.agg #[.int .i64 op, .int .i64 a, .int .i64 b, .int .i64 c]] w fun e w' => e = .returned (.bool (Bt.codeOk op a b c)) ∧ Below w.heap.size w w' := by
 rw [← Bt.codeOk_eq]
 by_cases hop : 0 ≤ op ∧ op ≤ 17
 ·have hu : Bt.uOk op = true := by simp only [Bt.uOk, decide_eq_true_eq]; omega
  have hn : (Bt.name op).isEmpty = false := by
   rcases (show op = 0 ∨ op = 1 ∨ op = 2 ∨ op = 3 ∨ op = 4 ∨ op = 5 ∨ op = 6 ∨ op = 7 ∨ op = 8 ∨ op = 9 ∨ op = 10 ∨ op = 11 ∨ op = 12 ∨ op = 13 ∨ op = 14 ∨ op = 15 ∨ op = 16 ∨ op = 17 by omega) with rfl | rfl | rfl | rfl | rfl | rfl | rfl | rfl | rfl | rfl | rfl | rfl | rfl | rfl | rfl | rfl | rfl | rfl
   all_goals decide
  rw [hu, Bool.true_and]
  clear hop hu
  cases hA : Bt.fOk a (Bt.fA op)
  ·rw [Bool.false_and, Bool.false_and]
   go_enter Try.func105, Try.ntmps105
   go_wp2_with (first | (go_at_call 106; refine (formOf_any _ _).mono ?_; rintro e w1 ⟨rfl, hb⟩; obtain ⟨hc, hf⟩ := bcell hb; have hz : w.heap.size < w1.heap.size := (by have := hb.size; simp at this; omega)) | (go_at_call 125; refine (fok_any _ _ _).mono ?_; rintro e w' ⟨rfl, rfl⟩))
   go_ret
   exact ⟨rfl, (((Below.refl _ _).alloc (Nat.le_refl _) _).trans (hb.mono (by simp))).alloc (by omega) _⟩
  ·rw [Bool.true_and]
   cases hB : Bt.fOk b (Bt.fB op)
   ·rw [Bool.false_and]
    go_enter Try.func105, Try.ntmps105
    go_wp2_with (first | (go_at_call 106; refine (formOf_any _ _).mono ?_; rintro e w1 ⟨rfl, hb⟩; obtain ⟨hc, hf⟩ := bcell hb; have hz : w.heap.size < w1.heap.size := (by have := hb.size; simp at this; omega)) | (go_at_call 125; refine (fok_any _ _ _).mono ?_; rintro e w' ⟨rfl, rfl⟩))
    go_ret
    exact ⟨rfl, (((Below.refl _ _).alloc (Nat.le_refl _) _).trans (hb.mono (by simp))).alloc (by omega) _⟩
   ·rw [Bool.true_and]
    go_enter Try.func105, Try.ntmps105
    go_wp2_with (first | (go_at_call 106; refine (formOf_any _ _).mono ?_; rintro e w1 ⟨rfl, hb⟩; obtain ⟨hc, hf⟩ := bcell hb; have hz : w.heap.size < w1.heap.size := (by have := hb.size; simp at this; omega)) | (go_at_call 125; refine (fok_any _ _ _).mono ?_; rintro e w' ⟨rfl, rfl⟩))
    go_ret
    exact ⟨rfl, (((Below.refl _ _).alloc (Nat.le_refl _) _).trans (hb.mono (by simp))).alloc (by omega) _⟩
 ·have hu : Bt.uOk op = false := by simp only [Bt.uOk, decide_eq_false_iff_not]; omega
  have hn : (Bt.name op) = [] := Bt.name_none (by omega)
  rw [hu, Bool.false_and]
  clear hop hu
  go_enter Try.func105, Try.ntmps105
  go_wp2_with (go_at_call 106; refine (formOf_any _ _).mono ?_; rintro e w1 ⟨rfl, hb⟩; obtain ⟨hc, hf⟩ := bcell hb; have hz : w.heap.size < w1.heap.size := (by have := hb.size; simp at this; omega))
  go_ret
  exact ⟨rfl, (((Below.refl _ _).alloc (Nat.le_refl _) _).trans (hb.mono (by simp))).alloc (by omega) _⟩
end Go.Proofs.Ytminfkedkkkhdaa
end
section
namespace Go.Proofs.Ytminfkedkkkhdaa
open Go.RowKit
def CodesAt (w : World) (b o : Nat) (rs : List Bt.C4) : Prop := ∀ (i : Nat) (h : i < rs.length),
 w.cell? ⟨b, o + i * 4, none⟩ = some (.int .i64 rs[i].op) ∧ w.cell? ⟨b, o + i * 4 + 1, none⟩ = some (.int .i64 rs[i].a) ∧
 w.cell? ⟨b, o + i * 4 + 2, none⟩ = some (.int .i64 rs[i].b) ∧ w.cell? ⟨b, o + i * 4 + 3, none⟩ = some (.int .i64 rs[i].c)
theorem CodesAt.keep {w w' : World} {b o : Nat} {rs : List Bt.C4} (h : CodesAt w b o rs) (hb : Below w.heap.size w w') : CodesAt w' b o rs := fun i hi =>
 ⟨keeps hb (h i hi).1, keeps hb (h i hi).2.1, keeps hb (h i hi).2.2.1, keeps hb (h i hi).2.2.2⟩
set_option maxHeartbeats 1000000 in
theorem specProgramOk_any (b o cap : Nat) (rs : List Bt.C4) (h : Int) (w : World) (hn : rs.length ≤ 1048576) (hcap : rs.length ≤ cap) (hrs : CodesAt w b o rs) :
  Calls Try.prog 69 #[.agg #[.slice (some ⟨b, o, none⟩) rs.length cap, .int .i64 h]] w fun e w' => e = .returned (.bool (Bt.progOk rs h)) ∧ Below w.heap.size w w' := by
 generalize hN : rs.length = n at *
 have HN := Lib.hid hN; clear hN
 have HC := Lib.hid hrs; clear hrs
 go_enter Try.func69, Try.ntmps69
 go_wp2
 go_loopw [3, 4, 5, 6, 7] (fun i _ _ _ _ wr => ∃ k : Nat, k ≤ n ∧ i = .int .i64 k ∧ (∀ j (hj : j < rs.length), j < k → Bt.good n rs[j] = true) ∧ Below (w.heap.size + 1) (w.alloc (.cells #[.slice (some ⟨b, o, none⟩) n cap, .int .i64 h] 36)) wr) (fun i _ _ _ _ _ => n - (intOf i).toNat)
 case atStart => exact ⟨0, Nat.zero_le _, rfl, fun _ _ hj => absurd hj (by omega), Below.refl _ _⟩
 case round =>
  obtain ⟨k, hk, rfl, hall, hb⟩ := hrel
  have HA := Lib.hid hall; clear hall
  have hw1 : wr.cell? ⟨w.heap.size, 0, none⟩ = some (.slice (some ⟨b, o, none⟩) n cap) := by rw [hb.cell (p := ⟨w.heap.size, 0, none⟩) (by simp)]; simp
  have hw2 : wr.cell? ⟨w.heap.size, 1, none⟩ = some (.int .i64 h) := by rw [hb.cell (p := ⟨w.heap.size, 1, none⟩) (by simp)]; simp
  have hws : w.heap.size < wr.heap.size := by have := hb.size; simp at this; omega
  by_cases hlt : k < n
  ·have hlt' : k < rs.length := by rw [HN.out]; exact hlt
   obtain ⟨f0, f1, f2, f3⟩ := (CodesAt.keep (HC.out) (((Below.refl w.heap.size w).alloc (Nat.le_refl _) _).trans (hb.mono (by omega)))) k hlt'
   generalize hr0 : rs[k].op = op at *
   generalize hr1 : rs[k].a = xa at *
   generalize hr2 : rs[k].b = xb at *
   generalize hr3 : rs[k].c = xc at *
   have HR : Hid (rs[k].op = op ∧ rs[k].a = xa ∧ rs[k].b = xb ∧ rs[k].c = xc) := Lib.hid ⟨hr0, hr1, hr2, hr3⟩
   clear hr0 hr1 hr2 hr3
   have q0 := Cls.keeps hw1
   have q1 := Cls.keeps f0
   have q2 := Cls.keeps f1
   have q3 := Cls.keeps f2
   have q4 := Cls.keeps f3
   cases hok : Bt.codeOk op xa xb xc
   ·have HF : Hid (Bt.progOk rs h = false) := Lib.hid (Bt.progOk_false hlt' (by rw [HN.out]; obtain ⟨e0, e1, e2, e3⟩ := HR.out; simp [Bt.good, e0, e1, e2, e3, hok]))
    go_wp2_with (go_at_call 103; refine (uses_any _ _).mono ?_; rintro e w' ⟨rfl, rfl⟩)
    refine wp_region_cls (by kernel_rfl) (by kernel_rfl) ?_
    repeat (go_big_quiet_step ((go_at_call 104; exact cls_of (specCodeOk_any _ _ _ _ _))))
    refine wpQuiet_nil ?_
    intro w2' hw2'
    obtain ⟨⟨w2, hb2⟩, rfl⟩ := hw2'
    go_wp2
    go_ret
    exact ⟨ret_bool HF.out.symm, (((Below.refl _ _).alloc (Nat.le_refl _) _).trans (hb.mono (by omega))).trans (hb2.mono (by omega))⟩
   ·by_cases hu : Bt.uC op = 3
    ·by_cases hc : (n : Int) ≤ xc
     ·have HF : Hid (Bt.progOk rs h = false) := Lib.hid (Bt.progOk_false hlt' (by rw [HN.out]; obtain ⟨e0, e1, e2, e3⟩ := HR.out; simp [Bt.good, e0, e3, hu, hc]))
      go_wp2_with (go_at_call 103; refine (uses_any _ _).mono ?_; rintro e w' ⟨rfl, rfl⟩)
      refine wp_region_cls (by kernel_rfl) (by kernel_rfl) ?_
      repeat (go_big_quiet_step ((go_at_call 104; exact cls_of (specCodeOk_any _ _ _ _ _))))
      refine wpQuiet_nil ?_
      intro w2' hw2'
      obtain ⟨⟨w2, hb2⟩, rfl⟩ := hw2'
      go_wp2
      go_ret
      exact ⟨ret_bool HF.out.symm, (((Below.refl _ _).alloc (Nat.le_refl _) _).trans (hb.mono (by omega))).trans (hb2.mono (by omega))⟩
     ·have HG : Hid (Bt.good n rs[k] = true) := Lib.hid (by obtain ⟨e0, e1, e2, e3⟩ := HR.out; simp [Bt.good, e0, e1, e2, e3, hok]; omega)
      go_wp2_with (go_at_call 103; refine (uses_any _ _).mono ?_; rintro e w' ⟨rfl, rfl⟩)
      refine wp_region_cls (by kernel_rfl) (by kernel_rfl) ?_
      repeat (go_big_quiet_step ((go_at_call 104; exact cls_of (specCodeOk_any _ _ _ _ _))))
      refine wpQuiet_nil ?_
      intro w2' hw2'
      obtain ⟨⟨w2, hb2⟩, rfl⟩ := hw2'
      go_wp2
      go_roundw
      case rel => exact ⟨k + 1, by omega, by go_num, fun j hj hjk => by
       by_cases hjk' : j < k
       ·exact HA.out j hj hjk'
       ·obtain rfl : j = k := by omega
        exact HG.out, hb.trans (hb2.mono (by omega))⟩
      case measure => simp [intOf]; omega
    ·have HG : Hid (Bt.good n rs[k] = true) := Lib.hid (by obtain ⟨e0, e1, e2, e3⟩ := HR.out; simp [Bt.good, e0, e1, e2, e3, hok, hu])
     have hu' : (Bt.uC op == 3) = false := by rw [beq_eq_false_iff_ne]; exact hu
     go_wp2_with (go_at_call 103; refine (uses_any _ _).mono ?_; rintro e w' ⟨rfl, rfl⟩)
     refine wp_region_cls (by kernel_rfl) (by kernel_rfl) ?_
     repeat (go_big_quiet_step ((go_at_call 104; exact cls_of (specCodeOk_any _ _ _ _ _))))
     refine wpQuiet_nil ?_
     intro w2' hw2'
     obtain ⟨⟨w2, hb2⟩, rfl⟩ := hw2'
     go_wp2
     go_roundw
     case rel => exact ⟨k + 1, by omega, by go_num, fun j hj hjk => by
      by_cases hjk' : j < k
      ·exact HA.out j hj hjk'
      ·obtain rfl : j = k := by omega
       exact HG.out, hb.trans (hb2.mono (by omega))⟩
     case measure => simp [intOf]; omega
  ·obtain rfl : k = n := by omega
   have HP : Hid (Bt.progOk rs h = decide (1 ≤ k ∧ k ≤ 60 ∧ -1 ≤ h ∧ h < k)) := Lib.hid (Bt.progOk_all HN.out (fun j hj => HA.out j hj (by have := HN.out; omega)))
   by_cases c1 : 1 ≤ k
   ·by_cases c2 : k ≤ 60
    ·by_cases c3 : -1 ≤ h
     ·by_cases c4 : h < k
      ·have HF : Hid (Bt.progOk rs h = true) := Lib.hid (by rw [HP.out, decide_eq_true_eq]; omega)
       go_wp2
       go_ret
       exact ⟨ret_bool HF.out.symm, ((Below.refl _ _).alloc (Nat.le_refl _) _).trans (hb.mono (by omega))⟩
      ·have HF : Hid (Bt.progOk rs h = false) := Lib.hid (by rw [HP.out, decide_eq_false_iff_not]; omega)
       go_wp2
       go_ret
       exact ⟨ret_bool HF.out.symm, ((Below.refl _ _).alloc (Nat.le_refl _) _).trans (hb.mono (by omega))⟩
     ·have HF : Hid (Bt.progOk rs h = false) := Lib.hid (by rw [HP.out, decide_eq_false_iff_not]; omega)
      go_wp2
      go_ret
      exact ⟨ret_bool HF.out.symm, ((Below.refl _ _).alloc (Nat.le_refl _) _).trans (hb.mono (by omega))⟩
    ·have HF : Hid (Bt.progOk rs h = false) := Lib.hid (by rw [HP.out, decide_eq_false_iff_not]; omega)
     go_wp2
     go_ret
     exact ⟨ret_bool HF.out.symm, ((Below.refl _ _).alloc (Nat.le_refl _) _).trans (hb.mono (by omega))⟩
   ·have HF : Hid (Bt.progOk rs h = false) := Lib.hid (by rw [HP.out, decide_eq_false_iff_not]; omega)
    go_wp2
    go_ret
    exact ⟨ret_bool HF.out.symm, ((Below.refl _ _).alloc (Nat.le_refl _) _).trans (hb.mono (by omega))⟩
end Go.Proofs.Ytminfkedkkkhdaa
namespace Go.Proofs.Ytminfkedkkkhdaa
open Go.RowKit
namespace Bt
theorem fC_place {op : Int} : fC op = 4 ↔ uC op = 3 := by unfold fC; split <;> omega
theorem progOk_out {rs : List C4} {h : Int} {n : Nat} (hn : rs.length = n) (hno : ¬ (1 ≤ n ∧ n ≤ 60 ∧ -1 ≤ h ∧ h < n)) : progOk rs h = false := by
 subst hn
 simp only [progOk, Bool.and_eq_false_iff, decide_eq_false_iff_not]
 exact .inr hno
end Bt
theorem run_form_c (x y z t : Value) (w : World) : (Instr.field 133 (.agg #[x, y, z, t]) 3).run Try.prog w = .ok t w := by kernel_rfl
set_option maxHeartbeats 1000000 in
theorem implProgramOk_any (b o cap : Nat) (rs : List Bt.C4) (h : Int) (w : World) (hn : rs.length ≤ 1048576) (hcap : rs.length ≤ cap) (hrs : CodesAt w b o rs) :
  Calls Try.prog 71 #[.agg #[.slice (some ⟨b, o, none⟩) rs.length cap, .int .i64 h]] w fun e w' => e = .returned (.bool (Bt.progOk rs h)) ∧ Below w.heap.size w w' := by
 generalize hN : rs.length = n at *
 have HN := Lib.hid hN; clear hN
 have HC := Lib.hid hrs; clear hrs
 have hfld := run_form_c
 by_cases c1 : 1 ≤ n
 ·by_cases c2 : n ≤ 60
  ·by_cases c3 : -1 ≤ h
   ·by_cases c4 : h < n
    ·go_enter Try.func71, Try.ntmps71
     go_wp2
     go_loopw [27] (fun i wr => ∃ k : Nat, k ≤ n ∧ i = .int .i64 k ∧ (∀ j (hj : j < rs.length), j < k → Bt.good n rs[j] = true) ∧ Below (w.heap.size + 1) (w.alloc (.cells #[.slice (some ⟨b, o, none⟩) n cap, .int .i64 h] 36)) wr) (fun i _ => n - (intOf i).toNat)
     case atStart => exact ⟨0, Nat.zero_le _, rfl, fun _ _ hj => absurd hj (by omega), Below.refl _ _⟩
     case round =>
      obtain ⟨k, hk, rfl, hall, hb⟩ := hrel
      have HA := Lib.hid hall; clear hall
      have hws : w.heap.size < wr.heap.size := by have := hb.size; simp at this; omega
      by_cases hlt : k < n
      ·have hlt' : k < rs.length := by rw [HN.out]; exact hlt
       obtain ⟨f0, f1, f2, f3⟩ := (CodesAt.keep (HC.out) (((Below.refl w.heap.size w).alloc (Nat.le_refl _) _).trans (hb.mono (by omega)))) k hlt'
       generalize hr0 : rs[k].op = op at *
       generalize hr1 : rs[k].a = xa at *
       generalize hr2 : rs[k].b = xb at *
       generalize hr3 : rs[k].c = xc at *
       have HR : Hid (rs[k].op = op ∧ rs[k].a = xa ∧ rs[k].b = xb ∧ rs[k].c = xc) := Lib.hid ⟨hr0, hr1, hr2, hr3⟩
       clear hr0 hr1 hr2 hr3
       cases hok : Bt.codeOk op xa xb xc
       ·have HF : Hid (Bt.progOk rs h = false) := Lib.hid (Bt.progOk_false hlt' (by rw [HN.out]; obtain ⟨e0, e1, e2, e3⟩ := HR.out; simp [Bt.good, e0, e1, e2, e3, hok]))
        go_wp2_with (go_at_call 105; refine (implCodeOk_any _ _ _ _ _).mono ?_; rintro e w2 ⟨rfl, hb2⟩)
        go_ret
        exact ⟨ret_bool HF.out.symm, ((((Below.refl _ _).alloc (Nat.le_refl _) _).trans (hb.mono (by omega))).alloc (by omega) _).trans (hb2.mono (by simp; omega))⟩
       ·by_cases hu : Bt.fC op = 4
        ·by_cases hc : (n : Int) ≤ xc
         ·have HF : Hid (Bt.progOk rs h = false) := Lib.hid (Bt.progOk_false hlt' (by rw [HN.out]; obtain ⟨e0, e1, e2, e3⟩ := HR.out; simp [Bt.good, e0, e3, Bt.fC_place.1 hu, hc]))
          go_wp2_with (first | (go_at_call 105; refine (implCodeOk_any _ _ _ _ _).mono ?_; rintro e w2 ⟨rfl, hb2⟩; obtain ⟨hc2, hf2⟩ := bcell hb2; have hz2 : wr.heap.size < w2.heap.size := (by have := hb2.size; simp at this; omega)) | (go_at_call 106; refine (formOf_any _ _).mono ?_; rintro e w3 ⟨rfl, hb3⟩; obtain ⟨hc3, hf3⟩ := bcell hb3; have hz3 : wr.heap.size < w3.heap.size := (by have := hb3.size; omega)))
          go_ret
          exact ⟨ret_bool HF.out.symm, (((((Below.refl _ _).alloc (Nat.le_refl _) _).trans (hb.mono (by omega))).alloc (by omega) _).trans (hb2.mono (by simp; omega))).trans (hb3.mono (by omega))⟩
         ·have HG : Hid (Bt.good n rs[k] = true) := Lib.hid (by obtain ⟨e0, e1, e2, e3⟩ := HR.out; simp [Bt.good, e0, e1, e2, e3, hok]; omega)
          go_wp2_with (first | (go_at_call 105; refine (implCodeOk_any _ _ _ _ _).mono ?_; rintro e w2 ⟨rfl, hb2⟩; obtain ⟨hc2, hf2⟩ := bcell hb2; have hz2 : wr.heap.size < w2.heap.size := (by have := hb2.size; simp at this; omega)) | (go_at_call 106; refine (formOf_any _ _).mono ?_; rintro e w3 ⟨rfl, hb3⟩; obtain ⟨hc3, hf3⟩ := bcell hb3; have hz3 : wr.heap.size < w3.heap.size := (by have := hb3.size; omega)))
          go_roundw
          case rel => exact ⟨k + 1, by omega, by go_num, fun j hj hjk => by
           by_cases hjk' : j < k
           ·exact HA.out j hj hjk'
           ·obtain rfl : j = k := by omega
            exact HG.out, ((hb.alloc (by omega) _).trans (hb2.mono (by simp; omega))).trans (hb3.mono (by omega))⟩
          case measure => simp [intOf]; omega
        ·have HG : Hid (Bt.good n rs[k] = true) := Lib.hid (by obtain ⟨e0, e1, e2, e3⟩ := HR.out; simp [Bt.good, e0, e1, e2, e3, hok, mt Bt.fC_place.2 hu])
         have hu' : (Bt.fC op == 4) = false := by rw [beq_eq_false_iff_ne]; exact hu
         go_wp2_with (first | (go_at_call 105; refine (implCodeOk_any _ _ _ _ _).mono ?_; rintro e w2 ⟨rfl, hb2⟩; obtain ⟨hc2, hf2⟩ := bcell hb2; have hz2 : wr.heap.size < w2.heap.size := (by have := hb2.size; simp at this; omega)) | (go_at_call 106; refine (formOf_any _ _).mono ?_; rintro e w3 ⟨rfl, hb3⟩; obtain ⟨hc3, hf3⟩ := bcell hb3; have hz3 : wr.heap.size < w3.heap.size := (by have := hb3.size; omega)))
         go_roundw
         case rel => exact ⟨k + 1, by omega, by go_num, fun j hj hjk => by
          by_cases hjk' : j < k
          ·exact HA.out j hj hjk'
          ·obtain rfl : j = k := by omega
           exact HG.out, ((hb.alloc (by omega) _).trans (hb2.mono (by simp; omega))).trans (hb3.mono (by omega))⟩
         case measure => simp [intOf]; omega
      ·obtain rfl : k = n := by omega
       have HF : Hid (Bt.progOk rs h = true) := Lib.hid (by rw [Bt.progOk_all HN.out (fun j hj => HA.out j hj (by have := HN.out; omega)), decide_eq_true_eq]; omega)
       go_wp2
       go_ret
       exact ⟨ret_bool HF.out.symm, ((Below.refl _ _).alloc (Nat.le_refl _) _).trans (hb.mono (by omega))⟩
    ·have HF : Hid (Bt.progOk rs h = false) := Lib.hid (Bt.progOk_out HN.out (by omega))
     go_enter Try.func71, Try.ntmps71
     go_wp2
     go_ret
     exact ⟨ret_bool HF.out.symm, (Below.refl _ _).alloc (Nat.le_refl _) _⟩
   ·have HF : Hid (Bt.progOk rs h = false) := Lib.hid (Bt.progOk_out HN.out (by omega))
    go_enter Try.func71, Try.ntmps71
    go_wp2
    go_ret
    exact ⟨ret_bool HF.out.symm, (Below.refl _ _).alloc (Nat.le_refl _) _⟩
  ·have HF : Hid (Bt.progOk rs h = false) := Lib.hid (Bt.progOk_out HN.out (by omega))
   go_enter Try.func71, Try.ntmps71
   go_wp2
   go_ret
   exact ⟨ret_bool HF.out.symm, (Below.refl _ _).alloc (Nat.le_refl _) _⟩
 ·have HF : Hid (Bt.progOk rs h = false) := Lib.hid (Bt.progOk_out HN.out (by omega))
  go_enter Try.func71, Try.ntmps71
  go_wp2
  go_ret
  exact ⟨ret_bool HF.out.symm, (Below.refl _ _).alloc (Nat.le_refl _) _⟩
end Go.Proofs.Ytminfkedkkkhdaa
end
section
namespace Go.Proofs.Ytminfkedkkkhdaa
open Go.RowKit
def CodesOwn (w : World) (g : Nat) (rs : List Bt.C4) : Prop := ∃ f, w.rowIs g 96 (rs.length * 4) f ∧
 ∀ (j : Nat) (hj : j < rs.length), f (j * 4) = .int .i64 rs[j].op ∧ f (j * 4 + 1) = .int .i64 rs[j].a ∧ f (j * 4 + 2) = .int .i64 rs[j].b ∧ f (j * 4 + 3) = .int .i64 rs[j].c
theorem CodesOwn.codes {w : World} {g : Nat} {rs : List Bt.C4} (h : CodesOwn w g rs) : CodesAt w g 0 rs := fun i hi => by
 obtain ⟨f, hr, hf⟩ := h
 obtain ⟨h0, h1, h2, h3⟩ := hf i hi
 refine ⟨?_, ?_, ?_, ?_⟩
 ·rw [← h0, show 0 + i * 4 = i * 4 by omega]; exact hr.cell (by omega)
 ·rw [← h1, show 0 + i * 4 + 1 = i * 4 + 1 by omega]; exact hr.cell (by omega)
 ·rw [← h2, show 0 + i * 4 + 2 = i * 4 + 2 by omega]; exact hr.cell (by omega)
 ·rw [← h3, show 0 + i * 4 + 3 = i * 4 + 3 by omega]; exact hr.cell (by omega)
theorem CodesOwn.lt {w : World} {g : Nat} {rs : List Bt.C4} (h : CodesOwn w g rs) : g < w.heap.size := by
 obtain ⟨f, hr, _⟩ := h; exact hr.lt
theorem CodesOwn.below {w w' : World} {g B : Nat} {rs : List Bt.C4} (h : CodesOwn w g rs) (hb : Below B w w') (hg : g < B) : CodesOwn w' g rs := by
 obtain ⟨f, hr, hf⟩ := h
 exact ⟨f, hr.of_block (hb.block g hg), hf⟩
end Go.Proofs.Ytminfkedkkkhdaa
end
section
namespace Go.Proofs.Ytminfkedkkkhdaa
open Go.RowKit
def ArgCodes (w : World) (v : Value) (rs : List Bt.C4) : Prop :=
 ∃ A cap, v = .slice A rs.length cap ∧ rs.length ≤ cap ∧ (rs ≠ [] → ∃ b o, A = some ⟨b, o, none⟩ ∧ CodesAt w b o rs)
theorem ArgCodes.keep {w w' : World} {v : Value} {rs : List Bt.C4} (h : ArgCodes w v rs) (hb : Below w.heap.size w w') : ArgCodes w' v rs := by
 obtain ⟨A, cap, hv, hc, hr⟩ := h
 refine ⟨A, cap, hv, hc, fun hne => ?_⟩
 obtain ⟨b, o, hA, hr⟩ := hr hne
 exact ⟨b, o, hA, hr.keep hb⟩
end Go.Proofs.Ytminfkedkkkhdaa
end
