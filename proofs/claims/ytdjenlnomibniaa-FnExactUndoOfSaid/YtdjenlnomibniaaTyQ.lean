/-
  Marks of machines and undos, and whether they are there.
-/
import Derived.Test.YtdjenlnomibniaaTyM
import Derived.Test.YtdjenlnomibniaaTyH
import Derived.Test.YtdjenlnomibniaaTyN
set_option linter.unusedSimpArgs false
set_option linter.unusedVariables false
namespace Go.Proofs.Ytdjenlnomibniaa
open Go.RowKit
namespace Av
set_option maxHeartbeats 4000000 in
theorem mkThread_ok (x0 : Int) (x1 : List (List PV)) (x2 : List (List PV)) (x3 : Int) (s1 : ShIntS x1) (s2 : ShIntS x2) (k : Int) (h0 : 0 ≤ k) (h1 : (mkR x2 ((mkR x1 (k)).2)).2 ≤ 4611686018427387904) :
    MutOk Try.prog 86 (.agg [pI x0, .lst 3 x1, .lst 3 x2, pI x3]) k (.agg [pI x0, .lst 3 (mkR x1 (k)).1, .lst 3 (mkR x2 ((mkR x1 (k)).2)).1, pI x3]) (mkR x2 ((mkR x1 (k)).2)).2 := by
  refine ⟨⟨_, Try.func86, by kernel_rfl, by kernel_rfl⟩, fun w v Q ho hd hb => ?_⟩
  obtain ⟨vs, rfl, hl, ho⟩ := ho
  match vs, hl with
  | [v0, v1, v2, v3], _ =>
    have O0 : Ow Try.prog w (Q 0) (pI x0) v0 := ho 0 (by simp)
    obtain rfl : v0 = .int .i64 x0 := by cases O0; rfl
    clear O0
    have O1 : Ow Try.prog w (Q 1) (.lst 3 x1) v1 := ho 1 (by simp)
    have HO1 := Lib.hid O1
    have V1 : ∃ A n c, v1 = .slice A n c := by rcases HO1.out.forms with ⟨h, _⟩ | ⟨g, cap, h, _⟩ <;> exact ⟨_, _, _, h⟩
    obtain ⟨A1, n1, c1, rfl⟩ := V1
    clear O1
    have O2 : Ow Try.prog w (Q 2) (.lst 3 x2) v2 := ho 2 (by simp)
    have HO2 := Lib.hid O2
    have V2 : ∃ A n c, v2 = .slice A n c := by rcases HO2.out.forms with ⟨h, _⟩ | ⟨g, cap, h, _⟩ <;> exact ⟨_, _, _, h⟩
    obtain ⟨A2, n2, c2, rfl⟩ := V2
    clear O2
    have O3 : Ow Try.prog w (Q 3) (pI x3) v3 := ho 3 (by simp)
    obtain rfl : v3 = .int .i64 x3 := by cases O3; rfl
    clear O3
    clear ho
    have HD := Lib.hid hd; have HB := Lib.hid hb; clear hd hb
    obtain ⟨q1, e1⟩ : ∃ z, z = (mkR x1 k).2 := ⟨_, rfl⟩
    have l1 : k ≤ q1 := by rw [e1]; exact mkR_le _ _
    obtain ⟨q2, e2⟩ : ∃ z, z = (mkR x2 q1).2 := ⟨_, rfl⟩
    have l2 : q1 ≤ q2 := by rw [e2]; exact mkR_le _ _
    simp only [← e1, ← e2] at h1 ⊢
    have HE1 := Lib.hid e1; clear e1
    have HE2 := Lib.hid e2; clear e2
    go_enter Try.func86, Try.ntmps86
    go_wp2_with fail
    obtain ⟨W0, hW0⟩ : ∃ W : World, W = w.alloc (.cells #[.int .i64 x0, .slice A1 n1 c1, .slice A2 n2 c2, .int .i64 x3] 29) := ⟨_, rfl⟩
    have hb0 : Below w.heap.size w W0 := by rw [hW0]; exact (Below.refl _ _).alloc (Nat.le_refl _) _
    have hs0 : w.heap.size < W0.heap.size := by rw [hW0]; simp
    have p0 : W0.cell? ⟨w.heap.size, 0, none⟩ = some (.int .i64 x0) := by rw [hW0]; go_simp
    have p1 : W0.cell? ⟨w.heap.size, 1, none⟩ = some (.slice A1 n1 c1) := by rw [hW0]; go_simp
    have p2 : W0.cell? ⟨w.heap.size, 2, none⟩ = some (.slice A2 n2 c2) := by rw [hW0]; go_simp
    have p3 : W0.cell? ⟨w.heap.size, 3, none⟩ = some (.int .i64 x3) := by rw [hW0]; go_simp
    have P1 := Lib.hid (HO1.out.keep (w' := W0) (fun g hg _ => hb0.block g (HB.out 1 g hg)))
    have P2 := Lib.hid (HO2.out.keep (w' := W0) (fun g hg _ => hb0.block g (HB.out 2 g hg)))
    have HT := Lib.hid (show Turned (fun g => ∃ i, Q i g) w W0 from ⟨hb0.os, hb0.tape, hb0.output, hb0.size, fun b hb _ => hb0.block b hb⟩)
    have HS := Lib.hid hs0; clear hs0 hb0
    rw [← hW0]; clear hW0
    refine ((mkIntS_ok x1 s1 k (by omega) (by rw [← HE1.out]; omega)).2 _ _ (fun j g => j = 0 ∧ Q 1 g) (Ow.mono P1.out (fun g hg => ⟨rfl, hg⟩)) (fun i j g h3 h4 => by rw [h3.1, h4.1]) (fun i g h3 => Nat.lt_of_lt_of_le (HB.out _ g h3.2) (Nat.le_of_lt HS.out))).mono ?_
    rw [← HE1.out]
    rintro e W1 ⟨rfl, ht, ho2⟩
    have P1_1 := Lib.hid (Ow.mono ho2 (fun g h3 => h3.2) : Ow Try.prog W1 (Q 1) _ _)
    have P2_1 := Lib.hid (ht.ow P2.out (fun g h3 ⟨_, _, h4⟩ => absurd (HD.out _ _ g h3 h4) (by decide)))
    replace p0 := ht.cell (a := ⟨w.heap.size, 0, none⟩) HS.out (fun ⟨_, _, h4⟩ => absurd (HB.out _ _ h4) (Nat.lt_irrefl _)) p0
    replace p1 := ht.cell (a := ⟨w.heap.size, 1, none⟩) HS.out (fun ⟨_, _, h4⟩ => absurd (HB.out _ _ h4) (Nat.lt_irrefl _)) p1
    replace p2 := ht.cell (a := ⟨w.heap.size, 2, none⟩) HS.out (fun ⟨_, _, h4⟩ => absurd (HB.out _ _ h4) (Nat.lt_irrefl _)) p2
    replace p3 := ht.cell (a := ⟨w.heap.size, 3, none⟩) HS.out (fun ⟨_, _, h4⟩ => absurd (HB.out _ _ h4) (Nat.lt_irrefl _)) p3
    have HT1 := Lib.hid (HT.out.trans (ht.mono (fun g ⟨_, _, h4⟩ _ => ⟨_, h4⟩)))
    replace HS := Lib.hid (Nat.lt_of_lt_of_le HS.out ht.size)
    clear ht ho2
    go_wp2_with fail
    refine ((mkIntS_ok x2 s2 q1 (by omega) (by rw [← HE2.out]; omega)).2 _ _ (fun j g => j = 0 ∧ Q 2 g) (Ow.mono P2_1.out (fun g hg => ⟨rfl, hg⟩)) (fun i j g h3 h4 => by rw [h3.1, h4.1]) (fun i g h3 => Nat.lt_of_lt_of_le (HB.out _ g h3.2) (Nat.le_of_lt HS.out))).mono ?_
    rw [← HE2.out]
    rintro e W2 ⟨rfl, ht, ho2⟩
    have P1_2 := Lib.hid (ht.ow P1_1.out (fun g h3 ⟨_, _, h4⟩ => absurd (HD.out _ _ g h3 h4) (by decide)))
    have P2_2 := Lib.hid (Ow.mono ho2 (fun g h3 => h3.2) : Ow Try.prog W2 (Q 2) _ _)
    replace p0 := ht.cell (a := ⟨w.heap.size, 0, none⟩) HS.out (fun ⟨_, _, h4⟩ => absurd (HB.out _ _ h4) (Nat.lt_irrefl _)) p0
    replace p1 := ht.cell (a := ⟨w.heap.size, 1, none⟩) HS.out (fun ⟨_, _, h4⟩ => absurd (HB.out _ _ h4) (Nat.lt_irrefl _)) p1
    replace p2 := ht.cell (a := ⟨w.heap.size, 2, none⟩) HS.out (fun ⟨_, _, h4⟩ => absurd (HB.out _ _ h4) (Nat.lt_irrefl _)) p2
    replace p3 := ht.cell (a := ⟨w.heap.size, 3, none⟩) HS.out (fun ⟨_, _, h4⟩ => absurd (HB.out _ _ h4) (Nat.lt_irrefl _)) p3
    have HT2 := Lib.hid (HT1.out.trans (ht.mono (fun g ⟨_, _, h4⟩ _ => ⟨_, h4⟩)))
    replace HS := Lib.hid (Nat.lt_of_lt_of_le HS.out ht.size)
    clear ht ho2
    go_wp2
    go_ret
    refine ⟨rfl, HT2.out, [.int .i64 x0, .slice A1 n1 c1, .slice A2 n2 c2, .int .i64 x3], rfl, rfl, fun i hi => ?_⟩
    have hi' : i < 4 := hi
    match i, hi' with
    | 0, _ => exact .int _ _ _
    | 1, _ => exact P1_2.out
    | 2, _ => exact P2_2.out
    | 3, _ => exact .int _ _ _
set_option maxHeartbeats 4000000 in
theorem mkUndo_ok (x0 : Int) (x1 : Int) (x2 : List (List PV)) (x3 : List (List PV)) (x4 : Int) (x5 : Int) (x6 : Int) (x7 : Int) (x8 : Int) (x9 : Bool) (x10 : Bool) (s2 : ShIntS x2) (s3 : ShIntS x3) (k : Int) (h0 : 0 ≤ k) (h1 : (mkR x3 ((mkR x2 (k)).2)).2 ≤ 4611686018427387904) :
    MutOk Try.prog 25 (.agg [pI x0, pI x1, .lst 3 x2, .lst 3 x3, pI x4, pI x5, pI x6, pI x7, pI x8, .bool x9, .bool x10]) k (.agg [pI x0, pI x1, .lst 3 (mkR x2 (k)).1, .lst 3 (mkR x3 ((mkR x2 (k)).2)).1, pI x4, pI x5, pI x6, pI x7, pI x8, .bool x9, .bool x10]) (mkR x3 ((mkR x2 (k)).2)).2 := by
  have HM := mkThread_ok x1 x2 x3 x4 s2 s3 k h0 h1
  obtain ⟨qe, hqe⟩ : ∃ z, z = (mkR x3 ((mkR x2 (k)).2)).2 := ⟨_, rfl⟩
  rw [← hqe] at HM ⊢
  obtain ⟨y2, hy2⟩ : ∃ z, z = (mkR x2 (k)).1 := ⟨_, rfl⟩
  rw [← hy2] at HM ⊢
  obtain ⟨y3, hy3⟩ : ∃ z, z = (mkR x3 ((mkR x2 (k)).2)).1 := ⟨_, rfl⟩
  rw [← hy3] at HM ⊢
  clear hqe hy3 hy2
  refine ⟨⟨_, Try.func25, by kernel_rfl, by kernel_rfl⟩, fun w v Q ho hd hb => ?_⟩
  obtain ⟨vs, rfl, hl, ho⟩ := ho
  match vs, hl with
  | [v0, v1, v2, v3, v4, v5, v6, v7, v8, v9, v10], _ =>
    have O0 : Ow Try.prog w (Q 0) (pI x0) v0 := ho 0 (by simp)
    obtain rfl : v0 = .int .i64 x0 := by cases O0; rfl
    clear O0
    have O1 : Ow Try.prog w (Q 1) (pI x1) v1 := ho 1 (by simp)
    obtain rfl : v1 = .int .i64 x1 := by cases O1; rfl
    clear O1
    have O2 : Ow Try.prog w (Q 2) (.lst 3 x2) v2 := ho 2 (by simp)
    have HO2 := Lib.hid O2
    have V2 : ∃ A n c, v2 = .slice A n c := by rcases HO2.out.forms with ⟨h, _⟩ | ⟨g, cap, h, _⟩ <;> exact ⟨_, _, _, h⟩
    obtain ⟨A2, n2, c2, rfl⟩ := V2
    clear O2
    have O3 : Ow Try.prog w (Q 3) (.lst 3 x3) v3 := ho 3 (by simp)
    have HO3 := Lib.hid O3
    have V3 : ∃ A n c, v3 = .slice A n c := by rcases HO3.out.forms with ⟨h, _⟩ | ⟨g, cap, h, _⟩ <;> exact ⟨_, _, _, h⟩
    obtain ⟨A3, n3, c3, rfl⟩ := V3
    clear O3
    have O4 : Ow Try.prog w (Q 4) (pI x4) v4 := ho 4 (by simp)
    obtain rfl : v4 = .int .i64 x4 := by cases O4; rfl
    clear O4
    have O5 : Ow Try.prog w (Q 5) (pI x5) v5 := ho 5 (by simp)
    obtain rfl : v5 = .int .i64 x5 := by cases O5; rfl
    clear O5
    have O6 : Ow Try.prog w (Q 6) (pI x6) v6 := ho 6 (by simp)
    obtain rfl : v6 = .int .i64 x6 := by cases O6; rfl
    clear O6
    have O7 : Ow Try.prog w (Q 7) (pI x7) v7 := ho 7 (by simp)
    obtain rfl : v7 = .int .i64 x7 := by cases O7; rfl
    clear O7
    have O8 : Ow Try.prog w (Q 8) (pI x8) v8 := ho 8 (by simp)
    obtain rfl : v8 = .int .i64 x8 := by cases O8; rfl
    clear O8
    have O9 : Ow Try.prog w (Q 9) (.bool x9) v9 := ho 9 (by simp)
    obtain rfl : v9 = .bool x9 := by cases O9; rfl
    clear O9
    have O10 : Ow Try.prog w (Q 10) (.bool x10) v10 := ho 10 (by simp)
    obtain rfl : v10 = .bool x10 := by cases O10; rfl
    clear O10
    clear ho
    have HD := Lib.hid hd; have HB := Lib.hid hb; clear hd hb
    go_enter Try.func25, Try.ntmps25
    go_wp2_with fail
    obtain ⟨W0, hW0⟩ : ∃ W : World, W = w.alloc (.cells #[.int .i64 x0, .int .i64 x1, .slice A2 n2 c2, .slice A3 n3 c3, .int .i64 x4, .int .i64 x5, .int .i64 x6, .int .i64 x7, .int .i64 x8, .bool x9, .bool x10] 31) := ⟨_, rfl⟩
    have hb0 : Below w.heap.size w W0 := by rw [hW0]; exact (Below.refl _ _).alloc (Nat.le_refl _) _
    have hs0 : w.heap.size < W0.heap.size := by rw [hW0]; simp
    have p0 : W0.cell? ⟨w.heap.size, 0, none⟩ = some (.int .i64 x0) := by rw [hW0]; go_simp
    have p1 : W0.cell? ⟨w.heap.size, 1, none⟩ = some (.int .i64 x1) := by rw [hW0]; go_simp
    have p2 : W0.cell? ⟨w.heap.size, 2, none⟩ = some (.slice A2 n2 c2) := by rw [hW0]; go_simp
    have p3 : W0.cell? ⟨w.heap.size, 3, none⟩ = some (.slice A3 n3 c3) := by rw [hW0]; go_simp
    have p4 : W0.cell? ⟨w.heap.size, 4, none⟩ = some (.int .i64 x4) := by rw [hW0]; go_simp
    have p5 : W0.cell? ⟨w.heap.size, 5, none⟩ = some (.int .i64 x5) := by rw [hW0]; go_simp
    have p6 : W0.cell? ⟨w.heap.size, 6, none⟩ = some (.int .i64 x6) := by rw [hW0]; go_simp
    have p7 : W0.cell? ⟨w.heap.size, 7, none⟩ = some (.int .i64 x7) := by rw [hW0]; go_simp
    have p8 : W0.cell? ⟨w.heap.size, 8, none⟩ = some (.int .i64 x8) := by rw [hW0]; go_simp
    have p9 : W0.cell? ⟨w.heap.size, 9, none⟩ = some (.bool x9) := by rw [hW0]; go_simp
    have p10 : W0.cell? ⟨w.heap.size, 10, none⟩ = some (.bool x10) := by rw [hW0]; go_simp
    have P2 := Lib.hid (HO2.out.keep (w' := W0) (fun g hg _ => hb0.block g (HB.out 2 g hg)))
    have P3 := Lib.hid (HO3.out.keep (w' := W0) (fun g hg _ => hb0.block g (HB.out 3 g hg)))
    have HT := Lib.hid (show Turned (fun g => ∃ i, Q i g) w W0 from ⟨hb0.os, hb0.tape, hb0.output, hb0.size, fun b hb _ => hb0.block b hb⟩)
    have HS := Lib.hid hs0; clear hs0 hb0
    rw [← hW0]; clear hW0
    have hA : OwA Try.prog W0 (fun j g => Q (j + 1) g) (.agg [pI x1, .lst 3 x2, .lst 3 x3, pI x4]) (.agg ([.int .i64 x1, .slice A2 n2 c2, .slice A3 n3 c3, .int .i64 x4] : List Value).toArray) := ⟨[.int .i64 x1, .slice A2 n2 c2, .slice A3 n3 c3, .int .i64 x4], rfl, rfl, fun i hi => by
      have hi' : i < 4 := hi
      match i, hi' with
      | 0, _ => exact .int _ _ _
      | 1, _ => exact P2.out
      | 2, _ => exact P3.out
      | 3, _ => exact .int _ _ _⟩
    refine (HM.2 _ _ (fun j g => Q (j + 1) g) hA (fun i j g h3 h4 => by have := HD.out _ _ g h3 h4; omega) (fun i g h3 => Nat.lt_of_lt_of_le (HB.out _ g h3) (Nat.le_of_lt HS.out))).mono ?_
    rintro e W1 ⟨rfl, ht, vs1, ev1, hl1, ho1⟩
    have ev2 : [.int .i64 x1, .slice A2 n2 c2, .slice A3 n3 c3, .int .i64 x4] = vs1 := by
      injection ev1 with ev1
      exact congrArg Array.toList ev1
    subst ev2
    have P2_1 := Lib.hid (show Ow Try.prog W1 (Q 2) (.lst 3 y2) (.slice A2 n2 c2) from ho1 1 (by simp))
    have P3_1 := Lib.hid (show Ow Try.prog W1 (Q 3) (.lst 3 y3) (.slice A3 n3 c3) from ho1 2 (by simp))
    clear ho1
    replace p0 := ht.cell (a := ⟨w.heap.size, 0, none⟩) HS.out (fun ⟨_, h4⟩ => absurd (HB.out _ _ h4) (Nat.lt_irrefl _)) p0
    replace p1 := ht.cell (a := ⟨w.heap.size, 1, none⟩) HS.out (fun ⟨_, h4⟩ => absurd (HB.out _ _ h4) (Nat.lt_irrefl _)) p1
    replace p2 := ht.cell (a := ⟨w.heap.size, 2, none⟩) HS.out (fun ⟨_, h4⟩ => absurd (HB.out _ _ h4) (Nat.lt_irrefl _)) p2
    replace p3 := ht.cell (a := ⟨w.heap.size, 3, none⟩) HS.out (fun ⟨_, h4⟩ => absurd (HB.out _ _ h4) (Nat.lt_irrefl _)) p3
    replace p4 := ht.cell (a := ⟨w.heap.size, 4, none⟩) HS.out (fun ⟨_, h4⟩ => absurd (HB.out _ _ h4) (Nat.lt_irrefl _)) p4
    replace p5 := ht.cell (a := ⟨w.heap.size, 5, none⟩) HS.out (fun ⟨_, h4⟩ => absurd (HB.out _ _ h4) (Nat.lt_irrefl _)) p5
    replace p6 := ht.cell (a := ⟨w.heap.size, 6, none⟩) HS.out (fun ⟨_, h4⟩ => absurd (HB.out _ _ h4) (Nat.lt_irrefl _)) p6
    replace p7 := ht.cell (a := ⟨w.heap.size, 7, none⟩) HS.out (fun ⟨_, h4⟩ => absurd (HB.out _ _ h4) (Nat.lt_irrefl _)) p7
    replace p8 := ht.cell (a := ⟨w.heap.size, 8, none⟩) HS.out (fun ⟨_, h4⟩ => absurd (HB.out _ _ h4) (Nat.lt_irrefl _)) p8
    replace p9 := ht.cell (a := ⟨w.heap.size, 9, none⟩) HS.out (fun ⟨_, h4⟩ => absurd (HB.out _ _ h4) (Nat.lt_irrefl _)) p9
    replace p10 := ht.cell (a := ⟨w.heap.size, 10, none⟩) HS.out (fun ⟨_, h4⟩ => absurd (HB.out _ _ h4) (Nat.lt_irrefl _)) p10
    have HT1 := Lib.hid (HT.out.trans (ht.mono (fun g ⟨_, h4⟩ _ => ⟨_, h4⟩)))
    replace HS := Lib.hid (Nat.lt_of_lt_of_le HS.out ht.size)
    clear ht
    go_wp2
    go_ret
    refine ⟨rfl, HT1.out, [.int .i64 x0, .int .i64 x1, .slice A2 n2 c2, .slice A3 n3 c3, .int .i64 x4, .int .i64 x5, .int .i64 x6, .int .i64 x7, .int .i64 x8, .bool x9, .bool x10], rfl, rfl, fun i hi => ?_⟩
    have hi' : i < 11 := hi
    match i, hi' with
    | 0, _ => exact .int _ _ _
    | 1, _ => exact .int _ _ _
    | 2, _ => exact P2_1.out
    | 3, _ => exact P3_1.out
    | 4, _ => exact .int _ _ _
    | 5, _ => exact .int _ _ _
    | 6, _ => exact .int _ _ _
    | 7, _ => exact .int _ _ _
    | 8, _ => exact .int _ _ _
    | 9, _ => exact .bool _ _
    | 10, _ => exact .bool _ _
set_option maxRecDepth 10000 in
set_option maxHeartbeats 4000000 in
theorem heldThread_ok (x0 : Int) (x1 : List (List PV)) (x2 : List (List PV)) (x3 : Int) (s1 : ShIntS x1) (s2 : ShIntS x2) (k : Int) (h0 : 0 ≤ k) (h1 : (mkR x2 (mkR x1 k).2).2 ≤ 4611686018427387904) : FnOk E.P 126 [.agg [pI x0, .lst 3 (mkR x1 k).1, .lst 3 (mkR x2 (mkR x1 k).2).1, pI x3], pI k] (pI (mkR x2 (mkR x1 k).2).2) true := by
  obtain ⟨q1, f1⟩ : ∃ z, z = (mkR x1 k).2 := ⟨_, rfl⟩
  have l1 : k ≤ q1 := by rw [f1]; exact mkR_le _ _
  obtain ⟨q2, f2⟩ : ∃ z, z = (mkR x2 q1).2 := ⟨_, rfl⟩
  have l2 : q1 ≤ q2 := by rw [f2]; exact mkR_le _ _
  simp only [← f1, ← f2] at h1 ⊢
  have d2_1 : decide (q1 < 0) = false := by simp; omega
  have hc1 := heldIntS_ok x1 s1 k (by omega) (by rw [← f1]; omega)
  rw [← f1] at hc1
  have d2_2 : decide (q2 < 0) = false := by simp; omega
  have hc2 := heldIntS_ok x2 s2 q1 (by omega) (by rw [← f2]; omega)
  rw [← f2] at hc2
  refine fn_ok mixed Try.func126 rfl (by kernel_rfl) _ Try.results126 _ Try.ntmps126 (by simp) (by kernel_rfl) ?_
  simp (maxSteps := 2000000) only [d2_1, d2_2, pI, tvs, simprocAttr]
  repeat (first | refine ftS (by kernel_rfl) ?_ | refine And.intro (by omega) ?_)
  refine aops_fn (hc1) (hidB rfl) rfl ?_
  simp (maxSteps := 2000000) only [d2_1, d2_2, pI, tvs, simprocAttr]
  repeat (first | refine ftS (by kernel_rfl) ?_ | refine And.intro (by omega) ?_)
  refine aops_fn (hc2) (hidB rfl) rfl ?_
  simp (maxSteps := 2000000) only [d2_1, d2_2, pI, tvs, simprocAttr]
  repeat (first | refine ftS (by kernel_rfl) ?_ | refine And.intro (by omega) ?_)
  all_goals (first | rfl | trivial | skip)
set_option maxRecDepth 10000 in
set_option maxHeartbeats 4000000 in
theorem heldUndo_ok (x0 : Int) (x1 : Int) (x2 : List (List PV)) (x3 : List (List PV)) (x4 : Int) (x5 : Int) (x6 : Int) (x7 : Int) (x8 : Int) (x9 : Bool) (x10 : Bool) (s2 : ShIntS x2) (s3 : ShIntS x3) (k : Int) (h0 : 0 ≤ k) (h1 : (mkR x3 (mkR x2 k).2).2 ≤ 4611686018427387904) : FnOk E.P 53 [.agg [pI x0, pI x1, .lst 3 (mkR x2 k).1, .lst 3 (mkR x3 (mkR x2 k).2).1, pI x4, pI x5, pI x6, pI x7, pI x8, .bool x9, .bool x10], pI k] (pI (mkR x3 (mkR x2 k).2).2) true := by
  have hc := heldThread_ok x1 x2 x3 x4 s2 s3 k h0 h1
  have hk : k ≤ (mkR x3 (mkR x2 k).2).2 := by
    exact Int.le_trans (mkR_le x2 k) (mkR_le x3 (mkR x2 k).2)
  generalize (mkR x3 (mkR x2 k).2).2 = z at hc hk ⊢
  generalize (mkR x3 (mkR x2 k).2).1 = y3 at hc ⊢
  generalize (mkR x2 k).1 = y2 at hc ⊢
  have d2 : decide (z < 0) = false := by simp only [decide_eq_false_iff_not]; omega
  refine fn_ok mixed Try.func53 rfl (by kernel_rfl) _ Try.results53 _ Try.ntmps53 (by simp) (by kernel_rfl) ?_
  simp (maxSteps := 2000000) only [d2, pI, tvs, simprocAttr]
  repeat (first | refine ftS (by kernel_rfl) ?_ | refine And.intro (by omega) ?_)
  refine aops_fn (hc) (hidB rfl) rfl ?_
  simp (maxSteps := 2000000) only [d2, pI, tvs, simprocAttr]
  repeat (first | refine ftS (by kernel_rfl) ?_ | refine And.intro (by omega) ?_)
  all_goals (first | rfl | trivial | skip)
end Av
end Go.Proofs.Ytdjenlnomibniaa
