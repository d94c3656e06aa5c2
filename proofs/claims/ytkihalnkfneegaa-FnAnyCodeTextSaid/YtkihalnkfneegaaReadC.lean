/-
  How an instruction is read from a text, in the program's own package: the contract for every text.
-/
import Derived.Test.YtkihalnkfneegaaReadP
import Derived.Deep.RegionHeld3
import Derived.Deep.DeepCutAuto
namespace Go.Proofs.Ytkihalnkfneegaa
open Go.RowKit

/-- what is read of a text -/
def ReadMade (l : List UInt8) (w : World) (e : Ending) (w' : World) : Prop :=
  Below w.heap.size w w' ∧ (∀ op a b c : Int, Bt.Is l op a b c → e = .returned (.tuple #[.agg #[.int .i64 op, .int .i64 a, .int .i64 b, .int .i64 c], .bool true])) ∧
  ((∀ op a b c : Int, ¬ Bt.Is l op a b c) → e = .returned (.tuple #[.agg #[.int .i64 0, .int .i64 0, .int .i64 0, .int .i64 0], .bool false]))

theorem readMade_ok {l : List UInt8} {w w' : World} {o a b c : Int} (hb : Below w.heap.size w w') (hp : ∀ op x y z : Int, Bt.Is l op x y z → o = op ∧ a = x ∧ b = y ∧ c = z) (hi : Bt.Is l o a b c) :
    ReadMade l w (.returned (.tuple #[.agg #[.int .i64 o, .int .i64 a, .int .i64 b, .int .i64 c], .bool true])) w' :=
  ⟨hb, fun op x y z h => by obtain ⟨rfl, rfl, rfl, rfl⟩ := hp op x y z h; rfl, fun h => absurd hi (h o a b c)⟩
theorem readMade_no {l : List UInt8} {w w' : World} {o a b c : Int} (hb : Below w.heap.size w w') (hp : ∀ op x y z : Int, Bt.Is l op x y z → o = op ∧ a = x ∧ b = y ∧ c = z) (hi : ¬ Bt.Is l o a b c) :
    ReadMade l w (.returned (.tuple #[.agg #[.int .i64 0, .int .i64 0, .int .i64 0, .int .i64 0], .bool false])) w' :=
  ⟨hb, fun op x y z h => by obtain ⟨rfl, rfl, rfl, rfl⟩ := hp op x y z h; exact absurd h hi, fun _ => rfl⟩

/-- the answer's own block, as it was laid -/
theorem res_row {w W : World} (hb : Below (w.heap.size + 1) (w.alloc (.cells #[.int .i64 0, .int .i64 0, .int .i64 0, .int .i64 0] 23)) W) :
    (∀ i, i < 4 → W.cell? ⟨w.heap.size, i, none⟩ = some (.int .i64 0)) ∧ ∀ i, W.frozen? ⟨w.heap.size, i, none⟩ = false := by
  refine ⟨fun i hi => ?_, fun i => ?_⟩
  · rw [hb.cell (p := ⟨w.heap.size, i, none⟩) (by simp)]
    rcases (show i = 0 ∨ i = 1 ∨ i = 2 ∨ i = 3 by omega) with rfl | rfl | rfl | rfl <;> simp
  · rw [hb.frozen (p := ⟨w.heap.size, i, none⟩) (by simp)]
    simp

set_option maxHeartbeats 8000000 in
theorem implReadCode_any (s : ByteArray) (w : World) (hs : s.size ≤ 1048576) :
    Calls Try.prog 6 #[.string s] w (ReadMade s.data.toList w) := by
  by_cases h11 : s.size ≤ 11
  · go_enter Try.func6, Try.ntmps6
    go_wp2_with fail
    refine (wordsOf_any s _ hs).mono ?_
    rintro e w1 hm
    obtain ⟨v, ws, rfl, hws, hr1, hb1⟩ := hm
    have hpos : 0 < ws.length := by
      have h := Bt.spl_ne s.data.toList []
      have h2 : (ws.map fun x : ByteArray => x.data.toList).length = (Bt.words s.data.toList).length := by rw [hws]
      rw [List.length_map] at h2
      unfold Bt.words at h2
      omega
    obtain ⟨g, cap, rfl, hg0, hg1, hcap, hmax⟩ := hr1.forms hpos
    have hn : ws.length ≤ 12 := by
      have h := Bt.spl_len s.data.toList []
      have h2 : (ws.map fun x : ByteArray => x.data.toList).length = (Bt.words s.data.toList).length := by rw [hws]
      rw [List.length_map] at h2
      unfold Bt.words at h2
      simp at h
      omega
    have hmem : ∀ x ∈ ws, x.size ≤ 1048576 := fun x hx => by
      have h1 : x.data.toList ∈ Bt.words s.data.toList := by rw [← hws]; exact List.mem_map_of_mem hx
      have h2 := Bt.spl_mem _ _ _ h1
      simp at h2
      omega
    have HM := Lib.hid hmem; clear hmem
    have HW := Lib.hid hws; clear hws
    have HR := Lib.hid hr1; clear hr1
    have f0 := HR.out.cell 0 hpos
    have B1 : Below w.heap.size w w1 := ((Below.refl _ _).alloc (Nat.le_refl _) _).trans (hb1.mono (by simp))
    obtain ⟨q, hq⟩ : ∃ q, ws[0] = q := ⟨_, rfl⟩
    rw [hq] at f0
    have HQ := Lib.hid hq; clear hq
    obtain ⟨n, hN⟩ : ∃ n, ws.length = n := ⟨_, rfl⟩
    rw [hN] at hpos hcap hn ⊢
    have HN := Lib.hid hN; clear hN
    go_wp2_with fail
    refine (opNamed_any q _).mono ?_
    rintro e w2 hm
    obtain ⟨o, rfl, ho, hb2⟩ := hm
    have HO := Lib.hid ho; clear ho
    have B2 : Below w.heap.size w w2 := B1.trans (hb2.mono B1.size)
    go_wp2_with fail
    refine (formOf_any _ _).mono ?_
    rintro e w3 ⟨rfl, hb3⟩
    have B3 : Below w.heap.size w w3 := B2.trans (hb3.mono B2.size)
    have wa : 0 ≤ Bt.wf (Bt.fA o) ∧ Bt.wf (Bt.fA o) ≤ 1 := by unfold Bt.wf; split <;> omega
    have wb : 0 ≤ Bt.wf (Bt.fB o) ∧ Bt.wf (Bt.fB o) ≤ 1 := by unfold Bt.wf; split <;> omega
    obtain ⟨wa0, wa1⟩ := wa
    obtain ⟨wb0, wb1⟩ := wb
    go_wp2_with (go_at_call 17; refine (wordsFor_any _ _).mono ?_; rintro e w' ⟨rfl, rfl⟩)
    have b13 : Below w1.heap.size w1 (w3.alloc (.cells #[.string ⟨(Bt.name o).toArray⟩, .int .i64 (Bt.fA o), .int .i64 (Bt.fB o), .int .i64 (Bt.fC o)] 30)) := (hb2.trans (hb3.mono hb2.size)).alloc (by have := hb2.size; have := hb3.size; omega) _
    have HK := Lib.hid (show ∀ W : World, Below w1.heap.size w1 W → ∀ i (hi : i < ws.length), W.cell? ⟨g, i, none⟩ = some (.string ws[i]) from fun W hb i hi => keeps hb (HR.out.cell i hi))
    have HP := Lib.hid (show ∀ op x y z : Int, Bt.Is s.data.toList op x y z → o = op ∧ Bt.fI (ws.map fun x : ByteArray => x.data.toList) 1 (Bt.fA o) = x ∧ Bt.fI (ws.map fun x : ByteArray => x.data.toList) (1 + Bt.wf (Bt.fA o)) (Bt.fB o) = y ∧ Bt.fI (ws.map fun x : ByteArray => x.data.toList) (1 + Bt.wf (Bt.fA o) + Bt.wf (Bt.fB o)) (Bt.fC o) = z from
      fun op x y z h => Bt.parseI HW.out (fun j h0 h1 hj => HO.out j h0 h1 (by
        rw [hj, List.getD_eq_getElem?_getD, List.getElem?_map, List.getElem?_eq_getElem (by have := HN.out; omega)]
        simp [HQ.out])) h)
    have hz13 : Below (w.heap.size + 1) (w.alloc (.cells #[.int .i64 0, .int .i64 0, .int .i64 0, .int .i64 0] 23)) w3 := by
      have e : (w.alloc (.cells #[.int .i64 0, .int .i64 0, .int .i64 0, .int .i64 0] 23)).heap.size = w.heap.size + 1 := by simp
      have h1 := hb1
      rw [e] at h1
      exact (h1.trans (hb2.mono (by have := h1.size; simp at this; omega))).trans (hb3.mono (by have := h1.size; have := hb2.size; simp at *; omega))
    have HZ := Lib.hid hz13; clear hz13
    have hs3 : w.heap.size < w3.heap.size := by have := HZ.out.size; simp at this; omega
    go_region_held3 (fun w' => w'.cell? ⟨w3.heap.size, 1, none⟩ = some (.int .i64 (Bt.fA o)) ∧ w'.cell? ⟨w3.heap.size, 2, none⟩ = some (.int .i64 (Bt.fB o)) ∧ w'.cell? ⟨w3.heap.size, 3, none⟩ = some (.int .i64 (Bt.fC o))) (go_keep)
      (first | (go_at_call 18; refine (fieldAt_any g n cap ws _ _ _ HN.out (by omega) HM.out (HK.out _ ?_)).mono ?_; (repeat (first | exact b13 | apply Below.drew | (refine Below.alloc ?_ (by simp; have h2 := hb2.size; have h3 := hb3.size; omega) _))); rintro e w' ⟨rfl, rfl⟩))
    all_goals
      generalize Bt.fI (ws.map fun x : ByteArray => x.data.toList) 1 (Bt.fA o) = va at *
      generalize Bt.fI (ws.map fun x : ByteArray => x.data.toList) (1 + Bt.wf (Bt.fA o)) (Bt.fB o) = vb at *
      generalize Bt.fI (ws.map fun x : ByteArray => x.data.toList) (1 + Bt.wf (Bt.fA o) + Bt.wf (Bt.fB o)) (Bt.fC o) = vc at *
      have HP' : Hid (∀ op x y z : Int, Bt.Is s.data.toList op x y z → o = op ∧ va = x ∧ vb = y ∧ vc = z) := HP
      clear HP
      have BE : Below (w.heap.size + 1) (w.alloc (.cells #[.int .i64 0, .int .i64 0, .int .i64 0, .int .i64 0] 23)) (((w3.alloc (.cells #[.string ⟨(Bt.name o).toArray⟩, .int .i64 (Bt.fA o), .int .i64 (Bt.fB o), .int .i64 (Bt.fC o)] 30)).alloc (.cells #[.int .i64 o, .int .i64 va, .int .i64 vb, .int .i64 vc] 23)).drew) := ((HZ.out.alloc (by omega) _).alloc (by simp; omega) _).drew
      have HBE := Lib.hid BE; clear BE
      cases hok : Bt.codeOk o va vb vc
      · have HNO : Hid (¬ Bt.Is s.data.toList o va vb vc) := Lib.hid (fun h => by have h1 := h.1; rw [hok] at h1; cases h1)
        go_wp2_with fail
        refine (implCodeOk_any _ _ _ _ _).mono ?_
        rw [hok]
        rintro e w4 ⟨rfl, hb4⟩
        have BZ := HBE.out.trans (hb4.mono (by simp; omega))
        obtain ⟨hr, hf⟩ := res_row BZ
        have r0 := hr 0 (by decide)
        have r1 := hr 1 (by decide)
        have r2 := hr 2 (by decide)
        have r3 := hr 3 (by decide)
        have z0 := hf 0
        have z1 := hf 1
        have z2 := hf 2
        have z3 := hf 3
        clear hr hf
        have BF := Lib.hid BZ; clear BZ
        go_wp2_with fail
        refine bodyPost_ret (v := .tuple #[.agg #[.int .i64 0, .int .i64 0, .int .i64 0, .int .i64 0], .bool false]) (by simp [results, Try.results6, go_sem, r0, r1, r2, r3]) rfl (readMade_no ?_ HP'.out HNO.out)
        exact (((((((Below.refl _ _).alloc (Nat.le_refl _) _).trans (BF.out.mono (by omega))).setCell (Nat.le_refl _) _).setCell (Nat.le_refl _) _).setCell (Nat.le_refl _) _).setCell (Nat.le_refl _) _)
      · go_wp2_with fail
        refine (implCodeOk_any _ _ _ _ _).mono ?_
        rw [hok]
        rintro e w4 ⟨rfl, hb4⟩
        have y0 := keeps hb4 (p := ⟨w3.heap.size + 1, 0, none⟩) (v := .int .i64 o) (by simp)
        have y1 := keeps hb4 (p := ⟨w3.heap.size + 1, 1, none⟩) (v := .int .i64 va) (by simp)
        have y2 := keeps hb4 (p := ⟨w3.heap.size + 1, 2, none⟩) (v := .int .i64 vb) (by simp)
        have y3 := keeps hb4 (p := ⟨w3.heap.size + 1, 3, none⟩) (v := .int .i64 vc) (by simp)
        go_wp2_with fail
        refine (implCodeText_any _ _ _ _ _).mono ?_
        rintro e w5 ⟨rfl, hb5⟩
        have hs4 : w.heap.size + 1 ≤ w4.heap.size := by have := hb4.size; simp at this; omega
        have BZ := (HBE.out.trans (hb4.mono (by simp; omega))).trans (hb5.mono hs4)
        have u0 := keeps hb5 y0
        have u1 := keeps hb5 y1
        have u2 := keeps hb5 y2
        have u3 := keeps hb5 y3
        clear y0 y1 y2 y3
        obtain ⟨hr, hf⟩ := res_row BZ
        have r0 := hr 0 (by decide)
        have r1 := hr 1 (by decide)
        have r2 := hr 2 (by decide)
        have r3 := hr 3 (by decide)
        have z0 := hf 0
        have z1 := hf 1
        have z2 := hf 2
        have z3 := hf 3
        clear hr hf
        have BF := Lib.hid BZ; clear BZ
        by_cases ht : Bt.codeText o va vb vc = s.data.toList
        · have HYES : Hid (Bt.Is s.data.toList o va vb vc) := Lib.hid ⟨hok, ht⟩
          have ht' : (Bt.codeText o va vb vc == s.toList) = true := by rw [ByteArray.toList_eq, ht]; simp
          clear ht
          go_wp2_with fail
          refine bodyPost_ret (v := .tuple #[.agg #[.int .i64 o, .int .i64 va, .int .i64 vb, .int .i64 vc], .bool true]) (by simp [results, Try.results6, go_sem, r0, r1, r2, r3]) rfl (readMade_ok ?_ HP'.out HYES.out)
          exact (((((((Below.refl _ _).alloc (Nat.le_refl _) _).trans (BF.out.mono (by omega))).setCell (Nat.le_refl _) _).setCell (Nat.le_refl _) _).setCell (Nat.le_refl _) _).setCell (Nat.le_refl _) _)
        · have HNO : Hid (¬ Bt.Is s.data.toList o va vb vc) := Lib.hid (fun h => ht h.2)
          have ht' : (Bt.codeText o va vb vc == s.toList) = false := by rw [ByteArray.toList_eq]; simpa using ht
          clear ht
          go_wp2_with fail
          refine bodyPost_ret (v := .tuple #[.agg #[.int .i64 0, .int .i64 0, .int .i64 0, .int .i64 0], .bool false]) (by simp [results, Try.results6, go_sem, r0, r1, r2, r3]) rfl (readMade_no ?_ HP'.out HNO.out)
          exact (((((((Below.refl _ _).alloc (Nat.le_refl _) _).trans (BF.out.mono (by omega))).setCell (Nat.le_refl _) _).setCell (Nat.le_refl _) _).setCell (Nat.le_refl _) _).setCell (Nat.le_refl _) _)
  · have HNO : Hid (∀ op a b c : Int, ¬ Bt.Is s.data.toList op a b c) := Lib.hid (fun op a b c h => by
      have h1 := Bt.codeText_len h.1
      rw [h.2] at h1
      simp at h1
      omega)
    go_enter Try.func6, Try.ntmps6
    go_wp2_with fail
    refine bodyPost_ret (v := .tuple #[.agg #[.int .i64 0, .int .i64 0, .int .i64 0, .int .i64 0], .bool false]) (by simp [results, Try.results6, go_sem]) rfl ⟨?_, fun op a b c h => absurd h (HNO.out op a b c), fun _ => rfl⟩
    exact (Below.refl _ _).alloc (Nat.le_refl _) _
end Go.Proofs.Ytkihalnkfneegaa
