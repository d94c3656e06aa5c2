/-
  How an instruction is read from a text, by the model: the contract for every text.
-/
import Derived.Test.YtmcmfebmjfpmoaaReadC
namespace Go.Proofs.Ytmcmfebmjfpmoaa
open Go.RowKit

namespace Bt
/-- the number at the next word, by the model, if the field is used and there is one -/
def sV (u : Bool) (W : List (List UInt8)) (t : Nat) : Int := if u = true ∧ t < W.length then numS (W.getD t []) else 0
/-- and where it goes on -/
def sT (u : Bool) (W : List (List UInt8)) (t : Nat) : Nat := if u = true ∧ t < W.length then t + 1 else t
theorem sV_yes {u : Bool} {W : List (List UInt8)} {t : Nat} {x : List UInt8} (hu : u = true) (h : W[t]? = some x) : sV u W t = numS x ∧ sT u W t = t + 1 := by
  have ht : t < W.length := by
    rcases Nat.lt_or_ge t W.length with h1 | h1
    · exact h1
    · rw [List.getElem?_eq_none h1] at h; cases h
  unfold sV sT
  rw [if_pos ⟨hu, ht⟩, if_pos ⟨hu, ht⟩, List.getD_eq_getElem?_getD, h]
  exact ⟨rfl, rfl⟩
theorem sV_no {u : Bool} {W : List (List UInt8)} {t : Nat} (h : ¬ (u = true ∧ t < W.length)) : sV u W t = 0 ∧ sT u W t = t := by
  unfold sV sT
  rw [if_neg h, if_neg h]
  exact ⟨rfl, rfl⟩
theorem parseS {l : List UInt8} {W : List (List UInt8)} {o op a b c : Int} (hw : W = words l) (ho : ∀ j : Int, 0 ≤ j → j ≤ 17 → name j = W.getD 0 [] → o = j) (h : Is l op a b c) :
    o = op ∧ sV (uA o) W 1 = a ∧ sV (uB o) W (sT (uA o) W 1) = b ∧ sV (decide (0 < uC o)) W (sT (uB o) W (sT (uA o) W 1)) = c := by
  obtain ⟨hok, ht⟩ := h
  have hop := codeOk_op hok
  obtain ⟨⟨a0, a1⟩, ⟨b0, b1⟩, c0, c1⟩ := codeOk_nums hok
  have hW := words_text hok
  rw [ht, ← hw] at hW
  have e : o = op := ho op hop.1 hop.2 (by rw [hW]; rfl)
  subst e
  have na : numS (dec a.toNat) = a := by rw [numS_dec (by omega)]; omega
  have nb : numS (dec b.toNat) = b := by rw [numS_dec (by omega)]; omega
  have nc : numS (dec c.toNat) = c := by rw [numS_dec (by omega)]; omega
  simp only [codeOk, Bool.and_eq_true] at hok
  obtain ⟨⟨⟨_, ha⟩, hb⟩, hc⟩ := hok
  refine ⟨rfl, ?_⟩
  cases hA : uA o <;> cases hB : uB o <;> cases hD : decide (0 < uC o)
  all_goals
    rw [hA] at ha hW
    rw [hB] at hb hW
    rw [hD] at hc hW
    first | (have za := below_unused ha; subst za) | skip
    first | (have zb := below_unused hb; subst zb) | skip
    first | (have zc := below_unused hc; subst zc) | skip
    clear ho ht
    rw [hW]
    clear hW hw hA hB hD ha hb hc
    simp [sV, sT, fw, na, nb, nc]
theorem name_inj_none {op : Int} (h : 0 ≤ op ∧ op ≤ 17) (e : name op = []) : False := by
  rcases (show op = 0 ∨ op = 1 ∨ op = 2 ∨ op = 3 ∨ op = 4 ∨ op = 5 ∨ op = 6 ∨ op = 7 ∨ op = 8 ∨ op = 9 ∨ op = 10 ∨ op = 11 ∨ op = 12 ∨ op = 13 ∨ op = 14 ∨ op = 15 ∨ op = 16 ∨ op = 17 by omega) with rfl | rfl | rfl | rfl | rfl | rfl | rfl | rfl | rfl | rfl | rfl | rfl | rfl | rfl | rfl | rfl | rfl | rfl
  all_goals exact absurd e (by decide)
theorem text_ne {op a b c : Int} (h : codeOk op a b c = true) : codeText op a b c ≠ [] := by
  have hop := codeOk_op h
  intro e
  have h1 := words_text h
  rw [e] at h1
  have h2 : (words []) = [[]] := rfl
  rw [h2] at h1
  simp only [List.cons.injEq] at h1
  have h3 := name_inj_none hop h1.1.symm
  exact h3
end Bt

theorem is_of {l : List UInt8} {o a b c : Int} (h : Bt.codeText o a b c = l) (h0 : l ≠ []) : Bt.Is l o a b c := by
  refine ⟨?_, h⟩
  cases hk : Bt.codeOk o a b c with
  | true => rfl
  | false =>
    exfalso
    apply h0
    rw [← h]
    unfold Bt.codeText
    rw [hk]
    rfl

/-- an instruction's cells -/
def codeF (o a b c : Int) : Nat → Value := fun i => if i = 0 then .int .i64 o else if i = 1 then .int .i64 a else if i = 2 then .int .i64 b else .int .i64 c

theorem codeF_set (o a b c : Int) (i : Nat) (hi : i < 4) (x : Int) : ∀ j, j < 4 → (if j = i then Value.int .i64 x else codeF o a b c j) = codeF (if i = 0 then x else o) (if i = 1 then x else a) (if i = 2 then x else b) (if i = 3 then x else c) j := by
  intro j hj
  rcases (show i = 0 ∨ i = 1 ∨ i = 2 ∨ i = 3 by omega) with rfl | rfl | rfl | rfl <;>
    rcases (show j = 0 ∨ j = 1 ∨ j = 2 ∨ j = 3 by omega) with rfl | rfl | rfl | rfl <;> simp [codeF]

set_option maxHeartbeats 8000000 in
theorem specReadCode_any (s : ByteArray) (w : World) (hs : s.size ≤ 1048576) :
    Calls Try.prog 24 #[.string s] w (ReadMade s.data.toList w) := by
  go_enter Try.func24, Try.ntmps24
  go_wp2_with fail
  refine (specWords_any s _ hs).mono ?_
  rintro e w1 hm
  obtain ⟨v, ws, rfl, hws, hr1, hb1⟩ := hm
  have hlen : ws.length = (Bt.words s.data.toList).length := by
    have h2 : (ws.map fun x : ByteArray => x.data.toList).length = (Bt.words s.data.toList).length := by rw [hws]
    rw [List.length_map] at h2
    exact h2
  have hpos : 0 < ws.length := by rw [hlen]; exact Bt.spl_ne s.data.toList []
  obtain ⟨g, cap, rfl, hg0, hg1, hcap, hmax⟩ := hr1.forms hpos
  have hn : ws.length ≤ 1048577 := by
    have h := Bt.spl_len s.data.toList []
    rw [hlen]
    unfold Bt.words
    simp at h
    omega
  clear hlen hmax
  have hmem : ∀ x ∈ ws, x.size ≤ 1048576 := fun x hx => by
    have h1 : x.data.toList ∈ Bt.words s.data.toList := by rw [← hws]; exact List.mem_map_of_mem hx
    have h2 := Bt.spl_mem _ _ _ h1
    simp at h2
    omega
  have HM := Lib.hid hmem; clear hmem
  have HW := Lib.hid hws; clear hws
  have HR := Lib.hid hr1; clear hr1
  have hz1 : Below (w.heap.size + 1) (w.alloc (.cells #[.int .i64 0, .int .i64 0, .int .i64 0, .int .i64 0] 25)) w1 := hb1.mono (by simp)
  have hs1 : w.heap.size < w1.heap.size := by have := hz1.size; simp at this; omega
  have HZ := Lib.hid hz1; clear hz1
  have HK := Lib.hid (show ∀ W : World, Below w1.heap.size w1 W → ∀ i (hi : i < ws.length), W.cell? ⟨g, i, none⟩ = some (.string ws[i]) from fun W hb i hi => keeps hb (HR.out.cell i hi))
  obtain ⟨q, hq⟩ : ∃ q, ws[0] = q := ⟨_, rfl⟩
  have HQ := Lib.hid hq; clear hq
  obtain ⟨n, hN⟩ : ∃ n, ws.length = n := ⟨_, rfl⟩
  rw [hN] at hpos hcap hn ⊢
  have HN := Lib.hid hN; clear hN
  go_wp2_with fail
  go_loopw [6] (fun i wr => ∃ k : Nat, ∃ o : Int, k ≤ 18 ∧ i = .int .i64 k ∧ Below w1.heap.size w1 wr ∧ wr.rowIs w1.heap.size 25 4 (codeF o 0 0 0) ∧ ∀ j : Nat, j < k → Bt.name j = q.data.toList → o = j) (fun i _ => 18 - (intOf i).toNat)
  case atStart =>
    refine ⟨0, -1, by omega, rfl, (Below.refl _ _).alloc (Nat.le_refl _) _, ?_, fun _ h => absurd h (by omega)⟩
    refine World.rowIs_alloc w1 #[.int .i64 (-1), .int .i64 0, .int .i64 0, .int .i64 0] 25 (codeF (-1) 0 0 0) (fun i hi => ?_)
    have hi' : i < 4 := hi
    rcases (show i = 0 ∨ i = 1 ∨ i = 2 ∨ i = 3 by omega) with rfl | rfl | rfl | rfl <;> rfl
  case round =>
    obtain ⟨k, o, hk, rfl, hb, hrow, hall⟩ := hrel
    have HA := Lib.hid hall; clear hall
    have f0 : wr.cell? ⟨g, 0, none⟩ = some (.string q) := by
      have h := HK.out wr hb 0 (by rw [HN.out]; exact hpos)
      rw [HQ.out] at h
      exact h
    have r0 : wr.cell? ⟨w1.heap.size, 0, none⟩ = some (.int .i64 o) := hrow.cell (i := 0) (by decide)
    have r1 : wr.cell? ⟨w1.heap.size, 1, none⟩ = some (.int .i64 0) := hrow.cell (i := 1) (by decide)
    have r2 : wr.cell? ⟨w1.heap.size, 2, none⟩ = some (.int .i64 0) := hrow.cell (i := 2) (by decide)
    have r3 : wr.cell? ⟨w1.heap.size, 3, none⟩ = some (.int .i64 0) := hrow.cell (i := 3) (by decide)
    have hlt1 := hrow.lt
    by_cases hlt : k ≤ 17
    · have q0 := Cls.keeps f0
      have HO := Lib.hid hrow; clear hrow
      by_cases hq : Bt.name k = q.data.toList
      · have hq' : (Bt.name k == q.toList) = true := by rw [ByteArray.toList_eq, hq]; simp
        have HE := Lib.hid hq; clear hq
        go_wp2_with fail
        refine wp_region_cls (by kernel_rfl) (by kernel_rfl) ?_
        repeat (go_big_quiet_step ((go_at_call 38; exact cls_of (specName_any _ ⟨by omega, by omega⟩ _))))
        refine wpQuiet_nil ?_
        intro w2' hw2'
        obtain ⟨⟨w2, hb2⟩, rfl⟩ := hw2'
        have hr2 := HO.out.of_block (hb2.block _ hlt1)
        have y0 := hr2.cell (i := 0) (by decide)
        have z0 := hr2.frozen 0
        have HR2 := Lib.hid hr2; clear hr2
        go_wp2_with fail
        go_roundw
        case rel => exact ⟨k + 1, k, by omega, by go_num, (hb.trans (hb2.mono hb.size)).setCell (Nat.le_refl _) _, (HR2.out.set 0 _).congr (codeF_set o 0 0 0 0 (by decide) k), fun j hj hjq => by
          have h := Bt.name_inj (i := (j : Int)) (j := (k : Int)) (by omega) (by omega) (by rw [hjq, HE.out])
          exact h.symm⟩
        case measure => simp [intOf]; omega
      · have hq' : (Bt.name k == q.toList) = false := by rw [ByteArray.toList_eq]; simpa using hq
        have HE := Lib.hid hq; clear hq
        go_wp2_with fail
        refine wp_region_cls (by kernel_rfl) (by kernel_rfl) ?_
        repeat (go_big_quiet_step ((go_at_call 38; exact cls_of (specName_any _ ⟨by omega, by omega⟩ _))))
        refine wpQuiet_nil ?_
        intro w2' hw2'
        obtain ⟨⟨w2, hb2⟩, rfl⟩ := hw2'
        have HR2 := Lib.hid (HO.out.of_block (hb2.block _ hlt1))
        go_wp2_with fail
        go_roundw
        case rel => exact ⟨k + 1, o, by omega, by go_num, hb.trans (hb2.mono hb.size), HR2.out, fun j hj hjq => by
          by_cases e : j < k
          · exact HA.out j e hjq
          · obtain rfl : j = k := by omega
            exact absurd hjq HE.out⟩
        case measure => simp [intOf]; omega
    · have HO : Hid (∀ j : Int, 0 ≤ j → j ≤ 17 → Bt.name j = q.data.toList → o = j) := Lib.hid (fun j h0 h1 hj => by
        obtain ⟨j, rfl⟩ := Int.eq_ofNat_of_zero_le h0
        exact HA.out j (by omega) hj)
      have z1 := hrow.frozen 1
      have z2 := hrow.frozen 2
      have z3 := hrow.frozen 3
      have HO3 := Lib.hid hrow; clear hrow
      have HL : Hid ((ws.map fun x : ByteArray => x.data.toList).length = n) := Lib.hid (by rw [List.length_map, HN.out])
      have HP := Lib.hid (fun (op x y z : Int) (h : Bt.Is s.data.toList op x y z) => Bt.parseS HW.out (fun j h0 h1 hj => HO.out j h0 h1 (by
        rw [hj, List.getD_eq_getElem?_getD, List.getElem?_map, List.getElem?_eq_getElem (by have := HN.out; omega)]
        simp [HQ.out])) h)
      have HZR : Hid (Below (w.heap.size + 1) (w.alloc (.cells #[.int .i64 0, .int .i64 0, .int .i64 0, .int .i64 0] 25)) wr) := Lib.hid (HZ.out.trans (hb.mono (by omega)))
      have hsr : w1.heap.size ≤ wr.heap.size := hb.size
      cases hA : Bt.uA o <;> cases hB : Bt.uB o <;> cases hC : decide (0 < Bt.uC o)
      case false.false.false =>
        have E0 := Bt.sV_no (u := Bt.uA o) (W := (ws.map fun x : ByteArray => x.data.toList)) (t := 1) (fun h => by rw [hA] at h; exact Bool.false_ne_true h.1)
        have E1 := Bt.sV_no (u := Bt.uB o) (W := (ws.map fun x : ByteArray => x.data.toList)) (t := 1) (fun h => by rw [hB] at h; exact Bool.false_ne_true h.1)
        have E2 := Bt.sV_no (u := decide (0 < Bt.uC o)) (W := (ws.map fun x : ByteArray => x.data.toList)) (t := 1) (fun h => by rw [hC] at h; exact Bool.false_ne_true h.1)
        have HPL : Hid (∀ op x y z : Int, Bt.Is s.data.toList op x y z → o = op ∧ 0 = x ∧ 0 = y ∧ 0 = z) := Lib.hid (fun op x y z h => by
          have h := HP.out op x y z h
          rw [E0.2, E0.1, E1.2, E1.1, E2.1] at h
          exact h)
        clear E0 E1 E2
        go_wp2_with (first | (go_at_call 27; refine (uses_any _ _).mono ?_; rintro e w' ⟨rfl, rfl⟩) | (go_at_call 42; refine (specRead_any _ _ (by omega)).mono ?_; rintro e w' ⟨rfl, rfl⟩))
        refine (specCodeText_any _ _ _ _ _).mono ?_
        rintro e w3 ⟨rfl, hb3⟩
        have hrow := HO3.out
        have hr3 := hrow.of_block (hb3.block _ hrow.lt)
        have c0 : w3.cell? ⟨w1.heap.size, 0, none⟩ = some (.int .i64 (o)) := hr3.cell (i := 0) (by decide)
        have c1 : w3.cell? ⟨w1.heap.size, 1, none⟩ = some (.int .i64 (0)) := hr3.cell (i := 1) (by decide)
        have c2 : w3.cell? ⟨w1.heap.size, 2, none⟩ = some (.int .i64 (0)) := hr3.cell (i := 2) (by decide)
        have c3 : w3.cell? ⟨w1.heap.size, 3, none⟩ = some (.int .i64 (0)) := hr3.cell (i := 3) (by decide)
        clear hrow hr3 r0 r1 r2 r3 z1 z2 z3
        have BZ := (HZR.out).trans (hb3.mono (by first | omega | (simp; omega)))
        obtain ⟨hr, hf⟩ := res_row BZ
        have x0 := hr 0 (by decide)
        have x1 := hr 1 (by decide)
        have x2 := hr 2 (by decide)
        have x3 := hr 3 (by decide)
        have y0 := hf 0
        have y1 := hf 1
        have y2 := hf 2
        have y3 := hf 3
        clear hr hf
        have BF := Lib.hid BZ; clear BZ
        by_cases ht : Bt.codeText o (0) (0) (0) = s.data.toList
        · have ht' : (Bt.codeText o (0) (0) (0) == s.toList) = true := by rw [ByteArray.toList_eq, ht]; simp
          by_cases h0 : s.data.toList = []
          · have HNO : Hid (¬ Bt.Is s.data.toList o (0) (0) (0)) := Lib.hid (fun h => Bt.text_ne h.1 (ht.trans h0))
            have h0' : s.toList = [] := by rw [ByteArray.toList_eq]; exact h0
            have hte : Bt.codeText o (0) (0) (0) = [] := ht.trans h0
            clear ht h0 ht'
            go_wp2_with fail
            refine bodyPost_ret (v := .tuple #[.agg #[.int .i64 0, .int .i64 0, .int .i64 0, .int .i64 0], .bool false]) (by simp [results, Try.results24, go_sem, x0, x1, x2, x3]) rfl (readMade_no ?_ HPL.out HNO.out)
            exact (((((((Below.refl _ _).alloc (Nat.le_refl _) _).trans (BF.out.mono (by omega))).setCell (Nat.le_refl _) _).setCell (Nat.le_refl _) _).setCell (Nat.le_refl _) _).setCell (Nat.le_refl _) _)
          · have HYES : Hid (Bt.Is s.data.toList o (0) (0) (0)) := Lib.hid (is_of ht h0)
            have h0' : s.toList.isEmpty = false := by rw [ByteArray.toList_eq]; simpa using h0
            clear ht h0
            go_wp2_with fail
            refine bodyPost_ret (v := .tuple #[.agg #[.int .i64 o, .int .i64 (0), .int .i64 (0), .int .i64 (0)], .bool true]) (by simp [results, Try.results24, go_sem, x0, x1, x2, x3]) rfl (readMade_ok ?_ HPL.out HYES.out)
            exact (((((((Below.refl _ _).alloc (Nat.le_refl _) _).trans (BF.out.mono (by omega))).setCell (Nat.le_refl _) _).setCell (Nat.le_refl _) _).setCell (Nat.le_refl _) _).setCell (Nat.le_refl _) _)
        · have HNO : Hid (¬ Bt.Is s.data.toList o (0) (0) (0)) := Lib.hid (fun h => ht h.2)
          have ht' : (Bt.codeText o (0) (0) (0) == s.toList) = false := by rw [ByteArray.toList_eq]; simpa using ht
          clear ht
          go_wp2_with fail
          refine bodyPost_ret (v := .tuple #[.agg #[.int .i64 0, .int .i64 0, .int .i64 0, .int .i64 0], .bool false]) (by simp [results, Try.results24, go_sem, x0, x1, x2, x3]) rfl (readMade_no ?_ HPL.out HNO.out)
          exact (((((((Below.refl _ _).alloc (Nat.le_refl _) _).trans (BF.out.mono (by omega))).setCell (Nat.le_refl _) _).setCell (Nat.le_refl _) _).setCell (Nat.le_refl _) _).setCell (Nat.le_refl _) _)
      case false.false.true =>
        by_cases hn1 : 1 < n
        · have hw1 : 1 < ws.length := by rw [HN.out]; exact hn1
          obtain ⟨q1, hq1⟩ : ∃ x, ws[1] = x := ⟨_, rfl⟩
          have f1 := HK.out wr hb 1 hw1
          rw [hq1] at f1
          have s1 : q1.size ≤ 1048576 := HM.out q1 (hq1 ▸ List.getElem_mem hw1)
          have HQ1 : Hid ((ws.map fun x : ByteArray => x.data.toList)[1]? = some q1.data.toList) := Lib.hid (by rw [List.getElem?_map, List.getElem?_eq_getElem hw1, hq1]; rfl)
          clear hq1 hw1
          have E0 := Bt.sV_no (u := Bt.uA o) (W := (ws.map fun x : ByteArray => x.data.toList)) (t := 1) (fun h => by rw [hA] at h; exact Bool.false_ne_true h.1)
          have E1 := Bt.sV_no (u := Bt.uB o) (W := (ws.map fun x : ByteArray => x.data.toList)) (t := 1) (fun h => by rw [hB] at h; exact Bool.false_ne_true h.1)
          have E2 := Bt.sV_yes (u := decide (0 < Bt.uC o)) (W := (ws.map fun x : ByteArray => x.data.toList)) (t := 1) (x := q1.data.toList) hC HQ1.out
          have HPL : Hid (∀ op x y z : Int, Bt.Is s.data.toList op x y z → o = op ∧ 0 = x ∧ 0 = y ∧ Bt.numS q1.data.toList = z) := Lib.hid (fun op x y z h => by
            have h := HP.out op x y z h
            rw [E0.2, E0.1, E1.2, E1.1, E2.1] at h
            exact h)
          clear E0 E1 E2
          go_wp2_with (first | (go_at_call 27; refine (uses_any _ _).mono ?_; rintro e w' ⟨rfl, rfl⟩) | (go_at_call 42; refine (specRead_any _ _ (by omega)).mono ?_; rintro e w' ⟨rfl, rfl⟩))
          refine (specCodeText_any _ _ _ _ _).mono ?_
          rintro e w3 ⟨rfl, hb3⟩
          have hrow := ((HO3.out).set 3 _).congr (codeF_set o (0) (0) (0) 3 (by decide) (Bt.numS q1.data.toList))
          have hr3 := hrow.of_block (hb3.block _ hrow.lt)
          have c0 : w3.cell? ⟨w1.heap.size, 0, none⟩ = some (.int .i64 (o)) := hr3.cell (i := 0) (by decide)
          have c1 : w3.cell? ⟨w1.heap.size, 1, none⟩ = some (.int .i64 (0)) := hr3.cell (i := 1) (by decide)
          have c2 : w3.cell? ⟨w1.heap.size, 2, none⟩ = some (.int .i64 (0)) := hr3.cell (i := 2) (by decide)
          have c3 : w3.cell? ⟨w1.heap.size, 3, none⟩ = some (.int .i64 (Bt.numS q1.data.toList)) := hr3.cell (i := 3) (by decide)
          clear hrow hr3 r0 r1 r2 r3 z1 z2 z3
          have BZ := ((HZR.out).setCell (by simp; omega) _).trans (hb3.mono (by first | omega | (simp; omega)))
          obtain ⟨hr, hf⟩ := res_row BZ
          have x0 := hr 0 (by decide)
          have x1 := hr 1 (by decide)
          have x2 := hr 2 (by decide)
          have x3 := hr 3 (by decide)
          have y0 := hf 0
          have y1 := hf 1
          have y2 := hf 2
          have y3 := hf 3
          clear hr hf
          have BF := Lib.hid BZ; clear BZ
          by_cases ht : Bt.codeText o (0) (0) (Bt.numS q1.data.toList) = s.data.toList
          · have ht' : (Bt.codeText o (0) (0) (Bt.numS q1.data.toList) == s.toList) = true := by rw [ByteArray.toList_eq, ht]; simp
            by_cases h0 : s.data.toList = []
            · have HNO : Hid (¬ Bt.Is s.data.toList o (0) (0) (Bt.numS q1.data.toList)) := Lib.hid (fun h => Bt.text_ne h.1 (ht.trans h0))
              have h0' : s.toList = [] := by rw [ByteArray.toList_eq]; exact h0
              have hte : Bt.codeText o (0) (0) (Bt.numS q1.data.toList) = [] := ht.trans h0
              clear ht h0 ht'
              go_wp2_with fail
              refine bodyPost_ret (v := .tuple #[.agg #[.int .i64 0, .int .i64 0, .int .i64 0, .int .i64 0], .bool false]) (by simp [results, Try.results24, go_sem, x0, x1, x2, x3]) rfl (readMade_no ?_ HPL.out HNO.out)
              exact (((((((Below.refl _ _).alloc (Nat.le_refl _) _).trans (BF.out.mono (by omega))).setCell (Nat.le_refl _) _).setCell (Nat.le_refl _) _).setCell (Nat.le_refl _) _).setCell (Nat.le_refl _) _)
            · have HYES : Hid (Bt.Is s.data.toList o (0) (0) (Bt.numS q1.data.toList)) := Lib.hid (is_of ht h0)
              have h0' : s.toList.isEmpty = false := by rw [ByteArray.toList_eq]; simpa using h0
              clear ht h0
              go_wp2_with fail
              refine bodyPost_ret (v := .tuple #[.agg #[.int .i64 o, .int .i64 (0), .int .i64 (0), .int .i64 (Bt.numS q1.data.toList)], .bool true]) (by simp [results, Try.results24, go_sem, x0, x1, x2, x3]) rfl (readMade_ok ?_ HPL.out HYES.out)
              exact (((((((Below.refl _ _).alloc (Nat.le_refl _) _).trans (BF.out.mono (by omega))).setCell (Nat.le_refl _) _).setCell (Nat.le_refl _) _).setCell (Nat.le_refl _) _).setCell (Nat.le_refl _) _)
          · have HNO : Hid (¬ Bt.Is s.data.toList o (0) (0) (Bt.numS q1.data.toList)) := Lib.hid (fun h => ht h.2)
            have ht' : (Bt.codeText o (0) (0) (Bt.numS q1.data.toList) == s.toList) = false := by rw [ByteArray.toList_eq]; simpa using ht
            clear ht
            go_wp2_with fail
            refine bodyPost_ret (v := .tuple #[.agg #[.int .i64 0, .int .i64 0, .int .i64 0, .int .i64 0], .bool false]) (by simp [results, Try.results24, go_sem, x0, x1, x2, x3]) rfl (readMade_no ?_ HPL.out HNO.out)
            exact (((((((Below.refl _ _).alloc (Nat.le_refl _) _).trans (BF.out.mono (by omega))).setCell (Nat.le_refl _) _).setCell (Nat.le_refl _) _).setCell (Nat.le_refl _) _).setCell (Nat.le_refl _) _)
        · skip
          have E0 := Bt.sV_no (u := Bt.uA o) (W := (ws.map fun x : ByteArray => x.data.toList)) (t := 1) (fun h => by rw [hA] at h; exact Bool.false_ne_true h.1)
          have E1 := Bt.sV_no (u := Bt.uB o) (W := (ws.map fun x : ByteArray => x.data.toList)) (t := 1) (fun h => by rw [hB] at h; exact Bool.false_ne_true h.1)
          have E2 := Bt.sV_no (u := decide (0 < Bt.uC o)) (W := (ws.map fun x : ByteArray => x.data.toList)) (t := 1) (fun h => by have h1 := h.2; rw [HL.out] at h1; omega)
          have HPL : Hid (∀ op x y z : Int, Bt.Is s.data.toList op x y z → o = op ∧ 0 = x ∧ 0 = y ∧ 0 = z) := Lib.hid (fun op x y z h => by
            have h := HP.out op x y z h
            rw [E0.2, E0.1, E1.2, E1.1, E2.1] at h
            exact h)
          clear E0 E1 E2
          go_wp2_with (first | (go_at_call 27; refine (uses_any _ _).mono ?_; rintro e w' ⟨rfl, rfl⟩) | (go_at_call 42; refine (specRead_any _ _ (by omega)).mono ?_; rintro e w' ⟨rfl, rfl⟩))
          refine (specCodeText_any _ _ _ _ _).mono ?_
          rintro e w3 ⟨rfl, hb3⟩
          have hrow := HO3.out
          have hr3 := hrow.of_block (hb3.block _ hrow.lt)
          have c0 : w3.cell? ⟨w1.heap.size, 0, none⟩ = some (.int .i64 (o)) := hr3.cell (i := 0) (by decide)
          have c1 : w3.cell? ⟨w1.heap.size, 1, none⟩ = some (.int .i64 (0)) := hr3.cell (i := 1) (by decide)
          have c2 : w3.cell? ⟨w1.heap.size, 2, none⟩ = some (.int .i64 (0)) := hr3.cell (i := 2) (by decide)
          have c3 : w3.cell? ⟨w1.heap.size, 3, none⟩ = some (.int .i64 (0)) := hr3.cell (i := 3) (by decide)
          clear hrow hr3 r0 r1 r2 r3 z1 z2 z3
          have BZ := (HZR.out).trans (hb3.mono (by first | omega | (simp; omega)))
          obtain ⟨hr, hf⟩ := res_row BZ
          have x0 := hr 0 (by decide)
          have x1 := hr 1 (by decide)
          have x2 := hr 2 (by decide)
          have x3 := hr 3 (by decide)
          have y0 := hf 0
          have y1 := hf 1
          have y2 := hf 2
          have y3 := hf 3
          clear hr hf
          have BF := Lib.hid BZ; clear BZ
          by_cases ht : Bt.codeText o (0) (0) (0) = s.data.toList
          · have ht' : (Bt.codeText o (0) (0) (0) == s.toList) = true := by rw [ByteArray.toList_eq, ht]; simp
            by_cases h0 : s.data.toList = []
            · have HNO : Hid (¬ Bt.Is s.data.toList o (0) (0) (0)) := Lib.hid (fun h => Bt.text_ne h.1 (ht.trans h0))
              have h0' : s.toList = [] := by rw [ByteArray.toList_eq]; exact h0
              have hte : Bt.codeText o (0) (0) (0) = [] := ht.trans h0
              clear ht h0 ht'
              go_wp2_with fail
              refine bodyPost_ret (v := .tuple #[.agg #[.int .i64 0, .int .i64 0, .int .i64 0, .int .i64 0], .bool false]) (by simp [results, Try.results24, go_sem, x0, x1, x2, x3]) rfl (readMade_no ?_ HPL.out HNO.out)
              exact (((((((Below.refl _ _).alloc (Nat.le_refl _) _).trans (BF.out.mono (by omega))).setCell (Nat.le_refl _) _).setCell (Nat.le_refl _) _).setCell (Nat.le_refl _) _).setCell (Nat.le_refl _) _)
            · have HYES : Hid (Bt.Is s.data.toList o (0) (0) (0)) := Lib.hid (is_of ht h0)
              have h0' : s.toList.isEmpty = false := by rw [ByteArray.toList_eq]; simpa using h0
              clear ht h0
              go_wp2_with fail
              refine bodyPost_ret (v := .tuple #[.agg #[.int .i64 o, .int .i64 (0), .int .i64 (0), .int .i64 (0)], .bool true]) (by simp [results, Try.results24, go_sem, x0, x1, x2, x3]) rfl (readMade_ok ?_ HPL.out HYES.out)
              exact (((((((Below.refl _ _).alloc (Nat.le_refl _) _).trans (BF.out.mono (by omega))).setCell (Nat.le_refl _) _).setCell (Nat.le_refl _) _).setCell (Nat.le_refl _) _).setCell (Nat.le_refl _) _)
          · have HNO : Hid (¬ Bt.Is s.data.toList o (0) (0) (0)) := Lib.hid (fun h => ht h.2)
            have ht' : (Bt.codeText o (0) (0) (0) == s.toList) = false := by rw [ByteArray.toList_eq]; simpa using ht
            clear ht
            go_wp2_with fail
            refine bodyPost_ret (v := .tuple #[.agg #[.int .i64 0, .int .i64 0, .int .i64 0, .int .i64 0], .bool false]) (by simp [results, Try.results24, go_sem, x0, x1, x2, x3]) rfl (readMade_no ?_ HPL.out HNO.out)
            exact (((((((Below.refl _ _).alloc (Nat.le_refl _) _).trans (BF.out.mono (by omega))).setCell (Nat.le_refl _) _).setCell (Nat.le_refl _) _).setCell (Nat.le_refl _) _).setCell (Nat.le_refl _) _)
      case false.true.false =>
        exfalso
        simp only [Bt.uA, Bt.uB, decide_eq_false_iff_not, decide_eq_true_eq] at hA hB
        omega
      case false.true.true =>
        exfalso
        simp only [Bt.uA, Bt.uB, decide_eq_false_iff_not, decide_eq_true_eq] at hA hB
        omega
      case true.false.false =>
        by_cases hn1 : 1 < n
        · have hw1 : 1 < ws.length := by rw [HN.out]; exact hn1
          obtain ⟨q1, hq1⟩ : ∃ x, ws[1] = x := ⟨_, rfl⟩
          have f1 := HK.out wr hb 1 hw1
          rw [hq1] at f1
          have s1 : q1.size ≤ 1048576 := HM.out q1 (hq1 ▸ List.getElem_mem hw1)
          have HQ1 : Hid ((ws.map fun x : ByteArray => x.data.toList)[1]? = some q1.data.toList) := Lib.hid (by rw [List.getElem?_map, List.getElem?_eq_getElem hw1, hq1]; rfl)
          clear hq1 hw1
          have E0 := Bt.sV_yes (u := Bt.uA o) (W := (ws.map fun x : ByteArray => x.data.toList)) (t := 1) (x := q1.data.toList) hA HQ1.out
          have E1 := Bt.sV_no (u := Bt.uB o) (W := (ws.map fun x : ByteArray => x.data.toList)) (t := 2) (fun h => by rw [hB] at h; exact Bool.false_ne_true h.1)
          have E2 := Bt.sV_no (u := decide (0 < Bt.uC o)) (W := (ws.map fun x : ByteArray => x.data.toList)) (t := 2) (fun h => by rw [hC] at h; exact Bool.false_ne_true h.1)
          have HPL : Hid (∀ op x y z : Int, Bt.Is s.data.toList op x y z → o = op ∧ Bt.numS q1.data.toList = x ∧ 0 = y ∧ 0 = z) := Lib.hid (fun op x y z h => by
            have h := HP.out op x y z h
            rw [E0.2, E0.1, E1.2, E1.1, E2.1] at h
            exact h)
          clear E0 E1 E2
          go_wp2_with (first | (go_at_call 27; refine (uses_any _ _).mono ?_; rintro e w' ⟨rfl, rfl⟩) | (go_at_call 42; refine (specRead_any _ _ (by omega)).mono ?_; rintro e w' ⟨rfl, rfl⟩))
          refine (specCodeText_any _ _ _ _ _).mono ?_
          rintro e w3 ⟨rfl, hb3⟩
          have hrow := ((HO3.out).set 1 _).congr (codeF_set o (0) (0) (0) 1 (by decide) (Bt.numS q1.data.toList))
          have hr3 := hrow.of_block (hb3.block _ hrow.lt)
          have c0 : w3.cell? ⟨w1.heap.size, 0, none⟩ = some (.int .i64 (o)) := hr3.cell (i := 0) (by decide)
          have c1 : w3.cell? ⟨w1.heap.size, 1, none⟩ = some (.int .i64 (Bt.numS q1.data.toList)) := hr3.cell (i := 1) (by decide)
          have c2 : w3.cell? ⟨w1.heap.size, 2, none⟩ = some (.int .i64 (0)) := hr3.cell (i := 2) (by decide)
          have c3 : w3.cell? ⟨w1.heap.size, 3, none⟩ = some (.int .i64 (0)) := hr3.cell (i := 3) (by decide)
          clear hrow hr3 r0 r1 r2 r3 z1 z2 z3
          have BZ := ((HZR.out).setCell (by simp; omega) _).trans (hb3.mono (by first | omega | (simp; omega)))
          obtain ⟨hr, hf⟩ := res_row BZ
          have x0 := hr 0 (by decide)
          have x1 := hr 1 (by decide)
          have x2 := hr 2 (by decide)
          have x3 := hr 3 (by decide)
          have y0 := hf 0
          have y1 := hf 1
          have y2 := hf 2
          have y3 := hf 3
          clear hr hf
          have BF := Lib.hid BZ; clear BZ
          by_cases ht : Bt.codeText o (Bt.numS q1.data.toList) (0) (0) = s.data.toList
          · have ht' : (Bt.codeText o (Bt.numS q1.data.toList) (0) (0) == s.toList) = true := by rw [ByteArray.toList_eq, ht]; simp
            by_cases h0 : s.data.toList = []
            · have HNO : Hid (¬ Bt.Is s.data.toList o (Bt.numS q1.data.toList) (0) (0)) := Lib.hid (fun h => Bt.text_ne h.1 (ht.trans h0))
              have h0' : s.toList = [] := by rw [ByteArray.toList_eq]; exact h0
              have hte : Bt.codeText o (Bt.numS q1.data.toList) (0) (0) = [] := ht.trans h0
              clear ht h0 ht'
              go_wp2_with fail
              refine bodyPost_ret (v := .tuple #[.agg #[.int .i64 0, .int .i64 0, .int .i64 0, .int .i64 0], .bool false]) (by simp [results, Try.results24, go_sem, x0, x1, x2, x3]) rfl (readMade_no ?_ HPL.out HNO.out)
              exact (((((((Below.refl _ _).alloc (Nat.le_refl _) _).trans (BF.out.mono (by omega))).setCell (Nat.le_refl _) _).setCell (Nat.le_refl _) _).setCell (Nat.le_refl _) _).setCell (Nat.le_refl _) _)
            · have HYES : Hid (Bt.Is s.data.toList o (Bt.numS q1.data.toList) (0) (0)) := Lib.hid (is_of ht h0)
              have h0' : s.toList.isEmpty = false := by rw [ByteArray.toList_eq]; simpa using h0
              clear ht h0
              go_wp2_with fail
              refine bodyPost_ret (v := .tuple #[.agg #[.int .i64 o, .int .i64 (Bt.numS q1.data.toList), .int .i64 (0), .int .i64 (0)], .bool true]) (by simp [results, Try.results24, go_sem, x0, x1, x2, x3]) rfl (readMade_ok ?_ HPL.out HYES.out)
              exact (((((((Below.refl _ _).alloc (Nat.le_refl _) _).trans (BF.out.mono (by omega))).setCell (Nat.le_refl _) _).setCell (Nat.le_refl _) _).setCell (Nat.le_refl _) _).setCell (Nat.le_refl _) _)
          · have HNO : Hid (¬ Bt.Is s.data.toList o (Bt.numS q1.data.toList) (0) (0)) := Lib.hid (fun h => ht h.2)
            have ht' : (Bt.codeText o (Bt.numS q1.data.toList) (0) (0) == s.toList) = false := by rw [ByteArray.toList_eq]; simpa using ht
            clear ht
            go_wp2_with fail
            refine bodyPost_ret (v := .tuple #[.agg #[.int .i64 0, .int .i64 0, .int .i64 0, .int .i64 0], .bool false]) (by simp [results, Try.results24, go_sem, x0, x1, x2, x3]) rfl (readMade_no ?_ HPL.out HNO.out)
            exact (((((((Below.refl _ _).alloc (Nat.le_refl _) _).trans (BF.out.mono (by omega))).setCell (Nat.le_refl _) _).setCell (Nat.le_refl _) _).setCell (Nat.le_refl _) _).setCell (Nat.le_refl _) _)
        · skip
          have E0 := Bt.sV_no (u := Bt.uA o) (W := (ws.map fun x : ByteArray => x.data.toList)) (t := 1) (fun h => by have h1 := h.2; rw [HL.out] at h1; omega)
          have E1 := Bt.sV_no (u := Bt.uB o) (W := (ws.map fun x : ByteArray => x.data.toList)) (t := 1) (fun h => by rw [hB] at h; exact Bool.false_ne_true h.1)
          have E2 := Bt.sV_no (u := decide (0 < Bt.uC o)) (W := (ws.map fun x : ByteArray => x.data.toList)) (t := 1) (fun h => by rw [hC] at h; exact Bool.false_ne_true h.1)
          have HPL : Hid (∀ op x y z : Int, Bt.Is s.data.toList op x y z → o = op ∧ 0 = x ∧ 0 = y ∧ 0 = z) := Lib.hid (fun op x y z h => by
            have h := HP.out op x y z h
            rw [E0.2, E0.1, E1.2, E1.1, E2.1] at h
            exact h)
          clear E0 E1 E2
          go_wp2_with (first | (go_at_call 27; refine (uses_any _ _).mono ?_; rintro e w' ⟨rfl, rfl⟩) | (go_at_call 42; refine (specRead_any _ _ (by omega)).mono ?_; rintro e w' ⟨rfl, rfl⟩))
          refine (specCodeText_any _ _ _ _ _).mono ?_
          rintro e w3 ⟨rfl, hb3⟩
          have hrow := HO3.out
          have hr3 := hrow.of_block (hb3.block _ hrow.lt)
          have c0 : w3.cell? ⟨w1.heap.size, 0, none⟩ = some (.int .i64 (o)) := hr3.cell (i := 0) (by decide)
          have c1 : w3.cell? ⟨w1.heap.size, 1, none⟩ = some (.int .i64 (0)) := hr3.cell (i := 1) (by decide)
          have c2 : w3.cell? ⟨w1.heap.size, 2, none⟩ = some (.int .i64 (0)) := hr3.cell (i := 2) (by decide)
          have c3 : w3.cell? ⟨w1.heap.size, 3, none⟩ = some (.int .i64 (0)) := hr3.cell (i := 3) (by decide)
          clear hrow hr3 r0 r1 r2 r3 z1 z2 z3
          have BZ := (HZR.out).trans (hb3.mono (by first | omega | (simp; omega)))
          obtain ⟨hr, hf⟩ := res_row BZ
          have x0 := hr 0 (by decide)
          have x1 := hr 1 (by decide)
          have x2 := hr 2 (by decide)
          have x3 := hr 3 (by decide)
          have y0 := hf 0
          have y1 := hf 1
          have y2 := hf 2
          have y3 := hf 3
          clear hr hf
          have BF := Lib.hid BZ; clear BZ
          by_cases ht : Bt.codeText o (0) (0) (0) = s.data.toList
          · have ht' : (Bt.codeText o (0) (0) (0) == s.toList) = true := by rw [ByteArray.toList_eq, ht]; simp
            by_cases h0 : s.data.toList = []
            · have HNO : Hid (¬ Bt.Is s.data.toList o (0) (0) (0)) := Lib.hid (fun h => Bt.text_ne h.1 (ht.trans h0))
              have h0' : s.toList = [] := by rw [ByteArray.toList_eq]; exact h0
              have hte : Bt.codeText o (0) (0) (0) = [] := ht.trans h0
              clear ht h0 ht'
              go_wp2_with fail
              refine bodyPost_ret (v := .tuple #[.agg #[.int .i64 0, .int .i64 0, .int .i64 0, .int .i64 0], .bool false]) (by simp [results, Try.results24, go_sem, x0, x1, x2, x3]) rfl (readMade_no ?_ HPL.out HNO.out)
              exact (((((((Below.refl _ _).alloc (Nat.le_refl _) _).trans (BF.out.mono (by omega))).setCell (Nat.le_refl _) _).setCell (Nat.le_refl _) _).setCell (Nat.le_refl _) _).setCell (Nat.le_refl _) _)
            · have HYES : Hid (Bt.Is s.data.toList o (0) (0) (0)) := Lib.hid (is_of ht h0)
              have h0' : s.toList.isEmpty = false := by rw [ByteArray.toList_eq]; simpa using h0
              clear ht h0
              go_wp2_with fail
              refine bodyPost_ret (v := .tuple #[.agg #[.int .i64 o, .int .i64 (0), .int .i64 (0), .int .i64 (0)], .bool true]) (by simp [results, Try.results24, go_sem, x0, x1, x2, x3]) rfl (readMade_ok ?_ HPL.out HYES.out)
              exact (((((((Below.refl _ _).alloc (Nat.le_refl _) _).trans (BF.out.mono (by omega))).setCell (Nat.le_refl _) _).setCell (Nat.le_refl _) _).setCell (Nat.le_refl _) _).setCell (Nat.le_refl _) _)
          · have HNO : Hid (¬ Bt.Is s.data.toList o (0) (0) (0)) := Lib.hid (fun h => ht h.2)
            have ht' : (Bt.codeText o (0) (0) (0) == s.toList) = false := by rw [ByteArray.toList_eq]; simpa using ht
            clear ht
            go_wp2_with fail
            refine bodyPost_ret (v := .tuple #[.agg #[.int .i64 0, .int .i64 0, .int .i64 0, .int .i64 0], .bool false]) (by simp [results, Try.results24, go_sem, x0, x1, x2, x3]) rfl (readMade_no ?_ HPL.out HNO.out)
            exact (((((((Below.refl _ _).alloc (Nat.le_refl _) _).trans (BF.out.mono (by omega))).setCell (Nat.le_refl _) _).setCell (Nat.le_refl _) _).setCell (Nat.le_refl _) _).setCell (Nat.le_refl _) _)
      case true.false.true =>
        by_cases hn1 : 1 < n
        · have hw1 : 1 < ws.length := by rw [HN.out]; exact hn1
          obtain ⟨q1, hq1⟩ : ∃ x, ws[1] = x := ⟨_, rfl⟩
          have f1 := HK.out wr hb 1 hw1
          rw [hq1] at f1
          have s1 : q1.size ≤ 1048576 := HM.out q1 (hq1 ▸ List.getElem_mem hw1)
          have HQ1 : Hid ((ws.map fun x : ByteArray => x.data.toList)[1]? = some q1.data.toList) := Lib.hid (by rw [List.getElem?_map, List.getElem?_eq_getElem hw1, hq1]; rfl)
          clear hq1 hw1
          by_cases hn2 : 2 < n
          · have hw2 : 2 < ws.length := by rw [HN.out]; exact hn2
            obtain ⟨q2, hq2⟩ : ∃ x, ws[2] = x := ⟨_, rfl⟩
            have f2 := HK.out wr hb 2 hw2
            rw [hq2] at f2
            have s2 : q2.size ≤ 1048576 := HM.out q2 (hq2 ▸ List.getElem_mem hw2)
            have HQ2 : Hid ((ws.map fun x : ByteArray => x.data.toList)[2]? = some q2.data.toList) := Lib.hid (by rw [List.getElem?_map, List.getElem?_eq_getElem hw2, hq2]; rfl)
            clear hq2 hw2
            have E0 := Bt.sV_yes (u := Bt.uA o) (W := (ws.map fun x : ByteArray => x.data.toList)) (t := 1) (x := q1.data.toList) hA HQ1.out
            have E1 := Bt.sV_no (u := Bt.uB o) (W := (ws.map fun x : ByteArray => x.data.toList)) (t := 2) (fun h => by rw [hB] at h; exact Bool.false_ne_true h.1)
            have E2 := Bt.sV_yes (u := decide (0 < Bt.uC o)) (W := (ws.map fun x : ByteArray => x.data.toList)) (t := 2) (x := q2.data.toList) hC HQ2.out
            have HPL : Hid (∀ op x y z : Int, Bt.Is s.data.toList op x y z → o = op ∧ Bt.numS q1.data.toList = x ∧ 0 = y ∧ Bt.numS q2.data.toList = z) := Lib.hid (fun op x y z h => by
              have h := HP.out op x y z h
              rw [E0.2, E0.1, E1.2, E1.1, E2.1] at h
              exact h)
            clear E0 E1 E2
            go_wp2_with (first | (go_at_call 27; refine (uses_any _ _).mono ?_; rintro e w' ⟨rfl, rfl⟩) | (go_at_call 42; refine (specRead_any _ _ (by omega)).mono ?_; rintro e w' ⟨rfl, rfl⟩))
            refine (specCodeText_any _ _ _ _ _).mono ?_
            rintro e w3 ⟨rfl, hb3⟩
            have hrow := ((((HO3.out).set 1 _).congr (codeF_set o (0) (0) (0) 1 (by decide) (Bt.numS q1.data.toList))).set 3 _).congr (codeF_set o (Bt.numS q1.data.toList) (0) (0) 3 (by decide) (Bt.numS q2.data.toList))
            have hr3 := hrow.of_block (hb3.block _ hrow.lt)
            have c0 : w3.cell? ⟨w1.heap.size, 0, none⟩ = some (.int .i64 (o)) := hr3.cell (i := 0) (by decide)
            have c1 : w3.cell? ⟨w1.heap.size, 1, none⟩ = some (.int .i64 (Bt.numS q1.data.toList)) := hr3.cell (i := 1) (by decide)
            have c2 : w3.cell? ⟨w1.heap.size, 2, none⟩ = some (.int .i64 (0)) := hr3.cell (i := 2) (by decide)
            have c3 : w3.cell? ⟨w1.heap.size, 3, none⟩ = some (.int .i64 (Bt.numS q2.data.toList)) := hr3.cell (i := 3) (by decide)
            clear hrow hr3 r0 r1 r2 r3 z1 z2 z3
            have BZ := (((HZR.out).setCell (by simp; omega) _).setCell (by simp; omega) _).trans (hb3.mono (by first | omega | (simp; omega)))
            obtain ⟨hr, hf⟩ := res_row BZ
            have x0 := hr 0 (by decide)
            have x1 := hr 1 (by decide)
            have x2 := hr 2 (by decide)
            have x3 := hr 3 (by decide)
            have y0 := hf 0
            have y1 := hf 1
            have y2 := hf 2
            have y3 := hf 3
            clear hr hf
            have BF := Lib.hid BZ; clear BZ
            by_cases ht : Bt.codeText o (Bt.numS q1.data.toList) (0) (Bt.numS q2.data.toList) = s.data.toList
            · have ht' : (Bt.codeText o (Bt.numS q1.data.toList) (0) (Bt.numS q2.data.toList) == s.toList) = true := by rw [ByteArray.toList_eq, ht]; simp
              by_cases h0 : s.data.toList = []
              · have HNO : Hid (¬ Bt.Is s.data.toList o (Bt.numS q1.data.toList) (0) (Bt.numS q2.data.toList)) := Lib.hid (fun h => Bt.text_ne h.1 (ht.trans h0))
                have h0' : s.toList = [] := by rw [ByteArray.toList_eq]; exact h0
                have hte : Bt.codeText o (Bt.numS q1.data.toList) (0) (Bt.numS q2.data.toList) = [] := ht.trans h0
                clear ht h0 ht'
                go_wp2_with fail
                refine bodyPost_ret (v := .tuple #[.agg #[.int .i64 0, .int .i64 0, .int .i64 0, .int .i64 0], .bool false]) (by simp [results, Try.results24, go_sem, x0, x1, x2, x3]) rfl (readMade_no ?_ HPL.out HNO.out)
                exact (((((((Below.refl _ _).alloc (Nat.le_refl _) _).trans (BF.out.mono (by omega))).setCell (Nat.le_refl _) _).setCell (Nat.le_refl _) _).setCell (Nat.le_refl _) _).setCell (Nat.le_refl _) _)
              · have HYES : Hid (Bt.Is s.data.toList o (Bt.numS q1.data.toList) (0) (Bt.numS q2.data.toList)) := Lib.hid (is_of ht h0)
                have h0' : s.toList.isEmpty = false := by rw [ByteArray.toList_eq]; simpa using h0
                clear ht h0
                go_wp2_with fail
                refine bodyPost_ret (v := .tuple #[.agg #[.int .i64 o, .int .i64 (Bt.numS q1.data.toList), .int .i64 (0), .int .i64 (Bt.numS q2.data.toList)], .bool true]) (by simp [results, Try.results24, go_sem, x0, x1, x2, x3]) rfl (readMade_ok ?_ HPL.out HYES.out)
                exact (((((((Below.refl _ _).alloc (Nat.le_refl _) _).trans (BF.out.mono (by omega))).setCell (Nat.le_refl _) _).setCell (Nat.le_refl _) _).setCell (Nat.le_refl _) _).setCell (Nat.le_refl _) _)
            · have HNO : Hid (¬ Bt.Is s.data.toList o (Bt.numS q1.data.toList) (0) (Bt.numS q2.data.toList)) := Lib.hid (fun h => ht h.2)
              have ht' : (Bt.codeText o (Bt.numS q1.data.toList) (0) (Bt.numS q2.data.toList) == s.toList) = false := by rw [ByteArray.toList_eq]; simpa using ht
              clear ht
              go_wp2_with fail
              refine bodyPost_ret (v := .tuple #[.agg #[.int .i64 0, .int .i64 0, .int .i64 0, .int .i64 0], .bool false]) (by simp [results, Try.results24, go_sem, x0, x1, x2, x3]) rfl (readMade_no ?_ HPL.out HNO.out)
              exact (((((((Below.refl _ _).alloc (Nat.le_refl _) _).trans (BF.out.mono (by omega))).setCell (Nat.le_refl _) _).setCell (Nat.le_refl _) _).setCell (Nat.le_refl _) _).setCell (Nat.le_refl _) _)
          · skip
            have E0 := Bt.sV_yes (u := Bt.uA o) (W := (ws.map fun x : ByteArray => x.data.toList)) (t := 1) (x := q1.data.toList) hA HQ1.out
            have E1 := Bt.sV_no (u := Bt.uB o) (W := (ws.map fun x : ByteArray => x.data.toList)) (t := 2) (fun h => by rw [hB] at h; exact Bool.false_ne_true h.1)
            have E2 := Bt.sV_no (u := decide (0 < Bt.uC o)) (W := (ws.map fun x : ByteArray => x.data.toList)) (t := 2) (fun h => by have h1 := h.2; rw [HL.out] at h1; omega)
            have HPL : Hid (∀ op x y z : Int, Bt.Is s.data.toList op x y z → o = op ∧ Bt.numS q1.data.toList = x ∧ 0 = y ∧ 0 = z) := Lib.hid (fun op x y z h => by
              have h := HP.out op x y z h
              rw [E0.2, E0.1, E1.2, E1.1, E2.1] at h
              exact h)
            clear E0 E1 E2
            go_wp2_with (first | (go_at_call 27; refine (uses_any _ _).mono ?_; rintro e w' ⟨rfl, rfl⟩) | (go_at_call 42; refine (specRead_any _ _ (by omega)).mono ?_; rintro e w' ⟨rfl, rfl⟩))
            refine (specCodeText_any _ _ _ _ _).mono ?_
            rintro e w3 ⟨rfl, hb3⟩
            have hrow := ((HO3.out).set 1 _).congr (codeF_set o (0) (0) (0) 1 (by decide) (Bt.numS q1.data.toList))
            have hr3 := hrow.of_block (hb3.block _ hrow.lt)
            have c0 : w3.cell? ⟨w1.heap.size, 0, none⟩ = some (.int .i64 (o)) := hr3.cell (i := 0) (by decide)
            have c1 : w3.cell? ⟨w1.heap.size, 1, none⟩ = some (.int .i64 (Bt.numS q1.data.toList)) := hr3.cell (i := 1) (by decide)
            have c2 : w3.cell? ⟨w1.heap.size, 2, none⟩ = some (.int .i64 (0)) := hr3.cell (i := 2) (by decide)
            have c3 : w3.cell? ⟨w1.heap.size, 3, none⟩ = some (.int .i64 (0)) := hr3.cell (i := 3) (by decide)
            clear hrow hr3 r0 r1 r2 r3 z1 z2 z3
            have BZ := ((HZR.out).setCell (by simp; omega) _).trans (hb3.mono (by first | omega | (simp; omega)))
            obtain ⟨hr, hf⟩ := res_row BZ
            have x0 := hr 0 (by decide)
            have x1 := hr 1 (by decide)
            have x2 := hr 2 (by decide)
            have x3 := hr 3 (by decide)
            have y0 := hf 0
            have y1 := hf 1
            have y2 := hf 2
            have y3 := hf 3
            clear hr hf
            have BF := Lib.hid BZ; clear BZ
            by_cases ht : Bt.codeText o (Bt.numS q1.data.toList) (0) (0) = s.data.toList
            · have ht' : (Bt.codeText o (Bt.numS q1.data.toList) (0) (0) == s.toList) = true := by rw [ByteArray.toList_eq, ht]; simp
              by_cases h0 : s.data.toList = []
              · have HNO : Hid (¬ Bt.Is s.data.toList o (Bt.numS q1.data.toList) (0) (0)) := Lib.hid (fun h => Bt.text_ne h.1 (ht.trans h0))
                have h0' : s.toList = [] := by rw [ByteArray.toList_eq]; exact h0
                have hte : Bt.codeText o (Bt.numS q1.data.toList) (0) (0) = [] := ht.trans h0
                clear ht h0 ht'
                go_wp2_with fail
                refine bodyPost_ret (v := .tuple #[.agg #[.int .i64 0, .int .i64 0, .int .i64 0, .int .i64 0], .bool false]) (by simp [results, Try.results24, go_sem, x0, x1, x2, x3]) rfl (readMade_no ?_ HPL.out HNO.out)
                exact (((((((Below.refl _ _).alloc (Nat.le_refl _) _).trans (BF.out.mono (by omega))).setCell (Nat.le_refl _) _).setCell (Nat.le_refl _) _).setCell (Nat.le_refl _) _).setCell (Nat.le_refl _) _)
              · have HYES : Hid (Bt.Is s.data.toList o (Bt.numS q1.data.toList) (0) (0)) := Lib.hid (is_of ht h0)
                have h0' : s.toList.isEmpty = false := by rw [ByteArray.toList_eq]; simpa using h0
                clear ht h0
                go_wp2_with fail
                refine bodyPost_ret (v := .tuple #[.agg #[.int .i64 o, .int .i64 (Bt.numS q1.data.toList), .int .i64 (0), .int .i64 (0)], .bool true]) (by simp [results, Try.results24, go_sem, x0, x1, x2, x3]) rfl (readMade_ok ?_ HPL.out HYES.out)
                exact (((((((Below.refl _ _).alloc (Nat.le_refl _) _).trans (BF.out.mono (by omega))).setCell (Nat.le_refl _) _).setCell (Nat.le_refl _) _).setCell (Nat.le_refl _) _).setCell (Nat.le_refl _) _)
            · have HNO : Hid (¬ Bt.Is s.data.toList o (Bt.numS q1.data.toList) (0) (0)) := Lib.hid (fun h => ht h.2)
              have ht' : (Bt.codeText o (Bt.numS q1.data.toList) (0) (0) == s.toList) = false := by rw [ByteArray.toList_eq]; simpa using ht
              clear ht
              go_wp2_with fail
              refine bodyPost_ret (v := .tuple #[.agg #[.int .i64 0, .int .i64 0, .int .i64 0, .int .i64 0], .bool false]) (by simp [results, Try.results24, go_sem, x0, x1, x2, x3]) rfl (readMade_no ?_ HPL.out HNO.out)
              exact (((((((Below.refl _ _).alloc (Nat.le_refl _) _).trans (BF.out.mono (by omega))).setCell (Nat.le_refl _) _).setCell (Nat.le_refl _) _).setCell (Nat.le_refl _) _).setCell (Nat.le_refl _) _)
        · skip
          have E0 := Bt.sV_no (u := Bt.uA o) (W := (ws.map fun x : ByteArray => x.data.toList)) (t := 1) (fun h => by have h1 := h.2; rw [HL.out] at h1; omega)
          have E1 := Bt.sV_no (u := Bt.uB o) (W := (ws.map fun x : ByteArray => x.data.toList)) (t := 1) (fun h => by rw [hB] at h; exact Bool.false_ne_true h.1)
          have E2 := Bt.sV_no (u := decide (0 < Bt.uC o)) (W := (ws.map fun x : ByteArray => x.data.toList)) (t := 1) (fun h => by have h1 := h.2; rw [HL.out] at h1; omega)
          have HPL : Hid (∀ op x y z : Int, Bt.Is s.data.toList op x y z → o = op ∧ 0 = x ∧ 0 = y ∧ 0 = z) := Lib.hid (fun op x y z h => by
            have h := HP.out op x y z h
            rw [E0.2, E0.1, E1.2, E1.1, E2.1] at h
            exact h)
          clear E0 E1 E2
          go_wp2_with (first | (go_at_call 27; refine (uses_any _ _).mono ?_; rintro e w' ⟨rfl, rfl⟩) | (go_at_call 42; refine (specRead_any _ _ (by omega)).mono ?_; rintro e w' ⟨rfl, rfl⟩))
          refine (specCodeText_any _ _ _ _ _).mono ?_
          rintro e w3 ⟨rfl, hb3⟩
          have hrow := HO3.out
          have hr3 := hrow.of_block (hb3.block _ hrow.lt)
          have c0 : w3.cell? ⟨w1.heap.size, 0, none⟩ = some (.int .i64 (o)) := hr3.cell (i := 0) (by decide)
          have c1 : w3.cell? ⟨w1.heap.size, 1, none⟩ = some (.int .i64 (0)) := hr3.cell (i := 1) (by decide)
          have c2 : w3.cell? ⟨w1.heap.size, 2, none⟩ = some (.int .i64 (0)) := hr3.cell (i := 2) (by decide)
          have c3 : w3.cell? ⟨w1.heap.size, 3, none⟩ = some (.int .i64 (0)) := hr3.cell (i := 3) (by decide)
          clear hrow hr3 r0 r1 r2 r3 z1 z2 z3
          have BZ := (HZR.out).trans (hb3.mono (by first | omega | (simp; omega)))
          obtain ⟨hr, hf⟩ := res_row BZ
          have x0 := hr 0 (by decide)
          have x1 := hr 1 (by decide)
          have x2 := hr 2 (by decide)
          have x3 := hr 3 (by decide)
          have y0 := hf 0
          have y1 := hf 1
          have y2 := hf 2
          have y3 := hf 3
          clear hr hf
          have BF := Lib.hid BZ; clear BZ
          by_cases ht : Bt.codeText o (0) (0) (0) = s.data.toList
          · have ht' : (Bt.codeText o (0) (0) (0) == s.toList) = true := by rw [ByteArray.toList_eq, ht]; simp
            by_cases h0 : s.data.toList = []
            · have HNO : Hid (¬ Bt.Is s.data.toList o (0) (0) (0)) := Lib.hid (fun h => Bt.text_ne h.1 (ht.trans h0))
              have h0' : s.toList = [] := by rw [ByteArray.toList_eq]; exact h0
              have hte : Bt.codeText o (0) (0) (0) = [] := ht.trans h0
              clear ht h0 ht'
              go_wp2_with fail
              refine bodyPost_ret (v := .tuple #[.agg #[.int .i64 0, .int .i64 0, .int .i64 0, .int .i64 0], .bool false]) (by simp [results, Try.results24, go_sem, x0, x1, x2, x3]) rfl (readMade_no ?_ HPL.out HNO.out)
              exact (((((((Below.refl _ _).alloc (Nat.le_refl _) _).trans (BF.out.mono (by omega))).setCell (Nat.le_refl _) _).setCell (Nat.le_refl _) _).setCell (Nat.le_refl _) _).setCell (Nat.le_refl _) _)
            · have HYES : Hid (Bt.Is s.data.toList o (0) (0) (0)) := Lib.hid (is_of ht h0)
              have h0' : s.toList.isEmpty = false := by rw [ByteArray.toList_eq]; simpa using h0
              clear ht h0
              go_wp2_with fail
              refine bodyPost_ret (v := .tuple #[.agg #[.int .i64 o, .int .i64 (0), .int .i64 (0), .int .i64 (0)], .bool true]) (by simp [results, Try.results24, go_sem, x0, x1, x2, x3]) rfl (readMade_ok ?_ HPL.out HYES.out)
              exact (((((((Below.refl _ _).alloc (Nat.le_refl _) _).trans (BF.out.mono (by omega))).setCell (Nat.le_refl _) _).setCell (Nat.le_refl _) _).setCell (Nat.le_refl _) _).setCell (Nat.le_refl _) _)
          · have HNO : Hid (¬ Bt.Is s.data.toList o (0) (0) (0)) := Lib.hid (fun h => ht h.2)
            have ht' : (Bt.codeText o (0) (0) (0) == s.toList) = false := by rw [ByteArray.toList_eq]; simpa using ht
            clear ht
            go_wp2_with fail
            refine bodyPost_ret (v := .tuple #[.agg #[.int .i64 0, .int .i64 0, .int .i64 0, .int .i64 0], .bool false]) (by simp [results, Try.results24, go_sem, x0, x1, x2, x3]) rfl (readMade_no ?_ HPL.out HNO.out)
            exact (((((((Below.refl _ _).alloc (Nat.le_refl _) _).trans (BF.out.mono (by omega))).setCell (Nat.le_refl _) _).setCell (Nat.le_refl _) _).setCell (Nat.le_refl _) _).setCell (Nat.le_refl _) _)
      case true.true.false =>
        by_cases hn1 : 1 < n
        · have hw1 : 1 < ws.length := by rw [HN.out]; exact hn1
          obtain ⟨q1, hq1⟩ : ∃ x, ws[1] = x := ⟨_, rfl⟩
          have f1 := HK.out wr hb 1 hw1
          rw [hq1] at f1
          have s1 : q1.size ≤ 1048576 := HM.out q1 (hq1 ▸ List.getElem_mem hw1)
          have HQ1 : Hid ((ws.map fun x : ByteArray => x.data.toList)[1]? = some q1.data.toList) := Lib.hid (by rw [List.getElem?_map, List.getElem?_eq_getElem hw1, hq1]; rfl)
          clear hq1 hw1
          by_cases hn2 : 2 < n
          · have hw2 : 2 < ws.length := by rw [HN.out]; exact hn2
            obtain ⟨q2, hq2⟩ : ∃ x, ws[2] = x := ⟨_, rfl⟩
            have f2 := HK.out wr hb 2 hw2
            rw [hq2] at f2
            have s2 : q2.size ≤ 1048576 := HM.out q2 (hq2 ▸ List.getElem_mem hw2)
            have HQ2 : Hid ((ws.map fun x : ByteArray => x.data.toList)[2]? = some q2.data.toList) := Lib.hid (by rw [List.getElem?_map, List.getElem?_eq_getElem hw2, hq2]; rfl)
            clear hq2 hw2
            have E0 := Bt.sV_yes (u := Bt.uA o) (W := (ws.map fun x : ByteArray => x.data.toList)) (t := 1) (x := q1.data.toList) hA HQ1.out
            have E1 := Bt.sV_yes (u := Bt.uB o) (W := (ws.map fun x : ByteArray => x.data.toList)) (t := 2) (x := q2.data.toList) hB HQ2.out
            have E2 := Bt.sV_no (u := decide (0 < Bt.uC o)) (W := (ws.map fun x : ByteArray => x.data.toList)) (t := 3) (fun h => by rw [hC] at h; exact Bool.false_ne_true h.1)
            have HPL : Hid (∀ op x y z : Int, Bt.Is s.data.toList op x y z → o = op ∧ Bt.numS q1.data.toList = x ∧ Bt.numS q2.data.toList = y ∧ 0 = z) := Lib.hid (fun op x y z h => by
              have h := HP.out op x y z h
              rw [E0.2, E0.1, E1.2, E1.1, E2.1] at h
              exact h)
            clear E0 E1 E2
            go_wp2_with (first | (go_at_call 27; refine (uses_any _ _).mono ?_; rintro e w' ⟨rfl, rfl⟩) | (go_at_call 42; refine (specRead_any _ _ (by omega)).mono ?_; rintro e w' ⟨rfl, rfl⟩))
            refine (specCodeText_any _ _ _ _ _).mono ?_
            rintro e w3 ⟨rfl, hb3⟩
            have hrow := ((((HO3.out).set 1 _).congr (codeF_set o (0) (0) (0) 1 (by decide) (Bt.numS q1.data.toList))).set 2 _).congr (codeF_set o (Bt.numS q1.data.toList) (0) (0) 2 (by decide) (Bt.numS q2.data.toList))
            have hr3 := hrow.of_block (hb3.block _ hrow.lt)
            have c0 : w3.cell? ⟨w1.heap.size, 0, none⟩ = some (.int .i64 (o)) := hr3.cell (i := 0) (by decide)
            have c1 : w3.cell? ⟨w1.heap.size, 1, none⟩ = some (.int .i64 (Bt.numS q1.data.toList)) := hr3.cell (i := 1) (by decide)
            have c2 : w3.cell? ⟨w1.heap.size, 2, none⟩ = some (.int .i64 (Bt.numS q2.data.toList)) := hr3.cell (i := 2) (by decide)
            have c3 : w3.cell? ⟨w1.heap.size, 3, none⟩ = some (.int .i64 (0)) := hr3.cell (i := 3) (by decide)
            clear hrow hr3 r0 r1 r2 r3 z1 z2 z3
            have BZ := (((HZR.out).setCell (by simp; omega) _).setCell (by simp; omega) _).trans (hb3.mono (by first | omega | (simp; omega)))
            obtain ⟨hr, hf⟩ := res_row BZ
            have x0 := hr 0 (by decide)
            have x1 := hr 1 (by decide)
            have x2 := hr 2 (by decide)
            have x3 := hr 3 (by decide)
            have y0 := hf 0
            have y1 := hf 1
            have y2 := hf 2
            have y3 := hf 3
            clear hr hf
            have BF := Lib.hid BZ; clear BZ
            by_cases ht : Bt.codeText o (Bt.numS q1.data.toList) (Bt.numS q2.data.toList) (0) = s.data.toList
            · have ht' : (Bt.codeText o (Bt.numS q1.data.toList) (Bt.numS q2.data.toList) (0) == s.toList) = true := by rw [ByteArray.toList_eq, ht]; simp
              by_cases h0 : s.data.toList = []
              · have HNO : Hid (¬ Bt.Is s.data.toList o (Bt.numS q1.data.toList) (Bt.numS q2.data.toList) (0)) := Lib.hid (fun h => Bt.text_ne h.1 (ht.trans h0))
                have h0' : s.toList = [] := by rw [ByteArray.toList_eq]; exact h0
                have hte : Bt.codeText o (Bt.numS q1.data.toList) (Bt.numS q2.data.toList) (0) = [] := ht.trans h0
                clear ht h0 ht'
                go_wp2_with fail
                refine bodyPost_ret (v := .tuple #[.agg #[.int .i64 0, .int .i64 0, .int .i64 0, .int .i64 0], .bool false]) (by simp [results, Try.results24, go_sem, x0, x1, x2, x3]) rfl (readMade_no ?_ HPL.out HNO.out)
                exact (((((((Below.refl _ _).alloc (Nat.le_refl _) _).trans (BF.out.mono (by omega))).setCell (Nat.le_refl _) _).setCell (Nat.le_refl _) _).setCell (Nat.le_refl _) _).setCell (Nat.le_refl _) _)
              · have HYES : Hid (Bt.Is s.data.toList o (Bt.numS q1.data.toList) (Bt.numS q2.data.toList) (0)) := Lib.hid (is_of ht h0)
                have h0' : s.toList.isEmpty = false := by rw [ByteArray.toList_eq]; simpa using h0
                clear ht h0
                go_wp2_with fail
                refine bodyPost_ret (v := .tuple #[.agg #[.int .i64 o, .int .i64 (Bt.numS q1.data.toList), .int .i64 (Bt.numS q2.data.toList), .int .i64 (0)], .bool true]) (by simp [results, Try.results24, go_sem, x0, x1, x2, x3]) rfl (readMade_ok ?_ HPL.out HYES.out)
                exact (((((((Below.refl _ _).alloc (Nat.le_refl _) _).trans (BF.out.mono (by omega))).setCell (Nat.le_refl _) _).setCell (Nat.le_refl _) _).setCell (Nat.le_refl _) _).setCell (Nat.le_refl _) _)
            · have HNO : Hid (¬ Bt.Is s.data.toList o (Bt.numS q1.data.toList) (Bt.numS q2.data.toList) (0)) := Lib.hid (fun h => ht h.2)
              have ht' : (Bt.codeText o (Bt.numS q1.data.toList) (Bt.numS q2.data.toList) (0) == s.toList) = false := by rw [ByteArray.toList_eq]; simpa using ht
              clear ht
              go_wp2_with fail
              refine bodyPost_ret (v := .tuple #[.agg #[.int .i64 0, .int .i64 0, .int .i64 0, .int .i64 0], .bool false]) (by simp [results, Try.results24, go_sem, x0, x1, x2, x3]) rfl (readMade_no ?_ HPL.out HNO.out)
              exact (((((((Below.refl _ _).alloc (Nat.le_refl _) _).trans (BF.out.mono (by omega))).setCell (Nat.le_refl _) _).setCell (Nat.le_refl _) _).setCell (Nat.le_refl _) _).setCell (Nat.le_refl _) _)
          · skip
            have E0 := Bt.sV_yes (u := Bt.uA o) (W := (ws.map fun x : ByteArray => x.data.toList)) (t := 1) (x := q1.data.toList) hA HQ1.out
            have E1 := Bt.sV_no (u := Bt.uB o) (W := (ws.map fun x : ByteArray => x.data.toList)) (t := 2) (fun h => by have h1 := h.2; rw [HL.out] at h1; omega)
            have E2 := Bt.sV_no (u := decide (0 < Bt.uC o)) (W := (ws.map fun x : ByteArray => x.data.toList)) (t := 2) (fun h => by rw [hC] at h; exact Bool.false_ne_true h.1)
            have HPL : Hid (∀ op x y z : Int, Bt.Is s.data.toList op x y z → o = op ∧ Bt.numS q1.data.toList = x ∧ 0 = y ∧ 0 = z) := Lib.hid (fun op x y z h => by
              have h := HP.out op x y z h
              rw [E0.2, E0.1, E1.2, E1.1, E2.1] at h
              exact h)
            clear E0 E1 E2
            go_wp2_with (first | (go_at_call 27; refine (uses_any _ _).mono ?_; rintro e w' ⟨rfl, rfl⟩) | (go_at_call 42; refine (specRead_any _ _ (by omega)).mono ?_; rintro e w' ⟨rfl, rfl⟩))
            refine (specCodeText_any _ _ _ _ _).mono ?_
            rintro e w3 ⟨rfl, hb3⟩
            have hrow := ((HO3.out).set 1 _).congr (codeF_set o (0) (0) (0) 1 (by decide) (Bt.numS q1.data.toList))
            have hr3 := hrow.of_block (hb3.block _ hrow.lt)
            have c0 : w3.cell? ⟨w1.heap.size, 0, none⟩ = some (.int .i64 (o)) := hr3.cell (i := 0) (by decide)
            have c1 : w3.cell? ⟨w1.heap.size, 1, none⟩ = some (.int .i64 (Bt.numS q1.data.toList)) := hr3.cell (i := 1) (by decide)
            have c2 : w3.cell? ⟨w1.heap.size, 2, none⟩ = some (.int .i64 (0)) := hr3.cell (i := 2) (by decide)
            have c3 : w3.cell? ⟨w1.heap.size, 3, none⟩ = some (.int .i64 (0)) := hr3.cell (i := 3) (by decide)
            clear hrow hr3 r0 r1 r2 r3 z1 z2 z3
            have BZ := ((HZR.out).setCell (by simp; omega) _).trans (hb3.mono (by first | omega | (simp; omega)))
            obtain ⟨hr, hf⟩ := res_row BZ
            have x0 := hr 0 (by decide)
            have x1 := hr 1 (by decide)
            have x2 := hr 2 (by decide)
            have x3 := hr 3 (by decide)
            have y0 := hf 0
            have y1 := hf 1
            have y2 := hf 2
            have y3 := hf 3
            clear hr hf
            have BF := Lib.hid BZ; clear BZ
            by_cases ht : Bt.codeText o (Bt.numS q1.data.toList) (0) (0) = s.data.toList
            · have ht' : (Bt.codeText o (Bt.numS q1.data.toList) (0) (0) == s.toList) = true := by rw [ByteArray.toList_eq, ht]; simp
              by_cases h0 : s.data.toList = []
              · have HNO : Hid (¬ Bt.Is s.data.toList o (Bt.numS q1.data.toList) (0) (0)) := Lib.hid (fun h => Bt.text_ne h.1 (ht.trans h0))
                have h0' : s.toList = [] := by rw [ByteArray.toList_eq]; exact h0
                have hte : Bt.codeText o (Bt.numS q1.data.toList) (0) (0) = [] := ht.trans h0
                clear ht h0 ht'
                go_wp2_with fail
                refine bodyPost_ret (v := .tuple #[.agg #[.int .i64 0, .int .i64 0, .int .i64 0, .int .i64 0], .bool false]) (by simp [results, Try.results24, go_sem, x0, x1, x2, x3]) rfl (readMade_no ?_ HPL.out HNO.out)
                exact (((((((Below.refl _ _).alloc (Nat.le_refl _) _).trans (BF.out.mono (by omega))).setCell (Nat.le_refl _) _).setCell (Nat.le_refl _) _).setCell (Nat.le_refl _) _).setCell (Nat.le_refl _) _)
              · have HYES : Hid (Bt.Is s.data.toList o (Bt.numS q1.data.toList) (0) (0)) := Lib.hid (is_of ht h0)
                have h0' : s.toList.isEmpty = false := by rw [ByteArray.toList_eq]; simpa using h0
                clear ht h0
                go_wp2_with fail
                refine bodyPost_ret (v := .tuple #[.agg #[.int .i64 o, .int .i64 (Bt.numS q1.data.toList), .int .i64 (0), .int .i64 (0)], .bool true]) (by simp [results, Try.results24, go_sem, x0, x1, x2, x3]) rfl (readMade_ok ?_ HPL.out HYES.out)
                exact (((((((Below.refl _ _).alloc (Nat.le_refl _) _).trans (BF.out.mono (by omega))).setCell (Nat.le_refl _) _).setCell (Nat.le_refl _) _).setCell (Nat.le_refl _) _).setCell (Nat.le_refl _) _)
            · have HNO : Hid (¬ Bt.Is s.data.toList o (Bt.numS q1.data.toList) (0) (0)) := Lib.hid (fun h => ht h.2)
              have ht' : (Bt.codeText o (Bt.numS q1.data.toList) (0) (0) == s.toList) = false := by rw [ByteArray.toList_eq]; simpa using ht
              clear ht
              go_wp2_with fail
              refine bodyPost_ret (v := .tuple #[.agg #[.int .i64 0, .int .i64 0, .int .i64 0, .int .i64 0], .bool false]) (by simp [results, Try.results24, go_sem, x0, x1, x2, x3]) rfl (readMade_no ?_ HPL.out HNO.out)
              exact (((((((Below.refl _ _).alloc (Nat.le_refl _) _).trans (BF.out.mono (by omega))).setCell (Nat.le_refl _) _).setCell (Nat.le_refl _) _).setCell (Nat.le_refl _) _).setCell (Nat.le_refl _) _)
        · skip
          have E0 := Bt.sV_no (u := Bt.uA o) (W := (ws.map fun x : ByteArray => x.data.toList)) (t := 1) (fun h => by have h1 := h.2; rw [HL.out] at h1; omega)
          have E1 := Bt.sV_no (u := Bt.uB o) (W := (ws.map fun x : ByteArray => x.data.toList)) (t := 1) (fun h => by have h1 := h.2; rw [HL.out] at h1; omega)
          have E2 := Bt.sV_no (u := decide (0 < Bt.uC o)) (W := (ws.map fun x : ByteArray => x.data.toList)) (t := 1) (fun h => by rw [hC] at h; exact Bool.false_ne_true h.1)
          have HPL : Hid (∀ op x y z : Int, Bt.Is s.data.toList op x y z → o = op ∧ 0 = x ∧ 0 = y ∧ 0 = z) := Lib.hid (fun op x y z h => by
            have h := HP.out op x y z h
            rw [E0.2, E0.1, E1.2, E1.1, E2.1] at h
            exact h)
          clear E0 E1 E2
          go_wp2_with (first | (go_at_call 27; refine (uses_any _ _).mono ?_; rintro e w' ⟨rfl, rfl⟩) | (go_at_call 42; refine (specRead_any _ _ (by omega)).mono ?_; rintro e w' ⟨rfl, rfl⟩))
          refine (specCodeText_any _ _ _ _ _).mono ?_
          rintro e w3 ⟨rfl, hb3⟩
          have hrow := HO3.out
          have hr3 := hrow.of_block (hb3.block _ hrow.lt)
          have c0 : w3.cell? ⟨w1.heap.size, 0, none⟩ = some (.int .i64 (o)) := hr3.cell (i := 0) (by decide)
          have c1 : w3.cell? ⟨w1.heap.size, 1, none⟩ = some (.int .i64 (0)) := hr3.cell (i := 1) (by decide)
          have c2 : w3.cell? ⟨w1.heap.size, 2, none⟩ = some (.int .i64 (0)) := hr3.cell (i := 2) (by decide)
          have c3 : w3.cell? ⟨w1.heap.size, 3, none⟩ = some (.int .i64 (0)) := hr3.cell (i := 3) (by decide)
          clear hrow hr3 r0 r1 r2 r3 z1 z2 z3
          have BZ := (HZR.out).trans (hb3.mono (by first | omega | (simp; omega)))
          obtain ⟨hr, hf⟩ := res_row BZ
          have x0 := hr 0 (by decide)
          have x1 := hr 1 (by decide)
          have x2 := hr 2 (by decide)
          have x3 := hr 3 (by decide)
          have y0 := hf 0
          have y1 := hf 1
          have y2 := hf 2
          have y3 := hf 3
          clear hr hf
          have BF := Lib.hid BZ; clear BZ
          by_cases ht : Bt.codeText o (0) (0) (0) = s.data.toList
          · have ht' : (Bt.codeText o (0) (0) (0) == s.toList) = true := by rw [ByteArray.toList_eq, ht]; simp
            by_cases h0 : s.data.toList = []
            · have HNO : Hid (¬ Bt.Is s.data.toList o (0) (0) (0)) := Lib.hid (fun h => Bt.text_ne h.1 (ht.trans h0))
              have h0' : s.toList = [] := by rw [ByteArray.toList_eq]; exact h0
              have hte : Bt.codeText o (0) (0) (0) = [] := ht.trans h0
              clear ht h0 ht'
              go_wp2_with fail
              refine bodyPost_ret (v := .tuple #[.agg #[.int .i64 0, .int .i64 0, .int .i64 0, .int .i64 0], .bool false]) (by simp [results, Try.results24, go_sem, x0, x1, x2, x3]) rfl (readMade_no ?_ HPL.out HNO.out)
              exact (((((((Below.refl _ _).alloc (Nat.le_refl _) _).trans (BF.out.mono (by omega))).setCell (Nat.le_refl _) _).setCell (Nat.le_refl _) _).setCell (Nat.le_refl _) _).setCell (Nat.le_refl _) _)
            · have HYES : Hid (Bt.Is s.data.toList o (0) (0) (0)) := Lib.hid (is_of ht h0)
              have h0' : s.toList.isEmpty = false := by rw [ByteArray.toList_eq]; simpa using h0
              clear ht h0
              go_wp2_with fail
              refine bodyPost_ret (v := .tuple #[.agg #[.int .i64 o, .int .i64 (0), .int .i64 (0), .int .i64 (0)], .bool true]) (by simp [results, Try.results24, go_sem, x0, x1, x2, x3]) rfl (readMade_ok ?_ HPL.out HYES.out)
              exact (((((((Below.refl _ _).alloc (Nat.le_refl _) _).trans (BF.out.mono (by omega))).setCell (Nat.le_refl _) _).setCell (Nat.le_refl _) _).setCell (Nat.le_refl _) _).setCell (Nat.le_refl _) _)
          · have HNO : Hid (¬ Bt.Is s.data.toList o (0) (0) (0)) := Lib.hid (fun h => ht h.2)
            have ht' : (Bt.codeText o (0) (0) (0) == s.toList) = false := by rw [ByteArray.toList_eq]; simpa using ht
            clear ht
            go_wp2_with fail
            refine bodyPost_ret (v := .tuple #[.agg #[.int .i64 0, .int .i64 0, .int .i64 0, .int .i64 0], .bool false]) (by simp [results, Try.results24, go_sem, x0, x1, x2, x3]) rfl (readMade_no ?_ HPL.out HNO.out)
            exact (((((((Below.refl _ _).alloc (Nat.le_refl _) _).trans (BF.out.mono (by omega))).setCell (Nat.le_refl _) _).setCell (Nat.le_refl _) _).setCell (Nat.le_refl _) _).setCell (Nat.le_refl _) _)
      case true.true.true =>
        by_cases hn1 : 1 < n
        · have hw1 : 1 < ws.length := by rw [HN.out]; exact hn1
          obtain ⟨q1, hq1⟩ : ∃ x, ws[1] = x := ⟨_, rfl⟩
          have f1 := HK.out wr hb 1 hw1
          rw [hq1] at f1
          have s1 : q1.size ≤ 1048576 := HM.out q1 (hq1 ▸ List.getElem_mem hw1)
          have HQ1 : Hid ((ws.map fun x : ByteArray => x.data.toList)[1]? = some q1.data.toList) := Lib.hid (by rw [List.getElem?_map, List.getElem?_eq_getElem hw1, hq1]; rfl)
          clear hq1 hw1
          by_cases hn2 : 2 < n
          · have hw2 : 2 < ws.length := by rw [HN.out]; exact hn2
            obtain ⟨q2, hq2⟩ : ∃ x, ws[2] = x := ⟨_, rfl⟩
            have f2 := HK.out wr hb 2 hw2
            rw [hq2] at f2
            have s2 : q2.size ≤ 1048576 := HM.out q2 (hq2 ▸ List.getElem_mem hw2)
            have HQ2 : Hid ((ws.map fun x : ByteArray => x.data.toList)[2]? = some q2.data.toList) := Lib.hid (by rw [List.getElem?_map, List.getElem?_eq_getElem hw2, hq2]; rfl)
            clear hq2 hw2
            by_cases hn3 : 3 < n
            · have hw3 : 3 < ws.length := by rw [HN.out]; exact hn3
              obtain ⟨q3, hq3⟩ : ∃ x, ws[3] = x := ⟨_, rfl⟩
              have f3 := HK.out wr hb 3 hw3
              rw [hq3] at f3
              have s3 : q3.size ≤ 1048576 := HM.out q3 (hq3 ▸ List.getElem_mem hw3)
              have HQ3 : Hid ((ws.map fun x : ByteArray => x.data.toList)[3]? = some q3.data.toList) := Lib.hid (by rw [List.getElem?_map, List.getElem?_eq_getElem hw3, hq3]; rfl)
              clear hq3 hw3
              have E0 := Bt.sV_yes (u := Bt.uA o) (W := (ws.map fun x : ByteArray => x.data.toList)) (t := 1) (x := q1.data.toList) hA HQ1.out
              have E1 := Bt.sV_yes (u := Bt.uB o) (W := (ws.map fun x : ByteArray => x.data.toList)) (t := 2) (x := q2.data.toList) hB HQ2.out
              have E2 := Bt.sV_yes (u := decide (0 < Bt.uC o)) (W := (ws.map fun x : ByteArray => x.data.toList)) (t := 3) (x := q3.data.toList) hC HQ3.out
              have HPL : Hid (∀ op x y z : Int, Bt.Is s.data.toList op x y z → o = op ∧ Bt.numS q1.data.toList = x ∧ Bt.numS q2.data.toList = y ∧ Bt.numS q3.data.toList = z) := Lib.hid (fun op x y z h => by
                have h := HP.out op x y z h
                rw [E0.2, E0.1, E1.2, E1.1, E2.1] at h
                exact h)
              clear E0 E1 E2
              go_wp2_with (first | (go_at_call 27; refine (uses_any _ _).mono ?_; rintro e w' ⟨rfl, rfl⟩) | (go_at_call 42; refine (specRead_any _ _ (by omega)).mono ?_; rintro e w' ⟨rfl, rfl⟩))
              refine (specCodeText_any _ _ _ _ _).mono ?_
              rintro e w3 ⟨rfl, hb3⟩
              have hrow := ((((((HO3.out).set 1 _).congr (codeF_set o (0) (0) (0) 1 (by decide) (Bt.numS q1.data.toList))).set 2 _).congr (codeF_set o (Bt.numS q1.data.toList) (0) (0) 2 (by decide) (Bt.numS q2.data.toList))).set 3 _).congr (codeF_set o (Bt.numS q1.data.toList) (Bt.numS q2.data.toList) (0) 3 (by decide) (Bt.numS q3.data.toList))
              have hr3 := hrow.of_block (hb3.block _ hrow.lt)
              have c0 : w3.cell? ⟨w1.heap.size, 0, none⟩ = some (.int .i64 (o)) := hr3.cell (i := 0) (by decide)
              have c1 : w3.cell? ⟨w1.heap.size, 1, none⟩ = some (.int .i64 (Bt.numS q1.data.toList)) := hr3.cell (i := 1) (by decide)
              have c2 : w3.cell? ⟨w1.heap.size, 2, none⟩ = some (.int .i64 (Bt.numS q2.data.toList)) := hr3.cell (i := 2) (by decide)
              have c3 : w3.cell? ⟨w1.heap.size, 3, none⟩ = some (.int .i64 (Bt.numS q3.data.toList)) := hr3.cell (i := 3) (by decide)
              clear hrow hr3 r0 r1 r2 r3 z1 z2 z3
              have BZ := ((((HZR.out).setCell (by simp; omega) _).setCell (by simp; omega) _).setCell (by simp; omega) _).trans (hb3.mono (by first | omega | (simp; omega)))
              obtain ⟨hr, hf⟩ := res_row BZ
              have x0 := hr 0 (by decide)
              have x1 := hr 1 (by decide)
              have x2 := hr 2 (by decide)
              have x3 := hr 3 (by decide)
              have y0 := hf 0
              have y1 := hf 1
              have y2 := hf 2
              have y3 := hf 3
              clear hr hf
              have BF := Lib.hid BZ; clear BZ
              by_cases ht : Bt.codeText o (Bt.numS q1.data.toList) (Bt.numS q2.data.toList) (Bt.numS q3.data.toList) = s.data.toList
              · have ht' : (Bt.codeText o (Bt.numS q1.data.toList) (Bt.numS q2.data.toList) (Bt.numS q3.data.toList) == s.toList) = true := by rw [ByteArray.toList_eq, ht]; simp
                by_cases h0 : s.data.toList = []
                · have HNO : Hid (¬ Bt.Is s.data.toList o (Bt.numS q1.data.toList) (Bt.numS q2.data.toList) (Bt.numS q3.data.toList)) := Lib.hid (fun h => Bt.text_ne h.1 (ht.trans h0))
                  have h0' : s.toList = [] := by rw [ByteArray.toList_eq]; exact h0
                  have hte : Bt.codeText o (Bt.numS q1.data.toList) (Bt.numS q2.data.toList) (Bt.numS q3.data.toList) = [] := ht.trans h0
                  clear ht h0 ht'
                  go_wp2_with fail
                  refine bodyPost_ret (v := .tuple #[.agg #[.int .i64 0, .int .i64 0, .int .i64 0, .int .i64 0], .bool false]) (by simp [results, Try.results24, go_sem, x0, x1, x2, x3]) rfl (readMade_no ?_ HPL.out HNO.out)
                  exact (((((((Below.refl _ _).alloc (Nat.le_refl _) _).trans (BF.out.mono (by omega))).setCell (Nat.le_refl _) _).setCell (Nat.le_refl _) _).setCell (Nat.le_refl _) _).setCell (Nat.le_refl _) _)
                · have HYES : Hid (Bt.Is s.data.toList o (Bt.numS q1.data.toList) (Bt.numS q2.data.toList) (Bt.numS q3.data.toList)) := Lib.hid (is_of ht h0)
                  have h0' : s.toList.isEmpty = false := by rw [ByteArray.toList_eq]; simpa using h0
                  clear ht h0
                  go_wp2_with fail
                  refine bodyPost_ret (v := .tuple #[.agg #[.int .i64 o, .int .i64 (Bt.numS q1.data.toList), .int .i64 (Bt.numS q2.data.toList), .int .i64 (Bt.numS q3.data.toList)], .bool true]) (by simp [results, Try.results24, go_sem, x0, x1, x2, x3]) rfl (readMade_ok ?_ HPL.out HYES.out)
                  exact (((((((Below.refl _ _).alloc (Nat.le_refl _) _).trans (BF.out.mono (by omega))).setCell (Nat.le_refl _) _).setCell (Nat.le_refl _) _).setCell (Nat.le_refl _) _).setCell (Nat.le_refl _) _)
              · have HNO : Hid (¬ Bt.Is s.data.toList o (Bt.numS q1.data.toList) (Bt.numS q2.data.toList) (Bt.numS q3.data.toList)) := Lib.hid (fun h => ht h.2)
                have ht' : (Bt.codeText o (Bt.numS q1.data.toList) (Bt.numS q2.data.toList) (Bt.numS q3.data.toList) == s.toList) = false := by rw [ByteArray.toList_eq]; simpa using ht
                clear ht
                go_wp2_with fail
                refine bodyPost_ret (v := .tuple #[.agg #[.int .i64 0, .int .i64 0, .int .i64 0, .int .i64 0], .bool false]) (by simp [results, Try.results24, go_sem, x0, x1, x2, x3]) rfl (readMade_no ?_ HPL.out HNO.out)
                exact (((((((Below.refl _ _).alloc (Nat.le_refl _) _).trans (BF.out.mono (by omega))).setCell (Nat.le_refl _) _).setCell (Nat.le_refl _) _).setCell (Nat.le_refl _) _).setCell (Nat.le_refl _) _)
            · skip
              have E0 := Bt.sV_yes (u := Bt.uA o) (W := (ws.map fun x : ByteArray => x.data.toList)) (t := 1) (x := q1.data.toList) hA HQ1.out
              have E1 := Bt.sV_yes (u := Bt.uB o) (W := (ws.map fun x : ByteArray => x.data.toList)) (t := 2) (x := q2.data.toList) hB HQ2.out
              have E2 := Bt.sV_no (u := decide (0 < Bt.uC o)) (W := (ws.map fun x : ByteArray => x.data.toList)) (t := 3) (fun h => by have h1 := h.2; rw [HL.out] at h1; omega)
              have HPL : Hid (∀ op x y z : Int, Bt.Is s.data.toList op x y z → o = op ∧ Bt.numS q1.data.toList = x ∧ Bt.numS q2.data.toList = y ∧ 0 = z) := Lib.hid (fun op x y z h => by
                have h := HP.out op x y z h
                rw [E0.2, E0.1, E1.2, E1.1, E2.1] at h
                exact h)
              clear E0 E1 E2
              go_wp2_with (first | (go_at_call 27; refine (uses_any _ _).mono ?_; rintro e w' ⟨rfl, rfl⟩) | (go_at_call 42; refine (specRead_any _ _ (by omega)).mono ?_; rintro e w' ⟨rfl, rfl⟩))
              refine (specCodeText_any _ _ _ _ _).mono ?_
              rintro e w3 ⟨rfl, hb3⟩
              have hrow := ((((HO3.out).set 1 _).congr (codeF_set o (0) (0) (0) 1 (by decide) (Bt.numS q1.data.toList))).set 2 _).congr (codeF_set o (Bt.numS q1.data.toList) (0) (0) 2 (by decide) (Bt.numS q2.data.toList))
              have hr3 := hrow.of_block (hb3.block _ hrow.lt)
              have c0 : w3.cell? ⟨w1.heap.size, 0, none⟩ = some (.int .i64 (o)) := hr3.cell (i := 0) (by decide)
              have c1 : w3.cell? ⟨w1.heap.size, 1, none⟩ = some (.int .i64 (Bt.numS q1.data.toList)) := hr3.cell (i := 1) (by decide)
              have c2 : w3.cell? ⟨w1.heap.size, 2, none⟩ = some (.int .i64 (Bt.numS q2.data.toList)) := hr3.cell (i := 2) (by decide)
              have c3 : w3.cell? ⟨w1.heap.size, 3, none⟩ = some (.int .i64 (0)) := hr3.cell (i := 3) (by decide)
              clear hrow hr3 r0 r1 r2 r3 z1 z2 z3
              have BZ := (((HZR.out).setCell (by simp; omega) _).setCell (by simp; omega) _).trans (hb3.mono (by first | omega | (simp; omega)))
              obtain ⟨hr, hf⟩ := res_row BZ
              have x0 := hr 0 (by decide)
              have x1 := hr 1 (by decide)
              have x2 := hr 2 (by decide)
              have x3 := hr 3 (by decide)
              have y0 := hf 0
              have y1 := hf 1
              have y2 := hf 2
              have y3 := hf 3
              clear hr hf
              have BF := Lib.hid BZ; clear BZ
              by_cases ht : Bt.codeText o (Bt.numS q1.data.toList) (Bt.numS q2.data.toList) (0) = s.data.toList
              · have ht' : (Bt.codeText o (Bt.numS q1.data.toList) (Bt.numS q2.data.toList) (0) == s.toList) = true := by rw [ByteArray.toList_eq, ht]; simp
                by_cases h0 : s.data.toList = []
                · have HNO : Hid (¬ Bt.Is s.data.toList o (Bt.numS q1.data.toList) (Bt.numS q2.data.toList) (0)) := Lib.hid (fun h => Bt.text_ne h.1 (ht.trans h0))
                  have h0' : s.toList = [] := by rw [ByteArray.toList_eq]; exact h0
                  have hte : Bt.codeText o (Bt.numS q1.data.toList) (Bt.numS q2.data.toList) (0) = [] := ht.trans h0
                  clear ht h0 ht'
                  go_wp2_with fail
                  refine bodyPost_ret (v := .tuple #[.agg #[.int .i64 0, .int .i64 0, .int .i64 0, .int .i64 0], .bool false]) (by simp [results, Try.results24, go_sem, x0, x1, x2, x3]) rfl (readMade_no ?_ HPL.out HNO.out)
                  exact (((((((Below.refl _ _).alloc (Nat.le_refl _) _).trans (BF.out.mono (by omega))).setCell (Nat.le_refl _) _).setCell (Nat.le_refl _) _).setCell (Nat.le_refl _) _).setCell (Nat.le_refl _) _)
                · have HYES : Hid (Bt.Is s.data.toList o (Bt.numS q1.data.toList) (Bt.numS q2.data.toList) (0)) := Lib.hid (is_of ht h0)
                  have h0' : s.toList.isEmpty = false := by rw [ByteArray.toList_eq]; simpa using h0
                  clear ht h0
                  go_wp2_with fail
                  refine bodyPost_ret (v := .tuple #[.agg #[.int .i64 o, .int .i64 (Bt.numS q1.data.toList), .int .i64 (Bt.numS q2.data.toList), .int .i64 (0)], .bool true]) (by simp [results, Try.results24, go_sem, x0, x1, x2, x3]) rfl (readMade_ok ?_ HPL.out HYES.out)
                  exact (((((((Below.refl _ _).alloc (Nat.le_refl _) _).trans (BF.out.mono (by omega))).setCell (Nat.le_refl _) _).setCell (Nat.le_refl _) _).setCell (Nat.le_refl _) _).setCell (Nat.le_refl _) _)
              · have HNO : Hid (¬ Bt.Is s.data.toList o (Bt.numS q1.data.toList) (Bt.numS q2.data.toList) (0)) := Lib.hid (fun h => ht h.2)
                have ht' : (Bt.codeText o (Bt.numS q1.data.toList) (Bt.numS q2.data.toList) (0) == s.toList) = false := by rw [ByteArray.toList_eq]; simpa using ht
                clear ht
                go_wp2_with fail
                refine bodyPost_ret (v := .tuple #[.agg #[.int .i64 0, .int .i64 0, .int .i64 0, .int .i64 0], .bool false]) (by simp [results, Try.results24, go_sem, x0, x1, x2, x3]) rfl (readMade_no ?_ HPL.out HNO.out)
                exact (((((((Below.refl _ _).alloc (Nat.le_refl _) _).trans (BF.out.mono (by omega))).setCell (Nat.le_refl _) _).setCell (Nat.le_refl _) _).setCell (Nat.le_refl _) _).setCell (Nat.le_refl _) _)
          · skip
            have E0 := Bt.sV_yes (u := Bt.uA o) (W := (ws.map fun x : ByteArray => x.data.toList)) (t := 1) (x := q1.data.toList) hA HQ1.out
            have E1 := Bt.sV_no (u := Bt.uB o) (W := (ws.map fun x : ByteArray => x.data.toList)) (t := 2) (fun h => by have h1 := h.2; rw [HL.out] at h1; omega)
            have E2 := Bt.sV_no (u := decide (0 < Bt.uC o)) (W := (ws.map fun x : ByteArray => x.data.toList)) (t := 2) (fun h => by have h1 := h.2; rw [HL.out] at h1; omega)
            have HPL : Hid (∀ op x y z : Int, Bt.Is s.data.toList op x y z → o = op ∧ Bt.numS q1.data.toList = x ∧ 0 = y ∧ 0 = z) := Lib.hid (fun op x y z h => by
              have h := HP.out op x y z h
              rw [E0.2, E0.1, E1.2, E1.1, E2.1] at h
              exact h)
            clear E0 E1 E2
            go_wp2_with (first | (go_at_call 27; refine (uses_any _ _).mono ?_; rintro e w' ⟨rfl, rfl⟩) | (go_at_call 42; refine (specRead_any _ _ (by omega)).mono ?_; rintro e w' ⟨rfl, rfl⟩))
            refine (specCodeText_any _ _ _ _ _).mono ?_
            rintro e w3 ⟨rfl, hb3⟩
            have hrow := ((HO3.out).set 1 _).congr (codeF_set o (0) (0) (0) 1 (by decide) (Bt.numS q1.data.toList))
            have hr3 := hrow.of_block (hb3.block _ hrow.lt)
            have c0 : w3.cell? ⟨w1.heap.size, 0, none⟩ = some (.int .i64 (o)) := hr3.cell (i := 0) (by decide)
            have c1 : w3.cell? ⟨w1.heap.size, 1, none⟩ = some (.int .i64 (Bt.numS q1.data.toList)) := hr3.cell (i := 1) (by decide)
            have c2 : w3.cell? ⟨w1.heap.size, 2, none⟩ = some (.int .i64 (0)) := hr3.cell (i := 2) (by decide)
            have c3 : w3.cell? ⟨w1.heap.size, 3, none⟩ = some (.int .i64 (0)) := hr3.cell (i := 3) (by decide)
            clear hrow hr3 r0 r1 r2 r3 z1 z2 z3
            have BZ := ((HZR.out).setCell (by simp; omega) _).trans (hb3.mono (by first | omega | (simp; omega)))
            obtain ⟨hr, hf⟩ := res_row BZ
            have x0 := hr 0 (by decide)
            have x1 := hr 1 (by decide)
            have x2 := hr 2 (by decide)
            have x3 := hr 3 (by decide)
            have y0 := hf 0
            have y1 := hf 1
            have y2 := hf 2
            have y3 := hf 3
            clear hr hf
            have BF := Lib.hid BZ; clear BZ
            by_cases ht : Bt.codeText o (Bt.numS q1.data.toList) (0) (0) = s.data.toList
            · have ht' : (Bt.codeText o (Bt.numS q1.data.toList) (0) (0) == s.toList) = true := by rw [ByteArray.toList_eq, ht]; simp
              by_cases h0 : s.data.toList = []
              · have HNO : Hid (¬ Bt.Is s.data.toList o (Bt.numS q1.data.toList) (0) (0)) := Lib.hid (fun h => Bt.text_ne h.1 (ht.trans h0))
                have h0' : s.toList = [] := by rw [ByteArray.toList_eq]; exact h0
                have hte : Bt.codeText o (Bt.numS q1.data.toList) (0) (0) = [] := ht.trans h0
                clear ht h0 ht'
                go_wp2_with fail
                refine bodyPost_ret (v := .tuple #[.agg #[.int .i64 0, .int .i64 0, .int .i64 0, .int .i64 0], .bool false]) (by simp [results, Try.results24, go_sem, x0, x1, x2, x3]) rfl (readMade_no ?_ HPL.out HNO.out)
                exact (((((((Below.refl _ _).alloc (Nat.le_refl _) _).trans (BF.out.mono (by omega))).setCell (Nat.le_refl _) _).setCell (Nat.le_refl _) _).setCell (Nat.le_refl _) _).setCell (Nat.le_refl _) _)
              · have HYES : Hid (Bt.Is s.data.toList o (Bt.numS q1.data.toList) (0) (0)) := Lib.hid (is_of ht h0)
                have h0' : s.toList.isEmpty = false := by rw [ByteArray.toList_eq]; simpa using h0
                clear ht h0
                go_wp2_with fail
                refine bodyPost_ret (v := .tuple #[.agg #[.int .i64 o, .int .i64 (Bt.numS q1.data.toList), .int .i64 (0), .int .i64 (0)], .bool true]) (by simp [results, Try.results24, go_sem, x0, x1, x2, x3]) rfl (readMade_ok ?_ HPL.out HYES.out)
                exact (((((((Below.refl _ _).alloc (Nat.le_refl _) _).trans (BF.out.mono (by omega))).setCell (Nat.le_refl _) _).setCell (Nat.le_refl _) _).setCell (Nat.le_refl _) _).setCell (Nat.le_refl _) _)
            · have HNO : Hid (¬ Bt.Is s.data.toList o (Bt.numS q1.data.toList) (0) (0)) := Lib.hid (fun h => ht h.2)
              have ht' : (Bt.codeText o (Bt.numS q1.data.toList) (0) (0) == s.toList) = false := by rw [ByteArray.toList_eq]; simpa using ht
              clear ht
              go_wp2_with fail
              refine bodyPost_ret (v := .tuple #[.agg #[.int .i64 0, .int .i64 0, .int .i64 0, .int .i64 0], .bool false]) (by simp [results, Try.results24, go_sem, x0, x1, x2, x3]) rfl (readMade_no ?_ HPL.out HNO.out)
              exact (((((((Below.refl _ _).alloc (Nat.le_refl _) _).trans (BF.out.mono (by omega))).setCell (Nat.le_refl _) _).setCell (Nat.le_refl _) _).setCell (Nat.le_refl _) _).setCell (Nat.le_refl _) _)
        · skip
          have E0 := Bt.sV_no (u := Bt.uA o) (W := (ws.map fun x : ByteArray => x.data.toList)) (t := 1) (fun h => by have h1 := h.2; rw [HL.out] at h1; omega)
          have E1 := Bt.sV_no (u := Bt.uB o) (W := (ws.map fun x : ByteArray => x.data.toList)) (t := 1) (fun h => by have h1 := h.2; rw [HL.out] at h1; omega)
          have E2 := Bt.sV_no (u := decide (0 < Bt.uC o)) (W := (ws.map fun x : ByteArray => x.data.toList)) (t := 1) (fun h => by have h1 := h.2; rw [HL.out] at h1; omega)
          have HPL : Hid (∀ op x y z : Int, Bt.Is s.data.toList op x y z → o = op ∧ 0 = x ∧ 0 = y ∧ 0 = z) := Lib.hid (fun op x y z h => by
            have h := HP.out op x y z h
            rw [E0.2, E0.1, E1.2, E1.1, E2.1] at h
            exact h)
          clear E0 E1 E2
          go_wp2_with (first | (go_at_call 27; refine (uses_any _ _).mono ?_; rintro e w' ⟨rfl, rfl⟩) | (go_at_call 42; refine (specRead_any _ _ (by omega)).mono ?_; rintro e w' ⟨rfl, rfl⟩))
          refine (specCodeText_any _ _ _ _ _).mono ?_
          rintro e w3 ⟨rfl, hb3⟩
          have hrow := HO3.out
          have hr3 := hrow.of_block (hb3.block _ hrow.lt)
          have c0 : w3.cell? ⟨w1.heap.size, 0, none⟩ = some (.int .i64 (o)) := hr3.cell (i := 0) (by decide)
          have c1 : w3.cell? ⟨w1.heap.size, 1, none⟩ = some (.int .i64 (0)) := hr3.cell (i := 1) (by decide)
          have c2 : w3.cell? ⟨w1.heap.size, 2, none⟩ = some (.int .i64 (0)) := hr3.cell (i := 2) (by decide)
          have c3 : w3.cell? ⟨w1.heap.size, 3, none⟩ = some (.int .i64 (0)) := hr3.cell (i := 3) (by decide)
          clear hrow hr3 r0 r1 r2 r3 z1 z2 z3
          have BZ := (HZR.out).trans (hb3.mono (by first | omega | (simp; omega)))
          obtain ⟨hr, hf⟩ := res_row BZ
          have x0 := hr 0 (by decide)
          have x1 := hr 1 (by decide)
          have x2 := hr 2 (by decide)
          have x3 := hr 3 (by decide)
          have y0 := hf 0
          have y1 := hf 1
          have y2 := hf 2
          have y3 := hf 3
          clear hr hf
          have BF := Lib.hid BZ; clear BZ
          by_cases ht : Bt.codeText o (0) (0) (0) = s.data.toList
          · have ht' : (Bt.codeText o (0) (0) (0) == s.toList) = true := by rw [ByteArray.toList_eq, ht]; simp
            by_cases h0 : s.data.toList = []
            · have HNO : Hid (¬ Bt.Is s.data.toList o (0) (0) (0)) := Lib.hid (fun h => Bt.text_ne h.1 (ht.trans h0))
              have h0' : s.toList = [] := by rw [ByteArray.toList_eq]; exact h0
              have hte : Bt.codeText o (0) (0) (0) = [] := ht.trans h0
              clear ht h0 ht'
              go_wp2_with fail
              refine bodyPost_ret (v := .tuple #[.agg #[.int .i64 0, .int .i64 0, .int .i64 0, .int .i64 0], .bool false]) (by simp [results, Try.results24, go_sem, x0, x1, x2, x3]) rfl (readMade_no ?_ HPL.out HNO.out)
              exact (((((((Below.refl _ _).alloc (Nat.le_refl _) _).trans (BF.out.mono (by omega))).setCell (Nat.le_refl _) _).setCell (Nat.le_refl _) _).setCell (Nat.le_refl _) _).setCell (Nat.le_refl _) _)
            · have HYES : Hid (Bt.Is s.data.toList o (0) (0) (0)) := Lib.hid (is_of ht h0)
              have h0' : s.toList.isEmpty = false := by rw [ByteArray.toList_eq]; simpa using h0
              clear ht h0
              go_wp2_with fail
              refine bodyPost_ret (v := .tuple #[.agg #[.int .i64 o, .int .i64 (0), .int .i64 (0), .int .i64 (0)], .bool true]) (by simp [results, Try.results24, go_sem, x0, x1, x2, x3]) rfl (readMade_ok ?_ HPL.out HYES.out)
              exact (((((((Below.refl _ _).alloc (Nat.le_refl _) _).trans (BF.out.mono (by omega))).setCell (Nat.le_refl _) _).setCell (Nat.le_refl _) _).setCell (Nat.le_refl _) _).setCell (Nat.le_refl _) _)
          · have HNO : Hid (¬ Bt.Is s.data.toList o (0) (0) (0)) := Lib.hid (fun h => ht h.2)
            have ht' : (Bt.codeText o (0) (0) (0) == s.toList) = false := by rw [ByteArray.toList_eq]; simpa using ht
            clear ht
            go_wp2_with fail
            refine bodyPost_ret (v := .tuple #[.agg #[.int .i64 0, .int .i64 0, .int .i64 0, .int .i64 0], .bool false]) (by simp [results, Try.results24, go_sem, x0, x1, x2, x3]) rfl (readMade_no ?_ HPL.out HNO.out)
            exact (((((((Below.refl _ _).alloc (Nat.le_refl _) _).trans (BF.out.mono (by omega))).setCell (Nat.le_refl _) _).setCell (Nat.le_refl _) _).setCell (Nat.le_refl _) _).setCell (Nat.le_refl _) _)
end Go.Proofs.Ytmcmfebmjfpmoaa
