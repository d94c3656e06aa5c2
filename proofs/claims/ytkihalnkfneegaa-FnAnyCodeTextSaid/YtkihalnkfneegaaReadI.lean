/-
  How an instruction is read from a text, in the program's own package: contracts.
-/
import Derived.Test.YtkihalnkfneegaaStrs
import Derived.Test.YtkihalnkfneegaaPokI
import Derived.StillTailTactics
namespace Go.Proofs.Ytkihalnkfneegaa
open Go.RowKit

namespace Bt
/-- a text is that of this instruction -/
def Is (l : List UInt8) (op a b c : Int) : Prop := codeOk op a b c = true ∧ codeText op a b c = l
/-- the number at a field's word, by the program -/
def fI (W : List (List UInt8)) (t : Int) (k : Int) : Int := if k = 0 then 0 else if t < W.length then numI (W.getD t.toNat []) else -1
/-- how many words a field has -/
def wf (k : Int) : Int := if k = 0 then 0 else 1
theorem spl_mem (l : List UInt8) : ∀ cur x, x ∈ spl cur l → x.length ≤ cur.length + l.length := by
  induction l with
  | nil => intro cur x h; simp [spl] at h; subst h; simp
  | cons c l ih =>
    intro cur x h
    rw [spl] at h
    split at h
    · rcases List.mem_cons.1 h with rfl | h
      · simp
      · have := ih _ _ h; simp at this ⊢; omega
    · have := ih _ _ h; simp at this ⊢; omega
theorem spl_ne (l : List UInt8) : ∀ cur, 0 < (spl cur l).length := by
  induction l with
  | nil => intro cur; simp [spl]
  | cons c l ih => intro cur; rw [spl]; split <;> simp [ih]
theorem ft_len1 {u : Bool} {n : Int} (h : 0 ≤ n) (h4 : n < 10) : (ft u n).length ≤ 2 := by
  have := (dec_len4 (n := n.toNat) (by omega)).2.2.1 (by omega)
  unfold ft; split <;> simp <;> omega
theorem ft_len2 {u : Bool} {n : Int} (h : 0 ≤ n) (h4 : n < 100) : (ft u n).length ≤ 3 := by
  have := (dec_len4 (n := n.toNat) (by omega)).2.2.2 (by omega)
  unfold ft; split <;> simp <;> omega
theorem codeText_len {op a b c : Int} (h : codeOk op a b c = true) : (codeText op a b c).length ≤ 11 := by
  have hop := codeOk_op h
  obtain ⟨⟨a0, a1⟩, ⟨b0, b1⟩, c0, c1⟩ := codeOk_nums h
  rw [text_of h]
  have la := ft_len1 (u := uA op) a0 (by omega)
  have lb := ft_len1 (u := uB op) b0 (by omega)
  simp only [List.length_append]
  simp only [codeOk, Bool.and_eq_true] at h
  obtain ⟨_, hc⟩ := h
  have lc5 : (ft (decide (0 < uC op)) c).length ≤ 5 := by
    have := (dec_len4 (n := c.toNat) (by omega)).2.1
    unfold ft; split <;> simp <;> omega
  have ln := name_len op
  by_cases hs : op = 1
  · subst hs
    have e2 : (ft (uB 1) b).length = 0 := rfl
    have e3 : (name 1).length = 3 := rfl
    omega
  · by_cases h78 : op = 7 ∨ op = 8
    · have hc8 : c < 8 := by
        have ht : topC (uC op) = 8 := by rcases h78 with rfl | rfl <;> rfl
        rw [ht] at hc
        exact below_top hc (by decide)
      have := ft_len1 (u := decide (0 < uC op)) c0 (by omega)
      omega
    · have hB0 : ¬ (2 ≤ op ∧ op ≤ 8) ∨ uC op = 0 := by
        by_cases hb : 2 ≤ op ∧ op ≤ 8
        · right
          unfold uC
          rw [if_neg (by omega), if_neg (by omega), if_neg (by omega), if_neg (by omega)]
        · exact .inl hb
      rcases hB0 with hb | hu
      · have e2 : (ft (uB op) b).length = 0 := by
          have : uB op = false := by unfold uB; rw [decide_eq_false_iff_not]; exact hb
          rw [this]; rfl
        have hc60 : c < 100 := by
          unfold below at hc
          split at hc
          · have h1 := (of_decide_eq_true hc).2
            have h2 : topC (uC op) ≤ 60 := by
              have : uC op ≠ 1 := by unfold uC; rw [if_neg hs]; split <;> (try split) <;> (try split) <;> omega
              unfold topC; rw [if_neg this]; split <;> (try split) <;> (try split) <;> omega
            omega
          · have := of_decide_eq_true hc; omega
        have := ft_len2 (u := decide (0 < uC op)) c0 hc60
        omega
      · have e3 : (ft (decide (0 < uC op)) c).length = 0 := by rw [hu]; rfl
        omega
end Bt

set_option maxHeartbeats 1000000 in
theorem wordsFor_any (k : Int) (w : World) : Calls Try.prog 17 #[.int .i64 k] w fun e w' => e = .returned (.int .i64 (Bt.wf k)) ∧ w = w' := by
  by_cases h : k = 0
  · subst h
    go_enter Try.func17, Try.ntmps17
    go_wp2
    go_ret
    exact ⟨rfl, rfl⟩
  · have HF : Hid (Bt.wf k = 1) := Lib.hid (by unfold Bt.wf; rw [if_neg h])
    have h0 : (k == 0) = false := by rw [beq_eq_false_iff_ne]; exact h
    clear h
    go_enter Try.func17, Try.ntmps17
    go_wp2
    go_ret
    exact ⟨ret_int HF.out.symm, rfl⟩

set_option maxHeartbeats 1000000 in
theorem fieldAt_any (g n cap : Nat) (ws : List ByteArray) (t k : Int) (w : World) (hN : ws.length = n) (ht : 0 ≤ t) (hl : ∀ x ∈ ws, x.size ≤ 1048576) (h : ∀ i (hi : i < ws.length), w.cell? ⟨g, i, none⟩ = some (.string ws[i])) :
    Calls Try.prog 18 #[.slice (some ⟨g, 0, none⟩) n cap, .int .i64 t, .int .i64 k] w fun e w' => e = .returned (.int .i64 (Bt.fI (ws.map fun x : ByteArray => x.data.toList) t k)) ∧ w = w' := by
  have HN := Lib.hid hN; clear hN
  have HC := Lib.hid h; clear h
  have HL := Lib.hid hl; clear hl
  by_cases hk : k = 0
  · subst hk
    go_enter Try.func18, Try.ntmps18
    go_wp2
    go_ret
    exact ⟨rfl, rfl⟩
  · have h0 : (k == 0) = false := by rw [beq_eq_false_iff_ne]; exact hk
    have HK := Lib.hid hk; clear hk
    obtain ⟨t, rfl⟩ := Int.eq_ofNat_of_zero_le ht
    by_cases hlt : t < n
    · have hlt' : t < ws.length := by rw [HN.out]; exact hlt
      have f0 := HC.out t hlt'
      have hsz := HL.out ws[t] (List.getElem_mem hlt')
      have HF : Hid (Bt.fI (ws.map fun x : ByteArray => x.data.toList) t k = Bt.numI (ws[t].data.toList)) := Lib.hid (by
        unfold Bt.fI
        rw [if_neg HK.out, if_pos (by rw [List.length_map]; omega)]
        congr 1
        simp [hlt'])
      generalize ws[t] = q at *
      go_enter Try.func18, Try.ntmps18
      go_wp2_with (go_at_call 22; refine (numberIn_any _ _ (by omega)).mono ?_; rintro e w' ⟨rfl, rfl⟩)
      go_ret
      exact ⟨ret_int HF.out.symm, rfl⟩
    · have HF : Hid (Bt.fI (ws.map fun x : ByteArray => x.data.toList) t k = -1) := Lib.hid (by
        unfold Bt.fI
        rw [if_neg HK.out, if_neg (by rw [List.length_map]; have := HN.out; omega)])
      go_enter Try.func18, Try.ntmps18
      go_wp2
      go_ret
      exact ⟨ret_int HF.out.symm, rfl⟩

/-- the number of a name -/
def OpMade (l : List UInt8) (w : World) (e : Ending) (w' : World) : Prop :=
  ∃ o : Int, e = .returned (.int .i64 o) ∧ (∀ j : Int, 0 ≤ j → j ≤ 17 → Bt.name j = l → o = j) ∧ Below w.heap.size w w'

theorem run_form_name (x y z t : Value) (w : World) : (Instr.field 30 (.agg #[x, y, z, t]) 0).run Try.prog w = .ok x w := by kernel_rfl

set_option maxHeartbeats 1000000 in
theorem opNamed_any (s : ByteArray) (w : World) : Calls Try.prog 16 #[.string s] w (OpMade s.data.toList w) := by
  have hfld := run_form_name
  go_enter Try.func16, Try.ntmps16
  go_wp2_with fail
  go_loopw [3] (fun i wr => ∃ k : Nat, k ≤ 18 ∧ i = .int .i64 k ∧ Below w.heap.size w wr ∧ ∀ j : Nat, j < k → Bt.name j ≠ s.data.toList) (fun i _ => 18 - (intOf i).toNat)
  case atStart => exact ⟨0, by omega, rfl, Below.refl _ _, fun _ h => absurd h (by omega)⟩
  case round =>
    obtain ⟨k, hk, rfl, hb, hall⟩ := hrel
    have HA := Lib.hid hall; clear hall
    by_cases hlt : k ≤ 17
    · by_cases hq : Bt.name k = s.data.toList
      · have hq' : (Bt.name k == s.toList) = true := by rw [ByteArray.toList_eq, hq]; simp
        have HQ := Lib.hid hq; clear hq
        go_wp2_with (go_at_call 9; refine (formOf_any _ _).mono ?_; rintro e w2 ⟨rfl, hb2⟩)
        go_ret
        exact ⟨_, rfl, fun j h0 h1 hj => Bt.name_inj (by omega) ⟨h0, h1⟩ (by rw [HQ.out, hj]), hb.trans (hb2.mono hb.size)⟩
      · have hq' : (Bt.name k == s.toList) = false := by rw [ByteArray.toList_eq]; simpa using hq
        have HQ := Lib.hid hq; clear hq
        go_wp2_with (go_at_call 9; refine (formOf_any _ _).mono ?_; rintro e w2 ⟨rfl, hb2⟩)
        go_roundw
        case rel => exact ⟨k + 1, by omega, by go_num, hb.trans (hb2.mono hb.size), fun j hj => by
          by_cases e : j < k
          · exact HA.out j e
          · obtain rfl : j = k := by omega
            exact HQ.out⟩
        case measure => simp [intOf]; omega
    · go_wp2_with fail
      go_ret
      exact ⟨-1, rfl, fun j h0 h1 hj => by
        obtain ⟨j, rfl⟩ := Int.eq_ofNat_of_zero_le h0
        exact absurd hj (HA.out j (by omega)), hb⟩
end Go.Proofs.Ytkihalnkfneegaa
