/-
  For every instruction, whatever its four numbers, 'FnAnyCodeText' answers true: its text is read as it, both packages write it alike, and what is no instruction has no text. No condition.
-/
import Derived.Test.YtkihalnkfneegaaReadC
import Derived.Test.YtkihalnkfneegaaStart
namespace Go.Proofs.Ytkihalnkfneegaa
open Go.ChangeShapes Go.WideShapes Go.ChangeAt Go.RowKit Go.Joins

theorem cellsImplCode : Try.prog.cellsOf 23 = 4 := by kernel_rfl

set_option maxHeartbeats 1000000 in
theorem alive_any (w : World) : Calls Try.prog 8 #[] w fun e w' => e = .returned (.bool true) ∧ Below w.heap.size w w' := by
  have k1 : Bt.codeOk 1 0 0 7 = true := by decide
  have k2 : Bt.codeOk 99 0 0 0 = false := by decide
  have k3 : Bt.codeOk 0 1 0 0 = false := by decide
  have B := Below.refl w.heap.size w
  go_enter Try.func8, Try.ntmps8
  go_wp2_with (go_at_call 7; refine (implCodeOk_any _ _ _ _ _).mono ?_; rintro e w1 ⟨rfl, hb⟩; have B := B.trans (hb.mono B.size))
  go_ret
  exact ⟨rfl, B⟩

set_option maxHeartbeats 4000000 in
theorem anyCodeText_walk (op a b c : Int) (w : World) :
    Calls Try.prog 3 #[.agg #[.int .i64 op, .int .i64 a, .int .i64 b, .int .i64 c]] w fun e w' => e = .returned (.bool true) ∧ Below w.heap.size w w' := by
  have hsz : (⟨(Bt.codeText op a b c).toArray⟩ : ByteArray).size ≤ 1048576 := by
    show (Bt.codeText op a b c).toArray.size ≤ 1048576
    cases hk : Bt.codeOk op a b c
    · have e : Bt.codeText op a b c = [] := by unfold Bt.codeText; rw [hk]; rfl
      rw [e]; decide
    · have := Bt.codeText_len hk; simp; omega
  go_enter Try.func3, Try.ntmps3
  go_wp2_with fail
  refine (implCodeText_any _ _ _ _ _).mono ?_
  rintro e w1 ⟨rfl, hb1⟩
  have B1 : Below w.heap.size w w1 := ((Below.refl _ _).alloc (Nat.le_refl _) _).trans (hb1.mono (by simp))
  have a1 := keeps hb1 (p := ⟨w.heap.size, 0, none⟩) (v := .int .i64 op) (by simp)
  have b1 := keeps hb1 (p := ⟨w.heap.size, 1, none⟩) (v := .int .i64 a) (by simp)
  have c1 := keeps hb1 (p := ⟨w.heap.size, 2, none⟩) (v := .int .i64 b) (by simp)
  have d1 := keeps hb1 (p := ⟨w.heap.size, 3, none⟩) (v := .int .i64 c) (by simp)
  go_wp2_with fail
  refine (specCodeText_any _ _ _ _ _).mono ?_
  rintro e w2 ⟨rfl, hb2⟩
  have B2 : Below w.heap.size w w2 := B1.trans (hb2.mono B1.size)
  have a2 := keeps hb2 a1
  have b2 := keeps hb2 b1
  have c2 := keeps hb2 c1
  have d2 := keeps hb2 d1
  clear a1 b1 c1 d1
  go_wp2_with fail
  refine (implReadCode_any _ _ hsz).mono ?_
  intro e w3 hm
  have HM := Lib.hid hm; clear hm
  cases hk : Bt.codeOk op a b c
  · have e0 : Bt.codeText op a b c = [] := by unfold Bt.codeText; rw [hk]; rfl
    obtain ⟨hb3, _, hno⟩ := HM.out
    have hE := hno (fun o x y z h => by
      have h2 := h.2
      have h3 : (⟨(Bt.codeText op a b c).toArray⟩ : ByteArray).data.toList = Bt.codeText op a b c := by simp
      rw [h3, e0] at h2
      exact Bt.text_ne h.1 h2)
    subst hE
    clear hno
    have B3 : Below w.heap.size w w3 := B2.trans (hb3.mono B2.size)
    have a3 := keeps hb3 a2
    have b3 := keeps hb3 b2
    have c3 := keeps hb3 c2
    have d3 := keeps hb3 d2
    clear a2 b2 c2 d2
    have hlt : w.heap.size < w3.heap.size := cell_lt a3
    clear hb1 hb2 B1 B2 HM
    go_wp2_with fail
    refine (implCodeOk_any _ _ _ _ _).mono ?_
    rintro e w4 ⟨rfl, hb4⟩
    rw [hk]
    have hz4 := hb4.size
    have B4 : Below w.heap.size w w4 := (B3.alloc B3.size _).trans (hb4.mono (by simp; omega))
    go_wp2_with fail
    refine (alive_any _).mono ?_
    rintro e w5 ⟨rfl, hb5⟩
    go_wp2_with fail
    go_ret
    exact ⟨rfl, B4.trans (hb5.mono B4.size)⟩
  · have hr : (⟨(Bt.codeText op a b c).toArray⟩ : ByteArray).data.toList = Bt.codeText op a b c := by simp
    obtain ⟨hb3, hyes, _⟩ := HM.out
    have hE := hyes op a b c ⟨hk, hr⟩
    subst hE
    clear hyes
    have B3 : Below w.heap.size w w3 := B2.trans (hb3.mono B2.size)
    have a3 := keeps hb3 a2
    have b3 := keeps hb3 b2
    have c3 := keeps hb3 c2
    have d3 := keeps hb3 d2
    clear a2 b2 c2 d2
    have hlt : w.heap.size < w3.heap.size := cell_lt a3
    clear hb1 hb2 B1 B2 HM
    go_wp2_with fail
    refine (implCodeOk_any _ _ _ _ _).mono ?_
    rintro e w4 ⟨rfl, hb4⟩
    rw [hk]
    have hz4 := hb4.size
    have B4 : Below w.heap.size w w4 := (B3.alloc B3.size _).trans (hb4.mono (by simp; omega))
    have a4 := keeps hb4 (keeps ((Below.refl _ _).alloc (Nat.le_refl _) _) a3)
    have b4 := keeps hb4 (keeps ((Below.refl _ _).alloc (Nat.le_refl _) _) b3)
    have c4 := keeps hb4 (keeps ((Below.refl _ _).alloc (Nat.le_refl _) _) c3)
    have d4 := keeps hb4 (keeps ((Below.refl _ _).alloc (Nat.le_refl _) _) d3)
    have p4 := keeps hb4 (p := ⟨w3.heap.size, 0, none⟩) (v := .int .i64 op) (by simp)
    have q4 := keeps hb4 (p := ⟨w3.heap.size, 1, none⟩) (v := .int .i64 a) (by simp)
    have r4 := keeps hb4 (p := ⟨w3.heap.size, 2, none⟩) (v := .int .i64 b) (by simp)
    have s4 := keeps hb4 (p := ⟨w3.heap.size, 3, none⟩) (v := .int .i64 c) (by simp)
    clear hb4 a3 b3 c3 d3
    go_wp2_with fail
    refine (alive_any _).mono ?_
    rintro e w5 ⟨rfl, hb5⟩
    go_wp2_with fail
    go_ret
    exact ⟨rfl, B4.trans (hb5.mono B4.size)⟩

set_option maxRecDepth 100000 in
theorem anyCodeText_lifted (os : Os) (started : os.Started) (H : Type) (enc : TypeId × Value → H) :
    ReturnsInHanded {} Try.checked os 3 .any (Rows.fnAnyCodeTextSpec.pre6 enc Try.prog Try.f3 Rows.fnAnyCodeTextRow.domain false) (Rows.fnAnyCodeTextSpec.post enc Try.prog Try.f3 false true false false) := by
  refine law_lifted (C := Try.checked) (tb := 4) own started (by kernel_rfl) Try.func3
    (ChangeSpec.witness6 (enc := enc) (C := Try.checked) false ⟨#[], #[.agg #[.int .i64 0, .int .i64 0, .int .i64 0, .int .i64 0]], []⟩ 8 (by kernel_rfl) (by kernel_rfl) (by kernel_rfl) (by kernel_rfl))
    laidOut (fun t ht => ?_) rfl Try.underlying4 rfl (fun ds hds => ?_) ?_
  · have hp : t ∈ [23] := ht
    simp only [List.mem_singleton] at hp
    subst hp
    exact ⟨by kernel_rfl, of_decide_eq_true (by kernel_rfl)⟩
  · match ds, hds with
    | [d], _ => rfl
  · intro W base args ds p hval0 hA0
    have hval : ∀ (j : Nat) t v, Try.f3.params[j]? = some t → args[j]? = some v → Value.okWide Try.prog W .any base t v := hval0
    have hA : DataW.TrodAll enc Try.prog W 0 (fun _ => true) true Try.f3.params.toList args.toList ds p := hA0
    rw [Try.params3] at hA hval
    obtain ⟨v0, d0, rfl, rfl, h0⟩ := trodAll_one hA
    obtain ⟨c0, c1, c2, c3, y0, y1, y2, y3, m, rfl, rfl, rfl, hy0, hy1, hy2, hy3⟩ := open_agg4 Try.underlying23 (by kernel_rfl) cellsImplCode (hval 0 23 v0 rfl rfl) h0
    obtain ⟨op, e0, rfl, _⟩ := DataW.trod_int Try.underlying3 hy0
    obtain ⟨a, e1, rfl, _⟩ := DataW.trod_int Try.underlying3 hy1
    obtain ⟨b, e2, rfl, _⟩ := DataW.trod_int Try.underlying3 hy2
    obtain ⟨c, e3, rfl, _⟩ := DataW.trod_int Try.underlying3 hy3
    simp at e0 e1 e2 e3
    subst e0 e1 e2 e3
    exact anyCodeText_walk op a b c W

theorem anyCodeText_holds : Rows.FnAnyCodeTextSaid :=
  OpenClaim.holds_of_wide 3 Try.f3 rfl rfl rfl rfl rfl rfl rfl ⟨rfl, rfl, rfl, rfl, rfl⟩ rfl rfl rfl rfl rfl (by kernel_rfl) Try.func3 (by kernel_rfl)
    (of_decide_eq_true (by kernel_rfl)) (by unfold Func.isWrapper; rw [if_neg (of_decide_eq_false (by kernel_rfl))]; exact ⟨rfl, rfl⟩)
    (fun os started H enc _ => anyCodeText_lifted os started H enc)
#print axioms anyCodeText_holds
end Go.Proofs.Ytkihalnkfneegaa
