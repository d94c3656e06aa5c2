/-
  For every instruction and every row of numbers, 'FnExactCellOf' answers true: both packages' 'CellOf' answer alike, and the argument stays as it is. No condition.
-/
import Derived.Test.YtdhkaediffiplaaArgs
import Derived.Test.YtdhkaediffiplaaCell
import Derived.Test.YtdhkaediffiplaaStart
namespace Go.Proofs.Ytdhkaediffiplaa
open Go.ChangeShapes Go.WideShapes Go.ChangeAt Go.RowKit Go.Joins

set_option maxHeartbeats 1000000 in
theorem exactCellOf_walk (op a b c : Int) (v : Value) (xs : List Int) (w : World) (hv : ArgInts w v xs) (hm : xs.length ≤ maxLen) :
    Calls Try.prog 7 #[.agg #[.int .i64 op, .int .i64 a, .int .i64 b, .int .i64 c], v] w fun e w' => e = .returned (.bool true) ∧ Below w.heap.size w w' := by
  have hm' := hm
  unfold maxLen at hm'
  obtain ⟨A, cap, rfl, hv⟩ := hv.form
  have HV := Lib.hid hv
  have hn40 : Hid (xs.length ≤ 1048576 → xs.length ≤ 1099511627776) := Lib.hid (by omega)
  by_cases hn : xs.length ≤ 1048576
  · have HN := Lib.hid hn
    go_enter Try.func7, Try.ntmps7
    go_wp2_with fail
    refine (toCode_any op a b c _).mono ?_
    rintro e w1 ⟨rfl, hb1⟩
    have B1 : Below w.heap.size w w1 := ((Below.refl _ _).alloc (Nat.le_refl _) _).trans (hb1.mono (by simp))
    have hc1 : w1.cell? ⟨w.heap.size, 0, none⟩ = some (.int .i64 op) ∧ w1.cell? ⟨w.heap.size, 1, none⟩ = some (.int .i64 a) ∧ w1.cell? ⟨w.heap.size, 2, none⟩ = some (.int .i64 b) ∧ w1.cell? ⟨w.heap.size, 3, none⟩ = some (.int .i64 c) := ⟨keeps hb1 (by simp), keeps hb1 (by simp), keeps hb1 (by simp), keeps hb1 (by simp)⟩
    go_wp2_with fail
    refine (toInts_any _ xs _ hn (HV.out.keep B1)).mono ?_
    rintro e w2 ⟨rfl, hb2, hr2⟩
    have R2 := Lib.hid hr2; clear hr2
    have B2 : Below w.heap.size w w2 := B1.trans (hb2.mono B1.size)
    go_wp2_with fail
    refine (specCellOf_any op a b c _ xs _ (hn40.out HN.out) R2.out.arg).mono ?_
    rintro e w3 ⟨rfl, hb3⟩
    have B3 : Below w.heap.size w w3 := B2.trans (hb3.mono B2.size)
    go_wp2_with fail
    refine (toInts_any _ xs _ HN.out (HV.out.keep B3)).mono ?_
    rintro e w4 ⟨rfl, hb4, hr4⟩
    have R4 := Lib.hid hr4; clear hr4
    have B4 : Below w.heap.size w w4 := B3.trans (hb4.mono B3.size)
    have hk4 := hb2.trans ((hb3.mono hb2.size).trans (hb4.mono (Nat.le_trans hb2.size hb3.size)))
    obtain ⟨c0, c1, c2, c3⟩ := hc1
    have d0 := keeps hk4 c0
    have d1 := keeps hk4 c1
    have d2 := keeps hk4 c2
    have d3 := keeps hk4 c3
    clear c0 c1 c2 c3
    go_wp2_with fail
    refine (toCode_any op a b c _).mono ?_
    rintro e w5 ⟨rfl, hb5⟩
    have B5 : Below w.heap.size w w5 := B4.trans (hb5.mono B4.size)
    clear d0 d1 d2 d3
    go_wp2_with fail
    refine (implCellOf_any op a b c _ xs _ (hn40.out HN.out) (R4.out.keep hb5).arg).mono ?_
    rintro e w6 ⟨rfl, hb6⟩
    have B6 : Below w.heap.size w w6 := B5.trans (hb6.mono B5.size)
    generalize Bt.cellOf ⟨op, a, b, c⟩ xs = q
    go_wp2_with fail
    refine (toInts_any _ xs _ HN.out (HV.out.keep B6)).mono ?_
    rintro e w7 ⟨rfl, hb7, hr7⟩
    have R7 := Lib.hid hr7; clear hr7
    have B7 : Below w.heap.size w w7 := B6.trans (hb7.mono B6.size)
    go_wp2_with fail
    refine (eqInts_any _ _ xs _ (hn40.out HN.out) (((R4.out.keep hb5).keep hb6).keep hb7).arg R7.out.arg).mono ?_
    rintro e w8 ⟨rfl, hb8⟩
    go_wp2_with fail
    go_ret
    exact ⟨rfl, B7.trans (hb8.mono B7.size)⟩
  · go_enter Try.func7, Try.ntmps7
    go_wp2_with fail
    go_ret
    exact ⟨rfl, (Below.refl _ _).alloc (Nat.le_refl _) _⟩

set_option maxRecDepth 100000 in
theorem exactCellOf_lifted (os : Os) (started : os.Started) (H : Type) (enc : TypeId × Value → H) :
    ReturnsInHanded {} Try.checked os 7 .any (Rows.fnExactCellOfSpec.pre6 enc Try.prog Try.f7 Rows.fnExactCellOfRow.domain false) (Rows.fnExactCellOfSpec.post enc Try.prog Try.f7 false true false false) := by
  refine law_lifted (C := Try.checked) (tb := 4) own started (by kernel_rfl) Try.func7
    (ChangeSpec.witness6 (enc := enc) (C := Try.checked) false ⟨#[], #[.agg #[.int .i64 0, .int .i64 0, .int .i64 0, .int .i64 0], .slice none 0 0], []⟩ 8 (by kernel_rfl) (by kernel_rfl) (by kernel_rfl) (by kernel_rfl))
    laidOut (fun t ht => ?_) rfl Try.underlying4 rfl (fun ds hds => ?_) ?_
  · have hp : t ∈ [53, 26] := ht
    simp only [List.mem_cons, List.not_mem_nil, or_false] at hp
    rcases hp with rfl | rfl
    · exact ⟨by kernel_rfl, of_decide_eq_true (by kernel_rfl)⟩
    · exact ⟨by kernel_rfl, of_decide_eq_true (by kernel_rfl)⟩
  · match ds, hds with
    | [d0, d1], _ => rfl
  · intro W base args ds p hval0 hA0
    have hval : ∀ (j : Nat) t v, Try.f7.params[j]? = some t → args[j]? = some v → Value.okWide Try.prog W .any base t v := hval0
    have hA : DataW.TrodAll enc Try.prog W 0 (fun _ => true) true Try.f7.params.toList args.toList ds p := hA0
    rw [Try.params7] at hA hval
    obtain ⟨v0, v1, d0, d1, p0, p1, rfl, rfl, rfl, h0, h1⟩ := trodAll_two hA
    obtain ⟨c0, c1, c2, c3, y0, y1, y2, y3, m, rfl, _, _, hy0, hy1, hy2, hy3⟩ := open_agg4 Try.underlying53 (by kernel_rfl) cellsCode (hval 0 53 v0 rfl rfl) h0
    obtain ⟨k0_0, e0, _, _⟩ := DataW.trod_int Try.underlying3 hy0
    obtain ⟨k0_1, e1, _, _⟩ := DataW.trod_int Try.underlying3 hy1
    obtain ⟨k0_2, e2, _, _⟩ := DataW.trod_int Try.underlying3 hy2
    obtain ⟨k0_3, e3, _, _⟩ := DataW.trod_int Try.underlying3 hy3
    simp at e0 e1 e2 e3
    subst e0 e1 e2 e3
    obtain ⟨a1, l1, q1, rfl⟩ := okWide_slice Try.underlying26 (hval 1 26 v1 rfl rfl)
    obtain ⟨fu1, hf1⟩ := h1
    obtain ⟨v1, xs1, e0, hv1, hm1⟩ := open_nums hf1
    simp [Value.cells] at e0
    subst e0
    exact exactCellOf_walk k0_0 k0_1 k0_2 k0_3 _ xs1 W hv1 hm1

theorem exactCellOf_holds : Rows.FnExactCellOfSaid :=
  OpenClaim.holds_of_wide 7 Try.f7 rfl rfl rfl rfl rfl rfl rfl ⟨rfl, rfl, rfl, rfl, rfl⟩ rfl rfl rfl rfl rfl (by kernel_rfl) Try.func7 (by kernel_rfl)
    (of_decide_eq_true (by kernel_rfl)) (by unfold Func.isWrapper; rw [if_neg (of_decide_eq_false (by kernel_rfl))]; exact ⟨rfl, rfl⟩)
    (fun os started H enc _ => exactCellOf_lifted os started H enc)
#print axioms exactCellOf_holds
end Go.Proofs.Ytdhkaediffiplaa
