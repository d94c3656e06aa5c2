/-
  'FnExactMachineNew' answers true: both packages' 'MachineNew' hand back the same machine, in memory of its own each time. No condition.
-/
import Derived.Test.YtdhkaediffiplaaNewL
import Derived.Test.YtdhkaediffiplaaSz
namespace Go.Proofs.Ytdhkaediffiplaa
open Go.ChangeShapes Go.WideShapes Go.ChangeAt Go.RowKit Go.Joins

theorem OwnMc.bd {w : World} {B : Nat} {vt vc vl vd : Value} {xs : List (Value × Value)} {m : Bt.Mc} (h : OwnMc w B vt vc vl vd xs m) : ∀ u ∈ mcVals vt vc vl vd xs, ∀ k, u.ownBlock = some k → B ≤ k ∧ k < w.heap.size := by
  intro u hu k e
  unfold mcVals at hu
  simp only [List.mem_cons, List.mem_append, List.not_mem_nil, or_false] at hu
  rcases hu with rfl | hu | rfl | rfl | rfl
  · obtain ⟨L, hL, _⟩ := h.ths.row
    exact World.ownsRow.lt hL _ e
  · obtain ⟨i, hi, he⟩ := rowsOf_mem hu
    have hi' : i < m.ths.length := by rw [← h.ths.len]; exact hi
    have := h.ths.ints i hi' hi
    rcases he with rfl | rfl
    · exact this.1.bd _ e
    · exact this.2.bd _ e
  · exact h.cells.bd _ e
  · exact h.locks.bd _ e
  · exact h.told.bd _ e
/-- the four values of a machine of the call's own are slices -/
theorem OwnMc.slices {w : World} {B : Nat} {vt vc vl vd : Value} {xs : List (Value × Value)} {m : Bt.Mc} (h : OwnMc w B vt vc vl vd xs m) : ∃ AT ct AC cc AL cl AD cd, vt = .slice AT m.ths.length ct ∧ vc = .slice AC m.cells.length cc ∧ vl = .slice AL m.locks.length cl ∧ vd = .slice AD m.told.length cd := by
  obtain ⟨AC, cc, e1, _⟩ := h.cells.arg.form
  obtain ⟨AL, cl, e2, _⟩ := h.locks.arg.form
  obtain ⟨AD, cd, e3, _⟩ := h.told.arg.form
  rcases h.ths.forms with ⟨e, e'⟩ | ⟨g, cap, e, _⟩
  · exact ⟨none, 0, AC, cc, AL, cl, AD, cd, by rw [e, e']; rfl, e1, e2, e3⟩
  · exact ⟨some ⟨g, 0, none⟩, cap, AC, cc, AL, cl, AD, cd, e, e1, e2, e3⟩

set_option maxRecDepth 100000 in
set_option maxHeartbeats 4000000 in
theorem exactMachineNew_walk (w : World) : Calls Try.prog 4 #[] w fun e w' => e = .returned (.bool true) ∧ Below w.heap.size w w' := by
  have EN : mcN Bt.mcNew = 16 := by decide
  go_enter Try.func4, Try.ntmps4
  go_wp2_with fail
  refine (specNew_any _).mono ?_
  rintro e w1 ⟨AT, ct, AC, cc, AL, cl, AD, cd, rfl, hb1, hm1⟩
  have B1 := Lib.hid hb1
  have HM1 := Lib.hid hm1
  clear hb1 hm1
  go_wp2_with fail
  obtain ⟨wA, hWA⟩ : ∃ W : World, W = w1.alloc (.cells #[.slice AT 1 ct, .slice AC 8 cc, .slice AL 2 cl, .slice AD 0 cd] 38) := ⟨_, rfl⟩
  have hbA : Below w1.heap.size w1 wA := by rw [hWA]; exact (Below.refl _ _).alloc (Nat.le_refl _) _
  have hzA : w1.heap.size < wA.heap.size := by rw [hWA]; simp
  have a0 : wA.cell? ⟨w1.heap.size, 0, none⟩ = some (.slice AT 1 ct) := by rw [hWA]; go_simp
  have a1 : wA.cell? ⟨w1.heap.size, 1, none⟩ = some (.slice AC 8 cc) := by rw [hWA]; go_simp
  have a2 : wA.cell? ⟨w1.heap.size, 2, none⟩ = some (.slice AL 2 cl) := by rw [hWA]; go_simp
  have a3 : wA.cell? ⟨w1.heap.size, 3, none⟩ = some (.slice AD 0 cd) := by rw [hWA]; go_simp
  rw [← hWA]
  clear hWA
  refine (implNew_any wA).mono ?_
  rintro e w2 ⟨vt, vc, vl, vd, xs, rfl, hb2, ho2⟩
  have hs2 := ho2.slices
  simp only [show Bt.mcNew.ths.length = 1 from rfl, show Bt.mcNew.cells.length = 8 from rfl, show Bt.mcNew.locks.length = 2 from rfl, show Bt.mcNew.told.length = 0 from rfl] at hs2
  obtain ⟨AT', ct', AC', cc', AL', cl', AD', cd', rfl, rfl, rfl, rfl⟩ := hs2
  have O2 := Lib.hid ho2
  have C2 := Lib.hid (hbA.trans (hb2.mono hbA.size))
  have hz2 : w1.heap.size < w2.heap.size := by have := hb2.size; omega
  have a0' := keeps hb2 a0
  have a1' := keeps hb2 a1
  have a2' := keeps hb2 a2
  have a3' := keeps hb2 a3
  clear a0 a1 a2 a3 ho2 hb2
  go_wp2_with fail
  obtain ⟨wB, hWB⟩ : ∃ W : World, W = w2.alloc (.cells #[.slice AT' 1 ct', .slice AC' 8 cc', .slice AL' 2 cl', .slice AD' 0 cd'] 38) := ⟨_, rfl⟩
  have hbB : Below w2.heap.size w2 wB := by rw [hWB]; exact (Below.refl _ _).alloc (Nat.le_refl _) _
  have g0 : wB.cell? ⟨w2.heap.size, 0, none⟩ = some (.slice AT' 1 ct') := by rw [hWB]; go_simp
  have g1 : wB.cell? ⟨w2.heap.size, 1, none⟩ = some (.slice AC' 8 cc') := by rw [hWB]; go_simp
  have g2 : wB.cell? ⟨w2.heap.size, 2, none⟩ = some (.slice AL' 2 cl') := by rw [hWB]; go_simp
  have g3 : wB.cell? ⟨w2.heap.size, 3, none⟩ = some (.slice AD' 0 cd') := by rw [hWB]; go_simp
  rw [← hWB]
  clear hWB
  have OB := Lib.hid (O2.out.keep hbB)
  have CB := Lib.hid (C2.out.trans (hbB.mono C2.out.size))
  have b0 := keeps hbB a0'
  have b1 := keeps hbB a1'
  have b2 := keeps hbB a2'
  have b3 := keeps hbB a3'
  have hzB := hbB.size
  clear a0' a1' a2' a3'
  refine (eqMachine_same (OB.out.arg rfl rfl rfl rfl) (HM1.out.keep CB.out) mcNew_small).mono ?_
  rintro e w3 ⟨rfl, hb3⟩
  have O3 := Lib.hid (OB.out.keep hb3)
  have C3 := Lib.hid (CB.out.trans (hb3.mono CB.out.size))
  have g0' := keeps hb3 g0
  have g1' := keeps hb3 g1
  have g2' := keeps hb3 g2
  have g3' := keeps hb3 g3
  have b0' := keeps hb3 b0
  have b1' := keeps hb3 b1
  have b2' := keeps hb3 b2
  have b3' := keeps hb3 b3
  have hz3 := hb3.size
  have BD := Lib.hid O2.out.bd
  clear g0 g1 g2 g3 b0 b1 b2 b3 hb3
  go_wp2_with fail
  refine (markMachine_any wA.heap.size 1 _ O3.out (by decide) (by rw [EN]; decide)).mono ?_
  rw [EN]
  rintro e w4 ⟨rfl, hw4, ho4⟩
  have C4 := Lib.hid (C3.out.trans (hw4.below (lo := w1.heap.size) (fun u hu k e => by have := BD.out u hu k e; omega) (by omega)))
  have K1 : ∀ i v, w3.cell? ⟨w1.heap.size, i, none⟩ = some v → w4.cell? ⟨w1.heap.size, i, none⟩ = some v := fun i v h => by
    rw [World.cell?_of_block (a := ⟨w1.heap.size, i, none⟩) (hw4.block w1.heap.size (by omega) (fun u hu e => by have := BD.out u hu _ e; omega))]
    exact h
  have K2 : ∀ i v, w3.cell? ⟨w2.heap.size, i, none⟩ = some v → w4.cell? ⟨w2.heap.size, i, none⟩ = some v := fun i v h => by
    rw [World.cell?_of_block (a := ⟨w2.heap.size, i, none⟩) (hw4.block w2.heap.size (by have := cell_lt g0'; simpa using this) (fun u hu e => by have := BD.out u hu _ e; omega))]
    exact h
  have x0 := K2 _ _ g0'
  have x1 := K2 _ _ g1'
  have x2 := K2 _ _ g2'
  have x3 := K2 _ _ g3'
  have y0 := K1 _ _ b0'
  have y1 := K1 _ _ b1'
  have y2 := K1 _ _ b2'
  have y3 := K1 _ _ b3'
  have O4 := Lib.hid ho4
  have hz4 := hw4.size
  clear g0' g1' g2' g3' b0' b1' b2' b3' K1 K2 ho4 hw4
  go_wp2_with fail
  refine (heldMachine_any (m := Bt.mcNew) 1 _ (O4.out.arg rfl rfl rfl rfl) (by decide) (by rw [EN]; decide)).mono ?_
  rw [EN]
  rintro e w5 ⟨rfl, hb5⟩
  have O5 := Lib.hid (O4.out.keep hb5)
  have C5 := Lib.hid (C4.out.trans (hb5.mono C4.out.size))
  have x0' := keeps hb5 x0
  have x1' := keeps hb5 x1
  have x2' := keeps hb5 x2
  have x3' := keeps hb5 x3
  have y0' := keeps hb5 y0
  have y1' := keeps hb5 y1
  have y2' := keeps hb5 y2
  have y3' := keeps hb5 y3
  clear x0 x1 x2 x3 y0 y1 y2 y3 hb5
  go_wp2_with fail
  refine (implNew_any w5).mono ?_
  rintro e w6 ⟨vt6, vc6, vl6, vd6, xs6, rfl, hb6, ho6⟩
  have hs6 := ho6.slices
  simp only [show Bt.mcNew.ths.length = 1 from rfl, show Bt.mcNew.cells.length = 8 from rfl, show Bt.mcNew.locks.length = 2 from rfl, show Bt.mcNew.told.length = 0 from rfl] at hs6
  obtain ⟨AT6, ct6, AC6, cc6, AL6, cl6, AD6, cd6, rfl, rfl, rfl, rfl⟩ := hs6
  have O6 := Lib.hid (O5.out.keep hb6)
  have H6 := Lib.hid ho6
  have C6 := Lib.hid (C5.out.trans (hb6.mono C5.out.size))
  have x0 := keeps hb6 x0'
  have x1 := keeps hb6 x1'
  have x2 := keeps hb6 x2'
  have x3 := keeps hb6 x3'
  have y0 := keeps hb6 y0'
  have y1 := keeps hb6 y1'
  have y2 := keeps hb6 y2'
  have y3 := keeps hb6 y3'
  have l1 : w1.heap.size < w6.heap.size := by have := cell_lt y0; simpa using this
  have l2 : w2.heap.size < w6.heap.size := by have := cell_lt x0; simpa using this
  clear x0' x1' x2' x3' y0' y1' y2' y3' hb6 ho6
  go_wp2_with fail
  obtain ⟨wC, hWC⟩ : ∃ W : World, W = w6.alloc (.cells #[.slice AT6 1 ct6, .slice AC6 8 cc6, .slice AL6 2 cl6, .slice AD6 0 cd6] 38) := ⟨_, rfl⟩
  have hbC : Below w6.heap.size w6 wC := by rw [hWC]; exact (Below.refl _ _).alloc (Nat.le_refl _) _
  rw [← hWC]
  clear hWC
  have OC := Lib.hid (O6.out.keep hbC)
  have HC := Lib.hid (H6.out.keep hbC)
  have CC := Lib.hid (C6.out.trans (hbC.mono C6.out.size))
  have x0' := keeps hbC x0
  have x1' := keeps hbC x1
  have x2' := keeps hbC x2
  have x3' := keeps hbC x3
  clear x0 x1 x2 x3 y0 y1 y2 y3 hbC
  refine (eqMachine_same (HC.out.arg rfl rfl rfl rfl) (HM1.out.keep CC.out) mcNew_small).mono ?_
  rintro e w7 ⟨rfl, hb7⟩
  have O7 := Lib.hid (OC.out.keep hb7)
  have C7 := Lib.hid (CC.out.trans (hb7.mono CC.out.size))
  have x0 := keeps hb7 x0'
  have x1 := keeps hb7 x1'
  have x2 := keeps hb7 x2'
  have x3 := keeps hb7 x3'
  clear x0' x1' x2' x3' hb7
  go_wp2_with fail
  refine (heldMachine_any (m := Bt.mcNew) 1 _ (O7.out.arg rfl rfl rfl rfl) (by decide) (by rw [EN]; decide)).mono ?_
  rw [EN]
  rintro e w8 ⟨rfl, hb8⟩
  go_wp2
  go_ret
  exact ⟨rfl, B1.out.trans ((C7.out.trans (hb8.mono C7.out.size)).mono B1.out.size)⟩

set_option maxRecDepth 100000 in
theorem exactMachineNew_lifted (os : Os) (started : os.Started) (H : Type) (enc : TypeId × Value → H) :
    ReturnsInHanded {} Try.checked os 4 .any (Rows.fnExactMachineNewSpec.pre6 enc Try.prog Try.f4 Rows.fnExactMachineNewRow.domain false) (Rows.fnExactMachineNewSpec.post enc Try.prog Try.f4 false true false false) := by
  refine law_lifted (C := Try.checked) (tb := 4) own started (by kernel_rfl) Try.func4
    (ChangeSpec.witness6 (enc := enc) (C := Try.checked) false ⟨#[], #[], []⟩ 8 (by kernel_rfl) (by kernel_rfl) (by kernel_rfl) (by kernel_rfl))
    laidOut (fun t ht => ?_) rfl Try.underlying4 rfl (fun ds hds => ?_) ?_
  · have hp : t ∈ ([] : List TypeId) := ht
    cases hp
  · match ds, hds with
    | [], _ => rfl
  · intro W base args ds p hval0 hA0
    have hval : ∀ (j : Nat) t v, Try.f4.params[j]? = some t → args[j]? = some v → Value.okWide Try.prog W .any base t v := hval0
    have hA : DataW.TrodAll enc Try.prog W 0 (fun _ => true) true Try.f4.params.toList args.toList ds p := hA0
    rw [Try.params4] at hA hval
    obtain ⟨e, rfl, rfl⟩ := trodAll_nil hA
    obtain ⟨args⟩ := args
    simp only at e
    subst e
    exact exactMachineNew_walk  W 

theorem exactMachineNew_holds : Rows.FnExactMachineNewSaid :=
  OpenClaim.holds_of_wide 4 Try.f4 rfl rfl rfl rfl rfl rfl rfl ⟨rfl, rfl, rfl, rfl, rfl⟩ rfl rfl rfl rfl rfl (by kernel_rfl) Try.func4 (by kernel_rfl)
    (of_decide_eq_true (by kernel_rfl)) (by unfold Func.isWrapper; rw [if_neg (of_decide_eq_false (by kernel_rfl))]; exact ⟨rfl, rfl⟩)
    (fun os started H enc _ => exactMachineNew_lifted os started H enc)
#print axioms exactMachineNew_holds
end Go.Proofs.Ytdhkaediffiplaa
