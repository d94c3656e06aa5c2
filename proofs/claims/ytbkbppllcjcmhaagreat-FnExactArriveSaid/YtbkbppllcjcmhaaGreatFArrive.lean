/-
  For every program, every row of choices, every row of marks and every number 'FnExactArrive' answers true: both packages answer alike, the arguments stay as they are, and the answer shares no memory with them or with another answer. No condition.
-/
import Derived.Test.YtbkbppllcjcmhaaGreatExactArrive
import Derived.Test.YtbkbppllcjcmhaaGreatBothAr
import Derived.Test.YtbkbppllcjcmhaaGreatOpnR
import Derived.OpenShut
set_option linter.unusedSimpArgs false
set_option linter.unusedVariables false
namespace Go.Proofs.YtbkbppllcjcmhaaGreat
open Go.ChangeShapes Go.WideShapes Go.ChangeAt Go.RowKit Go.Joins
open Av

set_option maxRecDepth 100000 in
set_option maxHeartbeats 8000000 in
theorem exactArrive_lifted (os : Os) (started : os.Started) (H : Type) (enc : TypeId × Value → H) :
    ReturnsInHanded {} Tryz.checked os 4 .any (Rows.fnExactArriveSpec.pre6 enc Tryz.prog Tryz.f4 Rows.fnExactArriveRow.domain false) (Rows.fnExactArriveSpec.post enc Tryz.prog Tryz.f4 false true false false) := by
  refine law_lifted (C := Tryz.checked) (tb := 4) own started (by kernel_rfl) Tryz.func4
    (ChangeSpec.witness6 (enc := enc) (C := Tryz.checked) false ⟨#[], #[.agg #[.slice none 0 0, .int .i64 0], .slice none 0 0, .slice none 0 0, .int .i64 0], []⟩ 8 (by kernel_rfl) (by kernel_rfl) (by kernel_rfl) (by kernel_rfl))
    laidOut (fun t ht => ?_) rfl Tryz.underlying4 rfl (fun ds hds => ?_) ?_
  · have hp : t ∈ [24, 25, 49, 3] := ht
    simp only [List.mem_cons, List.not_mem_nil, or_false] at hp
    rcases hp with rfl | rfl | rfl | rfl
    · exact ⟨by kernel_rfl, of_decide_eq_true (by kernel_rfl)⟩
    · exact ⟨by kernel_rfl, of_decide_eq_true (by kernel_rfl)⟩
    · exact ⟨by kernel_rfl, of_decide_eq_true (by kernel_rfl)⟩
    · exact ⟨by kernel_rfl, of_decide_eq_true (by kernel_rfl)⟩
  · match ds, hds with
    | [d0, d1, d2, d3], _ => rfl
  · intro W base args ds p hval0 hA0
    have hval : ∀ (j : Nat) t v, Tryz.f4.params[j]? = some t → args[j]? = some v → Value.okWide Tryz.prog W .any base t v := hval0
    have hA : DataW.TrodAll enc Tryz.prog W 0 (fun _ => true) true Tryz.f4.params.toList args.toList ds p := hA0
    rw [Tryz.params4] at hA hval
    obtain ⟨v0, v1, v2, v3, d0, d1, d2, d3, p0, p1, p2, p3, rfl, rfl, rfl, h0, h1, h2, h3⟩ := trodAll_four hA
    obtain ⟨c0_0, c0_1, y0_0, y0_1, m0, rfl, _, _, hy0_0, hy0_1⟩ := open_agg2 Tryz.underlying24 (by kernel_rfl) (show Tryz.prog.cellsOf 24 = 2 by kernel_rfl) (hval 0 24 v0 rfl rfl) h0
    obtain ⟨v_R0_0, R0_0, e_R0_0, r_R0_0, l_R0_0, s_R0_0⟩ := open_rd Tryz.underlying22 Tryz.underlying107 (by kernel_rfl) (by kernel_rfl) (by kernel_rfl) (by decide) hy0_0
    have t_R0_0 : ∀ r ∈ R0_0, ShCode r := fun r hr => ints4 (s_R0_0 r hr)
    have m_R0_0 : R0_0.length ≤ 9223372036854775807 := by have h := l_R0_0; unfold maxLen at h; omega
    obtain ⟨h0_1, e0_1, _, _⟩ := DataW.trod_int Tryz.underlying3 hy0_1
    simp only [List.cons.injEq, and_true] at e_R0_0 e0_1
    subst e_R0_0 e0_1
    obtain ⟨a1, q1, z1, rfl⟩ := okWide_slice Tryz.underlying25 (hval 1 25 v1 rfl rfl)
    obtain ⟨fu1, hf1⟩ := h1
    obtain ⟨v_R1, R1, e_R1, r_R1, l_R1, s_R1⟩ := open_rd Tryz.underlying25 Tryz.underlying73 (by kernel_rfl) (by kernel_rfl) (by kernel_rfl) (by decide) hf1
    have t_R1 : ∀ r ∈ R1, ShChoice r := fun r hr => ints3 (s_R1 r hr)
    have m_R1 : R1.length ≤ 9223372036854775807 := by have h := l_R1; unfold maxLen at h; omega
    simp only [Value.cells, List.cons.injEq, and_true] at e_R1
    subst e_R1
    obtain ⟨R2, rd2, l_R2, t_R2⟩ := opn_argS opn_MarkS Tryz.underlying49 (hval 2 49 v2 rfl rfl) h2
    have m_R2 : R2.length ≤ 9223372036854775807 := by have h := l_R2; unfold maxLen at h; omega
    obtain ⟨n3, rfl, _, _, _⟩ := open_int Tryz.underlying3 (hval 3 3 v3 rfl rfl) h3
    have hlaw := exactArrive_law R0_0 h0_1 R1 R2 n3 m_R0_0 t_R0_0 m_R1 t_R1 m_R2 t_R2 (fun hh => both_Arrive R0_0 h0_1 R1 R2 n3 t_R0_0 t_R1 t_R2 hh)
    refine (hlaw.2 W (fun _ => False) [.agg #[c0_0, .int .i64 h0_1], .slice a1 q1 z1, v2, .int .i64 n3] rfl (fun i hi hj => ?_)).mono fun e w' ⟨v, he, hb, ho⟩ => ⟨?_, hb⟩
    · have hi' : i < 4 := hi
      obtain rfl | rfl | rfl | rfl : i = 0 ∨ i = 1 ∨ i = 2 ∨ i = 3 := by omega
      · exact Rd.agg [.lst 107 R0_0, pI h0_1] [c0_0, .int .i64 h0_1] rfl (fun i hi => by
          have hi' : i < 2 := hi
          obtain rfl | rfl : i = 0 ∨ i = 1 := by omega
          · exact r_R0_0
          · exact .int _ _)
      · exact r_R1
      · exact rd2
      · exact Rd.int _ _
    · simp only [if_true] at ho
      cases ho
      exact he

set_option maxHeartbeats 8000000 in
theorem exactArrive_closed : joinedFacts Tryz.pinned.checked.prog 4 Tryz.f4 Rows.fnExactArriveSpec Rows.fnExactArriveRow = true := by
  unfold joinedFacts
  simp only [Bool.and_eq_true]
  repeat' (with_reducible refine And.intro ?_ ?_)
  all_goals (as_aux_lemma => kernel_rfl)

theorem exactArrive_holds : Rows.FnExactArriveSaid :=
  OpenClaim.holds_of_wide 4 Tryz.f4 rfl rfl rfl rfl rfl rfl rfl ⟨rfl, rfl, rfl, rfl, rfl⟩ rfl rfl rfl rfl rfl (by kernel_rfl) Tryz.func4 exactArrive_closed
    (of_decide_eq_true (by kernel_rfl)) (by unfold Func.isWrapper; rw [if_neg (of_decide_eq_false (by kernel_rfl))]; exact ⟨rfl, rfl⟩)
    (fun os started H enc _ => exactArrive_lifted os started H enc)
#print axioms exactArrive_holds
end Go.Proofs.YtbkbppllcjcmhaaGreat
