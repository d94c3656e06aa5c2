/-
  For every program, every row of choices and every number 'FnExactMarksEvery' answers true: both packages answer alike, the arguments stay as they are, and the answer shares no memory with them or with another answer. No condition.
-/
import Derived.Test.YtbkbppllcjcmhaaExactMarksEvery
import Derived.Test.YtbkbppllcjcmhaaBothEv
import Derived.Test.YtbkbppllcjcmhaaOpnR
import Derived.OpenShut
set_option linter.unusedSimpArgs false
set_option linter.unusedVariables false
namespace Go.Proofs.Ytbkbppllcjcmhaa
open Go.ChangeShapes Go.WideShapes Go.ChangeAt Go.RowKit Go.Joins
open Av

set_option maxRecDepth 100000 in
set_option maxHeartbeats 8000000 in
theorem exactMarksEvery_lifted (os : Os) (started : os.Started) (H : Type) (enc : TypeId × Value → H) :
    ReturnsInHanded {} Try.checked os 9 .any (Rows.fnExactMarksEverySpec.pre6 enc Try.prog Try.f9 Rows.fnExactMarksEveryRow.domain false) (Rows.fnExactMarksEverySpec.post enc Try.prog Try.f9 false true false false) := by
  refine law_lifted (C := Try.checked) (tb := 4) own started (by kernel_rfl) Try.func9
    (ChangeSpec.witness6 (enc := enc) (C := Try.checked) false ⟨#[], #[.agg #[.slice none 0 0, .int .i64 0], .slice none 0 0, .int .i64 0], []⟩ 8 (by kernel_rfl) (by kernel_rfl) (by kernel_rfl) (by kernel_rfl))
    laidOut (fun t ht => ?_) rfl Try.underlying4 rfl (fun ds hds => ?_) ?_
  · have hp : t ∈ [48, 69, 3] := ht
    simp only [List.mem_cons, List.not_mem_nil, or_false] at hp
    rcases hp with rfl | rfl | rfl
    · exact ⟨by kernel_rfl, of_decide_eq_true (by kernel_rfl)⟩
    · exact ⟨by kernel_rfl, of_decide_eq_true (by kernel_rfl)⟩
    · exact ⟨by kernel_rfl, of_decide_eq_true (by kernel_rfl)⟩
  · match ds, hds with
    | [d0, d1, d2], _ => rfl
  · intro W base args ds p hval0 hA0
    have hval : ∀ (j : Nat) t v, Try.f9.params[j]? = some t → args[j]? = some v → Value.okWide Try.prog W .any base t v := hval0
    have hA : DataW.TrodAll enc Try.prog W 0 (fun _ => true) true Try.f9.params.toList args.toList ds p := hA0
    rw [Try.params9] at hA hval
    obtain ⟨v0, v1, v2, d0, d1, d2, p0, p1, p2, rfl, rfl, rfl, h0, h1, h2⟩ := trodAll_three hA
    obtain ⟨c0_0, c0_1, y0_0, y0_1, m0, rfl, _, _, hy0_0, hy0_1⟩ := open_agg2 Try.underlying48 (by kernel_rfl) (show Try.prog.cellsOf 48 = 2 by kernel_rfl) (hval 0 48 v0 rfl rfl) h0
    obtain ⟨v_R0_0, R0_0, e_R0_0, r_R0_0, l_R0_0, s_R0_0⟩ := open_rd Try.underlying46 Try.underlying143 (by kernel_rfl) (by kernel_rfl) (by kernel_rfl) (by decide) hy0_0
    have t_R0_0 : ∀ r ∈ R0_0, ShCode r := fun r hr => ints4 (s_R0_0 r hr)
    have m_R0_0 : R0_0.length ≤ 9223372036854775807 := by have h := l_R0_0; unfold maxLen at h; omega
    obtain ⟨h0_1, e0_1, _, _⟩ := DataW.trod_int Try.underlying3 hy0_1
    simp only [List.cons.injEq, and_true] at e_R0_0 e0_1
    subst e_R0_0 e0_1
    obtain ⟨a1, q1, z1, rfl⟩ := okWide_slice Try.underlying69 (hval 1 69 v1 rfl rfl)
    obtain ⟨fu1, hf1⟩ := h1
    obtain ⟨v_R1, R1, e_R1, r_R1, l_R1, s_R1⟩ := open_rd Try.underlying69 Try.underlying124 (by kernel_rfl) (by kernel_rfl) (by kernel_rfl) (by decide) hf1
    have t_R1 : ∀ r ∈ R1, ShChoice r := fun r hr => ints3 (s_R1 r hr)
    have m_R1 : R1.length ≤ 9223372036854775807 := by have h := l_R1; unfold maxLen at h; omega
    simp only [Value.cells, List.cons.injEq, and_true] at e_R1
    subst e_R1
    obtain ⟨n2, rfl, _, _, _⟩ := open_int Try.underlying3 (hval 2 3 v2 rfl rfl) h2
    have hlaw := exactMarksEvery_law R0_0 h0_1 R1 n2 m_R0_0 t_R0_0 m_R1 t_R1 (fun hh => both_MarksEvery R0_0 h0_1 R1 n2 t_R0_0 t_R1 hh)
    refine (hlaw.2 W (fun _ => False) [.agg #[c0_0, .int .i64 h0_1], .slice a1 q1 z1, .int .i64 n2] rfl (fun i hi hj => ?_)).mono fun e w' ⟨v, he, hb, ho⟩ => ⟨?_, hb⟩
    · have hi' : i < 3 := hi
      obtain rfl | rfl | rfl : i = 0 ∨ i = 1 ∨ i = 2 := by omega
      · exact Rd.agg [.lst 143 R0_0, pI h0_1] [c0_0, .int .i64 h0_1] rfl (fun i hi => by
          have hi' : i < 2 := hi
          obtain rfl | rfl : i = 0 ∨ i = 1 := by omega
          · exact r_R0_0
          · exact .int _ _)
      · exact r_R1
      · exact Rd.int _ _
    · simp only [if_true] at ho
      cases ho
      exact he

set_option maxHeartbeats 8000000 in
theorem exactMarksEvery_closed : joinedFacts Try.pinned.checked.prog 9 Try.f9 Rows.fnExactMarksEverySpec Rows.fnExactMarksEveryRow = true := by
  unfold joinedFacts
  simp only [Bool.and_eq_true]
  repeat' (with_reducible refine And.intro ?_ ?_)
  all_goals (as_aux_lemma => kernel_rfl)

theorem exactMarksEvery_holds : Rows.FnExactMarksEverySaid :=
  OpenClaim.holds_of_wide 9 Try.f9 rfl rfl rfl rfl rfl rfl rfl ⟨rfl, rfl, rfl, rfl, rfl⟩ rfl rfl rfl rfl rfl (by kernel_rfl) Try.func9 exactMarksEvery_closed
    (of_decide_eq_true (by kernel_rfl)) (by unfold Func.isWrapper; rw [if_neg (of_decide_eq_false (by kernel_rfl))]; exact ⟨rfl, rfl⟩)
    (fun os started H enc _ => exactMarksEvery_lifted os started H enc)
#print axioms exactMarksEvery_holds
end Go.Proofs.Ytbkbppllcjcmhaa
