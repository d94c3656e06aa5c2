/-
  For every program, every row of choices and every row of marks 'FnExactMarksOk' answers true: both packages answer alike, and the arguments stay as they are. No condition.
-/
import Derived.Test.YtdjenlnomibniaaExactMarksOk
import Derived.Test.YtdjenlnomibniaaBothM
import Derived.Test.YtdjenlnomibniaaOpnR
import Derived.OpenShut
set_option linter.unusedSimpArgs false
set_option linter.unusedVariables false
namespace Go.Proofs.Ytdjenlnomibniaa
open Go.ChangeShapes Go.WideShapes Go.ChangeAt Go.RowKit Go.Joins
open Av

set_option maxRecDepth 100000 in
set_option maxHeartbeats 8000000 in
theorem exactMarksOk_lifted (os : Os) (started : os.Started) (H : Type) (enc : TypeId × Value → H) :
    ReturnsInHanded {} Try.checked os 8 .any (Rows.fnExactMarksOkSpec.pre6 enc Try.prog Try.f8 Rows.fnExactMarksOkRow.domain false) (Rows.fnExactMarksOkSpec.post enc Try.prog Try.f8 false true false false) := by
  refine law_lifted (C := Try.checked) (tb := 4) own started (by kernel_rfl) Try.func8
    (ChangeSpec.witness6 (enc := enc) (C := Try.checked) false ⟨#[], #[.agg #[.slice none 0 0, .int .i64 0], .slice none 0 0, .slice none 0 0], []⟩ 8 (by kernel_rfl) (by kernel_rfl) (by kernel_rfl) (by kernel_rfl))
    laidOut (fun t ht => ?_) rfl Try.underlying4 rfl (fun ds hds => ?_) ?_
  · have hp : t ∈ [51, 75, 76] := ht
    simp only [List.mem_cons, List.not_mem_nil, or_false] at hp
    rcases hp with rfl | rfl | rfl
    · exact ⟨by kernel_rfl, of_decide_eq_true (by kernel_rfl)⟩
    · exact ⟨by kernel_rfl, of_decide_eq_true (by kernel_rfl)⟩
    · exact ⟨by kernel_rfl, of_decide_eq_true (by kernel_rfl)⟩
  · match ds, hds with
    | [d0, d1, d2], _ => rfl
  · intro W base args ds p hval0 hA0
    have hval : ∀ (j : Nat) t v, Try.f8.params[j]? = some t → args[j]? = some v → Value.okWide Try.prog W .any base t v := hval0
    have hA : DataW.TrodAll enc Try.prog W 0 (fun _ => true) true Try.f8.params.toList args.toList ds p := hA0
    rw [Try.params8] at hA hval
    obtain ⟨v0, v1, v2, d0, d1, d2, p0, p1, p2, rfl, rfl, rfl, h0, h1, h2⟩ := trodAll_three hA
    obtain ⟨c0_0, c0_1, y0_0, y0_1, m0, rfl, _, _, hy0_0, hy0_1⟩ := open_agg2 Try.underlying51 (by kernel_rfl) (show Try.prog.cellsOf 51 = 2 by kernel_rfl) (hval 0 51 v0 rfl rfl) h0
    obtain ⟨v_R0_0, R0_0, e_R0_0, r_R0_0, l_R0_0, s_R0_0⟩ := open_rd Try.underlying49 Try.underlying168 (by kernel_rfl) (by kernel_rfl) (by kernel_rfl) (by decide) hy0_0
    have t_R0_0 : ∀ r ∈ R0_0, ShCode r := fun r hr => ints4 (s_R0_0 r hr)
    have m_R0_0 : R0_0.length ≤ 9223372036854775807 := by have h := l_R0_0; unfold maxLen at h; omega
    obtain ⟨h0_1, e0_1, _, _⟩ := DataW.trod_int Try.underlying3 hy0_1
    simp only [List.cons.injEq, and_true] at e_R0_0 e0_1
    subst e_R0_0 e0_1
    obtain ⟨a1, q1, z1, rfl⟩ := okWide_slice Try.underlying75 (hval 1 75 v1 rfl rfl)
    obtain ⟨fu1, hf1⟩ := h1
    obtain ⟨v_R1, R1, e_R1, r_R1, l_R1, s_R1⟩ := open_rd Try.underlying75 Try.underlying88 (by kernel_rfl) (by kernel_rfl) (by kernel_rfl) (by decide) hf1
    have t_R1 : ∀ r ∈ R1, ShChoice r := fun r hr => ints3 (s_R1 r hr)
    have m_R1 : R1.length ≤ 9223372036854775807 := by have h := l_R1; unfold maxLen at h; omega
    simp only [Value.cells, List.cons.injEq, and_true] at e_R1
    subst e_R1
    obtain ⟨R2, rd2, l_R2, t_R2⟩ := opn_argS opn_MarkS Try.underlying76 (hval 2 76 v2 rfl rfl) h2
    have m_R2 : R2.length ≤ 9223372036854775807 := by have h := l_R2; unfold maxLen at h; omega
    have hlaw := exactMarksOk_law R0_0 h0_1 R1 R2 m_R0_0 t_R0_0 m_R1 t_R1 m_R2 t_R2 (fun hh => both_MarksOk R0_0 h0_1 R1 R2 t_R0_0 t_R1 t_R2 hh)
    refine (hlaw.2 W (fun _ => False) [.agg #[c0_0, .int .i64 h0_1], .slice a1 q1 z1, v2] rfl (fun i hi hj => ?_)).mono fun e w' ⟨v, he, hb, ho⟩ => ⟨?_, hb⟩
    · have hi' : i < 3 := hi
      obtain rfl | rfl | rfl : i = 0 ∨ i = 1 ∨ i = 2 := by omega
      · exact Rd.agg [.lst 168 R0_0, pI h0_1] [c0_0, .int .i64 h0_1] rfl (fun i hi => by
          have hi' : i < 2 := hi
          obtain rfl | rfl : i = 0 ∨ i = 1 := by omega
          · exact r_R0_0
          · exact .int _ _)
      · exact r_R1
      · exact rd2
    · simp only [if_true] at ho
      cases ho
      exact he

set_option maxHeartbeats 8000000 in
theorem exactMarksOk_closed : joinedFacts Try.pinned.checked.prog 8 Try.f8 Rows.fnExactMarksOkSpec Rows.fnExactMarksOkRow = true := by
  unfold joinedFacts
  simp only [Bool.and_eq_true]
  repeat' (with_reducible refine And.intro ?_ ?_)
  all_goals (as_aux_lemma => kernel_rfl)

theorem exactMarksOk_holds : Rows.FnExactMarksOkSaid :=
  OpenClaim.holds_of_wide 8 Try.f8 rfl rfl rfl rfl rfl rfl rfl ⟨rfl, rfl, rfl, rfl, rfl⟩ rfl rfl rfl rfl rfl (by kernel_rfl) Try.func8 exactMarksOk_closed
    (of_decide_eq_true (by kernel_rfl)) (by unfold Func.isWrapper; rw [if_neg (of_decide_eq_false (by kernel_rfl))]; exact ⟨rfl, rfl⟩)
    (fun os started H enc _ => exactMarksOk_lifted os started H enc)
#print axioms exactMarksOk_holds
end Go.Proofs.Ytdjenlnomibniaa
