/-
  For every two rows of parts 'FnExactWhenBoth' answers true: both packages answer alike, the arguments stay as they are, and the answer shares no memory with them or with another answer. No condition.
-/
import Derived.Test.YtbkbppllcjcmhaaExactWhenBoth
import Derived.Test.YtbkbppllcjcmhaaWhB
import Derived.Test.YtbkbppllcjcmhaaOpnR
import Derived.OpenShut
set_option linter.unusedSimpArgs false
set_option linter.unusedVariables false
namespace Go.Proofs.Ytbkbppllcjcmhaa
open Go.ChangeShapes Go.WideShapes Go.ChangeAt Go.RowKit Go.Joins
open Av

set_option maxRecDepth 100000 in
set_option maxHeartbeats 8000000 in
theorem exactWhenBoth_lifted (os : Os) (started : os.Started) (H : Type) (enc : TypeId × Value → H) :
    ReturnsInHanded {} Try.checked os 5 .any (Rows.fnExactWhenBothSpec.pre6 enc Try.prog Try.f5 Rows.fnExactWhenBothRow.domain false) (Rows.fnExactWhenBothSpec.post enc Try.prog Try.f5 false true false false) := by
  refine law_lifted (C := Try.checked) (tb := 4) own started (by kernel_rfl) Try.func5
    (ChangeSpec.witness6 (enc := enc) (C := Try.checked) false ⟨#[], #[.slice none 0 0, .slice none 0 0], []⟩ 8 (by kernel_rfl) (by kernel_rfl) (by kernel_rfl) (by kernel_rfl))
    laidOut (fun t ht => ?_) rfl Try.underlying4 rfl (fun ds hds => ?_) ?_
  · have hp : t ∈ [22, 22] := ht
    simp only [List.mem_cons, List.not_mem_nil, or_false] at hp
    rcases hp with rfl | rfl
    · exact ⟨by kernel_rfl, of_decide_eq_true (by kernel_rfl)⟩
    · exact ⟨by kernel_rfl, of_decide_eq_true (by kernel_rfl)⟩
  · match ds, hds with
    | [d0, d1], _ => rfl
  · intro W base args ds p hval0 hA0
    have hval : ∀ (j : Nat) t v, Try.f5.params[j]? = some t → args[j]? = some v → Value.okWide Try.prog W .any base t v := hval0
    have hA : DataW.TrodAll enc Try.prog W 0 (fun _ => true) true Try.f5.params.toList args.toList ds p := hA0
    rw [Try.params5] at hA hval
    obtain ⟨v0, v1, d0, d1, p0, p1, rfl, rfl, rfl, h0, h1⟩ := trodAll_two hA
    obtain ⟨a0, q0, z0, rfl⟩ := okWide_slice Try.underlying22 (hval 0 22 v0 rfl rfl)
    obtain ⟨fu0, hf0⟩ := h0
    obtain ⟨v_R0, R0, e_R0, r_R0, l_R0, s_R0⟩ := open_rd Try.underlying22 Try.underlying85 (by kernel_rfl) (by kernel_rfl) (by kernel_rfl) (by decide) hf0
    have t_R0 : ∀ r ∈ R0, ShPart r := fun r hr => ints3 (s_R0 r hr)
    have m_R0 : R0.length ≤ 9223372036854775807 := by have h := l_R0; unfold maxLen at h; omega
    simp only [Value.cells, List.cons.injEq, and_true] at e_R0
    subst e_R0
    obtain ⟨a1, q1, z1, rfl⟩ := okWide_slice Try.underlying22 (hval 1 22 v1 rfl rfl)
    obtain ⟨fu1, hf1⟩ := h1
    obtain ⟨v_R1, R1, e_R1, r_R1, l_R1, s_R1⟩ := open_rd Try.underlying22 Try.underlying85 (by kernel_rfl) (by kernel_rfl) (by kernel_rfl) (by decide) hf1
    have t_R1 : ∀ r ∈ R1, ShPart r := fun r hr => ints3 (s_R1 r hr)
    have m_R1 : R1.length ≤ 9223372036854775807 := by have h := l_R1; unfold maxLen at h; omega
    simp only [Value.cells, List.cons.injEq, and_true] at e_R1
    subst e_R1
    have hlaw := exactWhenBoth_law R0 R1 m_R0 t_R0 m_R1 t_R1 (fun hh => both_WhenBoth R0 R1 t_R0 t_R1 hh)
    refine (hlaw.2 W (fun _ => False) [.slice a0 q0 z0, .slice a1 q1 z1] rfl (fun i hi hj => ?_)).mono fun e w' ⟨v, he, hb, ho⟩ => ⟨?_, hb⟩
    · have hi' : i < 2 := hi
      obtain rfl | rfl : i = 0 ∨ i = 1 := by omega
      · exact r_R0
      · exact r_R1
    · simp only [if_true] at ho
      cases ho
      exact he

set_option maxHeartbeats 8000000 in
theorem exactWhenBoth_closed : joinedFacts Try.pinned.checked.prog 5 Try.f5 Rows.fnExactWhenBothSpec Rows.fnExactWhenBothRow = true := by
  unfold joinedFacts
  simp only [Bool.and_eq_true]
  repeat' (with_reducible refine And.intro ?_ ?_)
  all_goals (as_aux_lemma => kernel_rfl)

theorem exactWhenBoth_holds : Rows.FnExactWhenBothSaid :=
  OpenClaim.holds_of_wide 5 Try.f5 rfl rfl rfl rfl rfl rfl rfl ⟨rfl, rfl, rfl, rfl, rfl⟩ rfl rfl rfl rfl rfl (by kernel_rfl) Try.func5 exactWhenBoth_closed
    (of_decide_eq_true (by kernel_rfl)) (by unfold Func.isWrapper; rw [if_neg (of_decide_eq_false (by kernel_rfl))]; exact ⟨rfl, rfl⟩)
    (fun os started H enc _ => exactWhenBoth_lifted os started H enc)
#print axioms exactWhenBoth_holds
end Go.Proofs.Ytbkbppllcjcmhaa
