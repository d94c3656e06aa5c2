/-
  For every row of parts 'FnExactWhenNot' answers true: both packages answer alike, the arguments stay as they are, and the answer shares no memory with them or with another answer. No condition.
-/
import Derived.Test.YtbkbppllcjcmhaaExactWhenNot
import Derived.Test.YtbkbppllcjcmhaaWhB
import Derived.Test.YtbkbppllcjcmhaaOpnR
import Derived.OpenShut
set_option linter.unusedSimpArgs false
set_option linter.unusedVariables false
namespace Go.Proofs.Ytbkbppllcjcmhaa
open Go.ChangeShapes Go.WideShapes Go.ChangeAt Go.RowKit Go.Joins
open Av

set_option maxRecDepth 100000 in
set_option maxHeartbeats 8000000 in
theorem exactWhenNot_lifted (os : Os) (started : os.Started) (H : Type) (enc : TypeId × Value → H) :
    ReturnsInHanded {} Try.checked os 4 .any (Rows.fnExactWhenNotSpec.pre6 enc Try.prog Try.f4 Rows.fnExactWhenNotRow.domain false) (Rows.fnExactWhenNotSpec.post enc Try.prog Try.f4 false true false false) := by
  refine law_lifted (C := Try.checked) (tb := 4) own started (by kernel_rfl) Try.func4
    (ChangeSpec.witness6 (enc := enc) (C := Try.checked) false ⟨#[], #[.slice none 0 0], []⟩ 8 (by kernel_rfl) (by kernel_rfl) (by kernel_rfl) (by kernel_rfl))
    laidOut (fun t ht => ?_) rfl Try.underlying4 rfl (fun ds hds => ?_) ?_
  · have hp : t ∈ [22] := ht
    simp only [List.mem_singleton] at hp
    subst hp
    exact ⟨by kernel_rfl, of_decide_eq_true (by kernel_rfl)⟩
  · match ds, hds with
    | [d0], _ => rfl
  · intro W base args ds p hval0 hA0
    have hval : ∀ (j : Nat) t v, Try.f4.params[j]? = some t → args[j]? = some v → Value.okWide Try.prog W .any base t v := hval0
    have hA : DataW.TrodAll enc Try.prog W 0 (fun _ => true) true Try.f4.params.toList args.toList ds p := hA0
    rw [Try.params4] at hA hval
    obtain ⟨v0, d0, rfl, rfl, h0⟩ := trodAll_one hA
    obtain ⟨a0, q0, z0, rfl⟩ := okWide_slice Try.underlying22 (hval 0 22 v0 rfl rfl)
    obtain ⟨fu0, hf0⟩ := h0
    obtain ⟨v_R0, R0, e_R0, r_R0, l_R0, s_R0⟩ := open_rd Try.underlying22 Try.underlying85 (by kernel_rfl) (by kernel_rfl) (by kernel_rfl) (by decide) hf0
    have t_R0 : ∀ r ∈ R0, ShPart r := fun r hr => ints3 (s_R0 r hr)
    have m_R0 : R0.length ≤ 9223372036854775807 := by have h := l_R0; unfold maxLen at h; omega
    simp only [Value.cells, List.cons.injEq, and_true] at e_R0
    subst e_R0
    have hlaw := exactWhenNot_law R0 m_R0 t_R0 (fun hh => both_WhenNot R0 t_R0 hh)
    refine (hlaw.2 W (fun _ => False) [.slice a0 q0 z0] rfl (fun i hi hj => ?_)).mono fun e w' ⟨v, he, hb, ho⟩ => ⟨?_, hb⟩
    · have hi' : i < 1 := hi
      obtain rfl : i = 0 := by omega
      exact r_R0
    · simp only [if_true] at ho
      cases ho
      exact he

set_option maxHeartbeats 8000000 in
theorem exactWhenNot_closed : joinedFacts Try.pinned.checked.prog 4 Try.f4 Rows.fnExactWhenNotSpec Rows.fnExactWhenNotRow = true := by
  unfold joinedFacts
  simp only [Bool.and_eq_true]
  repeat' (with_reducible refine And.intro ?_ ?_)
  all_goals (as_aux_lemma => kernel_rfl)

theorem exactWhenNot_holds : Rows.FnExactWhenNotSaid :=
  OpenClaim.holds_of_wide 4 Try.f4 rfl rfl rfl rfl rfl rfl rfl ⟨rfl, rfl, rfl, rfl, rfl⟩ rfl rfl rfl rfl rfl (by kernel_rfl) Try.func4 exactWhenNot_closed
    (of_decide_eq_true (by kernel_rfl)) (by unfold Func.isWrapper; rw [if_neg (of_decide_eq_false (by kernel_rfl))]; exact ⟨rfl, rfl⟩)
    (fun os started H enc _ => exactWhenNot_lifted os started H enc)
#print axioms exactWhenNot_holds
end Go.Proofs.Ytbkbppllcjcmhaa
