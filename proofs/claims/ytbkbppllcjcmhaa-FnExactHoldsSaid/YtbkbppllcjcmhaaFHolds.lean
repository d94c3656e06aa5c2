/-
  For every machine and every row of parts 'FnExactHolds' answers true: both packages answer alike, and the arguments stay as they are. No condition.
-/
import Derived.Test.YtbkbppllcjcmhaaExactHolds
import Derived.Test.YtbkbppllcjcmhaaWhC
import Derived.Test.YtbkbppllcjcmhaaOpnR
import Derived.Test.YtbkbppllcjcmhaaOpnT
import Derived.OpenShut
set_option linter.unusedSimpArgs false
set_option linter.unusedVariables false
namespace Go.Proofs.Ytbkbppllcjcmhaa
open Go.ChangeShapes Go.WideShapes Go.ChangeAt Go.RowKit Go.Joins
open Av

set_option maxRecDepth 100000 in
set_option maxHeartbeats 8000000 in
theorem exactHolds_lifted (os : Os) (started : os.Started) (H : Type) (enc : TypeId × Value → H) :
    ReturnsInHanded {} Try.checked os 7 .any (Rows.fnExactHoldsSpec.pre6 enc Try.prog Try.f7 Rows.fnExactHoldsRow.domain false) (Rows.fnExactHoldsSpec.post enc Try.prog Try.f7 false true false false) := by
  refine law_lifted (C := Try.checked) (tb := 4) own started (by kernel_rfl) Try.func7
    (ChangeSpec.witness6 (enc := enc) (C := Try.checked) false ⟨#[], #[.agg #[.slice none 0 0, .slice none 0 0, .slice none 0 0, .slice none 0 0], .slice none 0 0], []⟩ 8 (by kernel_rfl) (by kernel_rfl) (by kernel_rfl) (by kernel_rfl))
    laidOut (fun t ht => ?_) rfl Try.underlying4 rfl (fun ds hds => ?_) ?_
  · have hp : t ∈ [36, 22] := ht
    simp only [List.mem_cons, List.not_mem_nil, or_false] at hp
    rcases hp with rfl | rfl
    · exact ⟨by kernel_rfl, of_decide_eq_true (by kernel_rfl)⟩
    · exact ⟨by kernel_rfl, of_decide_eq_true (by kernel_rfl)⟩
  · match ds, hds with
    | [d0, d1], _ => rfl
  · intro W base args ds p hval0 hA0
    have hval : ∀ (j : Nat) t v, Try.f7.params[j]? = some t → args[j]? = some v → Value.okWide Try.prog W .any base t v := hval0
    have hA : DataW.TrodAll enc Try.prog W 0 (fun _ => true) true Try.f7.params.toList args.toList ds p := hA0
    rw [Try.params7] at hA hval
    obtain ⟨v0, v1, d0, d1, p0, p1, rfl, rfl, rfl, h0, h1⟩ := trodAll_two hA
    obtain ⟨ps0, rd0, lo0⟩ := opn_arg opn_Machine Try.underlying36 (hval 0 36 v0 rfl rfl) h0
    obtain ⟨R0_0, R0_1, R0_2, R0_3, rfl, l_R0_0, l_R0_1, l_R0_2, l_R0_3⟩ := lo0
    have m_R0_0 := l_R0_0.1
    have t_R0_0 := l_R0_0.2
    have m_R0_1 := l_R0_1.1
    have t_R0_1 := l_R0_1.2
    have m_R0_2 := l_R0_2.1
    have t_R0_2 := l_R0_2.2
    have m_R0_3 := l_R0_3.1
    have t_R0_3 := l_R0_3.2
    obtain ⟨a1, q1, z1, rfl⟩ := okWide_slice Try.underlying22 (hval 1 22 v1 rfl rfl)
    obtain ⟨fu1, hf1⟩ := h1
    obtain ⟨v_R1, R1, e_R1, r_R1, l_R1, s_R1⟩ := open_rd Try.underlying22 Try.underlying85 (by kernel_rfl) (by kernel_rfl) (by kernel_rfl) (by decide) hf1
    have t_R1 : ∀ r ∈ R1, ShPart r := fun r hr => ints3 (s_R1 r hr)
    have m_R1 : R1.length ≤ 9223372036854775807 := by have h := l_R1; unfold maxLen at h; omega
    simp only [Value.cells, List.cons.injEq, and_true] at e_R1
    subst e_R1
    have hlaw := exactHolds_law R0_0 R0_1 R0_2 R0_3 R1 m_R0_0 t_R0_0 m_R0_1 t_R0_1 m_R0_2 t_R0_2 m_R0_3 t_R0_3 m_R1 t_R1 (fun hh => both_Holds R0_0 R0_1 R0_2 R0_3 R1 t_R0_0 t_R0_1 t_R0_2 t_R0_3 t_R1 hh)
    refine (hlaw.2 W (fun _ => False) [v0, .slice a1 q1 z1] rfl (fun i hi hj => ?_)).mono fun e w' ⟨v, he, hb, ho⟩ => ⟨?_, hb⟩
    · have hi' : i < 2 := hi
      obtain rfl | rfl : i = 0 ∨ i = 1 := by omega
      · exact rd0
      · exact r_R1
    · simp only [if_true] at ho
      cases ho
      exact he

set_option maxHeartbeats 8000000 in
theorem exactHolds_closed : joinedFacts Try.pinned.checked.prog 7 Try.f7 Rows.fnExactHoldsSpec Rows.fnExactHoldsRow = true := by
  unfold joinedFacts
  simp only [Bool.and_eq_true]
  repeat' (with_reducible refine And.intro ?_ ?_)
  all_goals (as_aux_lemma => kernel_rfl)

theorem exactHolds_holds : Rows.FnExactHoldsSaid :=
  OpenClaim.holds_of_wide 7 Try.f7 rfl rfl rfl rfl rfl rfl rfl ⟨rfl, rfl, rfl, rfl, rfl⟩ rfl rfl rfl rfl rfl (by kernel_rfl) Try.func7 exactHolds_closed
    (of_decide_eq_true (by kernel_rfl)) (by unfold Func.isWrapper; rw [if_neg (of_decide_eq_false (by kernel_rfl))]; exact ⟨rfl, rfl⟩)
    (fun os started H enc _ => exactHolds_lifted os started H enc)
#print axioms exactHolds_holds
end Go.Proofs.Ytbkbppllcjcmhaa
