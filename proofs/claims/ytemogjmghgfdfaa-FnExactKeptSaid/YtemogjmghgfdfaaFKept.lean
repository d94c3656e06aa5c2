/-
  For every two numbers 'FnExactKept' answers true: both packages answer alike. No condition.
-/
import Derived.Test.YtemogjmghgfdfaaExactKept
import Derived.Test.YtemogjmghgfdfaaBothK
import Derived.Test.YtemogjmghgfdfaaOpnR
import Derived.OpenShut
set_option linter.unusedSimpArgs false
set_option linter.unusedVariables false
namespace Go.Proofs.Ytemogjmghgfdfaa
open Go.ChangeShapes Go.WideShapes Go.ChangeAt Go.RowKit Go.Joins
open Av

set_option maxRecDepth 100000 in
set_option maxHeartbeats 8000000 in
theorem exactKept_lifted (os : Os) (started : os.Started) (H : Type) (enc : TypeId × Value → H) :
    ReturnsInHanded {} Try.checked os 13 .any (Rows.fnExactKeptSpec.pre6 enc Try.prog Try.f13 Rows.fnExactKeptRow.domain false) (Rows.fnExactKeptSpec.post enc Try.prog Try.f13 false true false false) := by
  refine law_lifted (C := Try.checked) (tb := 4) own started (by kernel_rfl) Try.func13
    (ChangeSpec.witness6 (enc := enc) (C := Try.checked) false ⟨#[], #[.int .i64 0, .int .i64 0], []⟩ 8 (by kernel_rfl) (by kernel_rfl) (by kernel_rfl) (by kernel_rfl))
    laidOut (fun t ht => ?_) rfl Try.underlying4 rfl (fun ds hds => ?_) ?_
  · have hp : t ∈ [3, 3] := ht
    simp only [List.mem_cons, List.not_mem_nil, or_false] at hp
    rcases hp with rfl | rfl
    · exact ⟨by kernel_rfl, of_decide_eq_true (by kernel_rfl)⟩
    · exact ⟨by kernel_rfl, of_decide_eq_true (by kernel_rfl)⟩
  · match ds, hds with
    | [d0, d1], _ => rfl
  · intro W base args ds p hval0 hA0
    have hval : ∀ (j : Nat) t v, Try.f13.params[j]? = some t → args[j]? = some v → Value.okWide Try.prog W .any base t v := hval0
    have hA : DataW.TrodAll enc Try.prog W 0 (fun _ => true) true Try.f13.params.toList args.toList ds p := hA0
    rw [Try.params13] at hA hval
    obtain ⟨v0, v1, d0, d1, p0, p1, rfl, rfl, rfl, h0, h1⟩ := trodAll_two hA
    obtain ⟨n0, rfl, _, _, hw0⟩ := open_int Try.underlying3 (hval 0 3 v0 rfl rfl) h0
    have b_0 : -9223372036854775808 ≤ n0 ∧ n0 ≤ 9223372036854775807 := by
      unfold Lit.wf at hw0
      rw [Bool.and_eq_true, decide_eq_true_eq, decide_eq_true_eq] at hw0
      have h1 := hw0.1
      have h2 := hw0.2
      have h3 : IntKind.max .i64 = 9223372036854775807 := by decide
      have h4 : IntKind.min .i64 = -9223372036854775808 := by decide
      omega
    obtain ⟨n1, rfl, _, _, hw1⟩ := open_int Try.underlying3 (hval 1 3 v1 rfl rfl) h1
    have b_1 : -9223372036854775808 ≤ n1 ∧ n1 ≤ 9223372036854775807 := by
      unfold Lit.wf at hw1
      rw [Bool.and_eq_true, decide_eq_true_eq, decide_eq_true_eq] at hw1
      have h1 := hw1.1
      have h2 := hw1.2
      have h3 : IntKind.max .i64 = 9223372036854775807 := by decide
      have h4 : IntKind.min .i64 = -9223372036854775808 := by decide
      omega
    have hlaw := exactKept_law n0 n1  (both_Kept n0 n1 b_0 b_1)
    refine (hlaw.2 W (fun _ => False) [.int .i64 n0, .int .i64 n1] rfl (fun i hi hj => ?_)).mono fun e w' ⟨v, he, hb, ho⟩ => ⟨?_, hb⟩
    · have hi' : i < 2 := hi
      obtain rfl | rfl : i = 0 ∨ i = 1 := by omega
      · exact Rd.int _ _
      · exact Rd.int _ _
    · simp only [if_true] at ho
      cases ho
      exact he

theorem exactKept_holds : Rows.FnExactKeptSaid :=
  OpenClaim.holds_of_wide 13 Try.f13 rfl rfl rfl rfl rfl rfl rfl ⟨rfl, rfl, rfl, rfl, rfl⟩ rfl rfl rfl rfl rfl (by kernel_rfl) Try.func13 (by kernel_rfl)
    (of_decide_eq_true (by kernel_rfl)) (by unfold Func.isWrapper; rw [if_neg (of_decide_eq_false (by kernel_rfl))]; exact ⟨rfl, rfl⟩)
    (fun os started H enc _ => exactKept_lifted os started H enc)
#print axioms exactKept_holds
end Go.Proofs.Ytemogjmghgfdfaa
