/-
  For every number 'FnExactPutNum' answers true: both packages write it in the same bytes. No condition.
-/
import Derived.Test.YtlfckcgifndbaaaPut
import Derived.Test.YtlfckcgifndbaaaStart
import Derived.OpenShut
set_option linter.unusedSimpArgs false
set_option linter.unusedVariables false
namespace Go.Proofs.Ytlfckcgifndbaaa
open Go.ChangeShapes Go.WideShapes Go.ChangeAt Go.RowKit Go.Joins
open Av

set_option maxRecDepth 100000 in
set_option maxHeartbeats 8000000 in
theorem exactPutNum_lifted (os : Os) (started : os.Started) (H : Type) (enc : TypeId × Value → H) :
    ReturnsInHanded {} Try.checked os 6 .any (Rows.fnExactPutNumSpec.pre6 enc Try.prog Try.f6 Rows.fnExactPutNumRow.domain false) (Rows.fnExactPutNumSpec.post enc Try.prog Try.f6 false true false false) := by
  refine law_lifted (C := Try.checked) (tb := 4) own started (by kernel_rfl) Try.func6
    (ChangeSpec.witness6 (enc := enc) (C := Try.checked) false ⟨#[], #[.int .i64 0], []⟩ 8 (by kernel_rfl) (by kernel_rfl) (by kernel_rfl) (by kernel_rfl))
    laidOut (fun t ht => ?_) rfl Try.underlying4 rfl (fun ds hds => ?_) ?_
  · have hp : t ∈ [3] := ht
    simp only [List.mem_singleton] at hp
    subst hp
    exact ⟨by kernel_rfl, of_decide_eq_true (by kernel_rfl)⟩
  · match ds, hds with
    | [d0], _ => rfl
  · intro W base args ds p hval0 hA0
    have hval : ∀ (j : Nat) t v, Try.f6.params[j]? = some t → args[j]? = some v → Value.okWide Try.prog W .any base t v := hval0
    have hA : DataW.TrodAll enc Try.prog W 0 (fun _ => true) true Try.f6.params.toList args.toList ds p := hA0
    rw [Try.params6] at hA hval
    obtain ⟨v0, d0, rfl, rfl, h0⟩ := trodAll_one hA
    obtain ⟨n0, rfl, _, _, hwf⟩ := open_int Try.underlying3 (hval 0 3 v0 rfl rfl) h0
    have hn0 : n0 ≤ 9223372036854775807 := by
      unfold Lit.wf at hwf
      rw [Bool.and_eq_true, decide_eq_true_eq, decide_eq_true_eq] at hwf
      have h1 := hwf.2
      have h2 : IntKind.max .i64 = 9223372036854775807 := by decide
      omega
    have hlaw := exactPutNum_law (n := n0) hn0
    refine (hlaw.2 W (fun _ => False) [.int .i64 n0] rfl (fun i hi hj => ?_)).mono fun e w' ⟨v, he, hb, ho⟩ => ⟨?_, hb⟩
    · have hi' : i < 1 := hi
      obtain rfl : i = 0 := by omega
      exact Rd.int _ _
    · simp only [if_true] at ho
      cases ho
      exact he

theorem exactPutNum_holds : Rows.FnExactPutNumSaid :=
  OpenClaim.holds_of_wide 6 Try.f6 rfl rfl rfl rfl rfl rfl rfl ⟨rfl, rfl, rfl, rfl, rfl⟩ rfl rfl rfl rfl rfl (by kernel_rfl) Try.func6 (by kernel_rfl)
    (of_decide_eq_true (by kernel_rfl)) (by unfold Func.isWrapper; rw [if_neg (of_decide_eq_false (by kernel_rfl))]; exact ⟨rfl, rfl⟩)
    (fun os started H enc _ => exactPutNum_lifted os started H enc)
#print axioms exactPutNum_holds
end Go.Proofs.Ytlfckcgifndbaaa
