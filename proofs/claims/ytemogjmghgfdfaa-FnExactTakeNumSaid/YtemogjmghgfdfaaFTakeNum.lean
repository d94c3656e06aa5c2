/-
  For every text and every number 'FnExactTakeNum' answers true: both packages answer alike. No condition.
-/
import Derived.Test.YtemogjmghgfdfaaExactTakeNum
import Derived.Test.YtemogjmghgfdfaaBothT
import Derived.Test.YtemogjmghgfdfaaOpnR
import Derived.OpenShut
set_option linter.unusedSimpArgs false
set_option linter.unusedVariables false
namespace Go.Proofs.Ytemogjmghgfdfaa
open Go.ChangeShapes Go.WideShapes Go.ChangeAt Go.RowKit Go.Joins
open Av

set_option maxRecDepth 100000 in
set_option maxHeartbeats 8000000 in
theorem exactTakeNum_lifted (os : Os) (started : os.Started) (H : Type) (enc : TypeId × Value → H) :
    ReturnsInHanded {} Try.checked os 6 .any (Rows.fnExactTakeNumSpec.pre6 enc Try.prog Try.f6 Rows.fnExactTakeNumRow.domain false) (Rows.fnExactTakeNumSpec.post enc Try.prog Try.f6 false true false false) := by
  refine law_lifted (C := Try.checked) (tb := 4) own started (by kernel_rfl) Try.func6
    (ChangeSpec.witness6 (enc := enc) (C := Try.checked) false ⟨#[], #[.string ⟨#[]⟩, .int .i64 0], []⟩ 8 (by kernel_rfl) (by kernel_rfl) (by kernel_rfl) (by kernel_rfl))
    laidOut (fun t ht => ?_) rfl Try.underlying4 rfl (fun ds hds => ?_) ?_
  · have hp : t ∈ [9, 3] := ht
    simp only [List.mem_cons, List.not_mem_nil, or_false] at hp
    rcases hp with rfl | rfl
    · exact ⟨by kernel_rfl, of_decide_eq_true (by kernel_rfl)⟩
    · exact ⟨by kernel_rfl, of_decide_eq_true (by kernel_rfl)⟩
  · match ds, hds with
    | [d0, d1], _ => rfl
  · intro W base args ds p hval0 hA0
    have hval : ∀ (j : Nat) t v, Try.f6.params[j]? = some t → args[j]? = some v → Value.okWide Try.prog W .any base t v := hval0
    have hA : DataW.TrodAll enc Try.prog W 0 (fun _ => true) true Try.f6.params.toList args.toList ds p := hA0
    rw [Try.params6] at hA hval
    obtain ⟨v0, v1, d0, d1, p0, p1, rfl, rfl, rfl, h0, h1⟩ := trodAll_two hA
    obtain ⟨s0, rfl, _, _, _⟩ := Go.ChangeMaps.open_string Try.underlying9 (hval 0 9 v0 rfl rfl) h0
    obtain ⟨n1, rfl, _, _, _⟩ := open_int Try.underlying3 (hval 1 3 v1 rfl rfl) h1
    have hlaw := exactTakeNum_law s0 n1  (fun gs0 => both_TakeNum s0 n1 gs0)
    refine (hlaw.2 W (fun _ => False) [.string s0, .int .i64 n1] rfl (fun i hi hj => ?_)).mono fun e w' ⟨v, he, hb, ho⟩ => ⟨?_, hb⟩
    · have hi' : i < 2 := hi
      obtain rfl | rfl : i = 0 ∨ i = 1 := by omega
      · exact Rd.str _
      · exact Rd.int _ _
    · simp only [if_true] at ho
      cases ho
      exact he

theorem exactTakeNum_holds : Rows.FnExactTakeNumSaid :=
  OpenClaim.holds_of_wide 6 Try.f6 rfl rfl rfl rfl rfl rfl rfl ⟨rfl, rfl, rfl, rfl, rfl⟩ rfl rfl rfl rfl rfl (by kernel_rfl) Try.func6 (by kernel_rfl)
    (of_decide_eq_true (by kernel_rfl)) (by unfold Func.isWrapper; rw [if_neg (of_decide_eq_false (by kernel_rfl))]; exact ⟨rfl, rfl⟩)
    (fun os started H enc _ => exactTakeNum_lifted os started H enc)
#print axioms exactTakeNum_holds
end Go.Proofs.Ytemogjmghgfdfaa
