/-
  For every undo 'FnExactUndoSize' answers true: both packages answer alike, and the arguments stay as they are. No condition.
-/
import Derived.Test.YtdjenlnomibniaaExactUndoSize
import Derived.Test.YtdjenlnomibniaaBothN
import Derived.Test.YtdjenlnomibniaaOpnR
import Derived.Test.YtdjenlnomibniaaOpnT
import Derived.OpenShut
set_option linter.unusedSimpArgs false
set_option linter.unusedVariables false
namespace Go.Proofs.Ytdjenlnomibniaa
open Go.ChangeShapes Go.WideShapes Go.ChangeAt Go.RowKit Go.Joins
open Av

set_option maxRecDepth 100000 in
set_option maxHeartbeats 8000000 in
theorem exactUndoSize_lifted (os : Os) (started : os.Started) (H : Type) (enc : TypeId × Value → H) :
    ReturnsInHanded {} Try.checked os 3 .any (Rows.fnExactUndoSizeSpec.pre6 enc Try.prog Try.f3 Rows.fnExactUndoSizeRow.domain false) (Rows.fnExactUndoSizeSpec.post enc Try.prog Try.f3 false true false false) := by
  refine law_lifted (C := Try.checked) (tb := 4) own started (by kernel_rfl) Try.func3
    (ChangeSpec.witness6 (enc := enc) (C := Try.checked) false ⟨#[], #[.agg #[.int .i64 0, .int .i64 0, .slice none 0 0, .slice none 0 0, .int .i64 0, .int .i64 0, .int .i64 0, .int .i64 0, .int .i64 0, .bool false, .bool false]], []⟩ 8 (by kernel_rfl) (by kernel_rfl) (by kernel_rfl) (by kernel_rfl))
    laidOut (fun t ht => ?_) rfl Try.underlying4 rfl (fun ds hds => ?_) ?_
  · have hp : t ∈ [26] := ht
    simp only [List.mem_singleton] at hp
    subst hp
    exact ⟨by kernel_rfl, of_decide_eq_true (by kernel_rfl)⟩
  · match ds, hds with
    | [d0], _ => rfl
  · intro W base args ds p hval0 hA0
    have hval : ∀ (j : Nat) t v, Try.f3.params[j]? = some t → args[j]? = some v → Value.okWide Try.prog W .any base t v := hval0
    have hA : DataW.TrodAll enc Try.prog W 0 (fun _ => true) true Try.f3.params.toList args.toList ds p := hA0
    rw [Try.params3] at hA hval
    obtain ⟨v0, d0, rfl, rfl, h0⟩ := trodAll_one hA
    obtain ⟨ps0, rd0, lo0⟩ := opn_arg opn_Undo Try.underlying26 (hval 0 26 v0 rfl rfl) h0
    obtain ⟨h0_0, h0_1, R0_2, R0_3, h0_4, h0_5, h0_6, h0_7, h0_8, h0_9, h0_10, rfl, l_R0_2, l_R0_3⟩ := lo0
    have m_R0_2 := l_R0_2.1
    have t_R0_2 := l_R0_2.2
    have m_R0_3 := l_R0_3.1
    have t_R0_3 := l_R0_3.2
    have hlaw := exactUndoSize_law h0_0 h0_1 R0_2 R0_3 h0_4 h0_5 h0_6 h0_7 h0_8 h0_9 h0_10 m_R0_2 t_R0_2 m_R0_3 t_R0_3 (fun hh => both_UndoSize h0_0 h0_1 R0_2 R0_3 h0_4 h0_5 h0_6 h0_7 h0_8 h0_9 h0_10 t_R0_2 t_R0_3 hh)
    refine (hlaw.2 W (fun _ => False) [v0] rfl (fun i hi hj => ?_)).mono fun e w' ⟨v, he, hb, ho⟩ => ⟨?_, hb⟩
    · have hi' : i < 1 := hi
      obtain rfl : i = 0 := by omega
      exact rd0
    · simp only [if_true] at ho
      cases ho
      exact he

set_option maxHeartbeats 8000000 in
theorem exactUndoSize_closed : joinedFacts Try.pinned.checked.prog 3 Try.f3 Rows.fnExactUndoSizeSpec Rows.fnExactUndoSizeRow = true := by
  unfold joinedFacts
  simp only [Bool.and_eq_true]
  repeat' (with_reducible refine And.intro ?_ ?_)
  all_goals (as_aux_lemma => kernel_rfl)

theorem exactUndoSize_holds : Rows.FnExactUndoSizeSaid :=
  OpenClaim.holds_of_wide 3 Try.f3 rfl rfl rfl rfl rfl rfl rfl ⟨rfl, rfl, rfl, rfl, rfl⟩ rfl rfl rfl rfl rfl (by kernel_rfl) Try.func3 exactUndoSize_closed
    (of_decide_eq_true (by kernel_rfl)) (by unfold Func.isWrapper; rw [if_neg (of_decide_eq_false (by kernel_rfl))]; exact ⟨rfl, rfl⟩)
    (fun os started H enc _ => exactUndoSize_lifted os started H enc)
#print axioms exactUndoSize_holds
end Go.Proofs.Ytdjenlnomibniaa
