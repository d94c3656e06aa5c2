/-
  For every machine and every undo 'FnExactTakeBack' answers true: both packages answer alike, the arguments stay as they are, and the answer shares no memory with them or with another answer. No condition.
-/
import Derived.Test.YtdjenlnomibniaaExactTakeBack
import Derived.Test.YtdjenlnomibniaaBothO
import Derived.Test.YtdjenlnomibniaaOpnR
import Derived.Test.YtdjenlnomibniaaOpnT
import Derived.OpenShut
set_option linter.unusedSimpArgs false
set_option linter.unusedVariables false
namespace Go.Proofs.Ytdjenlnomibniaa
open Go.ChangeShapes Go.WideShapes Go.ChangeAt Go.RowKit Go.Joins
open Av

set_option maxRecDepth 100000 in
set_option maxHeartbeats 8000000 in
theorem exactTakeBack_lifted (os : Os) (started : os.Started) (H : Type) (enc : TypeId × Value → H) :
    ReturnsInHanded {} Try.checked os 4 .any (Rows.fnExactTakeBackSpec.pre6 enc Try.prog Try.f4 Rows.fnExactTakeBackRow.domain false) (Rows.fnExactTakeBackSpec.post enc Try.prog Try.f4 false true false false) := by
  refine law_lifted (C := Try.checked) (tb := 4) own started (by kernel_rfl) Try.func4
    (ChangeSpec.witness6 (enc := enc) (C := Try.checked) false ⟨#[], #[.agg #[.slice none 0 0, .slice none 0 0, .slice none 0 0, .slice none 0 0], .agg #[.int .i64 0, .int .i64 0, .slice none 0 0, .slice none 0 0, .int .i64 0, .int .i64 0, .int .i64 0, .int .i64 0, .int .i64 0, .bool false, .bool false]], []⟩ 8 (by kernel_rfl) (by kernel_rfl) (by kernel_rfl) (by kernel_rfl))
    laidOut (fun t ht => ?_) rfl Try.underlying4 rfl (fun ds hds => ?_) ?_
  · have hp : t ∈ [37, 26] := ht
    simp only [List.mem_cons, List.not_mem_nil, or_false] at hp
    rcases hp with rfl | rfl
    · exact ⟨by kernel_rfl, of_decide_eq_true (by kernel_rfl)⟩
    · exact ⟨by kernel_rfl, of_decide_eq_true (by kernel_rfl)⟩
  · match ds, hds with
    | [d0, d1], _ => rfl
  · intro W base args ds p hval0 hA0
    have hval : ∀ (j : Nat) t v, Try.f4.params[j]? = some t → args[j]? = some v → Value.okWide Try.prog W .any base t v := hval0
    have hA : DataW.TrodAll enc Try.prog W 0 (fun _ => true) true Try.f4.params.toList args.toList ds p := hA0
    rw [Try.params4] at hA hval
    obtain ⟨v0, v1, d0, d1, p0, p1, rfl, rfl, rfl, h0, h1⟩ := trodAll_two hA
    obtain ⟨ps0, rd0, lo0⟩ := opn_arg opn_Machine Try.underlying37 (hval 0 37 v0 rfl rfl) h0
    obtain ⟨R0_0, R0_1, R0_2, R0_3, rfl, l_R0_0, l_R0_1, l_R0_2, l_R0_3⟩ := lo0
    have m_R0_0 := l_R0_0.1
    have t_R0_0 := l_R0_0.2
    have m_R0_1 := l_R0_1.1
    have t_R0_1 := l_R0_1.2
    have m_R0_2 := l_R0_2.1
    have t_R0_2 := l_R0_2.2
    have m_R0_3 := l_R0_3.1
    have t_R0_3 := l_R0_3.2
    obtain ⟨ps1, rd1, lo1⟩ := opn_arg opn_Undo Try.underlying26 (hval 1 26 v1 rfl rfl) h1
    obtain ⟨h1_0, h1_1, R1_2, R1_3, h1_4, h1_5, h1_6, h1_7, h1_8, h1_9, h1_10, rfl, l_R1_2, l_R1_3⟩ := lo1
    have m_R1_2 := l_R1_2.1
    have t_R1_2 := l_R1_2.2
    have m_R1_3 := l_R1_3.1
    have t_R1_3 := l_R1_3.2
    have hlaw := exactTakeBack_law R0_0 R0_1 R0_2 R0_3 h1_0 h1_1 R1_2 R1_3 h1_4 h1_5 h1_6 h1_7 h1_8 h1_9 h1_10 m_R0_0 t_R0_0 m_R0_1 t_R0_1 m_R0_2 t_R0_2 m_R0_3 t_R0_3 m_R1_2 t_R1_2 m_R1_3 t_R1_3 (fun hh => both_TakeBack R0_0 R0_1 R0_2 R0_3 h1_0 h1_1 R1_2 R1_3 h1_4 h1_5 h1_6 h1_7 h1_8 h1_9 h1_10 t_R0_0 t_R0_1 t_R0_2 t_R0_3 t_R1_2 t_R1_3 hh)
    refine (hlaw.2 W (fun _ => False) [v0, v1] rfl (fun i hi hj => ?_)).mono fun e w' ⟨v, he, hb, ho⟩ => ⟨?_, hb⟩
    · have hi' : i < 2 := hi
      obtain rfl | rfl : i = 0 ∨ i = 1 := by omega
      · exact rd0
      · exact rd1
    · simp only [if_true] at ho
      cases ho
      exact he

set_option maxHeartbeats 8000000 in
theorem exactTakeBack_closed : joinedFacts Try.pinned.checked.prog 4 Try.f4 Rows.fnExactTakeBackSpec Rows.fnExactTakeBackRow = true := by
  unfold joinedFacts
  simp only [Bool.and_eq_true]
  repeat' (with_reducible refine And.intro ?_ ?_)
  all_goals (as_aux_lemma => kernel_rfl)

theorem exactTakeBack_holds : Rows.FnExactTakeBackSaid :=
  OpenClaim.holds_of_wide 4 Try.f4 rfl rfl rfl rfl rfl rfl rfl ⟨rfl, rfl, rfl, rfl, rfl⟩ rfl rfl rfl rfl rfl (by kernel_rfl) Try.func4 exactTakeBack_closed
    (of_decide_eq_true (by kernel_rfl)) (by unfold Func.isWrapper; rw [if_neg (of_decide_eq_false (by kernel_rfl))]; exact ⟨rfl, rfl⟩)
    (fun os started H enc _ => exactTakeBack_lifted os started H enc)
#print axioms exactTakeBack_holds
end Go.Proofs.Ytdjenlnomibniaa
