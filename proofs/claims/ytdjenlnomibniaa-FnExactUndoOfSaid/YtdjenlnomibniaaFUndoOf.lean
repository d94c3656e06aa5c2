/-
  For every program, every machine and every choice 'FnExactUndoOf' answers true: both packages answer alike, the arguments stay as they are, and the answer shares no memory with them or with another answer. No condition.
-/
import Derived.Test.YtdjenlnomibniaaExactUndoOf
import Derived.Test.YtdjenlnomibniaaBothP
import Derived.Test.YtdjenlnomibniaaOpnR
import Derived.Test.YtdjenlnomibniaaOpnT
import Derived.OpenShut
set_option linter.unusedSimpArgs false
set_option linter.unusedVariables false
namespace Go.Proofs.Ytdjenlnomibniaa
open Go.ChangeShapes Go.WideShapes Go.ChangeAt Go.RowKit Go.Joins
open Av

set_option maxRecDepth 100000 in
set_option maxHeartbeats 8000000 in
theorem exactUndoOf_lifted (os : Os) (started : os.Started) (H : Type) (enc : TypeId × Value → H) :
    ReturnsInHanded {} Try.checked os 9 .any (Rows.fnExactUndoOfSpec.pre6 enc Try.prog Try.f9 Rows.fnExactUndoOfRow.domain false) (Rows.fnExactUndoOfSpec.post enc Try.prog Try.f9 false true false false) := by
  refine law_lifted (C := Try.checked) (tb := 4) own started (by kernel_rfl) Try.func9
    (ChangeSpec.witness6 (enc := enc) (C := Try.checked) false ⟨#[], #[.agg #[.slice none 0 0, .int .i64 0], .agg #[.slice none 0 0, .slice none 0 0, .slice none 0 0, .slice none 0 0], .agg #[.int .i64 0, .int .i64 0, .int .i64 0]], []⟩ 8 (by kernel_rfl) (by kernel_rfl) (by kernel_rfl) (by kernel_rfl))
    laidOut (fun t ht => ?_) rfl Try.underlying4 rfl (fun ds hds => ?_) ?_
  · have hp : t ∈ [51, 37, 88] := ht
    simp only [List.mem_cons, List.not_mem_nil, or_false] at hp
    rcases hp with rfl | rfl | rfl
    · exact ⟨by kernel_rfl, of_decide_eq_true (by kernel_rfl)⟩
    · exact ⟨by kernel_rfl, of_decide_eq_true (by kernel_rfl)⟩
    · exact ⟨by kernel_rfl, of_decide_eq_true (by kernel_rfl)⟩
  · match ds, hds with
    | [d0, d1, d2], _ => rfl
  · intro W base args ds p hval0 hA0
    have hval : ∀ (j : Nat) t v, Try.f9.params[j]? = some t → args[j]? = some v → Value.okWide Try.prog W .any base t v := hval0
    have hA : DataW.TrodAll enc Try.prog W 0 (fun _ => true) true Try.f9.params.toList args.toList ds p := hA0
    rw [Try.params9] at hA hval
    obtain ⟨v0, v1, v2, d0, d1, d2, p0, p1, p2, rfl, rfl, rfl, h0, h1, h2⟩ := trodAll_three hA
    obtain ⟨c0_0, c0_1, y0_0, y0_1, m0, rfl, _, _, hy0_0, hy0_1⟩ := open_agg2 Try.underlying51 (by kernel_rfl) (show Try.prog.cellsOf 51 = 2 by kernel_rfl) (hval 0 51 v0 rfl rfl) h0
    obtain ⟨v_R0_0, R0_0, e_R0_0, r_R0_0, l_R0_0, s_R0_0⟩ := open_rd Try.underlying49 Try.underlying168 (by kernel_rfl) (by kernel_rfl) (by kernel_rfl) (by decide) hy0_0
    have t_R0_0 : ∀ r ∈ R0_0, ShCode r := fun r hr => ints4 (s_R0_0 r hr)
    have m_R0_0 : R0_0.length ≤ 9223372036854775807 := by have h := l_R0_0; unfold maxLen at h; omega
    obtain ⟨h0_1, e0_1, _, _⟩ := DataW.trod_int Try.underlying3 hy0_1
    simp only [List.cons.injEq, and_true] at e_R0_0 e0_1
    subst e_R0_0 e0_1
    obtain ⟨ps1, rd1, lo1⟩ := opn_arg opn_Machine Try.underlying37 (hval 1 37 v1 rfl rfl) h1
    obtain ⟨R1_0, R1_1, R1_2, R1_3, rfl, l_R1_0, l_R1_1, l_R1_2, l_R1_3⟩ := lo1
    have m_R1_0 := l_R1_0.1
    have t_R1_0 := l_R1_0.2
    have m_R1_1 := l_R1_1.1
    have t_R1_1 := l_R1_1.2
    have m_R1_2 := l_R1_2.1
    have t_R1_2 := l_R1_2.2
    have m_R1_3 := l_R1_3.1
    have t_R1_3 := l_R1_3.2
    obtain ⟨ps2, rd2, lo2⟩ := opn_arg opn_Choice Try.underlying88 (hval 2 88 v2 rfl rfl) h2
    obtain ⟨h2_0, h2_1, h2_2, rfl⟩ := lo2
    have hlaw := exactUndoOf_law R0_0 h0_1 R1_0 R1_1 R1_2 R1_3 h2_0 h2_1 h2_2 m_R0_0 t_R0_0 m_R1_0 t_R1_0 m_R1_1 t_R1_1 m_R1_2 t_R1_2 m_R1_3 t_R1_3 (fun hh => both_UndoOf R0_0 h0_1 R1_0 R1_1 R1_2 R1_3 h2_0 h2_1 h2_2 t_R0_0 t_R1_0 t_R1_1 t_R1_2 t_R1_3 hh)
    refine (hlaw.2 W (fun _ => False) [.agg #[c0_0, .int .i64 h0_1], v1, v2] rfl (fun i hi hj => ?_)).mono fun e w' ⟨v, he, hb, ho⟩ => ⟨?_, hb⟩
    · have hi' : i < 3 := hi
      obtain rfl | rfl | rfl : i = 0 ∨ i = 1 ∨ i = 2 := by omega
      · exact Rd.agg [.lst 168 R0_0, pI h0_1] [c0_0, .int .i64 h0_1] rfl (fun i hi => by
          have hi' : i < 2 := hi
          obtain rfl | rfl : i = 0 ∨ i = 1 := by omega
          · exact r_R0_0
          · exact .int _ _)
      · exact rd1
      · exact rd2
    · simp only [if_true] at ho
      cases ho
      exact he

set_option maxHeartbeats 8000000 in
theorem exactUndoOf_closed : joinedFacts Try.pinned.checked.prog 9 Try.f9 Rows.fnExactUndoOfSpec Rows.fnExactUndoOfRow = true := by
  unfold joinedFacts
  simp only [Bool.and_eq_true]
  repeat' (with_reducible refine And.intro ?_ ?_)
  all_goals (as_aux_lemma => kernel_rfl)

theorem exactUndoOf_holds : Rows.FnExactUndoOfSaid :=
  OpenClaim.holds_of_wide 9 Try.f9 rfl rfl rfl rfl rfl rfl rfl ⟨rfl, rfl, rfl, rfl, rfl⟩ rfl rfl rfl rfl rfl (by kernel_rfl) Try.func9 exactUndoOf_closed
    (of_decide_eq_true (by kernel_rfl)) (by unfold Func.isWrapper; rw [if_neg (of_decide_eq_false (by kernel_rfl))]; exact ⟨rfl, rfl⟩)
    (fun os started H enc _ => exactUndoOf_lifted os started H enc)
#print axioms exactUndoOf_holds
end Go.Proofs.Ytdjenlnomibniaa
