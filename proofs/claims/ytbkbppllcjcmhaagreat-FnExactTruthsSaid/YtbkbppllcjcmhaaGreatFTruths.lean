/-
  For every program, every row of choices and every row of parts 'FnExactTruths' answers true: both packages answer alike, the arguments stay as they are, and the answer shares no memory with them or with another answer. No condition.
-/
import Derived.Test.YtbkbppllcjcmhaaGreatExactTruths
import Derived.Test.YtbkbppllcjcmhaaGreatWhD
import Derived.Test.YtbkbppllcjcmhaaGreatOpnR
import Derived.OpenShut
set_option linter.unusedSimpArgs false
set_option linter.unusedVariables false
namespace Go.Proofs.YtbkbppllcjcmhaaGreat
open Go.ChangeShapes Go.WideShapes Go.ChangeAt Go.RowKit Go.Joins
open Av

set_option maxRecDepth 100000 in
set_option maxHeartbeats 8000000 in
theorem exactTruths_lifted (os : Os) (started : os.Started) (H : Type) (enc : TypeId × Value → H) :
    ReturnsInHanded {} Tryz.checked os 3 .any (Rows.fnExactTruthsSpec.pre6 enc Tryz.prog Tryz.f3 Rows.fnExactTruthsRow.domain false) (Rows.fnExactTruthsSpec.post enc Tryz.prog Tryz.f3 false true false false) := by
  refine law_lifted (C := Tryz.checked) (tb := 4) own started (by kernel_rfl) Tryz.func3
    (ChangeSpec.witness6 (enc := enc) (C := Tryz.checked) false ⟨#[], #[.agg #[.slice none 0 0, .int .i64 0], .slice none 0 0, .slice none 0 0], []⟩ 8 (by kernel_rfl) (by kernel_rfl) (by kernel_rfl) (by kernel_rfl))
    laidOut (fun t ht => ?_) rfl Tryz.underlying4 rfl (fun ds hds => ?_) ?_
  · have hp : t ∈ [24, 25, 26] := ht
    simp only [List.mem_cons, List.not_mem_nil, or_false] at hp
    rcases hp with rfl | rfl | rfl
    · exact ⟨by kernel_rfl, of_decide_eq_true (by kernel_rfl)⟩
    · exact ⟨by kernel_rfl, of_decide_eq_true (by kernel_rfl)⟩
    · exact ⟨by kernel_rfl, of_decide_eq_true (by kernel_rfl)⟩
  · match ds, hds with
    | [d0, d1, d2], _ => rfl
  · intro W base args ds p hval0 hA0
    have hval : ∀ (j : Nat) t v, Tryz.f3.params[j]? = some t → args[j]? = some v → Value.okWide Tryz.prog W .any base t v := hval0
    have hA : DataW.TrodAll enc Tryz.prog W 0 (fun _ => true) true Tryz.f3.params.toList args.toList ds p := hA0
    rw [Tryz.params3] at hA hval
    obtain ⟨v0, v1, v2, d0, d1, d2, p0, p1, p2, rfl, rfl, rfl, h0, h1, h2⟩ := trodAll_three hA
    obtain ⟨c0_0, c0_1, y0_0, y0_1, m0, rfl, _, _, hy0_0, hy0_1⟩ := open_agg2 Tryz.underlying24 (by kernel_rfl) (show Tryz.prog.cellsOf 24 = 2 by kernel_rfl) (hval 0 24 v0 rfl rfl) h0
    obtain ⟨v_R0_0, R0_0, e_R0_0, r_R0_0, l_R0_0, s_R0_0⟩ := open_rd Tryz.underlying22 Tryz.underlying107 (by kernel_rfl) (by kernel_rfl) (by kernel_rfl) (by decide) hy0_0
    have t_R0_0 : ∀ r ∈ R0_0, ShCode r := fun r hr => ints4 (s_R0_0 r hr)
    have m_R0_0 : R0_0.length ≤ 9223372036854775807 := by have h := l_R0_0; unfold maxLen at h; omega
    obtain ⟨h0_1, e0_1, _, _⟩ := DataW.trod_int Tryz.underlying3 hy0_1
    simp only [List.cons.injEq, and_true] at e_R0_0 e0_1
    subst e_R0_0 e0_1
    obtain ⟨a1, q1, z1, rfl⟩ := okWide_slice Tryz.underlying25 (hval 1 25 v1 rfl rfl)
    obtain ⟨fu1, hf1⟩ := h1
    obtain ⟨v_R1, R1, e_R1, r_R1, l_R1, s_R1⟩ := open_rd Tryz.underlying25 Tryz.underlying73 (by kernel_rfl) (by kernel_rfl) (by kernel_rfl) (by decide) hf1
    have t_R1 : ∀ r ∈ R1, ShChoice r := fun r hr => ints3 (s_R1 r hr)
    have m_R1 : R1.length ≤ 9223372036854775807 := by have h := l_R1; unfold maxLen at h; omega
    simp only [Value.cells, List.cons.injEq, and_true] at e_R1
    subst e_R1
    obtain ⟨a2, q2, z2, rfl⟩ := okWide_slice Tryz.underlying26 (hval 2 26 v2 rfl rfl)
    obtain ⟨fu2, hf2⟩ := h2
    obtain ⟨v_R2, R2, e_R2, r_R2, l_R2, s_R2⟩ := open_rd Tryz.underlying26 Tryz.underlying77 (by kernel_rfl) (by kernel_rfl) (by kernel_rfl) (by decide) hf2
    have t_R2 : ∀ r ∈ R2, ShPart r := fun r hr => ints3 (s_R2 r hr)
    have m_R2 : R2.length ≤ 9223372036854775807 := by have h := l_R2; unfold maxLen at h; omega
    simp only [Value.cells, List.cons.injEq, and_true] at e_R2
    subst e_R2
    have hlaw := exactTruths_law R0_0 h0_1 R1 R2 m_R0_0 t_R0_0 m_R1 t_R1 m_R2 t_R2 (fun hh => both_Truths R0_0 h0_1 R1 R2 t_R0_0 t_R1 t_R2 hh)
    refine (hlaw.2 W (fun _ => False) [.agg #[c0_0, .int .i64 h0_1], .slice a1 q1 z1, .slice a2 q2 z2] rfl (fun i hi hj => ?_)).mono fun e w' ⟨v, he, hb, ho⟩ => ⟨?_, hb⟩
    · have hi' : i < 3 := hi
      obtain rfl | rfl | rfl : i = 0 ∨ i = 1 ∨ i = 2 := by omega
      · exact Rd.agg [.lst 107 R0_0, pI h0_1] [c0_0, .int .i64 h0_1] rfl (fun i hi => by
          have hi' : i < 2 := hi
          obtain rfl | rfl : i = 0 ∨ i = 1 := by omega
          · exact r_R0_0
          · exact .int _ _)
      · exact r_R1
      · exact r_R2
    · simp only [if_true] at ho
      cases ho
      exact he

set_option maxHeartbeats 8000000 in
theorem exactTruths_closed : joinedFacts Tryz.pinned.checked.prog 3 Tryz.f3 Rows.fnExactTruthsSpec Rows.fnExactTruthsRow = true := by
  unfold joinedFacts
  simp only [Bool.and_eq_true]
  repeat' (with_reducible refine And.intro ?_ ?_)
  all_goals (as_aux_lemma => kernel_rfl)

theorem exactTruths_holds : Rows.FnExactTruthsSaid :=
  OpenClaim.holds_of_wide 3 Tryz.f3 rfl rfl rfl rfl rfl rfl rfl ⟨rfl, rfl, rfl, rfl, rfl⟩ rfl rfl rfl rfl rfl (by kernel_rfl) Tryz.func3 exactTruths_closed
    (of_decide_eq_true (by kernel_rfl)) (by unfold Func.isWrapper; rw [if_neg (of_decide_eq_false (by kernel_rfl))]; exact ⟨rfl, rfl⟩)
    (fun os started H enc _ => exactTruths_lifted os started H enc)
#print axioms exactTruths_holds
end Go.Proofs.YtbkbppllcjcmhaaGreat
