/-
  For every program and every two recordings 'FnExactRecordJoin' answers true: both packages answer alike, the arguments stay as they are, and the answer shares no memory with them or with another answer. No condition.
-/
import Derived.Test.YtbkbppllcjcmhaaExactRecordJoin
import Derived.Test.YtbkbppllcjcmhaaBothJ
import Derived.Test.YtbkbppllcjcmhaaOpnR
import Derived.OpenShut
set_option linter.unusedSimpArgs false
set_option linter.unusedVariables false
namespace Go.Proofs.Ytbkbppllcjcmhaa
open Go.ChangeShapes Go.WideShapes Go.ChangeAt Go.RowKit Go.Joins
open Av

set_option maxRecDepth 100000 in
set_option maxHeartbeats 8000000 in
theorem exactRecordJoin_lifted (os : Os) (started : os.Started) (H : Type) (enc : TypeId × Value → H) :
    ReturnsInHanded {} Try.checked os 8 .any (Rows.fnExactRecordJoinSpec.pre6 enc Try.prog Try.f8 Rows.fnExactRecordJoinRow.domain false) (Rows.fnExactRecordJoinSpec.post enc Try.prog Try.f8 false true false false) := by
  refine law_lifted (C := Try.checked) (tb := 4) own started (by kernel_rfl) Try.func8
    (ChangeSpec.witness6 (enc := enc) (C := Try.checked) false ⟨#[], #[.agg #[.slice none 0 0, .int .i64 0], .agg #[.slice none 0 0, .slice none 0 0], .agg #[.slice none 0 0, .slice none 0 0]], []⟩ 8 (by kernel_rfl) (by kernel_rfl) (by kernel_rfl) (by kernel_rfl))
    laidOut (fun t ht => ?_) rfl Try.underlying4 rfl (fun ds hds => ?_) ?_
  · have hp : t ∈ [48, 51, 51] := ht
    simp only [List.mem_cons, List.not_mem_nil, or_false] at hp
    rcases hp with rfl | rfl | rfl
    · exact ⟨by kernel_rfl, of_decide_eq_true (by kernel_rfl)⟩
    · exact ⟨by kernel_rfl, of_decide_eq_true (by kernel_rfl)⟩
    · exact ⟨by kernel_rfl, of_decide_eq_true (by kernel_rfl)⟩
  · match ds, hds with
    | [d0, d1, d2], _ => rfl
  · intro W base args ds p hval0 hA0
    have hval : ∀ (j : Nat) t v, Try.f8.params[j]? = some t → args[j]? = some v → Value.okWide Try.prog W .any base t v := hval0
    have hA : DataW.TrodAll enc Try.prog W 0 (fun _ => true) true Try.f8.params.toList args.toList ds p := hA0
    rw [Try.params8] at hA hval
    obtain ⟨v0, v1, v2, d0, d1, d2, p0, p1, p2, rfl, rfl, rfl, h0, h1, h2⟩ := trodAll_three hA
    obtain ⟨c0_0, c0_1, y0_0, y0_1, m0, rfl, _, _, hy0_0, hy0_1⟩ := open_agg2 Try.underlying48 (by kernel_rfl) (show Try.prog.cellsOf 48 = 2 by kernel_rfl) (hval 0 48 v0 rfl rfl) h0
    obtain ⟨v_R0_0, R0_0, e_R0_0, r_R0_0, l_R0_0, s_R0_0⟩ := open_rd Try.underlying46 Try.underlying143 (by kernel_rfl) (by kernel_rfl) (by kernel_rfl) (by decide) hy0_0
    have t_R0_0 : ∀ r ∈ R0_0, ShCode r := fun r hr => ints4 (s_R0_0 r hr)
    have m_R0_0 : R0_0.length ≤ 9223372036854775807 := by have h := l_R0_0; unfold maxLen at h; omega
    obtain ⟨h0_1, e0_1, _, _⟩ := DataW.trod_int Try.underlying3 hy0_1
    simp only [List.cons.injEq, and_true] at e_R0_0 e0_1
    subst e_R0_0 e0_1
    obtain ⟨c1_0, c1_1, y1_0, y1_1, m1, rfl, _, _, hy1_0, hy1_1⟩ := open_agg2 Try.underlying51 (by kernel_rfl) (show Try.prog.cellsOf 51 = 2 by kernel_rfl) (hval 1 51 v1 rfl rfl) h1
    obtain ⟨v_R1_0, R1_0, e_R1_0, r_R1_0, l_R1_0, s_R1_0⟩ := open_rd Try.underlying49 Try.underlying145 (by kernel_rfl) (by kernel_rfl) (by kernel_rfl) (by decide) hy1_0
    have t_R1_0 : ∀ r ∈ R1_0, ShSlice r := fun r hr => ints3 (s_R1_0 r hr)
    have m_R1_0 : R1_0.length ≤ 9223372036854775807 := by have h := l_R1_0; unfold maxLen at h; omega
    obtain ⟨v_R1_1, R1_1, e_R1_1, r_R1_1, l_R1_1, s_R1_1⟩ := open_rdn Try.underlying34 Try.underlying3 (by kernel_rfl) hy1_1
    have t_R1_1 : ∀ r ∈ R1_1, ShInt r := fun r hr => ints1 (s_R1_1 r hr)
    have m_R1_1 : R1_1.length ≤ 9223372036854775807 := by have h := l_R1_1; unfold maxLen at h; omega
    simp only [List.cons.injEq, and_true] at e_R1_0 e_R1_1
    subst e_R1_0 e_R1_1
    obtain ⟨c2_0, c2_1, y2_0, y2_1, m2, rfl, _, _, hy2_0, hy2_1⟩ := open_agg2 Try.underlying51 (by kernel_rfl) (show Try.prog.cellsOf 51 = 2 by kernel_rfl) (hval 2 51 v2 rfl rfl) h2
    obtain ⟨v_R2_0, R2_0, e_R2_0, r_R2_0, l_R2_0, s_R2_0⟩ := open_rd Try.underlying49 Try.underlying145 (by kernel_rfl) (by kernel_rfl) (by kernel_rfl) (by decide) hy2_0
    have t_R2_0 : ∀ r ∈ R2_0, ShSlice r := fun r hr => ints3 (s_R2_0 r hr)
    have m_R2_0 : R2_0.length ≤ 9223372036854775807 := by have h := l_R2_0; unfold maxLen at h; omega
    obtain ⟨v_R2_1, R2_1, e_R2_1, r_R2_1, l_R2_1, s_R2_1⟩ := open_rdn Try.underlying34 Try.underlying3 (by kernel_rfl) hy2_1
    have t_R2_1 : ∀ r ∈ R2_1, ShInt r := fun r hr => ints1 (s_R2_1 r hr)
    have m_R2_1 : R2_1.length ≤ 9223372036854775807 := by have h := l_R2_1; unfold maxLen at h; omega
    simp only [List.cons.injEq, and_true] at e_R2_0 e_R2_1
    subst e_R2_0 e_R2_1
    have hlaw := exactRecordJoin_law R0_0 h0_1 R1_0 R1_1 R2_0 R2_1 m_R0_0 t_R0_0 m_R1_0 t_R1_0 m_R1_1 t_R1_1 m_R2_0 t_R2_0 m_R2_1 t_R2_1 (fun hh => both_RecordJoin R0_0 h0_1 R1_0 R1_1 R2_0 R2_1 t_R0_0 t_R1_0 t_R1_1 t_R2_0 t_R2_1 hh)
    refine (hlaw.2 W (fun _ => False) [.agg #[c0_0, .int .i64 h0_1], .agg #[c1_0, c1_1], .agg #[c2_0, c2_1]] rfl (fun i hi hj => ?_)).mono fun e w' ⟨v, he, hb, ho⟩ => ⟨?_, hb⟩
    · have hi' : i < 3 := hi
      obtain rfl | rfl | rfl : i = 0 ∨ i = 1 ∨ i = 2 := by omega
      · exact Rd.agg [.lst 143 R0_0, pI h0_1] [c0_0, .int .i64 h0_1] rfl (fun i hi => by
          have hi' : i < 2 := hi
          obtain rfl | rfl : i = 0 ∨ i = 1 := by omega
          · exact r_R0_0
          · exact .int _ _)
      · exact Rd.agg [.lst 145 R1_0, .lst 3 R1_1] [c1_0, c1_1] rfl (fun i hi => by
          have hi' : i < 2 := hi
          obtain rfl | rfl : i = 0 ∨ i = 1 := by omega
          · exact r_R1_0
          · exact r_R1_1)
      · exact Rd.agg [.lst 145 R2_0, .lst 3 R2_1] [c2_0, c2_1] rfl (fun i hi => by
          have hi' : i < 2 := hi
          obtain rfl | rfl : i = 0 ∨ i = 1 := by omega
          · exact r_R2_0
          · exact r_R2_1)
    · simp only [if_true] at ho
      cases ho
      exact he

set_option maxHeartbeats 8000000 in
theorem exactRecordJoin_closed : joinedFacts Try.pinned.checked.prog 8 Try.f8 Rows.fnExactRecordJoinSpec Rows.fnExactRecordJoinRow = true := by
  unfold joinedFacts
  simp only [Bool.and_eq_true]
  repeat' (with_reducible refine And.intro ?_ ?_)
  all_goals (as_aux_lemma => kernel_rfl)

theorem exactRecordJoin_holds : Rows.FnExactRecordJoinSaid :=
  OpenClaim.holds_of_wide 8 Try.f8 rfl rfl rfl rfl rfl rfl rfl ⟨rfl, rfl, rfl, rfl, rfl⟩ rfl rfl rfl rfl rfl (by kernel_rfl) Try.func8 exactRecordJoin_closed
    (of_decide_eq_true (by kernel_rfl)) (by unfold Func.isWrapper; rw [if_neg (of_decide_eq_false (by kernel_rfl))]; exact ⟨rfl, rfl⟩)
    (fun os started H enc _ => exactRecordJoin_lifted os started H enc)
#print axioms exactRecordJoin_holds
end Go.Proofs.Ytbkbppllcjcmhaa
