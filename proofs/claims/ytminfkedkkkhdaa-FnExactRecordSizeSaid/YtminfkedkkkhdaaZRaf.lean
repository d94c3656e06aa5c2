/-
  For every recording 'FnExactRecordSize' answers true: both packages answer alike, and the argument stays as it is. No condition.
-/
import Derived.Test.YtminfkedkkkhdaaZRae
import Derived.Test.YtminfkedkkkhdaaZRaa
import Derived.OpenShut
set_option linter.unusedSimpArgs false
set_option linter.unusedVariables false
namespace Go.Proofs.Ytminfkedkkkhdaa
open Go.ChangeShapes Go.WideShapes Go.ChangeAt Go.RowKit Go.Joins
open Av
set_option maxRecDepth 100000 in
set_option maxHeartbeats 8000000 in
theorem exactRecordSize_lifted (os : Os) (started : os.Started) (H : Type) (enc : TypeId × Value → H) :
  ReturnsInHanded {} Try.checked os 10 .any (Rows.fnExactRecordSizeSpec.pre6 enc Try.prog Try.f10 Rows.fnExactRecordSizeRow.domain false) (Rows.fnExactRecordSizeSpec.post enc Try.prog Try.f10 false true false false) := by
 refine law_lifted (C := Try.checked) (tb := 4) own started (by kernel_rfl) Try.func10
  (ChangeSpec.witness6 (enc := enc) (C := Try.checked) false ⟨#[], #[.agg #[.slice none 0 0, .slice none 0 0]], []⟩ 8 (by kernel_rfl) (by kernel_rfl) (by kernel_rfl) (by kernel_rfl))
  laidOut (fun t ht => ?_) rfl Try.underlying4 rfl (fun ds hds => ?_) ?_
 ·have hp : t ∈ [64] := ht
  simp only [List.mem_singleton] at hp
  subst hp
  exact ⟨by kernel_rfl, of_decide_eq_true (by kernel_rfl)⟩
 ·match ds, hds with
  | [d0], _ => rfl
 ·intro W base args ds p hval0 hA0
  have hval : ∀ (j : Nat) t v, Try.f10.params[j]? = some t → args[j]? = some v → Value.okWide Try.prog W .any base t v := hval0
  have hA : DataW.TrodAll enc Try.prog W 0 (fun _ => true) true Try.f10.params.toList args.toList ds p := hA0
  rw [Try.params10] at hA hval
  obtain ⟨v0, d0, rfl, rfl, h0⟩ := trodAll_one hA
  obtain ⟨c0_0, c0_1, y0_0, y0_1, m0, rfl, _, _, hy0_0, hy0_1⟩ := open_agg2 Try.underlying64 (by kernel_rfl) (show Try.prog.cellsOf 64 = 2 by kernel_rfl) (hval 0 64 v0 rfl rfl) h0
  obtain ⟨v_R0_0, R0_0, e_R0_0, r_R0_0, l_R0_0, s_R0_0⟩ := open_rd Try.underlying62 Try.underlying144 (by kernel_rfl) (by kernel_rfl) (by kernel_rfl) (by decide) hy0_0
  have t_R0_0 : ∀ r ∈ R0_0, ShSlice r := fun r hr => ints3 (s_R0_0 r hr)
  have m_R0_0 : R0_0.length ≤ 9223372036854775807 := by have h := l_R0_0; unfold maxLen at h; omega
  obtain ⟨v_R0_1, R0_1, e_R0_1, r_R0_1, l_R0_1, s_R0_1⟩ := open_rdn Try.underlying29 Try.underlying3 (by kernel_rfl) hy0_1
  have t_R0_1 : ∀ r ∈ R0_1, ShInt r := fun r hr => ints1 (s_R0_1 r hr)
  have m_R0_1 : R0_1.length ≤ 9223372036854775807 := by have h := l_R0_1; unfold maxLen at h; omega
  simp only [List.cons.injEq, and_true] at e_R0_0 e_R0_1
  subst e_R0_0 e_R0_1
  have hlaw := exactRecordSize_law R0_0 R0_1 m_R0_0 t_R0_0 m_R0_1 t_R0_1 (fun hh => both_RecordSize R0_0 R0_1 t_R0_0 t_R0_1 hh)
  refine (hlaw.2 W (fun _ => False) [.agg #[c0_0, c0_1]] rfl (fun i hi hj => ?_)).mono fun e w' ⟨v, he, hb, ho⟩ => ⟨?_, hb⟩
  ·have hi' : i < 1 := hi
   obtain rfl : i = 0 := by omega
   exact Rd.agg [.lst 144 R0_0, .lst 3 R0_1] [c0_0, c0_1] rfl (fun i hi => by
     have hi' : i < 2 := hi
     obtain rfl | rfl : i = 0 ∨ i = 1 := by omega
     ·exact r_R0_0
     ·exact r_R0_1)
  ·simp only [if_true] at ho
   cases ho
   exact he
theorem exactRecordSize_holds : Rows.FnExactRecordSizeSaid :=
 OpenClaim.holds_of_wide 10 Try.f10 rfl rfl rfl rfl rfl rfl rfl ⟨rfl, rfl, rfl, rfl, rfl⟩ rfl rfl rfl rfl rfl (by kernel_rfl) Try.func10 (by kernel_rfl)
  (of_decide_eq_true (by kernel_rfl)) (by unfold Func.isWrapper; rw [if_neg (of_decide_eq_false (by kernel_rfl))]; exact ⟨rfl, rfl⟩)
  (fun os started H enc _ => exactRecordSize_lifted os started H enc)
end Go.Proofs.Ytminfkedkkkhdaa
