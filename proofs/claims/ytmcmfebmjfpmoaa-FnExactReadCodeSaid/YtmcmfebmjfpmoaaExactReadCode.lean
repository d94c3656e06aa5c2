/-
  For every text, 'FnExactReadCode' answers true: both packages' 'ReadCode' answer alike. No condition.
-/
import Derived.Test.YtmcmfebmjfpmoaaReadT
import Derived.Test.YtmcmfebmjfpmoaaPlaw
import Derived.Test.YtmcmfebmjfpmoaaStart
namespace Go.Proofs.Ytmcmfebmjfpmoaa
open Go.ChangeShapes Go.WideShapes Go.ChangeAt Go.RowKit Go.Joins
open Go.ChangeMaps (open_string)

/-- whatever is read of a text, it is one answer -/
theorem read_one (l : List UInt8) : ∃ (o a b c : Int) (ok : Bool), ∀ (w : World) (e : Ending) (w' : World), ReadMade l w e w' →
    e = .returned (.tuple #[.agg #[.int .i64 o, .int .i64 a, .int .i64 b, .int .i64 c], .bool ok]) ∧ Below w.heap.size w w' := by
  by_cases h : ∃ o a b c : Int, Bt.Is l o a b c
  · obtain ⟨o, a, b, c, hi⟩ := h
    exact ⟨o, a, b, c, true, fun w e w' hm => ⟨hm.2.1 o a b c hi, hm.1⟩⟩
  · have hn : ∀ o a b c : Int, ¬ Bt.Is l o a b c := fun o a b c hi => h ⟨o, a, b, c, hi⟩
    exact ⟨0, 0, 0, 0, false, fun w e w' hm => ⟨hm.2.2 hn, hm.1⟩⟩

set_option maxHeartbeats 1000000 in
theorem exactReadCode_walk (s : ByteArray) (w : World) (hs : s.size ≤ 9223372036854775807) :
    Calls Try.prog 7 #[.string s] w fun e w' => e = .returned (.bool true) ∧ Below w.heap.size w w' := by
  by_cases h : s.size ≤ 1048576
  · obtain ⟨o, a, b, c, ok, hone⟩ := read_one s.data.toList
    have HR := Lib.hid hone; clear hone
    go_enter Try.func7, Try.ntmps7
    go_wp2_with fail
    refine (specReadCode_any s _ h).mono ?_
    intro e1 w1 m1
    obtain ⟨rfl, hb1⟩ := HR.out _ _ _ m1
    clear m1
    go_wp2_with fail
    refine (implReadCode_any s _ h).mono ?_
    intro e2 w2 m2
    obtain ⟨rfl, hb2⟩ := HR.out _ _ _ m2
    clear m2
    have x0 := keeps hb2 (p := ⟨w1.heap.size, 0, none⟩) (v := .int .i64 o) (by simp)
    have x1 := keeps hb2 (p := ⟨w1.heap.size, 1, none⟩) (v := .int .i64 a) (by simp)
    have x2 := keeps hb2 (p := ⟨w1.heap.size, 2, none⟩) (v := .int .i64 b) (by simp)
    have x3 := keeps hb2 (p := ⟨w1.heap.size, 3, none⟩) (v := .int .i64 c) (by simp)
    have hz2 : w1.heap.size < w2.heap.size := by have := hb2.size; simp at this; omega
    have B2 : Below w.heap.size w w2 := (hb1.alloc hb1.size _).trans (hb2.mono (by have := hb1.size; simp; omega))
    go_wp2_with fail
    refine (eqCode_same _ _ _ _ _).mono ?_
    rintro e w3 ⟨rfl, hb3⟩
    go_wp2_with fail
    go_ret
    exact ⟨by simp, (B2.alloc B2.size _).trans (hb3.mono (by have := B2.size; simp; omega))⟩
  · go_enter Try.func7, Try.ntmps7
    go_wp2_with fail
    go_ret
    exact ⟨rfl, Below.refl _ _⟩

set_option maxRecDepth 100000 in
theorem exactReadCode_lifted (os : Os) (started : os.Started) (H : Type) (enc : TypeId × Value → H) :
    ReturnsInHanded {} Try.checked os 7 .any (Rows.fnExactReadCodeSpec.pre6 enc Try.prog Try.f7 Rows.fnExactReadCodeRow.domain false) (Rows.fnExactReadCodeSpec.post enc Try.prog Try.f7 false true false false) := by
  refine law_lifted (C := Try.checked) (tb := 4) own started (by kernel_rfl) Try.func7
    (ChangeSpec.witness6 (enc := enc) (C := Try.checked) false ⟨#[], #[.string ⟨#[]⟩], []⟩ 8 (by kernel_rfl) (by kernel_rfl) (by kernel_rfl) (by kernel_rfl))
    laidOut (fun t ht => ?_) rfl Try.underlying4 rfl (fun ds hds => ?_) ?_
  · have hp : t ∈ [9] := ht
    simp only [List.mem_singleton] at hp
    subst hp
    exact ⟨by kernel_rfl, of_decide_eq_true (by kernel_rfl)⟩
  · match ds, hds with
    | [d], _ => rfl
  · intro W base args ds p hval0 hA0
    have hval : ∀ (j : Nat) t v, Try.f7.params[j]? = some t → args[j]? = some v → Value.okWide Try.prog W .any base t v := hval0
    have hA : DataW.TrodAll enc Try.prog W 0 (fun _ => true) true Try.f7.params.toList args.toList ds p := hA0
    rw [Try.params7] at hA hval
    obtain ⟨v0, d0, rfl, rfl, h0⟩ := trodAll_one hA
    obtain ⟨s, rfl, rfl, rfl, hs⟩ := open_string Try.underlying9 (hval 0 9 v0 rfl rfl) h0
    exact exactReadCode_walk s W (by unfold maxLen at hs; omega)

theorem exactReadCode_holds : Rows.FnExactReadCodeSaid :=
  OpenClaim.holds_of_wide 7 Try.f7 rfl rfl rfl rfl rfl rfl rfl ⟨rfl, rfl, rfl, rfl, rfl⟩ rfl rfl rfl rfl rfl (by kernel_rfl) Try.func7 (by kernel_rfl)
    (of_decide_eq_true (by kernel_rfl)) (by unfold Func.isWrapper; rw [if_neg (of_decide_eq_false (by kernel_rfl))]; exact ⟨rfl, rfl⟩)
    (fun os started H enc _ => exactReadCode_lifted os started H enc)
#print axioms exactReadCode_holds
end Go.Proofs.Ytmcmfebmjfpmoaa
