/-
  For every program, whatever its row and its handler, 'FnExactProgramOk' answers true: both packages' 'ProgramOk' answer alike, and the argument stays as it is. No condition.
-/
import Derived.Test.YtmcmfebmjfpmoaaPlaw
import Derived.Test.YtmcmfebmjfpmoaaStart
import Derived.Test.YtmcmfebmjfpmoaaOpen
import Derived.Deep.RegionHeld3
namespace Go.Proofs.Ytmcmfebmjfpmoaa
open Go.ChangeShapes Go.WideShapes Go.ChangeAt Go.RowKit Go.Joins

set_option maxHeartbeats 1000000 in
theorem exactProgramOk_walk (A : Option Addr) (cap : Nat) (h : Int) (rs : List Bt.C4) (w : World) (hv : ArgCodes w (.slice A rs.length cap) rs) (hm : rs.length ≤ maxLen) :
    Calls Try.prog 4 #[.agg #[.slice A rs.length cap, .int .i64 h]] w fun e w' => e = .returned (.bool true) ∧ Below w.heap.size w w' := by
  have HV := Lib.hid hv; clear hv
  by_cases hn : rs.length ≤ 1048576
  · go_enter Try.func4, Try.ntmps4
    go_wp2_with fail
    refine (szProgram_any _ _ _ _ _ _ hm (by omega) (by omega)).mono ?_
    rw [if_neg (by omega)]
    rintro e w1 ⟨rfl, hb1⟩
    obtain ⟨hc1, hf1⟩ := bcell hb1
    have hz1 : w.heap.size < w1.heap.size := by have := hb1.size; simp at this; omega
    have B1 : Below w.heap.size w w1 := ((Below.refl _ _).alloc (Nat.le_refl _) _).trans (hb1.mono (by simp))
    go_wp2_with fail
    refine (toProgram_any _ _ rs _ hn (HV.out.keep B1)).mono ?_
    rintro e w2 hp
    obtain ⟨g2, rfl, hg2, hb2, ho2⟩ := hp
    obtain ⟨hc2, hf2⟩ := bcell hb2
    have hz2 : w.heap.size < w2.heap.size := by have := hb2.size; omega
    have B2 : Below w.heap.size w w2 := B1.trans (hb2.mono (by omega))
    go_wp2_with fail
    refine (specProgramOk_any _ _ _ rs _ _ hn (Nat.le_refl _) ho2.codes).mono ?_
    rintro e w3 ⟨rfl, hb3⟩
    obtain ⟨hc3, hf3⟩ := bcell hb3
    have hz3 : w.heap.size < w3.heap.size := by have := hb3.size; omega
    have B3 : Below w.heap.size w w3 := B2.trans (hb3.mono (by omega))
    go_wp2_with fail
    refine (toProgram_any _ _ rs _ hn (HV.out.keep B3)).mono ?_
    rintro e w4 hp
    obtain ⟨g4, rfl, hg4, hb4, ho4⟩ := hp
    obtain ⟨hc4, hf4⟩ := bcell hb4
    have hz4 : w.heap.size < w4.heap.size := by have := hb4.size; omega
    have B4 : Below w.heap.size w w4 := B3.trans (hb4.mono (by omega))
    go_wp2_with fail
    have ho4' := ho4.below ((Below.refl _ _).alloc (Nat.le_refl _) (.cells #[.slice (some ⟨g4, 0, none⟩) rs.length rs.length, .int .i64 h] 35)) ho4.lt
    refine (implProgramOk_any _ _ _ rs _ _ hn (Nat.le_refl _) ho4'.codes).mono ?_
    rintro e w5 ⟨rfl, hb5⟩
    obtain ⟨hc5, hf5⟩ := bcell hb5
    have hz5 : w4.heap.size < w5.heap.size := by have := hb5.size; simp at this; omega
    have hz5' : w.heap.size < w5.heap.size := by omega
    have B5 : Below w.heap.size w w5 := (B4.alloc (by omega) _).trans (hb5.mono (by simp; omega))
    have ho5 := ho4'.below hb5 ho4'.lt
    have s0 : w5.cell? ⟨w4.heap.size, 0, none⟩ = some (.slice (some ⟨g4, 0, none⟩) rs.length rs.length) := keeps hb5 (by simp)
    have s1 : w5.cell? ⟨w4.heap.size, 1, none⟩ = some (.int .i64 h) := keeps hb5 (by simp)
    have s2 : w5.cell? ⟨w.heap.size, 0, none⟩ = some (.slice A rs.length cap) := keeps (((Below.refl w4.heap.size w4).alloc (Nat.le_refl _) _).trans (hb5.mono (by simp))) (keeps hb4 (keeps hb3 (keeps hb2 (keeps hb1 (by simp)))))
    have s3 : w5.cell? ⟨w.heap.size, 1, none⟩ = some (.int .i64 h) := keeps (((Below.refl w4.heap.size w4).alloc (Nat.le_refl _) _).trans (hb5.mono (by simp))) (keeps hb4 (keeps hb3 (keeps hb2 (keeps hb1 (by simp)))))
    clear hc1 hc2 hc3 hc4 hc5 hf1 hf2 hf3 hf4 hf5
    go_wp2_with fail
    go_region_held3 (fun w' => w'.cell? ⟨w4.heap.size, 0, none⟩ = some (.slice (some ⟨g4, 0, none⟩) rs.length rs.length) ∧ w'.cell? ⟨w4.heap.size, 1, none⟩ = some (.int .i64 h) ∧ w'.cell? ⟨w.heap.size, 0, none⟩ = some (.slice A rs.length cap) ∧ w'.cell? ⟨w.heap.size, 1, none⟩ = some (.int .i64 h))
      (first | go_keep | (exact ⟨keeps hb6 s0, keeps hb6 s1, keeps hb6 s2, keeps hb6 s3⟩) | (exact ⟨keeps (hb6.trans (hb7.mono hb6.size)) s0, keeps (hb6.trans (hb7.mono hb6.size)) s1, keeps (hb6.trans (hb7.mono hb6.size)) s2, keeps (hb6.trans (hb7.mono hb6.size)) s3⟩))
      (first | (go_at_call 13; refine (toProgram_any _ _ rs _ hn (HV.out.keep B5.drew)).mono ?_; rintro e w6 hp; obtain ⟨g6, rfl, hg6, hb6, ho6⟩ := hp; have ho5' := (show CodesOwn w5.drew g4 rs from ho5).below hb6 ho5.lt) | (go_at_call 15; refine (eqProgram_same _ _ _ _ _ _ rs _ _ hn (Nat.le_refl _) (Nat.le_refl _) ho5'.codes ho6.codes).mono ?_; rintro e w7 ⟨rfl, hb7⟩))
    go_wp2
    go_ret
    exact ⟨rfl, (B5.drew.trans (hb6.mono (by have := B5.size; simp; omega))).trans (hb7.mono (by have := hb6.size; have := B5.size; simp at *; omega))⟩
  · go_enter Try.func4, Try.ntmps4
    go_wp2_with fail
    refine (szProgram_any _ _ _ _ _ _ hm (by omega) (by omega)).mono ?_
    rw [if_pos (by omega)]
    rintro e w1 ⟨rfl, hb1⟩
    go_wp2_with fail
    go_ret
    exact ⟨rfl, ((Below.refl _ _).alloc (Nat.le_refl _) _).trans (hb1.mono (by simp))⟩

theorem cells_prog : Try.prog.cellsOf 30 = 2 := by kernel_rfl

theorem cellsCode : Try.prog.cellsOf 23 = 4 := by kernel_rfl

/-- an argument that is a slice of instructions, opened -/
theorem open_codes {H : Type} {enc : TypeId × Value → H} {w : World} {base : Nat} {spare : Nat → Bool} {held : Bool} {fuel : Nat} {cs : List Value} {x : DataW H × List MemPlace}
    (h : DataW.trod enc Try.prog w base spare held fuel 28 cs = some x) :
    ∃ (A : Option Addr) (cap : Nat) (rs : List Bt.C4), cs = [.slice A rs.length cap] ∧ ArgCodes w (.slice A rs.length cap) rs ∧ rs.length ≤ maxLen := by
  rcases open_rows Try.underlying28 Try.underlying23 (by kernel_rfl) cellsCode (by kernel_rfl) h with rfl | ⟨a, len, cap, z, rfl, hl, hm, hz⟩
  · exact ⟨none, 0, [], rfl, ⟨none, 0, rfl, Nat.le_refl _, fun h => absurd rfl h⟩, Nat.zero_le _⟩
  · refine ⟨some a, cap, (List.range len).map fun i => ⟨z i 0, z i 1, z i 2, z i 3⟩, by simp, ⟨some a, cap, rfl, by simpa using hl, fun hne => ?_⟩, by simp; omega⟩
    have hlen : 0 < len := by
      rcases Nat.eq_zero_or_pos len with h0 | h0
      · subst h0; exact absurd rfl hne
      · exact h0
    have h00 : w.cell? (a.add 0) = some (.int .i64 (z 0 0)) := hz 0 hlen 0 (by decide)
    obtain ⟨b, o, rfl⟩ := plain_addr h00
    refine ⟨b, o, rfl, fun i hi => ?_⟩
    have hi' : i < len := by simpa using hi
    have hc : ∀ j, j < 4 → w.cell? ⟨b, o + i * 4 + j, none⟩ = some (.int .i64 (z i j)) := fun j hj => by
      have h := hz i hi' j hj
      rw [add_plain] at h
      rw [Nat.add_assoc]
      exact h
    simp only [List.getElem_map, List.getElem_range]
    exact ⟨hc 0 (by decide), hc 1 (by decide), hc 2 (by decide), hc 3 (by decide)⟩

set_option maxRecDepth 100000 in
theorem exactProgramOk_lifted (os : Os) (started : os.Started) (H : Type) (enc : TypeId × Value → H) :
    ReturnsInHanded {} Try.checked os 4 .any (Rows.fnExactProgramOkSpec.pre6 enc Try.prog Try.f4 Rows.fnExactProgramOkRow.domain false) (Rows.fnExactProgramOkSpec.post enc Try.prog Try.f4 false true false false) := by
  refine law_lifted (C := Try.checked) (tb := 4) own started (by kernel_rfl) Try.func4
    (ChangeSpec.witness6 (enc := enc) (C := Try.checked) false ⟨#[], #[.agg #[.slice none 0 0, .int .i64 0]], []⟩ 8 (by kernel_rfl) (by kernel_rfl) (by kernel_rfl) (by kernel_rfl))
    laidOut (fun t ht => ?_) rfl Try.underlying4 rfl (fun ds hds => ?_) ?_
  · have hp : t ∈ [30] := ht
    simp only [List.mem_singleton] at hp
    subst hp
    exact ⟨by kernel_rfl, of_decide_eq_true (by kernel_rfl)⟩
  · match ds, hds with
    | [d], _ => rfl
  · intro W base args ds p hval0 hA0
    have hval : ∀ (j : Nat) t v, Try.f4.params[j]? = some t → args[j]? = some v → Value.okWide Try.prog W .any base t v := hval0
    have hA : DataW.TrodAll enc Try.prog W 0 (fun _ => true) true Try.f4.params.toList args.toList ds p := hA0
    rw [Try.params4] at hA hval
    obtain ⟨v0, d0, rfl, rfl, h0⟩ := trodAll_one hA
    obtain ⟨c0, c1, y0, y1, m, rfl, rfl, rfl, hy0, hy1⟩ := open_agg2 Try.underlying30 (by kernel_rfl) cells_prog (hval 0 30 v0 rfl rfl) h0
    obtain ⟨A, cap, rs, e0, hv, hm⟩ := open_codes hy0
    obtain ⟨h, e1, rfl, _⟩ := DataW.trod_int Try.underlying3 hy1
    simp at e0 e1
    subst e0 e1
    exact exactProgramOk_walk A cap h rs W hv hm

theorem exactProgramOk_holds : Rows.FnExactProgramOkSaid :=
  OpenClaim.holds_of_wide 4 Try.f4 rfl rfl rfl rfl rfl rfl rfl ⟨rfl, rfl, rfl, rfl, rfl⟩ rfl rfl rfl rfl rfl (by kernel_rfl) Try.func4 (by kernel_rfl)
    (of_decide_eq_true (by kernel_rfl)) (by unfold Func.isWrapper; rw [if_neg (of_decide_eq_false (by kernel_rfl))]; exact ⟨rfl, rfl⟩)
    (fun os started H enc _ => exactProgramOk_lifted os started H enc)
#print axioms exactProgramOk_holds
end Go.Proofs.Ytmcmfebmjfpmoaa
