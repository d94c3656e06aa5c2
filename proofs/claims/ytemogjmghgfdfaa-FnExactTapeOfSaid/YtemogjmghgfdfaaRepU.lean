/-
  What spec.Replay hands back.
-/
import Derived.Test.YtemogjmghgfdfaaRepT
set_option linter.unusedSimpArgs false
set_option linter.unusedVariables false
namespace Go.Proofs.Ytemogjmghgfdfaa
open Go.RowKit
namespace Av
theorem runS_le {rs : List Bt.C4} {h : Int} {Q : List Int} : ∀ {l o : List Bt.Ch} {u : Nat} {m : Bt.Mc}, o.length ≤ 300 → (Bt.runS rs h Q l o u m).1.length ≤ 300
  | [], o, u, m, ho => by simpa [Bt.runS] using ho
  | c :: l, o, u, m, ho => by
    unfold Bt.runS
    split
    · split
      · exact ho
      · split
        · exact ho
        · split
          · exact ho
          · exact runS_le (by simp; omega)
    · split
      · exact ho
      · split
        · exact ho
        · exact runS_le (by simp; omega)
theorem many_of {rs : List Bt.C4} {h : Int} {S : List Bt.Sl} {Q : List Int} (hr : (Bt.replay rs h S Q).isSome = true) : ∀ s ∈ S, 1 ≤ s.many := fun s hs => by
  rcases Int.lt_or_le s.many 1 with hlt | hle
  · rw [Bt.replay_no hs hlt] at hr; cases hr
  · exact hle
set_option maxRecDepth 10000 in
set_option maxHeartbeats 16000000 in
theorem sReplay_ok {rs : List Bt.C4} {h : Int} {S : List Bt.Sl} {Q : List Int} (hn : rs.length ≤ 1048576) (h1 : S.length ≤ 1048576) (h2 : Q.length ≤ 1048576) : FnOk E.P 23 [pProg rs h, pRec (S, Q)] (.tup [pChs ((Bt.replay rs h S Q).getD []), .bool (Bt.replay rs h S Q).isSome]) true := by
  have hK := sRecordOk_ok (rs := rs) (h := h) (S := S) (Q := Q) hn h1 h2
  have hP := l4Play_ok (rs := rs) (h := h) (S := S) (Q := Q) hn h1 h2
  cases e : Bt.replay rs h S Q with
  | none =>
    rw [e] at hK
    refine fn_ok mixed Try.func23 rfl (by kernel_rfl) _ Try.results23 _ Try.ntmps23 (by simp) (by kernel_rfl) ?_
    simp (maxSteps := 4000000) only [List.length_map, pRec, pProg, pChs, pInts, pI, vcs, simprocAttr, tbs]
    repeat (first | refine ftS (by kernel_rfl) ?_ | refine And.intro (by omega) ?_)
    refine aops_fn (hK) (by first | exact Nat.le_add_right _ _ | (simp only [introT, intro1, introL, intros, pI, pProg, pMc, pTh, pCh, pChs, pInts]; omega)) rfl ?_
    simp (maxSteps := 4000000) only [List.length_map, Option.getD_none, Option.isSome_none, List.map_nil, pRec, pProg, pChs, pInts, pI, vcs, simprocAttr, tbs]
    repeat (first | refine ftS (by kernel_rfl) ?_ | refine And.intro (by omega) ?_)
    all_goals (first | rfl | trivial | skip)
  | some l =>
    have hm := many_of (rs := rs) (h := h) (S := S) (Q := Q) (by rw [e]; rfl)
    have hr := Bt.replay_is (rs := rs) (h := h) (Q := Q) hm
    rw [e] at hK hr
    have hl : (Bt.runS rs h Q (Bt.unans S) [] 0 Bt.mcNew).1 = l := by
      split at hr
      · exact (Option.some.inj hr).symm
      · cases hr
    rw [hl] at hP
    generalize (Bt.runS rs h Q (Bt.unans S) [] 0 Bt.mcNew).2.1 = u at *
    generalize (Bt.runS rs h Q (Bt.unans S) [] 0 Bt.mcNew).2.2 = ok at *
    refine fn_ok mixed Try.func23 rfl (by kernel_rfl) _ Try.results23 _ Try.ntmps23 (by simp) (by kernel_rfl) ?_
    simp (maxSteps := 4000000) only [List.length_map, pRec, pProg, pChs, pInts, pI, vcs, simprocAttr, tbs]
    repeat (first | refine ftS (by kernel_rfl) ?_ | refine And.intro (by omega) ?_)
    refine aops_fn (hK) (by first | exact Nat.le_add_right _ _ | (simp only [introT, intro1, introL, intros, pI, pProg, pMc, pTh, pCh, pChs, pInts]; omega)) rfl ?_
    simp (maxSteps := 4000000) only [List.length_map, Option.isSome_some, pRec, pProg, pChs, pInts, pI, vcs, simprocAttr, tbs]
    repeat (first | refine ftS (by kernel_rfl) ?_ | refine And.intro (by omega) ?_)
    refine aops_fn (hP) (by first | exact Nat.le_add_right _ _ | (simp only [introT, intro1, introL, intros, pI, pProg, pMc, pTh, pCh, pChs, pInts]; omega)) rfl ?_
    simp (maxSteps := 4000000) only [List.length_map, Option.getD_some, Option.isSome_some, pRec, pProg, pChs, pInts, pI, vcs, simprocAttr, tbs]
    repeat (first | refine ftS (by kernel_rfl) ?_ | refine And.intro (by omega) ?_)
    all_goals (first | rfl | trivial | skip)
end Av
end Go.Proofs.Ytemogjmghgfdfaa
