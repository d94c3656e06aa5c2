/-
  Chapter 4: recordings that are joined, in both packages.
-/
import Derived.Test.YtbkbppllcjcmhaaRepT
import Derived.Test.YtbkbppllcjcmhaaJoB
set_option linter.unusedSimpArgs false
set_option linter.unusedVariables false
namespace Go.Proofs.Ytbkbppllcjcmhaa
open Go.RowKit
namespace Bt
/-- slices behind slices, the last and the first made one if they are of the same kind and thread -/
def joinSl (S T : List Sl) : List Sl := match S.getLast?, T with
  | some a, b :: T' => if turnSame a b then S.dropLast ++ [⟨a.who, a.kind, a.many + b.many⟩] ++ T' else S ++ T
  | _, _ => S ++ T
theorem joinSl_nil (T : List Sl) : joinSl [] T = T := by simp [joinSl]
theorem joinSl_none (S : List Sl) : joinSl S [] = S := by
  unfold joinSl
  split
  · rename_i h; cases h
  · simp
theorem joinSl_same {S : List Sl} {a b : Sl} {T : List Sl} (h : turnSame a b = true) : joinSl (S ++ [a]) (b :: T) = S ++ [⟨a.who, a.kind, a.many + b.many⟩] ++ T := by simp [joinSl, h]
theorem joinSl_other {S : List Sl} {a b : Sl} {T : List Sl} (h : turnSame a b = false) : joinSl (S ++ [a]) (b :: T) = (S ++ [a]) ++ (b :: T) := by simp [joinSl, h]
theorem joinSl_len (S T : List Sl) : (joinSl S T).length ≤ S.length + T.length := by
  rcases List.eq_nil_or_concat S with rfl | ⟨S, a, rfl⟩
  · simp [joinSl_nil]
  · rw [List.concat_eq_append]
    cases T with
    | nil => simp [joinSl_none]
    | cons b T =>
      cases h : turnSame a b
      · rw [joinSl_other h]; simp; omega
      · rw [joinSl_same h]; simp
/-- as the model joins: sums wrapped, and no slice that can not be one -/
def joinW (S T : List Sl) : List Sl := match S.getLast?, T with
  | some a, b :: T' => if turnSame a b && (decide (0 < b.many) && decide (b.many ≤ 300)) then S.dropLast ++ [⟨a.who, a.kind, Av.addW .i64 a.many b.many⟩] ++ T' else S ++ T
  | _, _ => S ++ T
theorem joinW_nil (T : List Sl) : joinW [] T = T := by simp [joinW]
theorem joinW_none (S : List Sl) : joinW S [] = S := by
  unfold joinW
  split
  · rename_i h; cases h
  · simp
theorem joinW_same {S : List Sl} {a b : Sl} {T : List Sl} (h : (turnSame a b && (decide (0 < b.many) && decide (b.many ≤ 300))) = true) : joinW (S ++ [a]) (b :: T) = S ++ [⟨a.who, a.kind, Av.addW .i64 a.many b.many⟩] ++ T := by
  unfold joinW
  rw [List.getLast?_append, List.getLast?_singleton, Option.some_or, List.dropLast_concat]
  simp only
  rw [if_pos h]
theorem joinW_other {S : List Sl} {a b : Sl} {T : List Sl} (h : (turnSame a b && (decide (0 < b.many) && decide (b.many ≤ 300))) = false) : joinW (S ++ [a]) (b :: T) = (S ++ [a]) ++ (b :: T) := by
  unfold joinW
  rw [List.getLast?_append, List.getLast?_singleton, Option.some_or]
  simp only
  rw [if_neg (by rw [h]; exact Bool.false_ne_true)]
theorem unfit {rs : List C4} {h : Int} {S : List Sl} {Q : List Int} (e : fits S Q = false) : replay rs h S Q = none := by
  unfold replay
  rw [if_neg (fun hh => by rw [e] at hh; exact Bool.false_ne_true hh.2.1)]
theorem fit_of {rs : List C4} {h : Int} {S : List Sl} {Q : List Int} (e : (replay rs h S Q).isSome = true) : fits S Q = true := by
  cases hf : fits S Q with
  | true => rfl
  | false => rw [unfit hf] at e; cases e
theorem fits_no {S : List Sl} {Q : List Int} (h : 300 < S.length ∨ 300 < Q.length ∨ ∃ s ∈ S, fitSl s = false) : fits S Q = false := by
  cases hf : fits S Q with
  | false => rfl
  | true =>
    obtain ⟨f1, f2, f3⟩ := fits_facts hf
    rcases h with h | h | ⟨s, hs, h⟩
    · omega
    · omega
    · rw [List.all_eq_true.1 f3 s hs] at h; cases h
/-- what both packages answer -/
def recJoin (rs : List C4) (h : Int) (S : List Sl) (Q : List Int) (S' : List Sl) (Q' : List Int) : (List Sl × List Int) × Bool := if (replay rs h S Q).isSome && (fits S' Q' && (replay rs h (joinSl S S') (Q ++ Q')).isSome) then ((joinSl S S', Q ++ Q'), true) else (([], []), false)
/-- how the model says it -/
theorem recJoin_model {rs : List C4} {h : Int} {S : List Sl} {Q : List Int} {S' : List Sl} {Q' : List Int} : recJoin rs h S Q S' Q' = if (replay rs h S Q).isSome && (replay rs h (joinW S S') (Q ++ Q')).isSome then ((joinW S S', Q ++ Q'), true) else (([], []), false) := by
  unfold recJoin
  cases e1 : (replay rs h S Q).isSome
  · simp
  · have f1 := fit_of e1
    obtain ⟨g1, g2, g3⟩ := fits_facts f1
    simp only [Bool.true_and]
    cases e2 : fits S' Q'
    · -- what does not fit makes no recording
      have hno : fits (joinW S S') (Q ++ Q') = false := by
        by_cases c1 : 300 < S'.length
        · refine fits_no (.inl ?_)
          rcases List.eq_nil_or_concat S with rfl | ⟨S, a, rfl⟩
          · rw [joinW_nil]; exact c1
          · rw [List.concat_eq_append]
            cases S' with
            | nil => simp at c1
            | cons b T =>
              cases hs : (turnSame a b && (decide (0 < b.many) && decide (b.many ≤ 300)))
              · rw [joinW_other hs]; simp at c1 ⊢; omega
              · rw [joinW_same hs]; simp at c1 ⊢; omega
        · by_cases c2 : 300 < Q'.length
          · exact fits_no (.inr (.inl (by rw [List.length_append]; omega)))
          · have : ∃ s ∈ S', fitSl s = false := by
              cases hall : S'.all fitSl with
              | true =>
                exfalso
                have : fits S' Q' = true := by
                  unfold fits
                  rw [hall]
                  simp
                  omega
                rw [this] at e2; cases e2
              | false =>
                rw [List.all_eq_false] at hall
                obtain ⟨s, hs, hf⟩ := hall
                exact ⟨s, hs, by simpa using hf⟩
            obtain ⟨s, hs, hf⟩ := this
            refine fits_no (.inr (.inr ?_))
            rcases List.eq_nil_or_concat S with rfl | ⟨S, a, rfl⟩
            · rw [joinW_nil]; exact ⟨s, hs, hf⟩
            · rw [List.concat_eq_append]
              cases S' with
              | nil => cases hs
              | cons b T =>
                cases hc : (turnSame a b && (decide (0 < b.many) && decide (b.many ≤ 300)))
                · rw [joinW_other hc]; exact ⟨s, List.mem_append_right _ hs, hf⟩
                · rw [joinW_same hc]
                  rcases List.mem_cons.1 hs with rfl | hs
                  · exfalso
                    simp only [Bool.and_eq_true, decide_eq_true_eq] at hc
                    have : fitSl s = true := by
                      unfold fitSl
                      simp only [Bool.and_eq_true, decide_eq_true_eq]
                      omega
                    rw [this] at hf; cases hf
                  · exact ⟨s, List.mem_append_right _ hs, hf⟩
      rw [unfit hno]
      simp
    · obtain ⟨k1, k2, k3⟩ := fits_facts e2
      have hJ : joinW S S' = joinSl S S' := by
        rcases List.eq_nil_or_concat S with rfl | ⟨S, a, rfl⟩
        · rw [joinW_nil, joinSl_nil]
        · rw [List.concat_eq_append] at *
          cases S' with
          | nil => rw [joinW_none, joinSl_none]
          | cons b T =>
            have ha := List.all_eq_true.1 g3 a (by simp)
            have hb := List.all_eq_true.1 k3 b (by simp)
            simp only [fitSl, Bool.and_eq_true, decide_eq_true_eq] at ha hb
            cases hs : turnSame a b
            · rw [joinSl_other hs, joinW_other (by rw [hs]; rfl)]
            · rw [joinSl_same hs, joinW_same (by rw [hs]; simp; omega), Av.addW_in (show Av.intB .i64 _ from ⟨by omega, by omega⟩)]
      rw [hJ]
      simp
end Bt
namespace Av
set_option maxHeartbeats 8000000 in
theorem slicesJoined_ok {S T : List Bt.Sl} (hS : S.length ≤ 1048576) (hT : T.length ≤ 1048576) (h1 : ∀ s ∈ S, 1 ≤ s.many ∧ s.many ≤ 300) (h2 : ∀ s ∈ T, 1 ≤ s.many ∧ s.many ≤ 300) : FnOk E.P 73 [.lst 104 (S.map pSl), .lst 104 (T.map pSl)] (.lst 104 ((Bt.joinSl S T).map pSl)) true := by
  rcases List.eq_nil_or_concat S with rfl | ⟨S, a, rfl⟩
  · rw [Bt.joinSl_nil]
    have hft : ((T.map pSl).all fun r => r.all PV.leaf) = true := by simp [pSl, PV.leaf, pI]
    have hgt : ((T.map pSl).all fun r => r.all PV.flat) = true := by simp [pSl, PV.flat, pI]
    refine fn_ok mixed Try.func73 rfl (by kernel_rfl) _ Try.results73 _ Try.ntmps73 (by simp) (by kernel_rfl) ?_
    repeat (first | (refine aops_fnX rfl ?_ ?_; focus (simp (maxSteps := 4000000) only [sks, hft, hgt, Bool.and_self, Bool.true_and, List.map_nil, List.length_nil, List.nil_append, pI, tvl, simprocAttr]; done)) | (simp (maxSteps := 4000000) only [hft, hgt, Bool.and_self, Bool.true_and, List.map_nil, List.length_nil, List.nil_append, pI, tvl, simprocAttr]) | refine ftS (by kernel_rfl) ?_ | refine And.intro (by omega) ?_)
    all_goals (first | rfl | trivial | skip)
  · rw [List.concat_eq_append] at *
    have ha := h1 a (by simp)
    have e7 : ((S.length + 1 : Nat) : Int) - 1 = (S.length : Int) := by omega
    have d0 : decide ((S.length : Int) < 0) = false := by rw [decide_eq_false_iff_not]; omega
    obtain ⟨R, hR⟩ : ∃ R, (S ++ [a]).map pSl = R := ⟨_, rfl⟩
    have r1 : R.length = S.length + 1 := by rw [← hR]; simp
    have r2 : R[S.length]? = some [pI a.who, pI a.kind, pI a.many] := by rw [← hR]; simp [pSl]
    have r3 : ∀ x, R.set S.length x = S.map pSl ++ [x] := fun x => by rw [← hR]; simp
    have hfl : (R.all fun r => r.all PV.leaf) = true := by rw [← hR]; simp [pSl, PV.leaf, pI]
    have hgl : (R.all fun r => r.all PV.flat) = true := by rw [← hR]; simp [pSl, PV.flat, pI]
    cases T with
    | nil =>
      rw [Bt.joinSl_none, hR]
      have hl : S.length + 1 ≤ 1048576 := by simpa using hS
      refine fn_ok mixed Try.func73 rfl (by kernel_rfl) _ Try.results73 _ Try.ntmps73 (by simp) (by kernel_rfl) ?_
      repeat (first | (refine aops_fnX rfl ?_ ?_; focus (simp (maxSteps := 4000000) only [sks, r1, r2, e7, d0, hfl, hgl, Bool.and_self, List.map_nil, List.length_nil, List.nil_append, List.append_nil, Int.reduceBEq, beq_self_eq_true, pI, tvl, simprocAttr]; done)) | (simp (maxSteps := 4000000) only [r1, r2, e7, d0, hfl, hgl, Bool.and_self, List.map_nil, List.length_nil, List.nil_append, List.append_nil, Int.reduceBEq, beq_self_eq_true, pI, tvl, simprocAttr]) | refine ftS (by kernel_rfl) ?_ | refine And.intro (by omega) ?_)
      all_goals (first | rfl | trivial | skip)
    | cons b T =>
      have hb := h2 b (by simp)
      have hl : S.length + 1 ≤ 1048576 := by simpa using hS
      have hl2 : T.length + 1 ≤ 1048576 := by simpa using hT
      have d1 : (((T.length + 1 : Nat) : Int) == 0) = false := by rw [beq_eq_false_iff_ne]; omega
      have hM := sameTurn_ok a.who a.kind a.many b.who b.kind b.many
      obtain ⟨U, hU⟩ : ∃ U, (b :: T).map pSl = U := ⟨_, rfl⟩
      have u1 : U.length = T.length + 1 := by rw [← hU]; simp
      have u2 : U[0]? = some [pI b.who, pI b.kind, pI b.many] := by rw [← hU]; simp [pSl]
      have u3 : (U.take (T.length + 1)).drop 1 = T.map pSl := by rw [List.take_of_length_le (by omega), ← hU]; simp
      have hfu : (U.all fun r => r.all PV.leaf) = true := by rw [← hU]; simp [pSl, PV.leaf, pI]
      have hft : ((T.map pSl).all fun r => r.all PV.leaf) = true := by simp [pSl, PV.leaf, pI]
      have hgu : (U.all fun r => r.all PV.flat) = true := by rw [← hU]; simp [pSl, PV.flat, pI]
      have hgt : ((T.map pSl).all fun r => r.all PV.flat) = true := by simp [pSl, PV.flat, pI]
      rw [hR, hU]
      cases hs : Bt.turnSame a b
      · rw [Bt.joinSl_other hs]
        have hres : (S ++ [a] ++ b :: T).map pSl = R ++ U := by rw [List.map_append, hR, hU]
        rw [hres]
        have hs' : (a.who == b.who && a.kind == b.kind) = false := hs
        rw [hs'] at hM
        refine fn_ok mixed Try.func73 rfl (by kernel_rfl) _ Try.results73 _ Try.ntmps73 (by simp) (by kernel_rfl) ?_
        simp (maxSteps := 4000000) only [r1, r2, u1, u2, e7, d0, d1, hfl, hgl, Bool.and_self, List.map_nil, List.length_nil, List.nil_append, List.append_nil, Int.toNat_zero, pI, tvl, simprocAttr]
        repeat (first | refine ftS (by kernel_rfl) ?_ | refine And.intro (by omega) ?_)
        refine aops_fnG (hM) (hidB rfl) rfl rfl (by simp (maxSteps := 4000000) only [r1, r2, u1, u2, e7, d0, d1, pI, tvs, simprocAttr]) ?_
        repeat (first | (refine aops_fnX rfl ?_ ?_; focus (simp (maxSteps := 4000000) only [sks, r1, r2, u1, u2, e7, d0, d1, hfl, hfu, hgl, hgu, Bool.and_self, List.nil_append, Bool.not_false, pI, tvl, simprocAttr]; done)) | (simp (maxSteps := 4000000) only [r1, r2, u1, u2, e7, d0, d1, hfl, hfu, hgl, hgu, Bool.and_self, List.nil_append, Bool.not_false, pI, tvl, simprocAttr]) | refine ftS (by kernel_rfl) ?_ | refine And.intro (by omega) ?_)
        all_goals (first | rfl | trivial | skip)
      · rw [Bt.joinSl_same hs]
        have hs' : (a.who == b.who && a.kind == b.kind) = true := hs
        rw [hs'] at hM
        have hres : (S ++ [(⟨a.who, a.kind, a.many + b.many⟩ : Bt.Sl)] ++ T).map pSl = (S.map pSl ++ [[pI a.who, pI a.kind, pI (a.many + b.many)]]) ++ T.map pSl := by simp [pSl]
        rw [hres]
        refine fn_ok mixed Try.func73 rfl (by kernel_rfl) _ Try.results73 _ Try.ntmps73 (by simp) (by kernel_rfl) ?_
        simp (maxSteps := 4000000) only [r1, r2, u1, u2, e7, d0, d1, hfl, hgl, Bool.and_self, List.map_nil, List.length_nil, List.nil_append, List.append_nil, Int.toNat_zero, pI, tvl, simprocAttr]
        repeat (first | refine ftS (by kernel_rfl) ?_ | refine And.intro (by omega) ?_)
        refine aops_fnG (hM) (hidB rfl) rfl rfl (by simp (maxSteps := 4000000) only [r1, r2, u1, u2, e7, d0, d1, pI, tvs, simprocAttr]) ?_
        repeat (first | (refine aops_fnX rfl ?_ ?_; focus (simp (maxSteps := 4000000) only [sks, r1, r2, r3, u1, u2, u3, e7, d0, d1, hfl, hfu, hft, hgl, hgu, hgt, Bool.and_self, List.length_append, List.length_singleton, List.nil_append, Bool.not_true, pI, tvl, simprocAttr]; done)) | (simp (maxSteps := 4000000) only [r1, r2, r3, u1, u2, u3, e7, d0, d1, hfl, hfu, hft, hgl, hgu, hgt, Bool.and_self, List.length_append, List.length_singleton, List.nil_append, Bool.not_true, pI, tvl, simprocAttr]) | refine ftS (by kernel_rfl) ?_ | refine And.intro (by omega) ?_)
        all_goals (first | rfl | trivial | skip)
set_option maxRecDepth 10000 in
set_option maxHeartbeats 16000000 in
theorem iRecordJoin_ok {rs : List Bt.C4} {h : Int} {S S' : List Bt.Sl} {Q Q' : List Int} (hn : rs.length ≤ 1048576) (h1 : S.length + S'.length ≤ 1048576) (h2 : Q.length + Q'.length ≤ 1048576) :
    FnOk E.P 34 [pProg rs h, pRec (S, Q), pRec (S', Q')] (.tup [pRec (Bt.recJoin rs h S Q S' Q').1, .bool (Bt.recJoin rs h S Q S' Q').2]) true := by
  have hO := iRecordOk_ok (rs := rs) (h := h) (S := S) (Q := Q) hn (by omega) (by omega)
  have hF := fitsRun_ok (S := S') (Q := Q') (by omega) (by omega)
  have hJ := iRecordOk_ok (rs := rs) (h := h) (S := Bt.joinSl S S') (Q := Q ++ Q') hn (by have := Bt.joinSl_len S S'; omega) (by rw [List.length_append]; omega)
  unfold Bt.recJoin
  cases e1 : (Bt.replay rs h S Q).isSome
  · rw [e1] at hO
    simp only [Bool.false_and, Bool.false_eq_true, if_false]
    refine fn_ok mixed Try.func34 rfl (by kernel_rfl) _ Try.results34 _ Try.ntmps34 (by simp) (by kernel_rfl) ?_
    simp (maxSteps := 4000000) only [pRec, pProg, pChs, pInts, pI, tvl, simprocAttr]
    repeat (first | refine ftS (by kernel_rfl) ?_ | refine And.intro (by omega) ?_)
    refine aops_fn (hO) (hidB rfl) rfl ?_
    repeat (first | (refine aops_fnX rfl ?_ ?_; focus (simp (maxSteps := 4000000) only [sks, List.map_nil, pRec, pProg, pChs, pInts, pI, tvl, simprocAttr]; done)) | (simp (maxSteps := 4000000) only [List.map_nil, pRec, pProg, pChs, pInts, pI, tvl, simprocAttr]) | refine ftS (by kernel_rfl) ?_ | refine And.intro (by omega) ?_)
    all_goals (first | rfl | trivial | skip)
  · have g := Bt.fits_facts (Bt.fit_of e1)
    rw [e1] at hO
    simp only [Bool.true_and]
    cases e2 : Bt.fits S' Q'
    · rw [e2] at hF
      simp only [Bool.false_and, Bool.false_eq_true, if_false]
      refine fn_ok mixed Try.func34 rfl (by kernel_rfl) _ Try.results34 _ Try.ntmps34 (by simp) (by kernel_rfl) ?_
      simp (maxSteps := 4000000) only [pRec, pProg, pChs, pInts, pI, tvl, simprocAttr]
      repeat (first | refine ftS (by kernel_rfl) ?_ | refine And.intro (by omega) ?_)
      refine aops_fn (hO) (hidB rfl) rfl ?_
      simp (maxSteps := 4000000) only [pRec, pProg, pChs, pInts, pI, tvl, simprocAttr]
      repeat (first | refine ftS (by kernel_rfl) ?_ | refine And.intro (by omega) ?_)
      refine aops_fnG (hF) (hidB rfl) rfl rfl (by simp (maxSteps := 4000000) only [pRec, pProg, pChs, pInts, pI, tvl, simprocAttr]) ?_
      repeat (first | (refine aops_fnX rfl ?_ ?_; focus (simp (maxSteps := 4000000) only [sks, List.map_nil, pRec, pProg, pChs, pInts, pI, tvl, simprocAttr]; done)) | (simp (maxSteps := 4000000) only [List.map_nil, pRec, pProg, pChs, pInts, pI, tvl, simprocAttr]) | refine ftS (by kernel_rfl) ?_ | refine And.intro (by omega) ?_)
      all_goals (first | rfl | trivial | skip)
    · rw [e2] at hF
      have g' := Bt.fits_facts e2
      have hS := slicesJoined_ok (S := S) (T := S') (by omega) (by omega) (fun s hs => by have := List.all_eq_true.1 g.2.2 s hs; simpa [Bt.fitSl] using this) (fun s hs => by have := List.all_eq_true.1 g'.2.2 s hs; simpa [Bt.fitSl] using this)
      have hC := copy_ok (xs := Q) (by omega)
      have hfl : ((Q'.map fun x => [PV.int .i64 x]).all fun r => r.all PV.leaf) = true := by simp [PV.leaf]
      have hff : ((Q'.map fun x => [PV.int .i64 x]).all fun r => r.all PV.flat) = true := by simp [PV.flat]
      simp only [Bool.true_and]
      generalize Bt.joinSl S S' = J at *
      cases e3 : (Bt.replay rs h J (Q ++ Q')).isSome
      all_goals
        rw [e3] at hJ
        simp only [Bool.false_eq_true, if_false, if_true]
        refine fn_ok mixed Try.func34 rfl (by kernel_rfl) _ Try.results34 _ Try.ntmps34 (by simp) (by kernel_rfl) ?_
        simp (maxSteps := 4000000) only [pRec, pProg, pChs, pInts, pI, tvl, simprocAttr]
        repeat (first | refine ftS (by kernel_rfl) ?_ | refine And.intro (by omega) ?_)
        refine aops_fn (hO) (hidB rfl) rfl ?_
        simp (maxSteps := 4000000) only [pRec, pProg, pChs, pInts, pI, tvl, simprocAttr]
        repeat (first | refine ftS (by kernel_rfl) ?_ | refine And.intro (by omega) ?_)
        refine aops_fnG (hF) (hidB rfl) rfl rfl (by simp (maxSteps := 4000000) only [pRec, pProg, pChs, pInts, pI, tvl, simprocAttr]) ?_
        simp (maxSteps := 4000000) only [pRec, pProg, pChs, pInts, pI, tvl, simprocAttr]
        repeat (first | refine ftS (by kernel_rfl) ?_ | refine And.intro (by omega) ?_)
        refine aops_fn (hS) (hidB rfl) rfl ?_
        simp (maxSteps := 4000000) only [pRec, pProg, pChs, pInts, pI, tvl, simprocAttr]
        repeat (first | refine ftS (by kernel_rfl) ?_ | refine And.intro (by omega) ?_)
        refine aops_fn (hC) (hidB rfl) rfl ?_
        simp (maxSteps := 4000000) only [hfl, hff, ← List.map_append, List.length_append, pRec, pProg, pChs, pInts, pI, tvl, simprocAttr]
        repeat (first | refine ftS (by kernel_rfl) ?_ | refine And.intro (by omega) ?_)
        refine aops_fn (hJ) (hidB rfl) rfl ?_
        simp (maxSteps := 4000000) only [← List.map_append, List.length_append, List.map_nil, pRec, pProg, pChs, pInts, pI, tvl, simprocAttr]
        repeat (first | refine ftS (by kernel_rfl) ?_ | refine And.intro (by omega) ?_)
        all_goals (first | rfl | trivial | skip)
def jI (S S' J : List Bt.Sl) (x : Nat × List Bt.Sl) : Prop := x.1 ≤ S'.length ∧ x.2.length ≤ S.length + x.1 ∧ (if x.1 = 0 then Bt.joinW x.2 (S'.drop x.1) else x.2 ++ S'.drop x.1) = J
theorem jI_yes {S S' J : List Bt.Sl} {k : Nat} {o : List Bt.Sl} {b : Bt.Sl} (hk : k < S'.length) (hb : S'[k] = b) (H : jI S S' J (k, o)) (hq : (if k = 0 then Bt.joinW o (b :: S'.drop 1) else o ++ b :: S'.drop (k + 1)) = (o ++ [b]) ++ S'.drop (k + 1)) : jI S S' J (k + 1, o ++ [b]) := by
  obtain ⟨i1, i2, i3⟩ := H
  simp only at i1 i2 i3
  refine ⟨by simp only; omega, by simp only [List.length_append, List.length_singleton]; omega, ?_⟩
  simp only
  rw [if_neg (by omega), ← hq, ← i3, List.drop_eq_getElem_cons hk, hb]
  by_cases c : k = 0
  · subst c; rfl
  · simp [c]
set_option maxRecDepth 10000 in
set_option maxHeartbeats 32000000 in
theorem sRecordJoin_ok {rs : List Bt.C4} {h : Int} {S S' : List Bt.Sl} {Q Q' : List Int} (hn : rs.length ≤ 1048576) (h1 : S.length + S'.length ≤ 1048576) (h2 : Q.length + Q'.length ≤ 1048576) :
    FnOk E.P 31 [pProg rs h, pRec (S, Q), pRec (S', Q')] (.tup [pRec (Bt.recJoin rs h S Q S' Q').1, .bool (Bt.recJoin rs h S Q S' Q').2]) true := by
  rw [Bt.recJoin_model]
  have hO : FnOk EW.P 68 [.agg [.lst 141 (rs.map pCode), .int .i64 h], .agg [.lst 104 (S.map pSl), .lst 3 (Q.map fun x => [.int .i64 x])]] (.bool (Bt.replay rs h S Q).isSome) true := sRecordOk_ok (rs := rs) (h := h) (S := S) (Q := Q) hn (by omega) (by omega)
  have hWl : (Bt.joinW S S').length ≤ S.length + S'.length := by
    rcases List.eq_nil_or_concat S with rfl | ⟨S, a, rfl⟩
    · simp [Bt.joinW_nil]
    · rw [List.concat_eq_append]
      cases S' with
      | nil => simp [Bt.joinW_none]
      | cons b T =>
        cases hs : (Bt.turnSame a b && (decide (0 < b.many) && decide (b.many ≤ 300)))
        · rw [Bt.joinW_other hs]; simp; omega
        · rw [Bt.joinW_same hs]; simp
  have hJ : FnOk EW.P 68 [.agg [.lst 141 (rs.map pCode), .int .i64 h], .agg [.lst 104 ((Bt.joinW S S').map pSl), .lst 3 ((Q ++ Q').map fun x => [.int .i64 x])]] (.bool (Bt.replay rs h (Bt.joinW S S') (Q ++ Q')).isSome) true := sRecordOk_ok (rs := rs) (h := h) (S := Bt.joinW S S') (Q := Q ++ Q') hn (by omega) (by rw [List.length_append]; omega)
  have hfS : ((S.map pSl).all fun r => r.all PV.leaf) = true := by simp [pSl, PV.leaf, pI]
  have hgS : ((S.map pSl).all fun r => r.all PV.flat) = true := by simp [pSl, PV.flat, pI]
  have hfQ : ((Q.map fun x => [PV.int .i64 x]).all fun r => r.all PV.leaf) = true := by simp [PV.leaf]
  have hgQ : ((Q.map fun x => [PV.int .i64 x]).all fun r => r.all PV.flat) = true := by simp [PV.flat]
  have hfQ' : ((Q'.map fun x => [PV.int .i64 x]).all fun r => r.all PV.leaf) = true := by simp [PV.leaf]
  have hgQ' : ((Q'.map fun x => [PV.int .i64 x]).all fun r => r.all PV.flat) = true := by simp [PV.flat]
  obtain ⟨J, hJe⟩ : ∃ J, Bt.joinW S S' = J := ⟨_, rfl⟩
  rw [hJe] at hJ hWl ⊢
  obtain ⟨zO, hzO⟩ : ∃ z, z = (Bt.replay rs h S Q).isSome := ⟨_, rfl⟩
  obtain ⟨zJ, hzJ⟩ : ∃ z, z = (Bt.replay rs h J (Q ++ Q')).isSome := ⟨_, rfl⟩
  rw [← hzO] at hO ⊢
  rw [← hzJ] at hJ ⊢
  clear hzO hzJ
  have lQ : (Q.map fun x => [PV.int .i64 x]).length = Q.length := by simp
  have lQ' : (Q'.map fun x => [PV.int .i64 x]).length = Q'.length := by simp
  have lS : (S.map pSl).length = S.length := by simp
  rw [List.map_append] at hJ
  have hres : ∀ (b : Bool), (pRec ((if b = true then ((J, Q ++ Q'), true) else (([], []), false)) : (List Bt.Sl × List Int) × Bool).1) = .agg [.lst 104 (if b = true then J.map pSl else []), .lst 3 (if b = true then (Q.map fun x => [PV.int .i64 x]) ++ (Q'.map fun x => [PV.int .i64 x]) else [])] := fun b => by
    cases b
    · rfl
    · simp only [if_true, ← List.map_append]; rfl
  have hres2 : ∀ (b : Bool), ((if b = true then ((J, Q ++ Q'), true) else (([], []), false)) : (List Bt.Sl × List Int) × Bool).2 = b := fun b => by cases b <;> rfl
  rw [hres, hres2]
  rw [show pProg rs h = .agg [.lst 141 (rs.map pCode), .int .i64 h] from rfl, show pRec (S, Q) = .agg [.lst 104 (S.map pSl), .lst 3 (Q.map fun x => [.int .i64 x])] from rfl, show pRec (S', Q') = .agg [.lst 104 (S'.map pSl), .lst 3 (Q'.map fun x => [.int .i64 x])] from rfl]
  generalize PV.lst 141 (rs.map pCode) = X0 at *
  generalize (Q.map fun x => [PV.int .i64 x]) = RQ at *
  generalize (Q'.map fun x => [PV.int .i64 x]) = RQ' at *
  show FnOk EW.P _ _ _ _
  refine fn_okS (E := EW) mixedW Try.func31 rfl (by kernel_rfl) _ Try.results31 _ Try.ntmps31 (by simp) (by kernel_rfl) (fun w0 => ?_)
  refine awpS_seq mixedW ?_
  repeat (first | (simp (maxSteps := 4000000) only [ew_tb, pI, tvs, simprocAttr]) | refine ftS (by kernel_rfl) ?_ | refine And.intro (by omega) ?_)
  refine awpS_seq mixedW ?_
  repeat (first | (simp (maxSteps := 4000000) only [ew_tb, hfS, hgS, hfQ, hgQ, hfQ', hgQ', lQ, lQ', lS, Bool.and_self, Bool.true_and, List.length_append, List.nil_append, pI, tvs, simprocAttr]) | refine ftS (by kernel_rfl) ?_ | refine And.intro (by omega) ?_)
  refine awpS_seqS ?_
  refine awpS_seq mixedW ?_
  repeat (first | (simp (maxSteps := 4000000) only [ew_tb, pI, tvs, simprocAttr]) | refine ftS (by kernel_rfl) ?_ | refine And.intro (by omega) ?_)
  refine awpS_block ?_
  refine awpS_loop (X := Nat × List Bt.Sl) (fun x => jT x.1) (fun x => jB X0 (.lst 104 (S.map pSl)) (.lst 3 RQ) (.lst 3 RQ') h (S'.map pSl) (x.2.map pSl) (RQ ++ RQ')) (jI S S' J) (fun x => S'.length - x.1) 100 (0, S) ⟨Nat.zero_le _, Nat.le_refl _, hJe⟩ (by simp (maxSteps := 4000000) only [jT, jB, pI, tvs, simprocAttr]; try simp) (fun x H => ?_)
  obtain ⟨k, o⟩ := x
  have hol : o.length ≤ S.length + k := H.2.1
  have lo : (o.map pSl).length = o.length := by simp
  have lS' : (S'.map pSl).length = S'.length := by simp
  by_cases c1 : k < S'.length
  rotate_left
  · obtain ⟨i1, i2, i3⟩ := H
    simp only at i1 i2 i3
    have d1 : decide ((k : Int) < (S'.length : Int)) = false := by rw [decide_eq_false_iff_not]; omega
    rw [List.drop_of_length_le (by omega)] at i3
    have : o = J := by
      split at i3
      · rwa [Bt.joinW_none] at i3
      · rwa [List.append_nil] at i3
    subst this
    simp only [mkS, jT, jB]
    generalize o.map pSl = RO at *
    generalize PV.lst 104 (S.map pSl) = X1 at *
    generalize S'.map pSl = R at *
    refine awpS_seq mixedW ?_
    repeat (first | (simp (maxSteps := 4000000) only [ew_tb, d1, lS', pI, tvs, simprocAttr]) | refine ftS (by kernel_rfl) ?_ | refine And.intro (by omega) ?_)
    refine awpS_of mixedW ?_
    cases zO
    · simp only [Bool.false_and, Bool.false_eq_true, if_false]
      repeat (first | (refine aops_fnX rfl ?_ ?_; focus (simp (maxSteps := 4000000) only [sks, ew_tb, pI, tvs, simprocAttr]; done)) | (simp (maxSteps := 4000000) only [ew_tb, pI, tvs, simprocAttr]) | refine ftS (by kernel_rfl) ?_ | refine And.intro (by omega) ?_)
      refine aops_fn (hO) (hidB rfl) rfl ?_
      repeat (first | (refine aops_fnX rfl ?_ ?_; focus (simp (maxSteps := 4000000) only [sks, ew_tb, pI, tvs, simprocAttr]; done)) | (simp (maxSteps := 4000000) only [ew_tb, pI, tvs, simprocAttr]) | refine ftS (by kernel_rfl) ?_ | refine And.intro (by omega) ?_)
      refine ⟨.inr rfl, _, Gh.refl, ?_⟩
      repeat (first | (refine aops_fnX rfl ?_ ?_; focus (simp (maxSteps := 4000000) only [sks, ew_tb, pI, tvs, simprocAttr]; done)) | (simp (maxSteps := 4000000) only [ew_tb, pI, tvs, simprocAttr]) | refine ftS (by kernel_rfl) ?_ | refine And.intro (by omega) ?_)
      all_goals (first | rfl | trivial | skip)
    · simp only [Bool.true_and]
      cases zJ
      all_goals
        simp only [Bool.false_eq_true, if_false, if_true]
        repeat (first | (refine aops_fnX rfl ?_ ?_; focus (simp (maxSteps := 4000000) only [sks, ew_tb, pI, tvs, simprocAttr]; done)) | (simp (maxSteps := 4000000) only [ew_tb, pI, tvs, simprocAttr]) | refine ftS (by kernel_rfl) ?_ | refine And.intro (by omega) ?_)
        refine aops_fn (hO) (hidB rfl) rfl ?_
        repeat (first | (refine aops_fnX rfl ?_ ?_; focus (simp (maxSteps := 4000000) only [sks, ew_tb, pI, tvs, simprocAttr]; done)) | (simp (maxSteps := 4000000) only [ew_tb, pI, tvs, simprocAttr]) | refine ftS (by kernel_rfl) ?_ | refine And.intro (by omega) ?_)
        refine aops_fnG (hJ) (hidB rfl) rfl rfl (by simp (maxSteps := 4000000) only [ew_tb, pI, tvs, simprocAttr]) ?_
        repeat (first | (refine aops_fnX rfl ?_ ?_; focus (simp (maxSteps := 4000000) only [sks, ew_tb, pI, tvs, simprocAttr]; done)) | (simp (maxSteps := 4000000) only [ew_tb, pI, tvs, simprocAttr]) | refine ftS (by kernel_rfl) ?_ | refine And.intro (by omega) ?_)
        refine ⟨.inr rfl, _, Gh.refl, ?_⟩
        repeat (first | (refine aops_fnX rfl ?_ ?_; focus (simp (maxSteps := 4000000) only [sks, ew_tb, pI, tvs, simprocAttr]; done)) | (simp (maxSteps := 4000000) only [ew_tb, pI, tvs, simprocAttr]) | refine ftS (by kernel_rfl) ?_ | refine And.intro (by omega) ?_)
        all_goals (first | rfl | trivial | skip)
  have d1 : decide ((k : Int) < (S'.length : Int)) = true := by rw [decide_eq_true_eq]; omega
  have z1 : ((k : Int) < 9223372036854775807) := by omega
  have w1 : addW .i64 (k : Int) 1 = ((k + 1 : Nat) : Int) := by rw [addW_in (show intB .i64 ((k : Int) + 1) from ⟨by omega, by omega⟩)]; omega
  obtain ⟨⟨bw, bk, bm⟩, hb⟩ : ∃ b, S'[k] = b := ⟨_, rfl⟩
  have e5 : (S'.map pSl)[k]? = some [.int .i64 bw, .int .i64 bk, .int .i64 bm] := by rw [List.getElem?_map, List.getElem?_eq_getElem c1, hb]; rfl
  have hdr : S'.drop k = ⟨bw, bk, bm⟩ :: S'.drop (k + 1) := by rw [List.drop_eq_getElem_cons c1, hb]
  refine awpS_seq mixedW ?_
  simp only [mkS, jT, jB]
  repeat (first | (simp (maxSteps := 4000000) only [ew_tb, d1, lS', pI, tvs, simprocAttr]) | refine ftS (by kernel_rfl) ?_ | refine And.intro (by omega) ?_)
  refine awpS_seqS ?_
  refine awpS_block ?_
  refine awpS_seq mixedW ?_
  repeat (first | (simp (maxSteps := 4000000) only [ew_tb, e5, lS', pI, tvs, simprocAttr]) | refine ftS (by kernel_rfl) ?_ | refine And.intro (by omega) ?_)
  refine awpS_cut mixedW (jU k o.length) (jC X0 (.lst 104 (S.map pSl)) (.lst 3 RQ) (.lst 3 RQ') h (S'.map pSl) (o.map pSl) (RQ ++ RQ') bw bk bm) 100 ?_ ?_
  · repeat (first | (simp (maxSteps := 4000000) only [cqs, ew_tb, lo, pI, tvs, simprocAttr]) | refine ftS (by kernel_rfl) ?_ | refine And.intro (by omega) ?_)
    unfold LessC
    simp (maxSteps := 4000000) only [jU, jC, pI, tvs, simprocAttr]
    all_goals (try simp)
  by_cases ck : k = 0
  rotate_left
  · refine rj_later ck lo (by omega) (by omega) Try.func31 rfl rfl rfl rfl (fun S1 m1 hl => ?_)
    refine awpS_less hl ?_
    refine awpS_of mixedW ?_
    simp only [mkS, jT, jB]
    repeat (first | (simp (maxSteps := 4000000) only [ew_tb, w1, pI, tvs, simprocAttr]) | refine ftS (by kernel_rfl) ?_ | refine And.intro (by omega) ?_)
    refine ⟨(k + 1, o ++ [⟨bw, bk, bm⟩]), jI_yes c1 hb H (by rw [if_neg ck]; simp), by simp only; omega, ?_⟩
    simp (maxSteps := 4000000) only [jT, jB, pI, tvs, simprocAttr]
    simp [pSl, pI]
  rcases List.eq_nil_or_concat o with rfl | ⟨o, a, rfl⟩
  · refine rj_nil ck rfl rfl (by omega) (by omega) Try.func31 rfl rfl rfl rfl (fun S1 m1 hl => ?_)
    refine awpS_less hl ?_
    refine awpS_of mixedW ?_
    simp only [mkS, jT, jB]
    repeat (first | (simp (maxSteps := 4000000) only [ew_tb, w1, pI, tvs, simprocAttr]) | refine ftS (by kernel_rfl) ?_ | refine And.intro (by omega) ?_)
    refine ⟨(k + 1, [] ++ [⟨bw, bk, bm⟩]), jI_yes c1 hb H (by rw [if_pos ck, Bt.joinW_nil, ck]; simp), by simp only; omega, ?_⟩
    simp (maxSteps := 4000000) only [jT, jB, pI, tvs, simprocAttr]
    simp [pSl, pI]
  rw [List.concat_eq_append] at *
  obtain ⟨aw, ak, am⟩ := a
  have er : ((o ++ [(⟨aw, ak, am⟩ : Bt.Sl)]).map pSl)[o.length]? = some [.int .i64 aw, .int .i64 ak, .int .i64 am] := by simp [pSl, pI]
  have hq0 : ∀ {X : List Bt.Sl}, Bt.joinW (o ++ [(⟨aw, ak, am⟩ : Bt.Sl)]) (⟨bw, bk, bm⟩ :: S'.drop 1) = X → (if k = 0 then Bt.joinW (o ++ [(⟨aw, ak, am⟩ : Bt.Sl)]) (⟨bw, bk, bm⟩ :: S'.drop 1) else (o ++ [(⟨aw, ak, am⟩ : Bt.Sl)]) ++ ⟨bw, bk, bm⟩ :: S'.drop (k + 1)) = X := fun e => by rw [if_pos ck]; exact e
  have hlo : (o ++ [(⟨aw, ak, am⟩ : Bt.Sl)]).length = o.length + 1 := by simp
  have e3' : decide (bm > 0) = decide (0 < bm) := rfl
  cases e1 : aw == bw
  · refine rj_who ck hlo er e1 lo (by omega) (by omega) Try.func31 rfl rfl rfl rfl (fun S1 m1 hl => ?_)
    refine awpS_less hl ?_
    refine awpS_of mixedW ?_
    simp only [mkS, jT, jB]
    repeat (first | (simp (maxSteps := 4000000) only [ew_tb, w1, pI, tvs, simprocAttr]) | refine ftS (by kernel_rfl) ?_ | refine And.intro (by omega) ?_)
    refine ⟨(k + 1, (o ++ [⟨aw, ak, am⟩]) ++ [⟨bw, bk, bm⟩]), jI_yes c1 hb H (by rw [hq0 (Bt.joinW_other (by simp only [Bt.turnSame, e1, Bool.false_and]))]; rw [ck]; simp), by simp only; omega, ?_⟩
    simp (maxSteps := 4000000) only [jT, jB, pI, tvs, simprocAttr]
    simp [pSl, pI]
  cases e2 : ak == bk
  · refine rj_kind ck hlo er e1 e2 lo (by omega) (by omega) Try.func31 rfl rfl rfl rfl (fun S1 m1 hl => ?_)
    refine awpS_less hl ?_
    refine awpS_of mixedW ?_
    simp only [mkS, jT, jB]
    repeat (first | (simp (maxSteps := 4000000) only [ew_tb, w1, pI, tvs, simprocAttr]) | refine ftS (by kernel_rfl) ?_ | refine And.intro (by omega) ?_)
    refine ⟨(k + 1, (o ++ [⟨aw, ak, am⟩]) ++ [⟨bw, bk, bm⟩]), jI_yes c1 hb H (by rw [hq0 (Bt.joinW_other (by simp only [Bt.turnSame, e1, e2, Bool.true_and, Bool.false_and]))]; rw [ck]; simp), by simp only; omega, ?_⟩
    simp (maxSteps := 4000000) only [jT, jB, pI, tvs, simprocAttr]
    simp [pSl, pI]
  cases e3 : decide (bm > 0)
  · refine rj_low ck hlo er e1 e2 e3 lo (by omega) (by omega) Try.func31 rfl rfl rfl rfl (fun S1 m1 hl => ?_)
    refine awpS_less hl ?_
    refine awpS_of mixedW ?_
    simp only [mkS, jT, jB]
    repeat (first | (simp (maxSteps := 4000000) only [ew_tb, w1, pI, tvs, simprocAttr]) | refine ftS (by kernel_rfl) ?_ | refine And.intro (by omega) ?_)
    refine ⟨(k + 1, (o ++ [⟨aw, ak, am⟩]) ++ [⟨bw, bk, bm⟩]), jI_yes c1 hb H (by rw [hq0 (Bt.joinW_other (by rw [e3'] at e3; simp only [Bt.turnSame, e1, e2, e3, Bool.true_and, Bool.false_and]))]; rw [ck]; simp), by simp only; omega, ?_⟩
    simp (maxSteps := 4000000) only [jT, jB, pI, tvs, simprocAttr]
    simp [pSl, pI]
  cases e4 : decide (bm ≤ 300)
  · refine rj_high ck hlo er e1 e2 e3 e4 lo (by omega) (by omega) Try.func31 rfl rfl rfl rfl (fun S1 m1 hl => ?_)
    refine awpS_less hl ?_
    refine awpS_of mixedW ?_
    simp only [mkS, jT, jB]
    repeat (first | (simp (maxSteps := 4000000) only [ew_tb, w1, pI, tvs, simprocAttr]) | refine ftS (by kernel_rfl) ?_ | refine And.intro (by omega) ?_)
    refine ⟨(k + 1, (o ++ [⟨aw, ak, am⟩]) ++ [⟨bw, bk, bm⟩]), jI_yes c1 hb H (by rw [hq0 (Bt.joinW_other (by rw [e3'] at e3; simp only [Bt.turnSame, e1, e2, e3, e4, Bool.true_and, Bool.and_false]))]; rw [ck]; simp), by simp only; omega, ?_⟩
    simp (maxSteps := 4000000) only [jT, jB, pI, tvs, simprocAttr]
    simp [pSl, pI]
  refine rj_one ck hlo er e1 e2 e3 e4 lo (by omega) (by omega) Try.func31 rfl rfl rfl rfl (fun S1 m1 hl => ?_)
  refine awpS_less hl ?_
  refine awpS_of mixedW ?_
  simp only [mkS, jT, jB]
  repeat (first | (simp (maxSteps := 4000000) only [ew_tb, w1, pI, tvs, simprocAttr]) | refine ftS (by kernel_rfl) ?_ | refine And.intro (by omega) ?_)
  refine ⟨(k + 1, o ++ [⟨aw, ak, addW .i64 am bm⟩]), ?_, by simp only; omega, ?_⟩
  · obtain ⟨i1, i2, i3⟩ := H
    simp only at i1 i2 i3
    rw [e3'] at e3
    rw [if_pos ck, hdr, Bt.joinW_same (by simp only [Bt.turnSame, e1, e2, e3, e4, Bool.and_self])] at i3
    refine ⟨by simp only; omega, by simp only [List.length_append, List.length_singleton] at i2 ⊢; omega, ?_⟩
    simp only
    rw [if_neg (by omega)]
    exact i3
  · simp (maxSteps := 4000000) only [jT, jB, pI, tvs, simprocAttr]
    simp [pSl, pI]
end Av
end Go.Proofs.Ytbkbppllcjcmhaa
