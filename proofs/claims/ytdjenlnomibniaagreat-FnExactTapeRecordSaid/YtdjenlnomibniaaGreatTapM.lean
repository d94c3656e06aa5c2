/-
  Chapter 5: whether bytes are a tape, the recording of a tape, and a tape that is mended, in both packages.
-/
import Derived.Test.YtdjenlnomibniaaGreatTapI
import Derived.Test.YtdjenlnomibniaaGreatTapS
import Derived.Test.YtdjenlnomibniaaGreatRdI
import Derived.Test.YtdjenlnomibniaaGreatRdS
import Derived.Test.YtdjenlnomibniaaGreatIRec
import Derived.Test.YtdjenlnomibniaaGreatSRec
set_option linter.unusedSimpArgs false
set_option linter.unusedVariables false
namespace Go.Proofs.YtdjenlnomibniaaGreat
open Go.RowKit
namespace Bt
theorem rec_few (rs : List C4) (h : Int) (l : List Ch) : (recOf rs h l).1.length ≤ l.length ∧ (recOf rs h l).2.length ≤ l.length := by
  unfold recOf
  split
  · have h1 := slices_ok l l.length (Nat.le_refl _)
    rw [List.take_length] at h1
    exact ⟨h1.1, answers_len rs h l l.length⟩
  · simp
/-- the tape of the recording of some choices -/
def tapeBy (rs : List C4) (h : Int) (l : List Ch) : List Int := tapeOf rs h (recOf rs h l).1 (recOf rs h l).2
end Bt
namespace Av
/-- bytes are a tape -/
def tapeOkM (rs : List Bt.C4) (h : Int) (s : ByteArray) : Bool := Bt.runOk rs h (Bt.readTape rs h (byteAt s) s.size) && ((Bt.bytes (Bt.tapeBy rs h (Bt.readTape rs h (byteAt s) s.size))).toList == s.toList)
def tapeRecM (rs : List Bt.C4) (h : Int) (s : ByteArray) : List Bt.Sl × List Int := if tapeOkM rs h s then Bt.recOf rs h (Bt.readTape rs h (byteAt s) s.size) else ([], [])
def mendM (rs : List Bt.C4) (h : Int) (s : ByteArray) : List Int := if Bt.runOk rs h (Bt.readTape rs h (byteAt s) s.size) then Bt.tapeBy rs h (Bt.readTape rs h (byteAt s) s.size) else []
section
variable {rs : List Bt.C4} {h : Int} {s : ByteArray}
set_option maxHeartbeats 8000000 in
theorem itapeRecord_ok (hn : rs.length ≤ 1048576) (hs : s.size ≤ 1048576) : FnOk E.P 18 [pProg rs h, .str s] (.tup [pRec (tapeRecM rs h s), .bool (tapeOkM rs h s)]) true := by
  have hL := Bt.readTape_le rs h (byteAt s) s.size
  have hR := (ireadTape_ok (rs := rs) (h := h) (s := s) hn hs).read
  unfold tapeRecM tapeOkM Bt.tapeBy
  generalize Bt.readTape rs h (byteAt s) s.size = l at *
  have hO := iRecordOf_ok (rs := rs) (h := h) (l := l) hn (by omega)
  have hf := Bt.rec_few rs h l
  generalize Bt.recOf rs h l = r at *
  obtain ⟨S, Q⟩ := r
  simp only at hf
  have hT := itapeOf_ok (rs := rs) (h := h) (S := S) (Q := Q) hn (by omega) (by omega)
  simp only
  generalize Bt.tapeOf rs h S Q = tp at *
  cases hr : Bt.runOk rs h l
  · rw [hr] at hO
    simp only [pRec] at hO
    simp only [Bool.false_and, Bool.false_eq_true, if_false]
    refine fn_ok mixed Tryz.func18 rfl (by kernel_rfl) _ Tryz.results18 _ Tryz.ntmps18 (by simp) (by kernel_rfl) ?_
    simp (maxSteps := 4000000) only [pRec, pProg, pChs, pInts, pI, tvl, simprocAttr]
    repeat (first | refine ftS (by kernel_rfl) ?_ | refine And.intro (by omega) ?_)
    refine aops_callF (hR) (hidB rfl) rfl ?_
    simp (maxSteps := 4000000) only [pRec, pProg, pChs, pInts, pI, tvl, simprocAttr]
    repeat (first | refine ftS (by kernel_rfl) ?_ | refine And.intro (by omega) ?_)
    refine aops_fn (hO) (hidB rfl) rfl ?_
    repeat (first | (refine aops_fnX rfl ?_ ?_; focus (simp (maxSteps := 4000000) only [sks, List.map_nil, pRec, pProg, pChs, pInts, pI, tvl, simprocAttr]; done)) | (simp (maxSteps := 4000000) only [List.map_nil, pRec, pProg, pChs, pInts, pI, tvl, simprocAttr]) | refine ftS (by kernel_rfl) ?_ | refine And.intro (by omega) ?_)
    all_goals (first | rfl | trivial | skip)
  · rw [hr] at hO
    simp only [pRec] at hO
    simp only [Bool.true_and]
    cases he : (Bt.bytes tp).toList == s.toList
    all_goals
      simp only [Bool.false_eq_true, if_false, if_true]
      refine fn_ok mixed Tryz.func18 rfl (by kernel_rfl) _ Tryz.results18 _ Tryz.ntmps18 (by simp) (by kernel_rfl) ?_
      simp (maxSteps := 4000000) only [pRec, pProg, pChs, pInts, pI, tvl, simprocAttr]
      repeat (first | refine ftS (by kernel_rfl) ?_ | refine And.intro (by omega) ?_)
      refine aops_callF (hR) (hidB rfl) rfl ?_
      simp (maxSteps := 4000000) only [pRec, pProg, pChs, pInts, pI, tvl, simprocAttr]
      repeat (first | refine ftS (by kernel_rfl) ?_ | refine And.intro (by omega) ?_)
      refine aops_fn (hO) (hidB rfl) rfl ?_
      simp (maxSteps := 4000000) only [pRec, pProg, pChs, pInts, pI, tvl, simprocAttr]
      repeat (first | refine ftS (by kernel_rfl) ?_ | refine And.intro (by omega) ?_)
      refine aops_fnG (hT) (hidB rfl) rfl rfl (by simp (maxSteps := 4000000) only [pRec, pProg, pChs, pInts, pI, tvl, simprocAttr]) ?_
      simp (maxSteps := 4000000) only [he, Bool.not_false, Bool.not_true, List.map_nil, pRec, pProg, pChs, pInts, pI, tvl, simprocAttr]
      repeat (first | refine ftS (by kernel_rfl) ?_ | refine And.intro (by omega) ?_)
      all_goals (first | rfl | trivial | skip)
set_option maxHeartbeats 8000000 in
theorem stapeOk_ok (hn : rs.length ≤ 1048576) (hs : s.size ≤ 1048576) : FnOk E.P 50 [pProg rs h, .str s] (.bool (tapeOkM rs h s)) true := by
  have hL := Bt.readTape_le rs h (byteAt s) s.size
  have hR := (sreadTape_ok (rs := rs) (h := h) (s := s) hn hs).read
  unfold tapeOkM Bt.tapeBy
  generalize Bt.readTape rs h (byteAt s) s.size = l at *
  have hO := (sRecordOf_ok (rs := rs) (h := h) (l := l) hn (by omega)).read
  have hf := Bt.rec_few rs h l
  generalize Bt.recOf rs h l = r at *
  obtain ⟨S, Q⟩ := r
  simp only at hf
  have hT := stapeOf_ok (rs := rs) (h := h) (S := S) (Q := Q) hn (by omega) (by omega)
  simp only
  generalize Bt.tapeOf rs h S Q = tp at *
  cases hr : Bt.runOk rs h l
  · rw [hr] at hO
    simp only [pRec] at hO
    simp only [Bool.false_and]
    refine fn_ok mixed Tryz.func50 rfl (by kernel_rfl) _ Tryz.results50 _ Tryz.ntmps50 (by simp) (by kernel_rfl) ?_
    simp (maxSteps := 4000000) only [pRec, pProg, pChs, pInts, pI, tvl, simprocAttr]
    repeat (first | refine ftS (by kernel_rfl) ?_ | refine And.intro (by omega) ?_)
    refine aops_callF (hR) (hidB rfl) rfl ?_
    simp (maxSteps := 4000000) only [pRec, pProg, pChs, pInts, pI, tvl, simprocAttr]
    repeat (first | refine ftS (by kernel_rfl) ?_ | refine And.intro (by omega) ?_)
    refine aops_callF (hO) (hidB rfl) rfl ?_
    repeat (first | (refine aops_fnX rfl ?_ ?_; focus (simp (maxSteps := 4000000) only [sks, pRec, pProg, pChs, pInts, pI, tvl, simprocAttr]; done)) | (simp (maxSteps := 4000000) only [pRec, pProg, pChs, pInts, pI, tvl, simprocAttr]) | refine ftS (by kernel_rfl) ?_ | refine And.intro (by omega) ?_)
    all_goals (first | rfl | trivial | skip)
  · rw [hr] at hO
    simp only [pRec] at hO
    simp only [Bool.true_and]
    generalize he : ((Bt.bytes tp).toList == s.toList) = b
    refine fn_ok mixed Tryz.func50 rfl (by kernel_rfl) _ Tryz.results50 _ Tryz.ntmps50 (by simp) (by kernel_rfl) ?_
    simp (maxSteps := 4000000) only [pRec, pProg, pChs, pInts, pI, tvl, simprocAttr]
    repeat (first | refine ftS (by kernel_rfl) ?_ | refine And.intro (by omega) ?_)
    refine aops_callF (hR) (hidB rfl) rfl ?_
    simp (maxSteps := 4000000) only [pRec, pProg, pChs, pInts, pI, tvl, simprocAttr]
    repeat (first | refine ftS (by kernel_rfl) ?_ | refine And.intro (by omega) ?_)
    refine aops_callF (hO) (hidB rfl) rfl ?_
    simp (maxSteps := 4000000) only [pRec, pProg, pChs, pInts, pI, tvl, simprocAttr]
    repeat (first | refine ftS (by kernel_rfl) ?_ | refine And.intro (by omega) ?_)
    refine aops_fnG (hT) (hidB rfl) rfl rfl (by simp (maxSteps := 4000000) only [pRec, pProg, pChs, pInts, pI, tvl, simprocAttr]) ?_
    simp (maxSteps := 4000000) only [he, pRec, pProg, pChs, pInts, pI, tvl, simprocAttr]
    repeat (first | refine ftS (by kernel_rfl) ?_ | refine And.intro (by omega) ?_)
    all_goals (first | rfl | trivial | skip)
set_option maxHeartbeats 8000000 in
theorem stapeRecord_ok (hn : rs.length ≤ 1048576) (hs : s.size ≤ 1048576) : FnOk E.P 17 [pProg rs h, .str s] (.tup [pRec (tapeRecM rs h s), .bool (tapeOkM rs h s)]) true := by
  have hK := stapeOk_ok (rs := rs) (h := h) (s := s) hn hs
  have hL := Bt.readTape_le rs h (byteAt s) s.size
  have hR := (sreadTape_ok (rs := rs) (h := h) (s := s) hn hs).read
  have hok : tapeOkM rs h s = true → Bt.runOk rs h (Bt.readTape rs h (byteAt s) s.size) = true := fun e => by
    unfold tapeOkM at e
    rw [Bool.and_eq_true] at e
    exact e.1
  unfold tapeRecM
  generalize tapeOkM rs h s = b at *
  cases b
  · simp only [Bool.false_eq_true, if_false]
    refine fn_ok mixed Tryz.func17 rfl (by kernel_rfl) _ Tryz.results17 _ Tryz.ntmps17 (by simp) (by kernel_rfl) ?_
    simp (maxSteps := 4000000) only [pRec, pProg, pChs, pInts, pI, tvl, simprocAttr]
    repeat (first | refine ftS (by kernel_rfl) ?_ | refine And.intro (by omega) ?_)
    refine aops_fn (hK) (hidB rfl) rfl ?_
    simp (maxSteps := 4000000) only [List.map_nil, pRec, pProg, pChs, pInts, pI, tvl, simprocAttr]
    repeat (first | refine ftS (by kernel_rfl) ?_ | refine And.intro (by omega) ?_)
    all_goals (first | rfl | trivial | skip)
  · have hO := sRecordOf_ok (rs := rs) (h := h) (l := Bt.readTape rs h (byteAt s) s.size) hn (by omega)
    rw [hok rfl] at hO
    simp only [pRec] at hO
    simp only [if_true]
    refine fn_ok mixed Tryz.func17 rfl (by kernel_rfl) _ Tryz.results17 _ Tryz.ntmps17 (by simp) (by kernel_rfl) ?_
    simp (maxSteps := 4000000) only [pRec, pProg, pChs, pInts, pI, tvl, simprocAttr]
    repeat (first | refine ftS (by kernel_rfl) ?_ | refine And.intro (by omega) ?_)
    refine aops_fn (hK) (hidB rfl) rfl ?_
    simp (maxSteps := 4000000) only [List.map_nil, pRec, pProg, pChs, pInts, pI, tvl, simprocAttr]
    repeat (first | refine ftS (by kernel_rfl) ?_ | refine And.intro (by omega) ?_)
    refine aops_callF (hR) (hidB rfl) rfl ?_
    simp (maxSteps := 4000000) only [pRec, pProg, pChs, pInts, pI, tvl, simprocAttr]
    repeat (first | refine ftS (by kernel_rfl) ?_ | refine And.intro (by omega) ?_)
    refine aops_fn (hO) (hidB rfl) rfl ?_
    simp (maxSteps := 4000000) only [pRec, pProg, pChs, pInts, pI, tvl, simprocAttr]
    repeat (first | refine ftS (by kernel_rfl) ?_ | refine And.intro (by omega) ?_)
    all_goals (first | rfl | trivial | skip)
end
end Av
end Go.Proofs.YtdjenlnomibniaaGreat
