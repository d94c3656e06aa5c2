/-
  Chapter 5: what stands on a tape, told plainly.
  Chapter 5: what the program reads of a tape.
-/
import Derived.Test.YtdjenlnomibniaaGreatTake
import Derived.Test.YtdjenlnomibniaaGreatIRec
set_option linter.unusedSimpArgs false
set_option linter.unusedVariables false
namespace Go.Proofs.YtdjenlnomibniaaGreat
namespace Bt
theorem doM_isSome (rs : List C4) (h : Int) (m : Mc) (c : Ch) : (doM rs h m c).isSome = canDo rs h m c := by
  cases hc : canDo rs h m c with
  | false => rw [doM_no hc]; rfl
  | true =>
    unfold doM
    rw [if_pos hc]
    cases ht : thAt m c.who with
    | none =>
      unfold canDo at hc
      rw [ht] at hc
      simp at hc
    | some t =>
      simp only
      split
      · rfl
      · split
        · rfl
        · split <;> rfl
theorem takeNum_some {g : Nat → Nat} {len a v b : Nat} (e : takeNum g len a = some (v, b)) : a < b ∧ b ≤ len ∧ v ≤ 9223372036854775807 := by
  unfold takeNum at e
  split at e
  · rename_i hc
    simp only [Option.some.injEq, Prod.mk.injEq] at e
    have h1 := valTo_lt g a (conts g len a + 1)
    have h2 := pow_le9 (j := conts g len a + 1) (by omega)
    omega
  · cases e
theorem takeI_nat (g : Nat → Nat) (len a : Nat) : takeI g len (a : Int) = takeNum g len a := by
  unfold takeI
  rw [if_neg (by omega), Int.toNat_natCast]
/-- the slice that stands at a place -/
def takeSl (g : Nat → Nat) (len a : Nat) : Option (Nat × Nat × Nat) := match takeNum g len a with
  | none => none
  | some (t, b) => match takeNum g len b with
    | none => none
    | some (n, c) => some (t, n, c)
theorem takeSl_some {g : Nat → Nat} {len a t n c : Nat} (e : takeSl g len a = some (t, n, c)) : a < c ∧ c ≤ len ∧ t ≤ 9223372036854775807 ∧ n ≤ 9223372036854775807 := by
  unfold takeSl at e
  split at e
  · cases e
  · rename_i t' b h1
    split at e
    · cases e
    · rename_i n' c' h2
      simp only [Option.some.injEq, Prod.mk.injEq] at e
      obtain ⟨rfl, rfl, rfl⟩ := e
      have := takeNum_some h1
      have := takeNum_some h2
      omega
/-- the next choice of a slice -/
def takeCh (rs : List C4) (h : Int) (g : Nat → Nat) (len : Nat) (m : Mc) (who kind : Int) (a : Nat) : Option (Ch × Nat) :=
  if asks rs h m ⟨who, kind, 0⟩ then (match takeNum g len a with
    | none => none
    | some (v, b) => if canDo rs h m ⟨who, kind, v⟩ then some (⟨who, kind, v⟩, b) else none)
  else if canDo rs h m ⟨who, kind, 0⟩ then some (⟨who, kind, 0⟩, a) else none
theorem takeCh_some {rs : List C4} {h : Int} {g : Nat → Nat} {len : Nat} {m : Mc} {who kind : Int} {a b : Nat} {c : Ch} (e : takeCh rs h g len m who kind a = some (c, b)) (ha : a ≤ len) : a ≤ b ∧ b ≤ len ∧ canDo rs h m c = true := by
  unfold takeCh at e
  split at e
  · split at e
    · cases e
    · rename_i v b' h1
      split at e
      · rename_i h2
        simp only [Option.some.injEq, Prod.mk.injEq] at e
        obtain ⟨rfl, rfl⟩ := e
        have := takeNum_some h1
        exact ⟨by omega, by omega, h2⟩
      · cases e
  · split at e
    · rename_i h2
      simp only [Option.some.injEq, Prod.mk.injEq] at e
      obtain ⟨rfl, rfl⟩ := e
      exact ⟨Nat.le_refl _, ha, h2⟩
    · cases e
/-- the choices of a slice that stand there -/
def readSl (rs : List C4) (h : Int) (g : Nat → Nat) (len : Nat) (who kind : Int) : Nat → Nat → Mc → List Ch → (Nat × Mc × List Ch) × Bool
  | 0, a, m, o => ((a, m, o), true)
  | k + 1, a, m, o => match takeCh rs h g len m who kind a with
    | none => ((a, m, o), false)
    | some (c, b) => if o.length < 300 then readSl rs h g len who kind k b ((doM rs h m c).getD mcNil) (o ++ [c]) else ((a, m, o), false)
/-- what stands from a place on -/
def readTo (rs : List C4) (h : Int) (g : Nat → Nat) (len : Nat) : Nat → Nat → Mc → List Ch → List Ch
  | 0, _, _, o => o
  | f + 1, a, m, o => match takeSl g len a with
    | none => o
    | some (t, n, b) => match readSl rs h g len ((t / 2 : Nat) : Int) ((t % 2 : Nat) : Int) n b m o with
      | (x, false) => x.2.2
      | (x, true) => readTo rs h g len f x.1 x.2.1 x.2.2
/-- how it goes on within a slice -/
def readIn (rs : List C4) (h : Int) (g : Nat → Nat) (len : Nat) (who kind : Int) (f k a : Nat) (m : Mc) (o : List Ch) : List Ch := match readSl rs h g len who kind k a m o with
  | (x, false) => x.2.2
  | (x, true) => readTo rs h g len f x.1 x.2.1 x.2.2
theorem readTo_none {rs : List C4} {h : Int} {g : Nat → Nat} {len f a : Nat} {m : Mc} {o : List Ch} (e : takeSl g len a = none) : readTo rs h g len f a m o = o := by
  cases f with
  | zero => rfl
  | succ f => rw [readTo, e]
theorem readTo_some {rs : List C4} {h : Int} {g : Nat → Nat} {len f a t n b : Nat} {m : Mc} {o : List Ch} (e : takeSl g len a = some (t, n, b)) : readTo rs h g len (f + 1) a m o = readIn rs h g len ((t / 2 : Nat) : Int) ((t % 2 : Nat) : Int) f n b m o := by
  rw [readTo, e]
  rfl
theorem readIn_zero {rs : List C4} {h : Int} {g : Nat → Nat} {len f a : Nat} {who kind : Int} {m : Mc} {o : List Ch} : readIn rs h g len who kind f 0 a m o = readTo rs h g len f a m o := rfl
theorem readIn_none {rs : List C4} {h : Int} {g : Nat → Nat} {len f k a : Nat} {who kind : Int} {m : Mc} {o : List Ch} (e : takeCh rs h g len m who kind a = none) : readIn rs h g len who kind f (k + 1) a m o = o := by
  rw [readIn, readSl, e]
theorem readIn_full {rs : List C4} {h : Int} {g : Nat → Nat} {len f k a b : Nat} {who kind : Int} {m : Mc} {o : List Ch} {c : Ch} (e : takeCh rs h g len m who kind a = some (c, b)) (ho : ¬ o.length < 300) : readIn rs h g len who kind f (k + 1) a m o = o := by
  rw [readIn, readSl, e]
  simp only
  rw [if_neg ho]
theorem readIn_some {rs : List C4} {h : Int} {g : Nat → Nat} {len f k a b : Nat} {who kind : Int} {m : Mc} {o : List Ch} {c : Ch} (e : takeCh rs h g len m who kind a = some (c, b)) (ho : o.length < 300) : readIn rs h g len who kind f (k + 1) a m o = readIn rs h g len who kind f k b ((doM rs h m c).getD mcNil) (o ++ [c]) := by
  rw [readIn, readSl, e]
  simp only
  rw [if_pos ho]
  rfl
theorem readSl_le {rs : List C4} {h : Int} {g : Nat → Nat} {len : Nat} {who kind : Int} : ∀ (k a : Nat) (m : Mc) (o : List Ch), o.length ≤ 300 → (readSl rs h g len who kind k a m o).1.2.2.length ≤ 300
  | 0, a, m, o, ho => ho
  | k + 1, a, m, o, ho => by
    unfold readSl
    split
    · exact ho
    · split
      · exact readSl_le k _ _ _ (by simp; omega)
      · exact ho
theorem readTo_le {rs : List C4} {h : Int} {g : Nat → Nat} {len : Nat} : ∀ (f a : Nat) (m : Mc) (o : List Ch), o.length ≤ 300 → (readTo rs h g len f a m o).length ≤ 300
  | 0, a, m, o, ho => ho
  | f + 1, a, m, o, ho => by
    unfold readTo
    split
    · exact ho
    · rename_i t n b _
      have := readSl_le (rs := rs) (h := h) (g := g) (len := len) (who := ((t / 2 : Nat) : Int)) (kind := ((t % 2 : Nat) : Int)) n b m o ho
      split
      · rename_i x hx
        rw [hx] at this
        exact this
      · rename_i x hx
        rw [hx] at this
        exact readTo_le f _ _ _ this
/-- what ReadTape hands back -/
def readTape (rs : List C4) (h : Int) (g : Nat → Nat) (len : Nat) : List Ch := if progOk rs h then readTo rs h g len (len + 1) 0 mcNew [] else []
theorem readTape_le (rs : List C4) (h : Int) (g : Nat → Nat) (len : Nat) : (readTape rs h g len).length ≤ 300 := by
  unfold readTape
  split
  · exact readTo_le _ _ _ _ (by simp)
  · simp
end Bt
end Go.Proofs.YtdjenlnomibniaaGreat

set_option linter.unusedSimpArgs false
set_option linter.unusedVariables false
namespace Go.Proofs.YtdjenlnomibniaaGreat
open Go.RowKit
namespace Av
theorem itakeN_ok {s : ByteArray} (a : Nat) (hs : s.size ≤ 1048576) : FnOk E.P 126 [.str s, pI a]
    (.tup [pI (((Bt.takeNum (byteAt s) s.size a).getD (0, 0)).1 : Nat), pI (((Bt.takeNum (byteAt s) s.size a).getD (0, 0)).2 : Nat), .bool (Bt.takeNum (byteAt s) s.size a).isSome]) true := by
  have h := itake_ok (s := s) (a := (a : Int)) hs
  rw [Bt.takeI_nat] at h
  exact h
set_option maxHeartbeats 8000000 in
theorem takeSlice_ok {s : ByteArray} (a : Nat) (hs : s.size ≤ 1048576) : FnOk E.P 92 [.str s, pI a]
    (.tup [.agg [pI ((((Bt.takeSl (byteAt s) s.size a).getD (0, 0, 0)).1 / 2 : Nat) : Int), pI ((((Bt.takeSl (byteAt s) s.size a).getD (0, 0, 0)).1 % 2 : Nat) : Int), pI ((((Bt.takeSl (byteAt s) s.size a).getD (0, 0, 0)).2.1 : Nat) : Int)], pI ((((Bt.takeSl (byteAt s) s.size a).getD (0, 0, 0)).2.2 : Nat) : Int), .bool (Bt.takeSl (byteAt s) s.size a).isSome]) true := by
  have hT := itakeN_ok (s := s) a hs
  unfold Bt.takeSl
  cases e1 : Bt.takeNum (byteAt s) s.size a with
  | none =>
    rw [e1] at hT
    refine fn_ok mixed Tryz.func92 rfl (by kernel_rfl) _ Tryz.results92 _ Tryz.ntmps92 (by simp) (by kernel_rfl) ?_
    simp (maxSteps := 4000000) only [pI, tvs, simprocAttr]
    repeat (first | refine ftS (by kernel_rfl) ?_ | refine And.intro (by omega) ?_)
    refine aops_fn (hT) (hidB rfl) rfl ?_
    simp (maxSteps := 4000000) only [Option.getD_none, Option.isSome_none, pI, tvs, simprocAttr]
    repeat (first | refine ftS (by kernel_rfl) ?_ | refine And.intro (by omega) ?_)
    all_goals (first | rfl | trivial | skip)
  | some x =>
    obtain ⟨t, b⟩ := x
    rw [e1] at hT
    have hU := itakeN_ok (s := s) b hs
    have f1 := Bt.takeNum_some e1
    simp only
    cases e2 : Bt.takeNum (byteAt s) s.size b with
    | none =>
      rw [e2] at hU
      refine fn_ok mixed Tryz.func92 rfl (by kernel_rfl) _ Tryz.results92 _ Tryz.ntmps92 (by simp) (by kernel_rfl) ?_
      simp (maxSteps := 4000000) only [pI, tvs, simprocAttr]
      repeat (first | refine ftS (by kernel_rfl) ?_ | refine And.intro (by omega) ?_)
      refine aops_fn (hT) (hidB rfl) rfl ?_
      simp (maxSteps := 4000000) only [Option.getD_some, Option.isSome_some, pI, tvs, simprocAttr]
      repeat (first | refine ftS (by kernel_rfl) ?_ | refine And.intro (by omega) ?_)
      refine aops_fn (hU) (hidB rfl) rfl ?_
      simp (maxSteps := 4000000) only [Option.getD_none, Option.isSome_none, pI, tvs, simprocAttr]
      repeat (first | refine ftS (by kernel_rfl) ?_ | refine And.intro (by omega) ?_)
      all_goals (first | rfl | trivial | skip)
    | some y =>
      obtain ⟨n, c⟩ := y
      rw [e2] at hU
      have f2 := Bt.takeNum_some e2
      have m1 : (t : Int).tdiv 2 = ((t / 2 : Nat) : Int) := by rw [Int.tdiv_eq_ediv_of_nonneg (by omega)]; omega
      have m2 : (t : Int).tmod 2 = ((t % 2 : Nat) : Int) := by rw [Int.tmod_eq_emod_of_nonneg (by omega)]; omega
      refine fn_ok mixed Tryz.func92 rfl (by kernel_rfl) _ Tryz.results92 _ Tryz.ntmps92 (by simp) (by kernel_rfl) ?_
      simp (maxSteps := 4000000) only [pI, tvs, simprocAttr]
      repeat (first | refine ftS (by kernel_rfl) ?_ | refine And.intro (by omega) ?_)
      refine aops_fn (hT) (hidB rfl) rfl ?_
      simp (maxSteps := 4000000) only [Option.getD_some, Option.isSome_some, pI, tvs, simprocAttr]
      repeat (first | refine ftS (by kernel_rfl) ?_ | refine And.intro (by omega) ?_)
      refine aops_fn (hU) (hidB rfl) rfl ?_
      simp (maxSteps := 4000000) only [m1, m2, Option.getD_some, Option.isSome_some, pI, tvs, simprocAttr]
      repeat (first | refine ftS (by kernel_rfl) ?_ | refine And.intro (by omega) ?_)
      all_goals (first | rfl | trivial | skip)
set_option maxRecDepth 10000 in
set_option maxHeartbeats 8000000 in
theorem takeChoice_ok {rs : List Bt.C4} {h who kind many : Int} {m : Bt.Mc} {s : ByteArray} (a : Nat) (hne : rs ≠ []) (hn : rs.length ≤ 1048576) (hm : Small m) (hs : s.size ≤ 1048576) :
    FnOk E.P 93 [pProg rs h, .agg (pMc m), .agg [pI who, pI kind, pI many], .str s, pI a] (.tup [.agg (pCh ((Bt.takeCh rs h (byteAt s) s.size m who kind a).getD (⟨0, 0, 0⟩, 0)).1), pI ((((Bt.takeCh rs h (byteAt s) s.size m who kind a).getD (⟨0, 0, 0⟩, 0)).2 : Nat) : Int), .bool (Bt.takeCh rs h (byteAt s) s.size m who kind a).isSome]) true := by
  have hA := asksFor_ok (rs := rs) (h := h) (who := who) (kind := kind) (rep := 0) (m := m) hne hn hm
  have hT := itakeN_ok (s := s) a hs
  have hC := fun v => can_ok (rs := rs) (h := h) (m := m) (c := ⟨who, kind, v⟩) hne hn hm
  unfold Bt.takeCh
  cases ha : Bt.asks rs h m ⟨who, kind, 0⟩
  · rw [ha] at hA
    have hD := hC 0
    simp only [Bool.false_eq_true, if_false]
    cases hc : Bt.canDo rs h m ⟨who, kind, 0⟩
    all_goals
      rw [hc] at hD
      simp only [Bool.false_eq_true, if_false, if_true]
      refine fn_ok mixed Tryz.func93 rfl (by kernel_rfl) _ Tryz.results93 _ Tryz.ntmps93 (by simp) (by kernel_rfl) ?_
      simp (maxSteps := 4000000) only [pProg, pMc, pCh, pInts, pI, tvs, simprocAttr]
      repeat (first | refine ftS (by kernel_rfl) ?_ | refine And.intro (by omega) ?_)
      refine aops_fn (hA) (hidB rfl) rfl ?_
      simp (maxSteps := 4000000) only [pProg, pMc, pCh, pInts, pI, tvs, simprocAttr]
      repeat (first | refine ftS (by kernel_rfl) ?_ | refine And.intro (by omega) ?_)
      refine aops_fn (hD) (hidB rfl) rfl ?_
      simp (maxSteps := 4000000) only [lsb, pProg, pMc, pCh, pInts, pI, tvs, simprocAttr]
      repeat (first | refine ftS (by kernel_rfl) ?_ | refine And.intro (by omega) ?_)
      all_goals (first | rfl | trivial | skip)
  · rw [ha] at hA
    simp only [if_true]
    cases e1 : Bt.takeNum (byteAt s) s.size a with
    | none =>
      rw [e1] at hT
      refine fn_ok mixed Tryz.func93 rfl (by kernel_rfl) _ Tryz.results93 _ Tryz.ntmps93 (by simp) (by kernel_rfl) ?_
      simp (maxSteps := 4000000) only [pProg, pMc, pCh, pInts, pI, tvs, simprocAttr]
      repeat (first | refine ftS (by kernel_rfl) ?_ | refine And.intro (by omega) ?_)
      refine aops_fn (hA) (hidB rfl) rfl ?_
      simp (maxSteps := 4000000) only [pProg, pMc, pCh, pInts, pI, tvs, simprocAttr]
      repeat (first | refine ftS (by kernel_rfl) ?_ | refine And.intro (by omega) ?_)
      refine aops_fn (hT) (hidB rfl) rfl ?_
      simp (maxSteps := 4000000) only [Option.getD_none, Option.isSome_none, pProg, pMc, pCh, pInts, pI, tvs, simprocAttr]
      repeat (first | refine ftS (by kernel_rfl) ?_ | refine And.intro (by omega) ?_)
      all_goals (first | rfl | trivial | skip)
    | some x =>
      obtain ⟨v, b⟩ := x
      rw [e1] at hT
      have hD := hC v
      simp only
      cases hc : Bt.canDo rs h m ⟨who, kind, v⟩
      all_goals
        rw [hc] at hD
        simp only [Bool.false_eq_true, if_false, if_true]
        refine fn_ok mixed Tryz.func93 rfl (by kernel_rfl) _ Tryz.results93 _ Tryz.ntmps93 (by simp) (by kernel_rfl) ?_
        simp (maxSteps := 4000000) only [pProg, pMc, pCh, pInts, pI, tvs, simprocAttr]
        repeat (first | refine ftS (by kernel_rfl) ?_ | refine And.intro (by omega) ?_)
        refine aops_fn (hA) (hidB rfl) rfl ?_
        simp (maxSteps := 4000000) only [pProg, pMc, pCh, pInts, pI, tvs, simprocAttr]
        repeat (first | refine ftS (by kernel_rfl) ?_ | refine And.intro (by omega) ?_)
        refine aops_fn (hT) (hidB rfl) rfl ?_
        simp (maxSteps := 4000000) only [Option.getD_some, Option.isSome_some, pProg, pMc, pCh, pInts, pI, tvs, simprocAttr]
        repeat (first | refine ftS (by kernel_rfl) ?_ | refine And.intro (by omega) ?_)
        refine aops_fn (hD) (hidB rfl) rfl ?_
        simp (maxSteps := 4000000) only [lsb, pProg, pMc, pCh, pInts, pI, tvs, simprocAttr]
        repeat (first | refine ftS (by kernel_rfl) ?_ | refine And.intro (by omega) ?_)
        all_goals (first | rfl | trivial | skip)
set_option maxRecDepth 10000 in
set_option maxHeartbeats 16000000 in
theorem ireadTape_ok {rs : List Bt.C4} {h : Int} {s : ByteArray} (hn : rs.length ≤ 1048576) (hs : s.size ≤ 1048576) : FnOk E.P 52 [pProg rs h, .str s] (pChs (Bt.readTape rs h (byteAt s) s.size)) true := by
  unfold Bt.readTape
  have hpk := iprog_ok (rs := rs) (h := h) hn
  cases hp : Bt.progOk rs h
  · rw [hp] at hpk
    simp only [Bool.false_eq_true, if_false]
    refine fn_ok mixed Tryz.func52 rfl (by kernel_rfl) _ Tryz.results52 _ Tryz.ntmps52 (by simp) (by kernel_rfl) ?_
    simp (maxSteps := 4000000) only [pProg, pChs, pI, tvs, simprocAttr]
    repeat (first | refine ftS (by kernel_rfl) ?_ | refine And.intro (by omega) ?_)
    refine aops_fn (hpk) (hidB rfl) rfl ?_
    simp (maxSteps := 4000000) only [List.map_nil, pProg, pChs, pI, tvs, simprocAttr]
    repeat (first | refine ftS (by kernel_rfl) ?_ | refine And.intro (by omega) ?_)
    all_goals (first | rfl | trivial | skip)
  rw [hp] at hpk
  have hne := progOk_ne hp
  simp only [if_true]
  obtain ⟨R, hR⟩ : ∃ R, Bt.readTo rs h (byteAt s) s.size (s.size + 1) 0 Bt.mcNew [] = R := ⟨_, rfl⟩
  rw [hR]
  have hS := fun a => takeSlice_ok (s := s) a hs
  refine fn_ok mixed Tryz.func52 rfl (by kernel_rfl) _ Tryz.results52 _ Tryz.ntmps52 (by simp) (by kernel_rfl) ?_
  simp (maxSteps := 4000000) only [pProg, pChs, pI, tvs, simprocAttr]
  repeat (first | refine ftS (by kernel_rfl) ?_ | refine And.intro (by omega) ?_)
  refine aops_fn (hpk) (hidB rfl) rfl ?_
  simp (maxSteps := 4000000) only [pProg, pChs, pI, tvs, simprocAttr]
  repeat (first | refine ftS (by kernel_rfl) ?_ | refine And.intro (by omega) ?_)
  refine aops_callF (new_ok.read) (hidB rfl) rfl ?_
  simp (maxSteps := 4000000) only [pMc, pInts, pI, tvl, simprocAttr]
  repeat (first | refine ftS (by kernel_rfl) ?_ | refine And.intro (by omega) ?_)
  refine aops_fn (hS 0) (hidB rfl) rfl ?_
  simp (maxSteps := 4000000) only [pMc, pInts, pI, tvl, simprocAttr]
  repeat (first | refine ftS (by kernel_rfl) ?_ | refine And.intro (by omega) ?_)
  refine awp_loop (X := Nat × Nat × Bt.Mc × List Bt.Ch) (fun x => [(1, .pv (.str s)), (2, .ptr 0 0), (5, .sl 1), (6, .ptr 2 0), (7, .ptr 3 0), (8, .pv (.int .i64 ((((Bt.takeSl (byteAt s) s.size x.2.1).getD (0, 0, 0)).2.2 : Nat) : Int))), (9, .pv (.bool (Bt.takeSl (byteAt s) s.size x.2.1).isSome))])
    (fun x => [(0, .box [.pv (.lst 116 (rs.map pCode)), .pv (.int .i64 h)]), (1, .row true 99 (x.2.2.2.map pCh)), (2, .box (bMc x.2.2.1)), (3, .box [.pv (.int .i64 ((((Bt.takeSl (byteAt s) s.size x.2.1).getD (0, 0, 0)).1 / 2 : Nat) : Int)), .pv (.int .i64 ((((Bt.takeSl (byteAt s) s.size x.2.1).getD (0, 0, 0)).1 % 2 : Nat) : Int)), .pv (.int .i64 ((((Bt.takeSl (byteAt s) s.size x.2.1).getD (0, 0, 0)).2.1 : Nat) : Int))])])
    (fun x => x.2.1 ≤ s.size ∧ s.size - x.2.1 < x.1 ∧ Bt.mcSz x.2.2.1 ≤ 1048576 ∧ x.2.2.2.length ≤ 300 ∧ Bt.readTo rs h (byteAt s) s.size x.1 x.2.1 x.2.2.1 x.2.2.2 = R) (fun x => x.1) 100 (s.size + 1, 0, Bt.mcNew, [])
    ⟨Nat.zero_le _, by simp only; omega, by show Bt.mcSz Bt.mcNew ≤ 1048576; decide, Nat.zero_le _, hR⟩ (by simp (maxSteps := 4000000) only [bMc, pMc, pInts, pI, tvl, simprocAttr]; try simp [pI]) (fun x H => ?_)
  obtain ⟨f, a, m, out⟩ := x
  obtain ⟨i1, i2, i3, i4, i5⟩ := H
  simp only at i1 i2 i3 i4 i5
  cases e1 : Bt.takeSl (byteAt s) s.size a with
  | none =>
    rw [Bt.readTo_none e1] at i5
    subst i5
    simp (maxSteps := 4000000) only [e1, Option.getD_none, Option.isSome_none, pChs, pI, tvl, simprocAttr]
    repeat (first | refine ftS (by kernel_rfl) ?_ | refine And.intro (by omega) ?_)
    all_goals (first | rfl | trivial | skip)
  | some x =>
    obtain ⟨t, n, b⟩ := x
    have f1 := Bt.takeSl_some e1
    obtain ⟨f', rfl⟩ : ∃ f', f = f' + 1 := ⟨f - 1, by omega⟩
    rw [Bt.readTo_some e1] at i5
    generalize hwh : ((t / 2 : Nat) : Int) = who at *
    generalize hki : ((t % 2 : Nat) : Int) = kind at *
    simp (maxSteps := 4000000) only [Option.getD_some, Option.isSome_some, pProg, bMc, pMc, pCh, pInts, pI, tvl, simprocAttr]
    repeat (first | refine ftS (by kernel_rfl) ?_ | refine And.intro (by omega) ?_)
    refine awp_loop (X := Nat × Nat × Bt.Mc × List Bt.Ch) (fun x => [(1, .pv (.str s)), (2, .ptr 0 0), (5, .sl 1), (6, .ptr 2 0), (7, .ptr 3 0), (8, .pv (.int .i64 (x.2.1 : Nat))), (10, .pv (.int .i64 (x.1 : Nat)))])
      (fun x => [(0, .box [.pv (.lst 116 (rs.map pCode)), .pv (.int .i64 h)]), (1, .row true 99 (x.2.2.2.map pCh)), (2, .box (bMc x.2.2.1)), (3, .box [.pv (.int .i64 who), .pv (.int .i64 kind), .pv (.int .i64 n)])])
      (fun x => x.1 ≤ n ∧ b ≤ x.2.1 ∧ x.2.1 ≤ s.size ∧ Bt.mcSz x.2.2.1 ≤ 1048576 ∧ x.2.2.2.length ≤ 300 ∧ Bt.readIn rs h (byteAt s) s.size who kind f' x.1 x.2.1 x.2.2.1 x.2.2.2 = R) (fun x => x.1) 100 (n, b, m, out)
      ⟨Nat.le_refl _, Nat.le_refl _, by simp only; omega, i3, i4, i5⟩ (by simp (maxSteps := 4000000) only [bMc, pMc, pInts, pI, tvl, simprocAttr]; try simp [pI]; try omega) (fun x H => ?_)
    obtain ⟨j, a', m', out'⟩ := x
    obtain ⟨j1, j2, j3, j4, j5, j6⟩ := H
    simp only at j1 j2 j3 j4 j5 j6
    cases j with
    | zero =>
      have d1 : decide ((0 : Int) > 0) = false := by decide
      have z0 : ((0 : Nat) : Int) = 0 := rfl
      rw [Bt.readIn_zero] at j6
      have hSa := hS a'
      simp (maxSteps := 4000000) only [d1, z0, pProg, bMc, pMc, pCh, pInts, pI, tvl, simprocAttr]
      repeat (first | refine ftS (by kernel_rfl) ?_ | refine And.intro (by omega) ?_)
      refine aops_fn (hSa) (hidB rfl) rfl ?_
      simp (maxSteps := 4000000) only [pProg, bMc, pMc, pCh, pInts, pI, tvl, simprocAttr]
      repeat (first | refine ftS (by kernel_rfl) ?_ | refine And.intro (by omega) ?_)
      refine ⟨(f', a', m', out'), ⟨j3, by simp only; omega, j4, j5, j6⟩, by simp only; omega, ?_⟩
      simp [bMc, pMc, pInts, pI]
    | succ j =>
      have d1 : decide (((j + 1 : Nat) : Int) > 0) = true := by rw [decide_eq_true_eq]; omega
      have hX := takeChoice_ok (rs := rs) (h := h) (who := who) (kind := kind) (many := n) (m := m') (s := s) a' hne hn (Small.of j4) hs
      cases e2 : Bt.takeCh rs h (byteAt s) s.size m' who kind a' with
      | none =>
        rw [e2] at hX
        rw [Bt.readIn_none e2] at j6
        subst j6
        simp (maxSteps := 4000000) only [d1, pProg, bMc, pMc, pCh, pInts, pI, tvl, simprocAttr]
        repeat (first | refine ftS (by kernel_rfl) ?_ | refine And.intro (by omega) ?_)
        refine aops_fn (hX) (hidB rfl) rfl ?_
        simp (maxSteps := 4000000) only [Option.getD_none, Option.isSome_none, pProg, pChs, bMc, pMc, pCh, pInts, pI, tvl, simprocAttr]
        repeat (first | refine ftS (by kernel_rfl) ?_ | refine And.intro (by omega) ?_)
        all_goals (first | rfl | trivial | skip)
      | some y =>
        obtain ⟨c, b'⟩ := y
        have f2 := Bt.takeCh_some e2 j3
        rw [e2] at hX
        by_cases c3 : out'.length < 300
        · have d3 : decide ((out'.length : Int) ≥ 300) = false := by rw [decide_eq_false_iff_not]; omega
          rw [Bt.readIn_some e2 c3] at j6
          have hD := (do_ok (rs := rs) (h := h) (m := m') (c := c) hne hn (Small.of j4)).read
          have hsz := Bt.made_sz rs h m' c
          obtain ⟨cw, ck, cr⟩ := c
          generalize (Bt.doM rs h m' ⟨cw, ck, cr⟩).getD Bt.mcNil = m2 at *
          simp (maxSteps := 4000000) only [d1, pProg, bMc, pMc, pCh, pInts, pI, tvl, simprocAttr]
          repeat (first | refine ftS (by kernel_rfl) ?_ | refine And.intro (by omega) ?_)
          refine aops_fn (hX) (hidB rfl) rfl ?_
          simp (maxSteps := 4000000) only [d3, Option.getD_some, Option.isSome_some, pProg, bMc, pMc, pCh, pInts, pI, tvl, simprocAttr]
          repeat (first | refine ftS (by kernel_rfl) ?_ | refine And.intro (by omega) ?_)
          refine aops_callF (hD) (hidB rfl) rfl ?_
          simp (maxSteps := 4000000) only [pProg, bMc, pMc, pCh, pInts, pI, tvl, simprocAttr]
          repeat (first | refine ftS (by kernel_rfl) ?_ | refine And.intro (by omega) ?_)
          refine ⟨(j, b', m2, out' ++ [⟨cw, ck, cr⟩]), ⟨by simp only; omega, by simp only; omega, by simp only; omega, hsz, by simp; omega, j6⟩, by simp only; omega, ?_⟩
          simp [bMc, pMc, pInts, pCh, pI]
          try omega
        · have d3 : decide ((out'.length : Int) ≥ 300) = true := by rw [decide_eq_true_eq]; omega
          rw [Bt.readIn_full e2 c3] at j6
          subst j6
          simp (maxSteps := 4000000) only [d1, pProg, bMc, pMc, pCh, pInts, pI, tvl, simprocAttr]
          repeat (first | refine ftS (by kernel_rfl) ?_ | refine And.intro (by omega) ?_)
          refine aops_fn (hX) (hidB rfl) rfl ?_
          simp (maxSteps := 4000000) only [d3, Option.getD_some, Option.isSome_some, pProg, pChs, bMc, pMc, pCh, pInts, pI, tvl, simprocAttr]
          repeat (first | refine ftS (by kernel_rfl) ?_ | refine And.intro (by omega) ?_)
          all_goals (first | rfl | trivial | skip)
end Av
end Go.Proofs.YtdjenlnomibniaaGreat
