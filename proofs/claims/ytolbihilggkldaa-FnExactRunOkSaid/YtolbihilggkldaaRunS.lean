/-
  The machine at first, in the model: its rows are the call's own.
  Runs, plainly: how many choices of a row can be made, and the machine behind some of them.
  A machine that lies in a box, and what a store of another one leaves there.
  How many choices of a row can be made, in the model: contracts of RunLong and RunOk.
-/
import Derived.Test.YtolbihilggkldaaDoH
import Derived.Test.YtolbihilggkldaaDoL
import Derived.Test.YtolbihilggkldaaNewL
import Derived.Test.YtolbihilggkldaaChsO
namespace Go.Proofs.Ytolbihilggkldaa
open Go.RowKit

set_option maxRecDepth 100000 in
set_option maxHeartbeats 2000000 in
theorem specNew_own (w : World) : Calls Try.prog 38 #[] w fun e w' => ∃ AT ct AC cc AL cl AD cd xs, e = .returned (.agg #[.slice AT 1 ct, .slice AC 8 cc, .slice AL 2 cl, .slice AD 0 cd]) ∧ Below w.heap.size w w' ∧ McOwn w' w.heap.size (.slice AT 1 ct) (.slice AC 8 cc) (.slice AL 2 cl) (.slice AD 0 cd) xs Bt.mcNew := by
  obtain ⟨B, hB⟩ : ∃ B, B = w.heap.size + 1 := ⟨_, rfl⟩
  have mk4 : ∀ W : World, (Instr.makeSlice 40 (.int .i64 4) (.int .i64 4)).run Try.prog W = .ok (.slice (some ⟨W.heap.size, 0, none⟩) 4 4) (W.alloc (.cells (madeCells #[.int .i64 0] 4) 3)) := fun W => run_make_ints 4 (by decide) W
  have mk8 : ∀ W : World, (Instr.makeSlice 40 (.int .i64 8) (.int .i64 8)).run Try.prog W = .ok (.slice (some ⟨W.heap.size, 0, none⟩) 8 8) (W.alloc (.cells (madeCells #[.int .i64 0] 8) 3)) := fun W => run_make_ints 8 (by decide) W
  have HC : Hid (∀ (w1 w2 : World), Below w1.heap.size w1 w2 → (Below w.heap.size (w.alloc (.cells #[.slice none 0 0, .slice none 0 0, .slice none 0 0, .slice none 0 0] 42)) w1 ∧ ∃ a b c d, Four w1 w.heap.size a b c d) → (Below w.heap.size (w.alloc (.cells #[.slice none 0 0, .slice none 0 0, .slice none 0 0, .slice none 0 0] 42)) w2 ∧ ∃ a b c d, Four w2 w.heap.size a b c d)) :=
    Lib.hid (fun w1 w2 hb ⟨h1, a, b, c, d, h2⟩ => ⟨h1.trans (hb.mono (by have := h1.size; simp at this; omega)), a, b, c, d, h2.keep hb⟩)
  have f4 : Four (w.alloc (.cells #[.slice none 0 0, .slice none 0 0, .slice none 0 0, .slice none 0 0] 42)) w.heap.size (.slice none 0 0) (.slice none 0 0) (.slice none 0 0) (.slice none 0 0) := by unfold Four; go_simp
  go_enter Try.func38, Try.ntmps38
  go_wp2_with fail
  refine wp_region_ord [Fact.upto 1 8 (fun v w' => ∃ A c, v = .slice A 4 c ∧ IntRow w' B (.slice A 4 c) [0, 0, 0, 0]),
    Fact.upto 2 8 (fun v w' => ∃ A c, v = .slice A 0 c ∧ IntRow w' B (.slice A 0 c) []),
    Fact.upto 3 8 (fun v w' => ∃ A c A' c', v = .agg #[.int .i64 0, .slice A 4 c, .slice A' 0 c', .int .i64 0] ∧ IntRow w' B (.slice A 4 c) [0, 0, 0, 0] ∧ IntRow w' B (.slice A' 0 c') []),
    Fact.upto 4 8 (fun v w' => ∃ A c xs, v = .slice A 1 c ∧ OwnThs w' B (.slice A 1 c) [⟨0, [0, 0, 0, 0], [], 0⟩] xs),
    Fact.upto 5 8 (fun v w' => ∃ A c, v = .slice A 8 c ∧ IntRow w' B (.slice A 8 c) [0, 0, 0, 0, 0, 0, 0, 0]),
    Fact.upto 6 8 (fun v w' => ∃ A c, v = .slice A 2 c ∧ IntRow w' B (.slice A 2 c) [-1, -1]),
    Fact.upto 7 8 (fun v w' => ∃ A c, v = .slice A 0 c ∧ IntRow w' B (.slice A 0 c) []),
    Fact.upto 8 8 (fun v w' => ∃ AT ct AC cc AL cl AD cd xs, v = .agg #[.slice AT 1 ct, .slice AC 8 cc, .slice AL 2 cl, .slice AD 0 cd] ∧ OwnThs w' B (.slice AT 1 ct) [⟨0, [0, 0, 0, 0], [], 0⟩] xs ∧ IntRow w' B (.slice AC 8 cc) [0, 0, 0, 0, 0, 0, 0, 0] ∧ IntRow w' B (.slice AL 2 cl) [-1, -1] ∧ IntRow w' B (.slice AD 0 cd) []),
    ⟨[], none, fun _ w' => ∃ AT ct AC cc AL cl AD cd xs, Four w' w.heap.size (.slice AT 1 ct) (.slice AC 8 cc) (.slice AL 2 cl) (.slice AD 0 cd) ∧ OwnThs w' B (.slice AT 1 ct) [⟨0, [0, 0, 0, 0], [], 0⟩] xs ∧ IntRow w' B (.slice AC 8 cc) [0, 0, 0, 0, 0, 0, 0, 0] ∧ IntRow w' B (.slice AL 2 cl) [-1, -1] ∧ IntRow w' B (.slice AD 0 cd) []⟩]
    (fun w' => Below w.heap.size (w.alloc (.cells #[.slice none 0 0, .slice none 0 0, .slice none 0 0, .slice none 0 0] 42)) w' ∧ ∃ a b c d, Four w' w.heap.size a b c d) (by kernel_rfl) (by kernel_rfl) ⟨(Below.refl _ _).drew, _, _, _, _, f4⟩ ?_ ?_ ?_
  · exact ⟨Fact.upto_stable (fun v w w' hb ⟨A, c, e, h⟩ => ⟨A, c, e, h.keep hb⟩), Fact.upto_stable (fun v w w' hb ⟨A, c, e, h⟩ => ⟨A, c, e, h.keep hb⟩), Fact.upto_stable (fun v w w' hb ⟨A, c, A', c', e, h, h'⟩ => ⟨A, c, A', c', e, h.keep hb, h'.keep hb⟩), Fact.upto_stable (fun v w w' hb ⟨A, c, xs, e, h⟩ => ⟨A, c, xs, e, h.keep hb⟩), Fact.upto_stable (fun v w w' hb ⟨A, c, e, h⟩ => ⟨A, c, e, h.keep hb⟩), Fact.upto_stable (fun v w w' hb ⟨A, c, e, h⟩ => ⟨A, c, e, h.keep hb⟩), Fact.upto_stable (fun v w w' hb ⟨A, c, e, h⟩ => ⟨A, c, e, h.keep hb⟩), Fact.upto_stable (fun v w w' hb ⟨AT, ct, AC, cc, AL, cl, AD, cd, xs, e, h0, h1, h2, h3⟩ => ⟨AT, ct, AC, cc, AL, cl, AD, cd, xs, e, h0.keep hb, h1.keep hb, h2.keep hb, h3.keep hb⟩), (fun vs w w' hb ⟨AT, ct, AC, cc, AL, cl, AD, cd, xs, h, h0, h1, h2, h3⟩ => ⟨AT, ct, AC, cc, AL, cl, AD, cd, xs, h.keep hb, h0.keep hb, h1.keep hb, h2.keep hb, h3.keep hb⟩), trivial⟩
  · refine ⟨?_, ?_, ?_, ?_, ?_, ?_, ?_, ?_, ?_, trivial⟩
    · intro A' w' hC hoff hdep _hdif
      have ec : ∀ v, A'.eval (.const v) = v := fun _ => rfl
      have hz : B ≤ w'.heap.size := by have := hC.1.size; simp at this; omega
      have hb : Below w'.heap.size w' (w'.alloc (.cells (madeCells #[.int .i64 0] 4) 3)) := (Below.refl _ _).alloc (Nat.le_refl _) _
      refine good_gen (v := .slice (some ⟨w'.heap.size, 0, none⟩) 4 4) (w' := w'.alloc (.cells (madeCells #[.int .i64 0] 4) 3)) (by generalize A'.eval = ev at *; simp [go_sem, ec, mk4]) ⟨hb.size, fun h => absurd h (by decide)⟩ (HC.out _ _ hb hC) (.inl hb) ?_
      exact upto_to rfl rfl ⟨_, _, rfl, IntRow.mono (by simpa using IntRow.made w' 4 (by decide)) hz⟩
    · intro A' w' hC hoff hdep _hdif
      have hz : B ≤ w'.heap.size := by have := hC.1.size; simp at this; omega
      have hb : Below w'.heap.size w' (w'.alloc (.cells #[] 3)) := (Below.refl _ _).alloc (Nat.le_refl _) _
      refine good_gen (v := .slice (some ⟨w'.heap.size, 0, none⟩) 0 0) (w' := w'.alloc (.cells #[] 3)) (by generalize A'.eval = ev at *; simp [go_sem]) ⟨hb.size, fun h => absurd h (by decide)⟩ (HC.out _ _ hb hC) (.inl hb) ?_
      exact upto_to rfl rfl ⟨_, _, rfl, IntRow.mono (by simpa using IntRow.lit w' [] (by decide)) hz⟩
    · intro A' w' hC hoff hdep _hdif
      obtain ⟨A1, c1, a1, p1⟩ := upto_of (ask_of hdep (j := 0) (by kernel_rfl)) rfl
      obtain ⟨A2, c2, a2, p2⟩ := upto_of (ask_of hdep (j := 1) (by kernel_rfl)) rfl
      exact good_gen (v := .agg #[.int .i64 0, .slice A1 4 c1, .slice A2 0 c2, .int .i64 0]) (w' := w') (by generalize A'.eval = ev at *; simp [go_sem, a1, a2]) ⟨Nat.le_refl _, fun h => absurd h (by decide)⟩ hC (.inl (Below.refl _ _)) (upto_to rfl rfl ⟨_, _, _, _, rfl, p1, p2⟩)
    · intro A' w' hC hoff hdep _hdif
      obtain ⟨A1, c1, A2, c2, a3, p1, p2⟩ := upto_of (ask_of hdep (j := 2) (by kernel_rfl)) rfl
      have hz : B ≤ w'.heap.size := by have := hC.1.size; simp at this; omega
      have hb : Below w'.heap.size w' (w'.alloc (.cells #[.int .i64 0, .slice A1 4 c1, .slice A2 0 c2, .int .i64 0] 86)) := (Below.refl _ _).alloc (Nat.le_refl _) _
      refine good_gen (v := .slice (some ⟨w'.heap.size, 0, none⟩) 1 1) (w' := w'.alloc (.cells #[.int .i64 0, .slice A1 4 c1, .slice A2 0 c2, .int .i64 0] 86)) (by generalize A'.eval = ev at *; simp [go_sem, a3]) ⟨hb.size, fun h => absurd h (by decide)⟩ (HC.out _ _ hb hC) (.inl hb) ?_
      exact upto_to rfl rfl ⟨_, _, _, rfl, OwnThs.lit1 w' B ⟨0, [0, 0, 0, 0], [], 0⟩ _ _ hz p1 p2⟩
    · intro A' w' hC hoff hdep _hdif
      have ec : ∀ v, A'.eval (.const v) = v := fun _ => rfl
      have hz : B ≤ w'.heap.size := by have := hC.1.size; simp at this; omega
      have hb : Below w'.heap.size w' (w'.alloc (.cells (madeCells #[.int .i64 0] 8) 3)) := (Below.refl _ _).alloc (Nat.le_refl _) _
      refine good_gen (v := .slice (some ⟨w'.heap.size, 0, none⟩) 8 8) (w' := w'.alloc (.cells (madeCells #[.int .i64 0] 8) 3)) (by generalize A'.eval = ev at *; simp [go_sem, ec, mk8]) ⟨hb.size, fun h => absurd h (by decide)⟩ (HC.out _ _ hb hC) (.inl hb) ?_
      exact upto_to rfl rfl ⟨_, _, rfl, IntRow.mono (by simpa using IntRow.made w' 8 (by decide)) hz⟩
    · intro A' w' hC hoff hdep _hdif
      have ec : ∀ v, A'.eval (.const v) = v := fun _ => rfl
      have hz : B ≤ w'.heap.size := by have := hC.1.size; simp at this; omega
      have hb : Below w'.heap.size w' (w'.alloc (.cells #[.int .i64 (-1), .int .i64 (-1)] 3)) := (Below.refl _ _).alloc (Nat.le_refl _) _
      refine good_gen (v := .slice (some ⟨w'.heap.size, 0, none⟩) 2 2) (w' := w'.alloc (.cells #[.int .i64 (-1), .int .i64 (-1)] 3)) (by generalize A'.eval = ev at *; simp [go_sem, ec]) ⟨hb.size, fun h => absurd h (by decide)⟩ (HC.out _ _ hb hC) (.inl hb) ?_
      exact upto_to rfl rfl ⟨_, _, rfl, IntRow.mono (by simpa using IntRow.lit w' [-1, -1] (by decide)) hz⟩
    · intro A' w' hC hoff hdep _hdif
      have hz : B ≤ w'.heap.size := by have := hC.1.size; simp at this; omega
      have hb : Below w'.heap.size w' (w'.alloc (.cells #[] 3)) := (Below.refl _ _).alloc (Nat.le_refl _) _
      refine good_gen (v := .slice (some ⟨w'.heap.size, 0, none⟩) 0 0) (w' := w'.alloc (.cells #[] 3)) (by generalize A'.eval = ev at *; simp [go_sem]) ⟨hb.size, fun h => absurd h (by decide)⟩ (HC.out _ _ hb hC) (.inl hb) ?_
      exact upto_to rfl rfl ⟨_, _, rfl, IntRow.mono (by simpa using IntRow.lit w' [] (by decide)) hz⟩
    · intro A' w' hC hoff hdep _hdif
      obtain ⟨AT, ct, xs, a4, p4⟩ := upto_of (ask_of hdep (j := 3) (by kernel_rfl)) rfl
      obtain ⟨AC, cc, a5, p5⟩ := upto_of (ask_of hdep (j := 4) (by kernel_rfl)) rfl
      obtain ⟨AL, cl, a6, p6⟩ := upto_of (ask_of hdep (j := 5) (by kernel_rfl)) rfl
      obtain ⟨AD, cd, a7, p7⟩ := upto_of (ask_of hdep (j := 6) (by kernel_rfl)) rfl
      exact good_gen (v := .agg #[.slice AT 1 ct, .slice AC 8 cc, .slice AL 2 cl, .slice AD 0 cd]) (w' := w') (by generalize A'.eval = ev at *; simp [go_sem, a4, a5, a6, a7]) ⟨Nat.le_refl _, fun h => absurd h (by decide)⟩ hC (.inl (Below.refl _ _)) (upto_to rfl rfl ⟨_, _, _, _, _, _, _, _, _, rfl, p4, p5, p6, p7⟩)
    · intro A' w' hC hoff hdep _hdif
      obtain ⟨AT, ct, AC, cc, AL, cl, AD, cd, xs, a8, p4, p5, p6, p7⟩ := upto_of (ask_of hdep (j := 7) (by kernel_rfl)) rfl
      have a0 : A'.eval (.tmp 0) = .pointer (some ⟨w.heap.size, 0, none⟩) := off_of hoff 0 (by kernel_rfl)
      obtain ⟨hb0, u0, u1, u2, u3, k0, k1, k2, k3, f0, f1, f2, f3⟩ := hC
      refine good_gen' (w' := (((w'.setCell ⟨w.heap.size, 0, none⟩ (.slice AT 1 ct)).setCell ⟨w.heap.size, 1, none⟩ (.slice AC 8 cc)).setCell ⟨w.heap.size, 2, none⟩ (.slice AL 2 cl)).setCell ⟨w.heap.size, 3, none⟩ (.slice AD 0 cd)) (by generalize A'.eval = ev at *; simp [go_sem, a0, a8, k0, k1, k2, k3, f0, f1, f2, f3]) ⟨by simp, fun h => absurd h (by decide)⟩ ⟨(((hb0.setCell (Nat.le_refl _) _).setCell (Nat.le_refl _) _).setCell (Nat.le_refl _) _).setCell (Nat.le_refl _) _, .slice AT 1 ct, .slice AC 8 cc, .slice AL 2 cl, .slice AD 0 cd, ?_⟩ (.inr (fun j hj hk hf => ?_)) ⟨AT, ct, AC, cc, AL, cl, AD, cd, xs, ?_, ?_, ?_, ?_, ?_⟩
      · clear hoff hdep
        unfold Four
        go_simp
      · match j, hj, hk, hf with
        | 0, _, hk, _ => exact absurd rfl (hk 8 rfl).1
        | 1, _, hk, _ => exact absurd rfl (hk 8 rfl).1
        | 2, _, hk, _ => exact absurd rfl (hk 8 rfl).1
        | 3, _, hk, _ => exact absurd rfl (hk 8 rfl).1
        | 4, _, hk, _ => exact absurd rfl (hk 8 rfl).1
        | 5, _, hk, _ => exact absurd rfl (hk 8 rfl).1
        | 6, _, hk, _ => exact absurd rfl (hk 8 rfl).1
        | 7, _, hk, _ => exact absurd rfl (hk 8 rfl).1
        | 8, hj, _, _ => exact absurd rfl hj
        | _ + 9, _, _, _ => trivial
      · clear hoff hdep
        unfold Four
        go_simp
      · repeat (refine OwnThs.setOther ?_ _ (by simp [hB]))
        exact p4
      · repeat (refine IntRow.setOther ?_ _ (by intro b hb; have := (p5.bd b hb).1; simp; omega))
        exact p5
      · repeat (refine IntRow.setOther ?_ _ (by intro b hb; have := (p6.bd b hb).1; simp; omega))
        exact p6
      · repeat (refine IntRow.setOther ?_ _ (by intro b hb; have := (p7.bd b hb).1; simp; omega))
        exact p7
  · intro s w1 hC hf _hdf
    obtain ⟨AT, ct, AC, cc, AL, cl, AD, cd, xs, ⟨k0, k1, k2, k3, _, _, _, _⟩, p4, p5, p6, p7⟩ := hf 8 (by decide) rfl
    have hb := hC.1
    clear hf hC
    simp only [putAll, Act.put, List.setIfInBounds_toArray, List.set_cons_succ, List.set_cons_zero]
    go_wp2
    refine bodyPost_ret (v := .agg #[.slice AT 1 ct, .slice AC 8 cc, .slice AL 2 cl, .slice AD 0 cd]) (by simp [results, Try.results38, go_sem, k0, k1, k2, k3]) rfl ⟨_, _, _, _, _, _, _, _, xs, rfl, ((Below.refl w.heap.size w).alloc (Nat.le_refl _) _).trans hb, McOwn.mono (B := B) ⟨p4, p5, p6, p7⟩ (by omega)⟩
end Go.Proofs.Ytolbihilggkldaa

namespace Go.Proofs.Ytolbihilggkldaa
open Go.RowKit

namespace Bt
/-- how many choices of a row can be made from a machine on -/
def goFrom (rs : List C4) (h : Int) : Mc → List Ch → Nat
  | _, [] => 0
  | m, c :: l => match doM rs h m c with
    | none => 0
    | some m' => goFrom rs h m' l + 1
/-- the machine behind a row -/
def after (rs : List C4) (h : Int) : Mc → List Ch → Mc
  | m, [] => m
  | m, c :: l => after rs h ((doM rs h m c).getD mcNil) l
theorem goFrom_no {rs : List C4} {h : Int} {m : Mc} {c : Ch} {l : List Ch} (e : doM rs h m c = none) : goFrom rs h m (c :: l) = 0 := by simp only [goFrom, e]
theorem goFrom_yes {rs : List C4} {h : Int} {m m' : Mc} {c : Ch} {l : List Ch} (e : doM rs h m c = some m') : goFrom rs h m (c :: l) = goFrom rs h m' l + 1 := by simp only [goFrom, e]
theorem goFrom_le (rs : List C4) (h : Int) : ∀ (l : List Ch) (m : Mc), goFrom rs h m l ≤ l.length
  | [], _ => by simp [goFrom]
  | c :: l, m => by
    cases e : doM rs h m c with
    | none => rw [goFrom_no e]; omega
    | some m' =>
      have := goFrom_le rs h l m'
      rw [goFrom_yes e, List.length_cons]
      omega
theorem after_snoc (rs : List C4) (h : Int) : ∀ (l : List Ch) (m : Mc) (c : Ch), after rs h m (l ++ [c]) = (doM rs h (after rs h m l) c).getD mcNil
  | [], _, _ => rfl
  | _ :: l, _, c => after_snoc rs h l _ c
theorem after_take {rs : List C4} {h : Int} {l : List Ch} {m : Mc} {k : Nat} (hk : k < l.length) : after rs h m (l.take (k + 1)) = (doM rs h (after rs h m (l.take k)) l[k]).getD mcNil := by
  rw [List.take_succ_eq_append_getElem hk, after_snoc]
/-- the answers of RunLong and RunOk -/
def runLong (rs : List C4) (h : Int) (l : List Ch) : Int := if progOk rs h then (goFrom rs h mcNew (l.take 300) : Nat) else -1
def runOk (rs : List C4) (h : Int) (l : List Ch) : Bool := decide (l.length ≤ 300) && runLong rs h l == (l.length : Int)
/-- every choice of a whole row can be made -/
theorem goFrom_all {rs : List C4} {h : Int} : ∀ {l : List Ch} {m : Mc} (_ : goFrom rs h m l = l.length) {k : Nat} (hk : k < l.length), (doM rs h (after rs h m (l.take k)) l[k]).isSome = true
  | [], _, _, _, hk => absurd hk (by simp)
  | c :: l, m, e, k, hk => by
    cases hd : doM rs h m c with
    | none => rw [goFrom_no hd] at e; simp at e
    | some m' =>
      rw [goFrom_yes hd, List.length_cons] at e
      have e' : goFrom rs h m' l = l.length := by omega
      cases k with
      | zero => simp [after, hd]
      | succ k =>
        have := goFrom_all e' (k := k) (by simpa using hk)
        simpa [after, hd] using this
theorem runOk_facts {rs : List C4} {h : Int} {l : List Ch} (e : runOk rs h l = true) : progOk rs h = true ∧ l.length ≤ 300 ∧ goFrom rs h mcNew l = l.length := by
  unfold runOk runLong at e
  rw [Bool.and_eq_true, decide_eq_true_eq, beq_iff_eq] at e
  obtain ⟨e1, e2⟩ := e
  by_cases hp : progOk rs h = true
  · rw [if_pos hp, List.take_of_length_le (by omega)] at e2
    exact ⟨hp, e1, by omega⟩
  · rw [if_neg hp] at e2
    omega
/-- the machine behind some choices is small -/
theorem after_sz (rs : List C4) (h : Int) (l : List Ch) : mcSz (after rs h mcNew l) ≤ 1048576 := by
  rcases List.eq_nil_or_concat l with rfl | ⟨l', c, rfl⟩
  · show mcSz mcNew ≤ 1048576
    decide
  · rw [List.concat_eq_append, after_snoc]
    exact made_sz rs h _ c
/-- the choices that can be made of a machine -/
def chooseOf (rs : List C4) (h : Int) (m : Mc) (k : Nat) : List Ch := (if canDo rs h m ⟨k, 0, 0⟩ then [⟨k, 0, 0⟩] else []) ++ (if canDo rs h m ⟨k, 1, 0⟩ then [⟨k, 1, 0⟩] else [])
def chooseAll (rs : List C4) (h : Int) (m : Mc) : List Ch := (List.range m.ths.length).flatMap (chooseOf rs h m)
/-- the choice that a seed takes of those that there are -/
def seedPick (rs : List C4) (h : Int) (m : Mc) (s : Int) (c : Ch) : Ch := match instrOf rs h m c.who with
  | some x => if x.op = 13 ∧ c.kind = 0 then ⟨c.who, c.kind, s % 10000⟩ else c
  | none => c
/-- the choices that a seed takes -/
def seedRun (rs : List C4) (h : Int) : Nat → Int → Mc → List Ch
  | 0, _, _ => []
  | n + 1, s, m => match (chooseAll rs h m)[(s * 16807 % 2147483647 % (chooseAll rs h m).length).toNat]? with
    | none => []
    | some c => seedPick rs h m (s * 16807 % 2147483647) c :: seedRun rs h n (s * 16807 % 2147483647) ((doM rs h m (seedPick rs h m (s * 16807 % 2147483647) c)).getD mcNil)
end Bt
end Go.Proofs.Ytolbihilggkldaa

namespace Go.Proofs.Ytolbihilggkldaa
open Go.RowKit

/-- box g holds this machine, its rows are a call's own -/
def MBox (w : World) (B g : Nat) (m : Bt.Mc) : Prop := ∃ AT ct AC cc AL cl AD cd xs, Four w g (.slice AT m.ths.length ct) (.slice AC m.cells.length cc) (.slice AL m.locks.length cl) (.slice AD m.told.length cd) ∧ McBox w g ∧
  McOwn w B (.slice AT m.ths.length ct) (.slice AC m.cells.length cc) (.slice AL m.locks.length cl) (.slice AD m.told.length cd) xs m
theorem MBox.keep {w w' : World} {B g : Nat} {m : Bt.Mc} (h : MBox w B g m) (hb : Below w.heap.size w w') : MBox w' B g m := by
  obtain ⟨AT, ct, AC, cc, AL, cl, AD, cd, xs, h1, h2, h3⟩ := h
  exact ⟨AT, ct, AC, cc, AL, cl, AD, cd, xs, h1.keep hb, h2.keep hb, h3.keep hb⟩
theorem Four.stored {w : World} {g : Nat} {a b c d : Value} (h : Four w g a b c d) (a' b' c' d' : Value) :
    Four ((((w.setCell ⟨g, 0, none⟩ a').setCell ⟨g, 1, none⟩ b').setCell ⟨g, 2, none⟩ c').setCell ⟨g, 3, none⟩ d') g a' b' c' d' := by
  obtain ⟨h0, h1, h2, h3, f0, f1, f2, f3⟩ := h
  unfold Four
  go_simp
/-- four cells of a box are set -/
theorem McOwn.four {w : World} {B g : Nat} {vt vc vl vd : Value} {xs : List (Value × Value)} {m : Bt.Mc} (h : McOwn w B vt vc vl vd xs m) (hM : McBox w g) (a' b' c' d' : Value) :
    McOwn ((((w.setCell ⟨g, 0, none⟩ a').setCell ⟨g, 1, none⟩ b').setCell ⟨g, 2, none⟩ c').setCell ⟨g, 3, none⟩ d') B vt vc vl vd xs m :=
  (((h.setBox _ _ hM).setBox _ _ (hM.set _ _)).setBox _ _ ((hM.set _ _).set _ _)).setBox _ _ (((hM.set _ _).set _ _).set _ _)
theorem OwnMc.four {w : World} {B g : Nat} {vt vc vl vd : Value} {xs : List (Value × Value)} {m : Bt.Mc} (h : OwnMc w B vt vc vl vd xs m) (hM : McBox w g) (a' b' c' d' : Value) :
    OwnMc ((((w.setCell ⟨g, 0, none⟩ a').setCell ⟨g, 1, none⟩ b').setCell ⟨g, 2, none⟩ c').setCell ⟨g, 3, none⟩ d') B vt vc vl vd xs m :=
  (((h.setBox _ _ hM).setBox _ _ (hM.set _ _)).setBox _ _ ((hM.set _ _).set _ _)).setBox _ _ (((hM.set _ _).set _ _).set _ _)
theorem MBox.stored {w : World} {g B : Nat} {a b c d : Value} {AT AC AL AD : Option Addr} {ct cc cl cd : Nat} {xs : List (Value × Value)} {m : Bt.Mc} (h : Four w g a b c d) (hM : McBox w g)
    (hO : McOwn w B (.slice AT m.ths.length ct) (.slice AC m.cells.length cc) (.slice AL m.locks.length cl) (.slice AD m.told.length cd) xs m) :
    MBox ((((w.setCell ⟨g, 0, none⟩ (.slice AT m.ths.length ct)).setCell ⟨g, 1, none⟩ (.slice AC m.cells.length cc)).setCell ⟨g, 2, none⟩ (.slice AL m.locks.length cl)).setCell ⟨g, 3, none⟩ (.slice AD m.told.length cd)) B g m :=
  ⟨AT, ct, AC, cc, AL, cl, AD, cd, xs, h.stored _ _ _ _, (((hM.set _ _).set _ _).set _ _).set _ _, hO.four hM _ _ _ _⟩
theorem MBox.made {w : World} {B : Nat} {AT AC AL AD : Option Addr} {ct cc cl cd : Nat} {xs : List (Value × Value)} {m : Bt.Mc} (h : McOwn w B (.slice AT m.ths.length ct) (.slice AC m.cells.length cc) (.slice AL m.locks.length cl) (.slice AD m.told.length cd) xs m) :
    MBox (w.alloc (.cells #[.slice AT m.ths.length ct, .slice AC m.cells.length cc, .slice AL m.locks.length cl, .slice AD m.told.length cd] 42)) B w.heap.size m :=
  ⟨AT, ct, AC, cc, AL, cl, AD, cd, xs, by unfold Four; go_simp, ⟨_, _, alloc_at _ _⟩, h.keep ((Below.refl _ _).alloc (Nat.le_refl _) _)⟩
/-- box g holds this machine, no two rows of it are one, its rows are a call's own -/
def MBoxI (w : World) (B g : Nat) (m : Bt.Mc) : Prop := ∃ AT ct AC cc AL cl AD cd xs, Four w g (.slice AT m.ths.length ct) (.slice AC m.cells.length cc) (.slice AL m.locks.length cl) (.slice AD m.told.length cd) ∧ McBox w g ∧
  OwnMc w B (.slice AT m.ths.length ct) (.slice AC m.cells.length cc) (.slice AL m.locks.length cl) (.slice AD m.told.length cd) xs m
theorem MBoxI.keep {w w' : World} {B g : Nat} {m : Bt.Mc} (h : MBoxI w B g m) (hb : Below w.heap.size w w') : MBoxI w' B g m := by
  obtain ⟨AT, ct, AC, cc, AL, cl, AD, cd, xs, h1, h2, h3⟩ := h
  exact ⟨AT, ct, AC, cc, AL, cl, AD, cd, xs, h1.keep hb, h2.keep hb, h3.keep hb⟩
theorem MBoxI.stored {w : World} {g B : Nat} {a b c d : Value} {AT AC AL AD : Option Addr} {ct cc cl cd : Nat} {xs : List (Value × Value)} {m : Bt.Mc} (h : Four w g a b c d) (hM : McBox w g)
    (hO : OwnMc w B (.slice AT m.ths.length ct) (.slice AC m.cells.length cc) (.slice AL m.locks.length cl) (.slice AD m.told.length cd) xs m) :
    MBoxI ((((w.setCell ⟨g, 0, none⟩ (.slice AT m.ths.length ct)).setCell ⟨g, 1, none⟩ (.slice AC m.cells.length cc)).setCell ⟨g, 2, none⟩ (.slice AL m.locks.length cl)).setCell ⟨g, 3, none⟩ (.slice AD m.told.length cd)) B g m :=
  ⟨AT, ct, AC, cc, AL, cl, AD, cd, xs, h.stored _ _ _ _, (((hM.set _ _).set _ _).set _ _).set _ _, hO.four hM _ _ _ _⟩
theorem MBoxI.made {w : World} {B : Nat} {AT AC AL AD : Option Addr} {ct cc cl cd : Nat} {xs : List (Value × Value)} {m : Bt.Mc} (h : OwnMc w B (.slice AT m.ths.length ct) (.slice AC m.cells.length cc) (.slice AL m.locks.length cl) (.slice AD m.told.length cd) xs m) :
    MBoxI (w.alloc (.cells #[.slice AT m.ths.length ct, .slice AC m.cells.length cc, .slice AL m.locks.length cl, .slice AD m.told.length cd] 42)) B w.heap.size m :=
  ⟨AT, ct, AC, cc, AL, cl, AD, cd, xs, by unfold Four; go_simp, ⟨_, _, alloc_at _ _⟩, h.keep ((Below.refl _ _).alloc (Nat.le_refl _) _)⟩
end Go.Proofs.Ytolbihilggkldaa

namespace Go.Proofs.Ytolbihilggkldaa
open Go.RowKit

set_option maxRecDepth 100000 in
set_option maxHeartbeats 3000000 in
theorem specRunLong_any {A : Option Addr} {pb po n cap nl cl : Nat} {rs : List Bt.C4} {l : List Bt.Ch} (h : Int) (w : World) (P : ArgPr w pb po n cap rs) (L : ArgChs w (.slice A nl cl) l) (hL : l.length = nl) (hl : nl ≤ 1048576) :
    Calls Try.prog 11 #[.agg #[.slice (some ⟨pb, po, none⟩) n cap, .int .i64 h], .slice A nl cl] w fun e w' => e = .returned (.int .i64 (Bt.runLong rs h l)) ∧ Below w.heap.size w w' := by
  have hcp := P.cap
  obtain ⟨hlc, _⟩ := L.at_ hL
  have HL := Lib.hid hL; clear hL
  obtain ⟨W0, hW0⟩ : ∃ W0 : World, W0 = w.alloc (.cells #[.slice (some ⟨pb, po, none⟩) n cap, .int .i64 h] 31) := ⟨_, rfl⟩
  have B0 := Lib.hid (show Below w.heap.size w W0 by rw [hW0]; exact (Below.refl _ _).alloc (Nat.le_refl _) _)
  have HP := Lib.hid (P.keep B0.out); have HC := Lib.hid (L.keep B0.out)
  clear P L
  have p0 : W0.cell? ⟨w.heap.size, 0, none⟩ = some (.slice (some ⟨pb, po, none⟩) n cap) := by rw [hW0]; go_simp
  have p1 : W0.cell? ⟨w.heap.size, 1, none⟩ = some (.int .i64 h) := by rw [hW0]; go_simp
  have HW := Lib.hid hW0; clear hW0
  go_enter Try.func11, Try.ntmps11
  go_wp2_with fail
  rw [← HW.out]
  refine (specProg_any HP.out h).mono ?_
  cases hp : Bt.progOk rs h
  · rintro e w1 ⟨rfl, hb1⟩
    have HV : Hid (-1 = Bt.runLong rs h l) := Lib.hid (by unfold Bt.runLong; rw [hp]; rfl)
    go_wp2
    go_ret
    exact ⟨ret_int HV.out, below_then B0.out hb1⟩
  · rintro e w1 ⟨rfl, hb1⟩
    have HR : Hid (Bt.runLong rs h l = (Bt.goFrom rs h Bt.mcNew (l.take 300) : Nat)) := Lib.hid (by unfold Bt.runLong; rw [hp]; rfl)
    have p0' := keeps hb1 p0
    have p1' := keeps hb1 p1
    have B1 := Lib.hid (below_then B0.out hb1)
    have HB1 := Lib.hid hb1
    clear p0 p1 hb1
    go_wp2_with fail
    refine (specNew_own w1).mono ?_
    rintro e w2 ⟨AT, ct, AC, cc, AL, cl', AD, cd, xs, rfl, hb2, hm2⟩
    have p0 := keeps hb2 p0'
    have p1 := keeps hb2 p1'
    have B2 := Lib.hid (below_then B1.out hb2)
    have HP2 := Lib.hid (HP.out.keep (below_then HB1.out hb2))
    have HC2 := Lib.hid (HC.out.keep (below_then HB1.out hb2))
    have HM2 := Lib.hid (MBox.made (m := Bt.mcNew) (hm2.mono B1.out.size))
    have lp := cell_lt p0
    simp only at lp
    clear p0' p1' hm2
    go_wp2_with fail
    obtain ⟨lim, hlim⟩ : ∃ lim, (l.take 300).length = lim := ⟨_, rfl⟩
    have HLIM : Hid (lim = min 300 nl) := Lib.hid (by rw [← hlim, List.length_take, HL.out])
    have HTL := Lib.hid hlim; clear hlim
    go_loopw [6] (fun i wr => ∃ k : Nat, k ≤ lim ∧ i = .int .i64 k ∧ Below w2.heap.size w2 wr ∧ ∃ mk, MBox wr w.heap.size w2.heap.size mk ∧ Small mk ∧ Bt.goFrom rs h Bt.mcNew (l.take 300) = k + Bt.goFrom rs h mk ((l.take 300).drop k)) (fun i _ => lim - (intOf i).toNat)
    case atStart => exact ⟨0, Nat.zero_le _, rfl, (Below.refl _ _).alloc (Nat.le_refl _) _, Bt.mcNew, HM2.out, mcNew_small, by simp⟩
    case round =>
      obtain ⟨k, hk, rfl, hb, mk, hma, hsm, hgo⟩ := hrel
      have HS := Lib.hid hsm; have HGO := Lib.hid hgo; have HB := Lib.hid hb
      clear hsm hgo
      by_cases hlt : k < lim
      · have hkn : k < nl := by have := HLIM.out; omega
        have hk3 : k < 300 := by have := HLIM.out; omega
        have hkl : k < l.length := by rw [HL.out]; exact hkn
        have HDR : Hid ((l.take 300).drop k = l[k] :: (l.take 300).drop (k + 1)) := Lib.hid (by
          rw [List.drop_eq_getElem_cons (by rw [HTL.out]; exact hlt)]
          congr 1
          simp)
        obtain ⟨AT, ct, AC, cc, AL, cl2, AD, cd, xsk, hF, hMB, hO⟩ := hma
        have hA := hO.arg rfl rfl rfl rfl
        have HMB := Lib.hid hMB; have HA := Lib.hid hA; have HF := Lib.hid hF
        have HPr := Lib.hid (HP2.out.keep hb)
        obtain ⟨bl, ol, rfl, x0, x1, x2⟩ := ((HC2.out.keep hb).at_ HL.out).2 k hkl
        generalize l[k] = ch at *
        obtain ⟨y0, y1, y2, y3, _, _, _, _⟩ := hF
        have q0 := keeps hb p0
        have q1 := keeps hb p1
        have lg : w2.heap.size < wr.heap.size := cell_lt y0
        clear hMB hA hO hb
        have SD := Lib.hid (fun (W' : World) (hb : Below wr.heap.size wr W') => specDo_all h ch W' (HPr.out.keep hb) (HA.out.keep hb) HS.out)
        have MS := Lib.hid (Small.of (Bt.made_sz rs h mk ch))
        obtain ⟨M, hM⟩ : ∃ M, (Bt.doM rs h mk ch).getD Bt.mcNil = M := ⟨_, rfl⟩
        obtain ⟨ok, hok⟩ : ∃ ok, (Bt.doM rs h mk ch).isSome = ok := ⟨_, rfl⟩
        rw [hM, hok] at SD
        rw [hM] at MS
        have HDM := Lib.hid hM; have HOK := Lib.hid hok
        clear hM hok
        go_wp2_with fail
        refine wp_region_ordI [Fact.is 24 (.agg #[.slice (some ⟨pb, po, none⟩) n cap, .int .i64 h]),
            Fact.is 25 (.agg #[.slice AT mk.ths.length ct, .slice AC mk.cells.length cc, .slice AL mk.locks.length cl2, .slice AD mk.told.length cd]),
            Fact.is 26 (.slice (some ⟨bl, ol, none⟩) nl cl),
            Fact.is 27 (.int .i64 (k : Int)),
            Fact.is 28 (.pointer (some ⟨bl, ol + k * 3, none⟩)),
            Fact.is 29 (.agg #[.int .i64 ch.who, .int .i64 ch.kind, .int .i64 ch.reply]),
            Fact.upto 30 11 (fun v w' => ∃ AT ct AC cc AL cl AD cd xs, v = .tuple #[.agg #[.slice AT M.ths.length ct, .slice AC M.cells.length cc, .slice AL M.locks.length cl, .slice AD M.told.length cd], .bool ok] ∧ McOwn w' wr.heap.size (.slice AT M.ths.length ct) (.slice AC M.cells.length cc) (.slice AL M.locks.length cl) (.slice AD M.told.length cd) xs M),
            ⟨[23, 30], none, fun vs _ => ∃ AT ct AC cc AL cl AD cd, vs = [.tuple #[.agg #[.slice AT M.ths.length ct, .slice AC M.cells.length cc, .slice AL M.locks.length cl, .slice AD M.told.length cd], .bool ok], .tuple #[.agg #[.slice AT M.ths.length ct, .slice AC M.cells.length cc, .slice AL M.locks.length cl, .slice AD M.told.length cd], .bool ok]]⟩,
            Fact.upto 31 11 (fun v w' => ∃ AT ct AC cc AL cl AD cd xs, v = .agg #[.slice AT M.ths.length ct, .slice AC M.cells.length cc, .slice AL M.locks.length cl, .slice AD M.told.length cd] ∧ McOwn w' wr.heap.size (.slice AT M.ths.length ct) (.slice AC M.cells.length cc) (.slice AL M.locks.length cl) (.slice AD M.told.length cd) xs M),
            Fact.is 32 (.bool ok),
            Fact.upto 7 11 (fun v w' => ∃ g, v = .pointer (some ⟨g, 0, none⟩) ∧ wr.heap.size ≤ g ∧ w'.heap[g]? = some (.cells #[.slice none 0 0, .slice none 0 0, .slice none 0 0, .slice none 0 0] 42)),
            ⟨[7], none, fun vs w' => ∃ g AT ct AC cc AL cl AD cd xs, vs = [.pointer (some ⟨g, 0, none⟩)] ∧ wr.heap.size ≤ g ∧ Four w' g (.slice AT M.ths.length ct) (.slice AC M.cells.length cc) (.slice AL M.locks.length cl) (.slice AD M.told.length cd) ∧ McBox w' g ∧ McOwn w' wr.heap.size (.slice AT M.ths.length ct) (.slice AC M.cells.length cc) (.slice AL M.locks.length cl) (.slice AD M.told.length cd) xs M ∧ Below wr.heap.size wr w'⟩,
            Fact.is 8 (.bool ok)]
          [(11, fun w' => Below wr.heap.size wr w')] []
          (by kernel_rfl) (by kernel_rfl) (by kernel_rfl) ?_ ?_ ?_ ?_ ?_
        · intro q hq
          simp only [List.mem_cons, List.not_mem_nil, or_false] at hq
          rcases hq with rfl
          · exact (Below.refl _ _).drew
        · exact ⟨Fact.is_stable _ _, Fact.is_stable _ _, Fact.is_stable _ _, Fact.is_stable _ _, Fact.is_stable _ _, Fact.is_stable _ _, Fact.upto_stable (fun v w w' hb ⟨AT, ct, AC, cc, AL, cl, AD, cd, xs, e, h⟩ => ⟨AT, ct, AC, cc, AL, cl, AD, cd, xs, e, h.keep hb⟩), (fun _ _ _ _ h => h), Fact.upto_stable (fun v w w' hb ⟨AT, ct, AC, cc, AL, cl, AD, cd, xs, e, h⟩ => ⟨AT, ct, AC, cc, AL, cl, AD, cd, xs, e, h.keep hb⟩), Fact.is_stable _ _, Fact.upto_stable (fun v w w' hb ⟨g, e, h, h'⟩ => ⟨g, e, h, heap_keep hb h'⟩), (fun vs w1 w2 hb ⟨g, AT, ct, AC, cc, AL, cl, AD, cd, xs, e, h0, h1, h2, h3, h4⟩ => ⟨g, AT, ct, AC, cc, AL, cl, AD, cd, xs, e, h0, h1.keep hb, h2.keep hb, h3.keep hb, below_then h4 hb⟩), Fact.is_stable _ _, trivial⟩
        · intro q hq w1' w2' hb h
          simp only [List.mem_cons, List.not_mem_nil, or_false] at hq
          rcases hq with rfl
          · exact below_then h hb
        · refine ⟨?_, ?_, ?_, ?_, ?_, ?_, ?_, ?_, ?_, ?_, ?_, ?_, ?_, trivial⟩
          · intro A' w' hJ hoff hdep _hdif
            have a2 : A'.eval (.tmp 2) = .pointer (some ⟨w.heap.size, 0, none⟩) := off_of hoff 2 (by kernel_rfl)
            have b := init_of hJ (n := 0) rfl (by kernel_rfl)
            have q0 := keeps b q0
            have q1 := keeps b q1
            exact isI rfl rfl (by generalize A'.eval = ev at *; simp [go_sem, a2, q0, q1])
          · intro A' w' hJ hoff hdep _hdif
            have a5 : A'.eval (.tmp 5) = .pointer (some ⟨w2.heap.size, 0, none⟩) := off_of hoff 5 (by kernel_rfl)
            have b := init_of hJ (n := 0) rfl (by kernel_rfl)
            have q0 := keeps b y0
            have q1 := keeps b y1
            have q2 := keeps b y2
            have q3 := keeps b y3
            exact isI rfl rfl (by generalize A'.eval = ev at *; simp [go_sem, a5, q0, q1, q2, q3])
          · intro A' w' hJ hoff hdep _hdif
            have a1 : A'.eval (.tmp 1) = .slice (some ⟨bl, ol, none⟩) nl cl := off_of hoff 1 (by kernel_rfl)
            exact isI rfl rfl (by generalize A'.eval = ev at *; simp [go_sem, a1])
          · intro A' w' hJ hoff hdep _hdif
            have a6 : A'.eval (.tmp 6) = .int .i64 (k : Int) := off_of hoff 6 (by kernel_rfl)
            exact isI rfl rfl (by generalize A'.eval = ev at *; simp [go_sem, a6])
          · intro A' w' hJ hoff hdep _hdif
            have a26 := is_of (ask_of hdep (j := 2) (by kernel_rfl)) rfl
            have a27 := is_of (ask_of hdep (j := 3) (by kernel_rfl)) rfl
            exact isI rfl rfl (by generalize A'.eval = ev at *; simp [go_sem, a26, a27, hkn])
          · intro A' w' hJ hoff hdep _hdif
            have a28 := is_of (ask_of hdep (j := 4) (by kernel_rfl)) rfl
            have b := init_of hJ (n := 0) rfl (by kernel_rfl)
            have q0 := keeps b x0
            have q1 := keeps b x1
            have q2 := keeps b x2
            exact isI rfl rfl (by generalize A'.eval = ev at *; simp [go_sem, a28, q0, q1, q2])
          · intro A' w' hJ hoff hdep _hdif
            have ef : ∀ f, A'.eval (.func f) = .func (.func f) #[] #[] := fun _ => rfl
            have b := init_of hJ (n := 0) rfl (by kernel_rfl)
            have a24 := is_of (ask_of hdep (j := 0) (by kernel_rfl)) rfl
            have a25 := is_of (ask_of hdep (j := 1) (by kernel_rfl)) rfl
            have a29 := is_of (ask_of hdep (j := 5) (by kernel_rfl)) rfl
            have hz := b.size
            refine callI (f := 39) (args := #[.agg #[.slice (some ⟨pb, po, none⟩) n cap, .int .i64 h], .agg #[.slice AT mk.ths.length ct, .slice AC mk.cells.length cc, .slice AL mk.locks.length cl2, .slice AD mk.told.length cd], .agg #[.int .i64 ch.who, .int .i64 ch.kind, .int .i64 ch.reply]]) (by generalize A'.eval = ev at *; simp [go_sem, ef, a24, a25, a29]) ((SD.out w' b).mono fun e w3 h => ?_)
            obtain ⟨AT, ct, AC, cc, AL, cl, AD, cd, xs, h1, h2, h3⟩ := h
            exact ⟨_, h1, h2, upto_to rfl rfl ⟨AT, ct, AC, cc, AL, cl, AD, cd, xs, rfl, h3.mono hz⟩, fam_none (by kernel_rfl)⟩
          · intro A' w' hJ hoff hdep _hdif
            obtain ⟨AT, ct, AC, cc, AL, cl, AD, cd, xs, a30, pq⟩ := upto_of (ask_of hdep (j := 6) (by kernel_rfl)) rfl
            have ex : slotAt A' 30 = .tuple #[.agg #[.slice AT M.ths.length ct, .slice AC M.cells.length cc, .slice AL M.locks.length cl, .slice AD M.told.length cd], .bool ok] := a30
            exact runI (v := .tuple #[.agg #[.slice AT M.ths.length ct, .slice AC M.cells.length cc, .slice AL M.locks.length cl, .slice AD M.told.length cd], .bool ok]) (w' := w') (by generalize A'.eval = ev at *; simp [go_sem, a30]) (Below.refl _ _) ⟨AT, ct, AC, cc, AL, cl, AD, cd, by simp [put1, ex]⟩ (fam_none (by kernel_rfl))
          · intro A' w' hJ hoff hdep _hdif
            obtain ⟨AT, ct, AC, cc, AL, cl, AD, cd, xs, a30, pq⟩ := upto_of (ask_of hdep (j := 6) (by kernel_rfl)) rfl
            obtain ⟨ATz, ctz, ACz, ccz, ALz, clz, ADz, cdz, ez⟩ := ask_of hdep (j := 7) (by kernel_rfl)
            have ez : [slotAt A' 23, slotAt A' 30] = [.tuple #[.agg #[.slice ATz M.ths.length ctz, .slice ACz M.cells.length ccz, .slice ALz M.locks.length clz, .slice ADz M.told.length cdz], .bool ok], .tuple #[.agg #[.slice ATz M.ths.length ctz, .slice ACz M.cells.length ccz, .slice ALz M.locks.length clz, .slice ADz M.told.length cdz], .bool ok]] := ez
            injection ez with ez1 ez
            injection ez with ez2 _
            have a23 : A'.eval (.tmp 23) = .tuple #[.agg #[.slice AT M.ths.length ct, .slice AC M.cells.length cc, .slice AL M.locks.length cl, .slice AD M.told.length cd], .bool ok] := ez1.trans (ez2.symm.trans a30)
            exact runI (v := .agg #[.slice AT M.ths.length ct, .slice AC M.cells.length cc, .slice AL M.locks.length cl, .slice AD M.told.length cd]) (w' := w') (by generalize A'.eval = ev at *; simp [go_sem, a23]) (Below.refl _ _) (upto_to rfl rfl ⟨AT, ct, AC, cc, AL, cl, AD, cd, xs, rfl, pq⟩) (fam_none (by kernel_rfl))
          · intro A' w' hJ hoff hdep _hdif
            obtain ⟨ATz, ctz, ACz, ccz, ALz, clz, ADz, cdz, ez⟩ := ask_of hdep (j := 7) (by kernel_rfl)
            have ez : [slotAt A' 23, slotAt A' 30] = [.tuple #[.agg #[.slice ATz M.ths.length ctz, .slice ACz M.cells.length ccz, .slice ALz M.locks.length clz, .slice ADz M.told.length cdz], .bool ok], .tuple #[.agg #[.slice ATz M.ths.length ctz, .slice ACz M.cells.length ccz, .slice ALz M.locks.length clz, .slice ADz M.told.length cdz], .bool ok]] := ez
            injection ez with ez1 ez
            injection ez with _ _
            have a23 : A'.eval (.tmp 23) = .tuple #[.agg #[.slice ATz M.ths.length ctz, .slice ACz M.cells.length ccz, .slice ALz M.locks.length clz, .slice ADz M.told.length cdz], .bool ok] := ez1
            exact isI rfl rfl (by generalize A'.eval = ev at *; simp [go_sem, a23])
          · intro A' w' hJ hoff hdep _hdif
            have b := init_of hJ (n := 0) rfl (by kernel_rfl)
            exact allocI (ob := .cells #[.slice none 0 0, .slice none 0 0, .slice none 0 0, .slice none 0 0] 42) (by generalize A'.eval = ev at *; simp [go_sem]) (upto_to rfl rfl ⟨_, rfl, b.size, alloc_at _ _⟩)
          · intro A' w' hJ hoff hdep _hdif
            have b := init_of hJ (n := 0) rfl (by kernel_rfl)
            obtain ⟨g, aB, hgb, hg⟩ := upto_of (ask_of hdep (j := 10) (by kernel_rfl)) rfl
            obtain ⟨AT, ct, AC, cc, AL, cl, AD, cd, xs, a31, pq⟩ := upto_of (ask_of hdep (j := 8) (by kernel_rfl)) rfl
            have eB : slotAt A' 7 = .pointer (some ⟨g, 0, none⟩) := aB
            have hM : McBox w' g := ⟨_, _, hg⟩
            have k0 : w'.cell? ⟨g, 0, none⟩ = some (.slice none 0 0) := by simp [World.cell?, hg]
            have k1 : w'.cell? ⟨g, 1, none⟩ = some (.slice none 0 0) := by simp [World.cell?, hg]
            have k2 : w'.cell? ⟨g, 2, none⟩ = some (.slice none 0 0) := by simp [World.cell?, hg]
            have k3 : w'.cell? ⟨g, 3, none⟩ = some (.slice none 0 0) := by simp [World.cell?, hg]
            have g0 : w'.frozen? ⟨g, 0, none⟩ = false := by simp [World.frozen?, hg]
            have g1 : w'.frozen? ⟨g, 1, none⟩ = false := by simp [World.frozen?, hg]
            have g2 : w'.frozen? ⟨g, 2, none⟩ = false := by simp [World.frozen?, hg]
            have g3 : w'.frozen? ⟨g, 3, none⟩ = false := by simp [World.frozen?, hg]
            refine lastI (w' := (((w'.setCell ⟨g, 0, none⟩ (.slice AT M.ths.length ct)).setCell ⟨g, 1, none⟩ (.slice AC M.cells.length cc)).setCell ⟨g, 2, none⟩ (.slice AL M.locks.length cl)).setCell ⟨g, 3, none⟩ (.slice AD M.told.length cd)) (by generalize A'.eval = ev at *; simp [go_sem, aB, a31, k0, k1, k2, k3, g0, g1, g2, g3]) (by simp) ⟨g, AT, ct, AC, cc, AL, cl, AD, cd, xs, by simp [put1, eB], hgb, ?_, (((hM.set _ _).set _ _).set _ _).set _ _, (((pq.setBox _ _ hM).setBox _ _ (hM.set _ _)).setBox _ _ ((hM.set _ _).set _ _)).setBox _ _ (((hM.set _ _).set _ _).set _ _), ?_⟩ (fun j hj _ hk hf => ?_) (by kernel_rfl)
            · clear hoff hdep hJ pq
              unfold Four
              go_simp
            · repeat (refine Below.setCell ?_ hgb _)
              exact b
            · match j, hj, hk, hf with
              | 0, _, _, hf => exact hf
              | 1, _, _, hf => exact hf
              | 2, _, _, hf => exact hf
              | 3, _, _, hf => exact hf
              | 4, _, _, hf => exact hf
              | 5, _, _, hf => exact hf
              | 6, hj, hk, hf => exact absurd rfl (hk 11 rfl).1
              | 7, _, _, hf => exact hf
              | 8, hj, hk, hf => exact absurd rfl (hk 11 rfl).1
              | 9, _, _, hf => exact hf
              | 10, hj, hk, hf => exact absurd rfl (hk 11 rfl).1
              | 11, hj, _, _ => exact absurd rfl hj
              | 12, _, _, hf => exact hf
              | _ + 13, _, _, _ => trivial
          · intro A' w' hJ hoff hdep _hdif
            have a32 := is_of (ask_of hdep (j := 9) (by kernel_rfl)) rfl
            exact isI rfl rfl (by generalize A'.eval = ev at *; simp [go_sem, a32])
        · intro s w8 hf _hdf _hff
          obtain ⟨gn, ATn, ctn, ACn, ccn, ALn, cln, ADn, cdn, xsn, es, lgn, fn, mbn, obn, hb8⟩ := hf 11 (by decide) rfl
          have es : [s 7] = [.pointer (some ⟨gn, 0, none⟩)] := es
          injection es with eB _
          have eA := val_of (hf 12 (by decide) rfl) rfl
          have OWN := Lib.hid obn
          clear hf obn mbn
          simp only [putAll, Act.put, List.setIfInBounds_toArray, List.set_cons_succ, List.set_cons_zero, eB, eA]
          clear eB eA
          obtain ⟨z0, z1, z2, z3, _, _, _, _⟩ := fn
          have HF8 := Lib.hid (HF.out.keep hb8)
          obtain ⟨v0, v1, v2, v3, f0, f1, f2, f3⟩ := HF8.out
          have HMB8 := Lib.hid (HMB.out.keep hb8)
          have HB8 := Lib.hid (below_then HB.out hb8)
          have l8 : w2.heap.size < w8.heap.size := cell_lt v0
          have hne : gn ≠ w2.heap.size := by omega
          clear x0 x1 x2 y0 y1 y2 y3 q0 q1 hb8
          cases ok with
          | false =>
            have HV : Hid ((k : Int) = Bt.runLong rs h l) := Lib.hid (by
              rw [HR.out, HGO.out, HDR.out, Bt.goFrom_no (by have := HOK.out; cases hd : Bt.doM rs h mk ch with
                | none => rfl
                | some m' => rw [hd] at this; cases this)]
              simp)
            go_wp2
            go_ret
            exact ⟨ret_int HV.out, B2.out.trans (HB8.out.mono B2.out.size)⟩
          | true =>
            have HN : Hid (Bt.goFrom rs h Bt.mcNew (l.take 300) = (k + 1) + Bt.goFrom rs h M ((l.take 300).drop (k + 1))) := Lib.hid (by
              rw [HGO.out, HDR.out]
              cases hd : Bt.doM rs h mk ch with
              | none => have := HOK.out; rw [hd] at this; cases this
              | some m' =>
                have := HDM.out
                rw [hd] at this
                have e : m' = M := this
                rw [Bt.goFrom_yes hd, e]
                omega)
            go_wp2
            go_roundw
            case rel =>
              refine ⟨k + 1, by omega, by go_num, ?_, M, MBox.stored HF8.out HMB8.out (OWN.out.mono (by have := B2.out.size; have := HB.out.size; omega)), MS.out, HN.out⟩
              exact (((HB8.out.setCell (Nat.le_refl _) _).setCell (Nat.le_refl _) _).setCell (Nat.le_refl _) _).setCell (Nat.le_refl _) _
            case measure => simp [intOf]; omega
      · obtain rfl : k = lim := by omega
        have HV : Hid (min (nl : Int) 300 = Bt.runLong rs h l) := Lib.hid (by
          rw [HR.out, HGO.out, List.drop_of_length_le (by rw [HTL.out]; exact Nat.le_refl _)]
          have := HLIM.out
          simp only [Bt.goFrom]
          omega)
        by_cases hn3 : nl ≤ 300
        · obtain rfl : k = nl := by have := HLIM.out; omega
          have HV1 : Hid ((k : Int) = Bt.runLong rs h l) := Lib.hid (by have := HV.out; omega)
          go_wp2
          go_ret
          exact ⟨ret_int HV1.out, B2.out.trans (HB.out.mono B2.out.size)⟩
        · have hk3 : k = 300 := by have := HLIM.out; omega
          subst hk3
          have hn3' : 300 < nl := by omega
          have HV1 : Hid ((300 : Int) = Bt.runLong rs h l) := Lib.hid (by have := HV.out; omega)
          go_wp2
          go_ret
          exact ⟨ret_int HV1.out, B2.out.trans (HB.out.mono B2.out.size)⟩

set_option maxRecDepth 100000 in
set_option maxHeartbeats 4000000 in
theorem specRunOk_any {A : Option Addr} {pb po n cap nl cl : Nat} {rs : List Bt.C4} {l : List Bt.Ch} (h : Int) (w : World) (P : ArgPr w pb po n cap rs) (L : ArgChs w (.slice A nl cl) l) (hL : l.length = nl) (hl : nl ≤ 1048576) :
    Calls Try.prog 17 #[.agg #[.slice (some ⟨pb, po, none⟩) n cap, .int .i64 h], .slice A nl cl] w fun e w' => e = .returned (.bool (Bt.runOk rs h l)) ∧ Below w.heap.size w w' := by
  have hcp := P.cap
  obtain ⟨hlc, _⟩ := L.at_ hL
  have HL := Lib.hid hL; clear hL
  have BB := Lib.hid ((Below.refl w.heap.size w).alloc (Nat.le_refl _) (.cells #[.slice (some ⟨pb, po, none⟩) n cap, .int .i64 h] 31))
  have HP := Lib.hid (P.keep BB.out); have HC := Lib.hid (L.keep BB.out)
  clear P L
  by_cases h3 : nl ≤ 300
  · have HV : Hid ((Bt.runLong rs h l == (nl : Int)) = Bt.runOk rs h l) := Lib.hid (by unfold Bt.runOk; rw [HL.out, decide_eq_true h3, Bool.true_and])
    go_enter Try.func17, Try.ntmps17
    go_wp2_with fail
    refine (specRunLong_any h _ HP.out HC.out HL.out hl).mono ?_
    rintro e w1 ⟨rfl, hb1⟩
    generalize Bt.runLong rs h l = q at *
    go_wp2
    go_ret
    exact ⟨ret_bool HV.out, below_then BB.out hb1⟩
  · have HV : Hid (false = Bt.runOk rs h l) := Lib.hid (by unfold Bt.runOk; rw [HL.out, decide_eq_false h3, Bool.false_and])
    go_enter Try.func17, Try.ntmps17
    go_wp2
    go_ret
    exact ⟨ret_bool HV.out, BB.out⟩
end Go.Proofs.Ytolbihilggkldaa
