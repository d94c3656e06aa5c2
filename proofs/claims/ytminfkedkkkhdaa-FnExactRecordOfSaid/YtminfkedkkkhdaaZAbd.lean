/-
  Part of a proof: DoL. No condition.
-/
import Derived.Test.YtminfkedkkkhdaaZAbc
namespace Go.Proofs.Ytminfkedkkkhdaa
open Go.RowKit
namespace Bt
def mcNil : Mc := ⟨[], [], [], []⟩
theorem sum_all {ts : List Th} {q : Nat} (h : ∀ t ∈ ts, t.regs.length + t.stack.length ≤ q) : sumTh ts ≤ q * ts.length := by
 induction ts with
 | nil => simp [sumTh]
 | cons t l ih =>
  have h1 := h t (by simp)
  have h2 := ih (fun t' ht => h t' (by simp [ht]))
  have e : sumTh (t :: l) = (t.regs.length + t.stack.length) + sumTh l := by simp [sumTh]
  rw [e, List.length_cons, Nat.mul_add]
  omega
theorem sz_of {m : Mc} (h0 : m.ths.length ≤ 1000) (h1 : ∀ t ∈ m.ths, t.regs.length + t.stack.length ≤ 11) (h2 : m.cells.length ≤ 1000) (h3 : m.locks.length ≤ 1000) (h4 : m.told.length ≤ 2000) : mcSz m ≤ 1048576 := by
 have := sum_all h1
 unfold mcSz
 omega
theorem set_all {ts : List Th} {k : Nat} {t' : Th} {q : Nat} (h : ∀ t ∈ ts, t.regs.length + t.stack.length ≤ q) (h' : t'.regs.length + t'.stack.length ≤ q) : ∀ t ∈ ts.set k t', t.regs.length + t.stack.length ≤ q := fun t ht => by
 rcases List.mem_or_eq_of_mem_set ht with ht | rfl
 ·exact h t ht
 ·exact h'
theorem regsI_len (m : Mc) (t : Th) (x : C4) (rep : Int) : (regsI m t x rep).length = t.regs.length := by
 unfold regsI
 split <;> simp
theorem stackI_len (t : Th) (x : C4) : (stackI t x).length ≤ t.stack.length + 1 := by
 unfold stackI
 split
 ·simp
 ·split
  ·rw [List.length_take]; omega
  ·omega
theorem made_sz (rs : List C4) (h : Int) (m : Mc) (c : Ch) : mcSz ((doM rs h m c).getD mcNil) ≤ 1048576 := by
 cases hd : doM rs h m c with
 | none => exact Nat.zero_le _
 | some m' =>
  show mcSz m' ≤ 1048576
  obtain ⟨who, kd, rep⟩ := c
  cases hc : canDo rs h m ⟨who, kd, rep⟩ with
  | false => rw [doM_no hc] at hd; cases hd
  | true =>
   obtain ⟨hm, hr⟩ := canDo_true hc
   have F := machOk_facts hm
   simp only at hr
   have hlr := runs_lt hr
   obtain ⟨k, rfl⟩ : ∃ k : Nat, who = k := ⟨who.toNat, by omega⟩
   have hk : k < m.ths.length := by omega
   have f1 := F.few
   have f2 := F.cells
   have f3 := F.locks
   have f4 := F.told
   have hth : ∀ t ∈ m.ths, t.regs.length + t.stack.length ≤ 11 := fun t ht => by
    obtain ⟨j, hj, rfl⟩ := List.getElem_of_mem ht
    have g := thOk_facts (F.th j hj)
    have := regsOk_len g.regs
    have := g.top
    omega
   have gk := thOk_facts (F.th k hk)
   have r4 := regsOk_len gk.regs
   have s6 := gk.top
   rw [doM_in hc hk] at hd
   split at hd
   ·injection hd with hd
    subst hd
    exact sz_of (by simp; omega) (set_all hth (by simp; omega)) (by simp only; omega) (by simp only; omega) (by simp only; omega)
   ·split at hd
    ·injection hd with hd
     subst hd
     exact sz_of (by simp; omega) (set_all hth (by simp; omega)) (by simp only; omega) (by simp only; omega) (by simp only; omega)
    ·rename_i x _
     split at hd
     ·injection hd with hd
      subst hd
      exact sz_of (by simp; omega) (set_all hth (by simp; omega)) (by simp only; omega) (by simp only; omega) (by simp only; omega)
     ·injection hd with hd
      subst hd
      have e1 := regsI_len m m.ths[k] x rep
      have e2 := stackI_len m.ths[k] x
      refine sz_of ?_ ?_ ?_ ?_ ?_
      ·show (thsI m k m.ths[k] x rep).length ≤ 1000
       unfold thsI
       split <;> simp <;> omega
      ·show ∀ t ∈ thsI m k m.ths[k] x rep, t.regs.length + t.stack.length ≤ 11
       unfold thsI
       intro t ht
       rw [List.mem_append] at ht
       rcases ht with ht | ht
       ·exact set_all hth (by simp only; omega) t ht
       ·split at ht
        ·rw [List.mem_singleton] at ht
         subst ht
         simp
         omega
        ·simp at ht
      ·show (cellsI m m.ths[k] x).length ≤ 1000
       unfold cellsI
       split
       ·rw [List.length_set]; omega
       ·omega
      ·show (locksI m k x).length ≤ 1000
       unfold locksI
       split
       ·rw [List.length_set]; omega
       ·split
        ·rw [List.length_set]; omega
        ·omega
      ·show (toldI m m.ths[k] x).length ≤ 2000
       unfold toldI
       split
       ·rw [List.length_append, List.length_singleton]; omega
       ·omega
end Bt
theorem OwnThs.nil0 (w : World) (B : Nat) : OwnThs w B (.slice none 0 0) [] [] :=
 ⟨rfl, ⟨[], World.ownsRow_nil w B _ 4, fun i hi => absurd hi (by simp)⟩, fun i hi => absurd hi (by simp)⟩
theorem OwnMc.nil0 (w : World) (B : Nat) : OwnMc w B (.slice none 0 0) (.slice none 0 0) (.slice none 0 0) (.slice none 0 0) [] Bt.mcNil :=
 ⟨OwnThs.nil0 w B, IntRow.nil w B, IntRow.nil w B, IntRow.nil w B, by simp [rowsOf, Apart, Value.ownBlock]⟩
theorem McOwn.slices {w : World} {B : Nat} {vt vc vl vd : Value} {xs : List (Value × Value)} {m : Bt.Mc} (h : McOwn w B vt vc vl vd xs m) : ∃ AT ct AC cc AL cl AD cd, vt = .slice AT m.ths.length ct ∧ vc = .slice AC m.cells.length cc ∧ vl = .slice AL m.locks.length cl ∧ vd = .slice AD m.told.length cd := by
 obtain ⟨AC, cc, e1, _⟩ := h.cells.arg.form
 obtain ⟨AL, cl, e2, _⟩ := h.locks.arg.form
 obtain ⟨AD, cd, e3, _⟩ := h.told.arg.form
 obtain ⟨AT, ct, e⟩ := h.ths.slice
 exact ⟨AT, ct, AC, cc, AL, cl, AD, cd, e, e1, e2, e3⟩
def DoneS (M : Bt.Mc) (ok : Bool) (w : World) (e : Ending) (w' : World) : Prop := ∃ AT ct AC cc AL cl AD cd xs, e = .returned (.tuple #[.agg #[.slice AT M.ths.length ct, .slice AC M.cells.length cc, .slice AL M.locks.length cl, .slice AD M.told.length cd], .bool ok]) ∧ Below w.heap.size w w' ∧
 McOwn w' w.heap.size (.slice AT M.ths.length ct) (.slice AC M.cells.length cc) (.slice AL M.locks.length cl) (.slice AD M.told.length cd) xs M
def DoneI (M : Bt.Mc) (ok : Bool) (w : World) (e : Ending) (w' : World) : Prop := ∃ AT ct AC cc AL cl AD cd xs, e = .returned (.tuple #[.agg #[.slice AT M.ths.length ct, .slice AC M.cells.length cc, .slice AL M.locks.length cl, .slice AD M.told.length cd], .bool ok]) ∧ Below w.heap.size w w' ∧
 OwnMc w' w.heap.size (.slice AT M.ths.length ct) (.slice AC M.cells.length cc) (.slice AL M.locks.length cl) (.slice AD M.told.length cd) xs M
theorem specDo_all {AT AC AL AD : Option Addr} {nt ct nc cc nl cl nd cd b o n cap : Nat} {m : Bt.Mc} {rs : List Bt.C4} (h : Int) (c : Bt.Ch) (w : World) (P : ArgPr w b o n cap rs)
  (H : ArgMc w AT nt ct AC nc cc AL nl cl AD nd cd m) (S : Small m) :
  Calls Try.prog 65 #[.agg #[.slice (some ⟨b, o, none⟩) n cap, .int .i64 h], .agg #[.slice AT nt ct, .slice AC nc cc, .slice AL nl cl, .slice AD nd cd], .agg #[.int .i64 c.who, .int .i64 c.kind, .int .i64 c.reply]] w (DoneS ((Bt.doM rs h m c).getD Bt.mcNil) (Bt.doM rs h m c).isSome w) := (specDo_any h c w P H S).mono fun e w' hh => by
 cases hd : Bt.doM rs h m c with
 | none =>
  rw [hd] at hh
  obtain ⟨rfl, hb⟩ := hh
  exact ⟨_, _, _, _, _, _, _, _, [], rfl, hb, (OwnMc.nil0 w' _).loose⟩
 | some m' =>
  rw [hd] at hh
  obtain ⟨vt, vc, vl, vd, xs, rfl, hb, ho⟩ := hh
  obtain ⟨AT', ct', AC', cc', AL', cl', AD', cd', rfl, rfl, rfl, rfl⟩ := ho.slices
  exact ⟨_, _, _, _, _, _, _, _, xs, rfl, hb, ho⟩
theorem implDo_all {AT AC AL AD : Option Addr} {nt ct nc cc nl cl nd cd b o n cap : Nat} {m : Bt.Mc} {rs : List Bt.C4} (h : Int) (c : Bt.Ch) (w : World) (P : ArgPr w b o n cap rs)
  (H : ArgMc w AT nt ct AC nc cc AL nl cl AD nd cd m) (S : Small m) :
  Calls Try.prog 75 #[.agg #[.slice (some ⟨b, o, none⟩) n cap, .int .i64 h], .agg #[.slice AT nt ct, .slice AC nc cc, .slice AL nl cl, .slice AD nd cd], .agg #[.int .i64 c.who, .int .i64 c.kind, .int .i64 c.reply]] w (DoneI ((Bt.doM rs h m c).getD Bt.mcNil) (Bt.doM rs h m c).isSome w) := (implDo_any h c w P H S).mono fun e w' hh => by
 cases hd : Bt.doM rs h m c with
 | none =>
  rw [hd] at hh
  obtain ⟨rfl, hb⟩ := hh
  exact ⟨_, _, _, _, _, _, _, _, [], rfl, hb, OwnMc.nil0 w' _⟩
 | some m' =>
  rw [hd] at hh
  obtain ⟨vt, vc, vl, vd, xs, rfl, hb, ho⟩ := hh
  obtain ⟨AT', ct', AC', cc', AL', cl', AD', cd', rfl, rfl, rfl, rfl⟩ := ho.slices
  exact ⟨_, _, _, _, _, _, _, _, xs, rfl, hb, ho⟩
end Go.Proofs.Ytminfkedkkkhdaa
