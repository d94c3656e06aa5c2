/-
  Which thread runs, and at which instruction it is, in both packages: contracts.
-/
import Derived.Test.YtolbihilggkldaaMokS
import Derived.StillTailTactics
namespace Go.Proofs.Ytolbihilggkldaa
open Go.RowKit

namespace Bt
/-- a thread of a machine -/
def thAt (m : Mc) (who : Int) : Option Th := if who < 0 then none else m.ths[who.toNat]?
/-- a thread is there and runs -/
def runs (m : Mc) (who : Int) : Bool := match thAt m who with
  | some t => t.st == 0
  | none => false
/-- the instruction at which a thread is -/
def instrOf (rs : List C4) (h : Int) (m : Mc) (who : Int) : Option C4 := if machOk rs h m && runs m who then (match thAt m who with
  | some t => if t.pl < rs.length then rs[t.pl.toNat]? else none
  | none => none) else none
theorem thAt_neg {m : Mc} {who : Int} (h : who < 0) : thAt m who = none := if_pos h
theorem thAt_out {m : Mc} {who : Int} (h : (m.ths.length : Int) ≤ who) : thAt m who = none := by
  unfold thAt
  split
  · rfl
  · exact List.getElem?_eq_none (by omega)
theorem thAt_in {m : Mc} {k : Nat} (h : k < m.ths.length) : thAt m (k : Int) = some m.ths[k] := by
  unfold thAt
  rw [if_neg (by omega)]
  simp [h]
theorem runs_none {m : Mc} {who : Int} (h : thAt m who = none) : runs m who = false := by unfold runs; rw [h]
theorem runs_in {m : Mc} {k : Nat} (h : k < m.ths.length) : runs m (k : Int) = (m.ths[k].st == 0) := by unfold runs; rw [thAt_in h]
theorem runs_lt {m : Mc} {who : Int} (h : runs m who = true) : 0 ≤ who ∧ who < m.ths.length := by
  by_cases h1 : who < 0
  · rw [runs_none (thAt_neg h1)] at h; cases h
  · by_cases h2 : (m.ths.length : Int) ≤ who
    · rw [runs_none (thAt_out h2)] at h; cases h
    · omega
theorem instrOf_no {rs : List C4} {h : Int} {m : Mc} {who : Int} (hh : machOk rs h m = false ∨ runs m who = false) : instrOf rs h m who = none := by
  unfold instrOf
  rw [if_neg]
  rw [Bool.and_eq_true]
  rintro ⟨a, b⟩
  rcases hh with e | e
  · rw [a] at e; cases e
  · rw [b] at e; cases e
theorem instrOf_end {rs : List C4} {h : Int} {m : Mc} {k : Nat} (hk : k < m.ths.length) (he : (rs.length : Int) ≤ m.ths[k].pl) : instrOf rs h m (k : Int) = none := by
  unfold instrOf
  split
  · rw [thAt_in hk]
    simp only
    rw [if_neg (by omega)]
  · rfl
theorem instrOf_at {rs : List C4} {h : Int} {m : Mc} {k j : Nat} (hm : machOk rs h m = true) (hk : k < m.ths.length) (hr : m.ths[k].st = 0) (hj : j < rs.length) (he : m.ths[k].pl = j) : instrOf rs h m (k : Int) = some rs[j] := by
  unfold instrOf
  rw [if_pos (by rw [hm, runs_in hk, hr]; rfl), thAt_in hk]
  simp only
  rw [if_pos (by omega), he]
  simp [hj]
end Bt

/-- an instruction that may not be there, as it is handed back -/
def codeVal : Option Bt.C4 → Value
  | some r => .tuple #[.agg #[.int .i64 r.op, .int .i64 r.a, .int .i64 r.b, .int .i64 r.c], .bool true]
  | none => .tuple #[.agg #[.int .i64 0, .int .i64 0, .int .i64 0, .int .i64 0], .bool false]

set_option maxHeartbeats 1000000 in
theorem threadRuns_any {AT AC AL AD : Option Addr} {nt ct nc cc nl cl nd cd : Nat} {m : Bt.Mc} {w : World} (who : Int) (H : ArgMc w AT nt ct AC nc cc AL nl cl AD nd cd m) :
    Calls Try.prog 85 #[.agg #[.slice AT nt ct, .slice AC nc cc, .slice AL nl cl, .slice AD nd cd], .int .i64 who] w fun e w' => e = .returned (.bool (Bt.runs m who)) ∧ Below w.heap.size w w' := by
  have hT := Lib.hid H.nT
  have hle := H.ths.2.1
  have HH := Lib.hid H; clear H
  have B0 : Below w.heap.size w (w.alloc (.cells #[.slice AT nt ct, .slice AC nc cc, .slice AL nl cl, .slice AD nd cd] 42)) := (Below.refl _ _).alloc (Nat.le_refl _) _
  by_cases c1 : 0 ≤ who
  · by_cases c2 : who < nt
    · obtain ⟨k, rfl⟩ : ∃ k : Nat, who = k := ⟨who.toNat, by omega⟩
      have hk : k < nt := by omega
      have hk' : k < m.ths.length := by rw [hT.out]; exact hk
      rw [Bt.runs_in hk']
      obtain ⟨bt, ot, rfl, ht⟩ := (HH.out.keep B0).ths.2.2 k hk'
      obtain ⟨AR, cr, AS, cs, HT, f0, f1, f2, f3⟩ := ht.open
      clear ht HT f0 f1 f2 c1 c2
      generalize m.ths[k].st = st at *
      go_enter Try.func85, Try.ntmps85
      go_wp2
      go_ret
      exact ⟨rfl, B0⟩
    · rw [Bt.runs_none (Bt.thAt_out (by rw [hT.out]; omega))]
      go_enter Try.func85, Try.ntmps85
      go_wp2
      go_ret
      exact ⟨rfl, B0⟩
  · rw [Bt.runs_none (Bt.thAt_neg (by omega))]
    go_enter Try.func85, Try.ntmps85
    go_wp2
    go_ret
    exact ⟨rfl, B0⟩

set_option maxHeartbeats 1000000 in
theorem behindEnd_any (b o n cap : Nat) (h : Int) (pl st : Int) (AR AS : Option Addr) (nr cr ns cs : Nat) (w : World) :
    Calls Try.prog 89 #[.agg #[.slice (some ⟨b, o, none⟩) n cap, .int .i64 h], .agg #[.int .i64 pl, .slice AR nr cr, .slice AS ns cs, .int .i64 st]] w fun e w' => e = .returned (.bool (decide ((n : Int) ≤ pl))) ∧ Below w.heap.size w w' := by
  go_enter Try.func89, Try.ntmps89
  go_wp2
  go_ret
  exact ⟨rfl, ((Below.refl _ _).alloc (Nat.le_refl _) _).alloc (by simp) _⟩
end Go.Proofs.Ytolbihilggkldaa
