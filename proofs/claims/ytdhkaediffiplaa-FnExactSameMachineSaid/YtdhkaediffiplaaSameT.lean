/-
  Whether two machines are equal, in both packages: contracts.
-/
import Derived.Test.YtdhkaediffiplaaSameI
import Derived.Test.YtdhkaediffiplaaMem
import Derived.Test.YtdhkaediffiplaaOrd
import Derived.Test.YtdhkaediffiplaaSz
namespace Go.Proofs.Ytdhkaediffiplaa
open Go.RowKit

namespace Bt
/-- threads are equal -/
def thSame (t t' : Th) : Bool := t.pl == t'.pl && (t.st == t'.st && ((t.regs == t'.regs) && (t.stack == t'.stack)))
/-- machines are equal -/
def mcSame (m m' : Mc) : Bool := (m.ths.length == m'.ths.length) && ((m.ths.zip m'.ths).all (fun p => thSame p.1 p.2) && ((m.cells == m'.cells) && ((m.locks == m'.locks) && (m.told == m'.told))))
theorem mcSame_len {m m' : Mc} (h : m.ths.length ≠ m'.ths.length) : mcSame m m' = false := by
  unfold mcSame
  rw [beq_eq_false_iff_ne.2 h, Bool.false_and]
theorem mcSame_th {m m' : Mc} {k : Nat} (hk : k < m.ths.length) (hk' : k < m'.ths.length) (h : thSame m.ths[k] m'.ths[k] = false) : mcSame m m' = false := by
  have : (m.ths.zip m'.ths).all (fun p => thSame p.1 p.2) = false := by
    rw [List.all_eq_false]
    refine ⟨(m.ths[k], m'.ths[k]), ?_, by simp [h]⟩
    have hz : k < (m.ths.zip m'.ths).length := by rw [List.length_zip]; omega
    have := List.getElem_mem hz
    rwa [List.getElem_zip] at this
  unfold mcSame
  rw [this, Bool.false_and, Bool.and_false]
theorem mcSame_eq {m m' : Mc} (hl : m.ths.length = m'.ths.length) (h : ∀ j (hj : j < m.ths.length) (hj' : j < m'.ths.length), thSame m.ths[j] m'.ths[j] = true) : mcSame m m' = ((m.cells == m'.cells) && ((m.locks == m'.locks) && (m.told == m'.told))) := by
  have : (m.ths.zip m'.ths).all (fun p => thSame p.1 p.2) = true := by
    rw [List.all_eq_true]
    intro x hx
    obtain ⟨i, hi, rfl⟩ := List.getElem_of_mem hx
    rw [List.getElem_zip]
    rw [List.length_zip] at hi
    exact h i (by omega) (by omega)
  unfold mcSame
  rw [this, beq_iff_eq.2 hl, Bool.true_and, Bool.true_and]
theorem mcSame_cells {m m' : Mc} (h : (m.cells == m'.cells) = false) : mcSame m m' = false := by unfold mcSame; rw [h]; simp
theorem mcSame_locks {m m' : Mc} (h : (m.locks == m'.locks) = false) : mcSame m m' = false := by unfold mcSame; rw [h]; simp
theorem mcSame_told {m m' : Mc} (h : (m.told == m'.told) = false) : mcSame m m' = false := by unfold mcSame; rw [h]; simp
theorem thSame_pl {t t' : Th} (h : t.pl ≠ t'.pl) : thSame t t' = false := by unfold thSame; rw [beq_eq_false_iff_ne.2 h, Bool.false_and]
theorem thSame_st {t t' : Th} (h : t.st ≠ t'.st) : thSame t t' = false := by unfold thSame; rw [beq_eq_false_iff_ne.2 h]; simp
theorem thSame_eq {t t' : Th} (h : t.pl = t'.pl) (h' : t.st = t'.st) : thSame t t' = ((t.regs == t'.regs) && (t.stack == t'.stack)) := by unfold thSame; rw [beq_iff_eq.2 h, beq_iff_eq.2 h', Bool.true_and, Bool.true_and]
end Bt

set_option maxHeartbeats 1000000 in
theorem sameThread_any {AR AS AR' AS' : Option Addr} {nr cr ns cs nr' cr' ns' cs' : Nat} {t t' : Bt.Th} {w : World} (H : ArgTh w AR nr cr AS ns cs t) (H' : ArgTh w AR' nr' cr' AS' ns' cs' t') (hr : nr ≤ 1048576) (hs : ns ≤ 1048576) (hr' : nr' ≤ 1048576) (hs' : ns' ≤ 1048576) :
    Calls Try.prog 66 #[.agg #[.int .i64 t.pl, .slice AR nr cr, .slice AS ns cs, .int .i64 t.st], .agg #[.int .i64 t'.pl, .slice AR' nr' cr', .slice AS' ns' cs', .int .i64 t'.st]] w fun e w' => e = .returned (.bool (Bt.thSame t t')) ∧ Below w.heap.size w w' := by
  have HR := Lib.hid (show t.regs.length ≤ 1048576 from H.nR ▸ hr)
  have HS := Lib.hid (show t.stack.length ≤ 1048576 from H.nS ▸ hs)
  have HR' := Lib.hid (show t'.regs.length ≤ 1048576 from H'.nR ▸ hr')
  have HS' := Lib.hid (show t'.stack.length ≤ 1048576 from H'.nS ▸ hs')
  have B0 : Below w.heap.size w ((w.alloc (.cells #[.int .i64 t.pl, .slice AR nr cr, .slice AS ns cs, .int .i64 t.st] 71)).alloc (.cells #[.int .i64 t'.pl, .slice AR' nr' cr', .slice AS' ns' cs', .int .i64 t'.st] 71)) := ((Below.refl _ _).alloc (Nat.le_refl _) _).alloc (by simp) _
  have HH := Lib.hid (H.keep B0); have HH' := Lib.hid (H'.keep B0); clear H H'
  by_cases hp : t.pl = t'.pl
  · by_cases hst : t.st = t'.st
    · have HE := Lib.hid (Bt.thSame_eq hp hst)
      rw [hp, hst]
      rw [hp, hst] at B0 HH HH'
      generalize t'.pl = pl at *
      generalize t'.st = st at *
      clear hp hst
      cases hR : t.regs == t'.regs
      · go_enter Try.func66, Try.ntmps66
        go_wp2_with fail
        refine (sameNums_any _ _ t.regs t'.regs _ HR.out HR'.out HH.out.regs HH'.out.regs).mono ?_
        rw [hR]
        rintro e w1 ⟨rfl, hb1⟩
        go_wp2
        go_ret
        exact ⟨ret_bool (by rw [HE.out, hR, Bool.false_and]), B0.trans (hb1.mono (by simp; omega))⟩
      · go_enter Try.func66, Try.ntmps66
        go_wp2_with fail
        refine (sameNums_any _ _ t.regs t'.regs _ HR.out HR'.out HH.out.regs HH'.out.regs).mono ?_
        rw [hR]
        rintro e w1 ⟨rfl, hb1⟩
        obtain ⟨hc, hf⟩ := bcell hb1
        go_wp2_with fail
        refine (sameNums_any _ _ t.stack t'.stack _ HS.out HS'.out (HH.out.keep hb1).stack (HH'.out.keep hb1).stack).mono ?_
        rintro e w2 ⟨rfl, hb2⟩
        go_wp2
        go_ret
        exact ⟨ret_bool (by rw [HE.out, hR, Bool.true_and]), B0.trans ((hb1.trans (hb2.mono hb1.size)).mono (by simp; omega))⟩
    · have HF := Lib.hid (Bt.thSame_st hst)
      have hq : (t.st == t'.st) = false := beq_eq_false_iff_ne.2 hst
      rw [hp]
      rw [hp] at B0
      generalize t'.pl = pl at *
      generalize t'.st = st' at *
      generalize t.st = st at *
      clear hst hp
      go_enter Try.func66, Try.ntmps66
      go_wp2
      go_ret
      exact ⟨ret_bool HF.out.symm, B0⟩
  · have HF := Lib.hid (Bt.thSame_pl hp)
    have hq : (t.pl == t'.pl) = false := beq_eq_false_iff_ne.2 hp
    generalize t'.pl = pl' at *
    generalize t.pl = pl at *
    clear hp
    go_enter Try.func66, Try.ntmps66
    go_wp2
    go_ret
    exact ⟨ret_bool HF.out.symm, B0⟩
end Go.Proofs.Ytdhkaediffiplaa
