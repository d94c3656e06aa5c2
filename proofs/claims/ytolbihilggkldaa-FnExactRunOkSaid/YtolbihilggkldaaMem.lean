/-
  Threads and machines in memory, as they are read.
-/
import Derived.Test.YtolbihilggkldaaRows2
import Derived.Test.YtolbihilggkldaaToProg
namespace Go.Proofs.Ytolbihilggkldaa
open Go.RowKit

/-- four cells from o on in block b are a thread -/
def ThAt (w : World) (b o : Nat) (t : Bt.Th) : Prop :=
  w.cell? ⟨b, o, none⟩ = some (.int .i64 t.pl) ∧ (∃ A c, w.cell? ⟨b, o + 1, none⟩ = some (.slice A t.regs.length c) ∧ ArgInts w (.slice A t.regs.length c) t.regs) ∧
  (∃ A c, w.cell? ⟨b, o + 2, none⟩ = some (.slice A t.stack.length c) ∧ ArgInts w (.slice A t.stack.length c) t.stack) ∧ w.cell? ⟨b, o + 3, none⟩ = some (.int .i64 t.st)
theorem ThAt.keep {w w' : World} {b o : Nat} {t : Bt.Th} (h : ThAt w b o t) (hb : Below w.heap.size w w') : ThAt w' b o t := by
  obtain ⟨h0, ⟨A, c, h1, h2⟩, ⟨A', c', h3, h4⟩, h5⟩ := h
  exact ⟨keeps hb h0, ⟨A, c, keeps hb h1, h2.keep hb⟩, ⟨A', c', keeps hb h3, h4.keep hb⟩, keeps hb h5⟩
/-- n threads from address A on -/
def ArgThs (w : World) (A : Option Addr) (n cap : Nat) (ts : List Bt.Th) : Prop :=
  ts.length = n ∧ n ≤ cap ∧ ∀ i (h : i < ts.length), ∃ b o, A = some ⟨b, o, none⟩ ∧ ThAt w b (o + i * 4) ts[i]
theorem ArgThs.keep {w w' : World} {A : Option Addr} {n cap : Nat} {ts : List Bt.Th} (h : ArgThs w A n cap ts) (hb : Below w.heap.size w w') : ArgThs w' A n cap ts := by
  obtain ⟨h0, h1, h2⟩ := h
  refine ⟨h0, h1, fun i hi => ?_⟩
  obtain ⟨b, o, hA, h⟩ := h2 i hi
  exact ⟨b, o, hA, h.keep hb⟩
/-- a machine in memory, its four slices named -/
structure ArgMc (w : World) (AT : Option Addr) (nt ct : Nat) (AC : Option Addr) (nc cc : Nat) (AL : Option Addr) (nl cl : Nat) (AD : Option Addr) (nd cd : Nat) (m : Bt.Mc) : Prop where
  ths : ArgThs w AT nt ct m.ths
  cells : ArgInts w (.slice AC nc cc) m.cells
  locks : ArgInts w (.slice AL nl cl) m.locks
  told : ArgInts w (.slice AD nd cd) m.told
  nC : m.cells.length = nc
  nL : m.locks.length = nl
  nD : m.told.length = nd
theorem ArgMc.keep {w w' : World} {AT AC AL AD : Option Addr} {nt ct nc cc nl cl nd cd : Nat} {m : Bt.Mc} (h : ArgMc w AT nt ct AC nc cc AL nl cl AD nd cd m) (hb : Below w.heap.size w w') :
    ArgMc w' AT nt ct AC nc cc AL nl cl AD nd cd m :=
  ⟨h.ths.keep hb, h.cells.keep hb, h.locks.keep hb, h.told.keep hb, h.nC, h.nL, h.nD⟩
theorem ArgMc.nT {w : World} {AT AC AL AD : Option Addr} {nt ct nc cc nl cl nd cd : Nat} {m : Bt.Mc} (h : ArgMc w AT nt ct AC nc cc AL nl cl AD nd cd m) : m.ths.length = nt := h.ths.1
/-- no row is longer than what the laws let by -/
structure Small (m : Bt.Mc) : Prop where
  ths : m.ths.length ≤ 1048576
  cells : m.cells.length ≤ 1048576
  locks : m.locks.length ≤ 1048576
  told : m.told.length ≤ 1048576
  regs : ∀ i (h : i < m.ths.length), m.ths[i].regs.length ≤ 1048576
  stack : ∀ i (h : i < m.ths.length), m.ths[i].stack.length ≤ 1048576
theorem le40 {n : Nat} (h : n ≤ 1048576) : n ≤ 1099511627776 := by omega
/-- a thread by value -/
structure ArgTh (w : World) (AR : Option Addr) (nr cr : Nat) (AS : Option Addr) (ns cs : Nat) (t : Bt.Th) : Prop where
  regs : ArgInts w (.slice AR nr cr) t.regs
  stack : ArgInts w (.slice AS ns cs) t.stack
  nR : t.regs.length = nr
  nS : t.stack.length = ns
theorem ArgTh.keep {w w' : World} {AR AS : Option Addr} {nr cr ns cs : Nat} {t : Bt.Th} (h : ArgTh w AR nr cr AS ns cs t) (hb : Below w.heap.size w w') : ArgTh w' AR nr cr AS ns cs t :=
  ⟨h.regs.keep hb, h.stack.keep hb, h.nR, h.nS⟩
/-- a thread's cells, read -/
theorem ThAt.open {w : World} {b o : Nat} {t : Bt.Th} (h : ThAt w b o t) : ∃ AR cr AS cs, ArgTh w AR t.regs.length cr AS t.stack.length cs t ∧ w.cell? ⟨b, o, none⟩ = some (.int .i64 t.pl) ∧
    w.cell? ⟨b, o + 1, none⟩ = some (.slice AR t.regs.length cr) ∧ w.cell? ⟨b, o + 2, none⟩ = some (.slice AS t.stack.length cs) ∧ w.cell? ⟨b, o + 3, none⟩ = some (.int .i64 t.st) := by
  obtain ⟨h0, ⟨A, c, h1, h2⟩, ⟨A', c', h3, h4⟩, h5⟩ := h
  exact ⟨A, c, A', c', ⟨h2, h4, rfl, rfl⟩, h0, h1, h3, h5⟩
/-- a program in memory -/
structure ArgPr (w : World) (b o n cap : Nat) (rs : List Bt.C4) : Prop where
  nP : rs.length = n
  le : n ≤ 1048576
  cap : n ≤ cap
  codes : CodesAt w b o rs
theorem ArgPr.keep {w w' : World} {b o n cap : Nat} {rs : List Bt.C4} (h : ArgPr w b o n cap rs) (hb : Below w.heap.size w w') : ArgPr w' b o n cap rs := ⟨h.nP, h.le, h.cap, h.codes.keep hb⟩
theorem specProg_any {w : World} {b o n cap : Nat} {rs : List Bt.C4} (P : ArgPr w b o n cap rs) (h : Int) :
    Calls Try.prog 37 #[.agg #[.slice (some ⟨b, o, none⟩) n cap, .int .i64 h]] w fun e w' => e = .returned (.bool (Bt.progOk rs h)) ∧ Below w.heap.size w w' := by
  obtain ⟨rfl, hn, hc, hr⟩ := P
  exact specProgramOk_any b o cap rs h w hn hc hr
theorem implProg_any {w : World} {b o n cap : Nat} {rs : List Bt.C4} (P : ArgPr w b o n cap rs) (h : Int) :
    Calls Try.prog 56 #[.agg #[.slice (some ⟨b, o, none⟩) n cap, .int .i64 h]] w fun e w' => e = .returned (.bool (Bt.progOk rs h)) ∧ Below w.heap.size w w' := by
  obtain ⟨rfl, hn, hc, hr⟩ := P
  exact implProgramOk_any b o cap rs h w hn hc hr
end Go.Proofs.Ytolbihilggkldaa
