/-
  Plain facts on machines, without any Go: when rows of numbers lie between bounds, when a thread and when a machine is one.
-/
import Derived.Test.YtolbihilggkldaaPlain
namespace Go.Proofs.Ytolbihilggkldaa.Bt
/-- all numbers are from one on and below another one -/
def inR (lo hi : Int) (xs : List Int) : Bool := xs.all fun n => decide (lo ≤ n) && decide (n < hi)
theorem inR_false {lo hi : Int} {xs : List Int} {k : Nat} (hk : k < xs.length) (h : xs[k] < lo ∨ hi ≤ xs[k]) : inR lo hi xs = false := by
  unfold inR
  rw [List.all_eq_false]
  refine ⟨xs[k], List.getElem_mem hk, ?_⟩
  simp only [Bool.and_eq_true, decide_eq_true_eq]
  omega
theorem inR_true {lo hi : Int} {xs : List Int} (h : ∀ j (hj : j < xs.length), lo ≤ xs[j] ∧ xs[j] < hi) : inR lo hi xs = true := by
  unfold inR
  rw [List.all_eq_true]
  intro x hx
  obtain ⟨i, hi', rfl⟩ := List.getElem_of_mem hx
  simpa using h i hi'
theorem inR_at {lo hi : Int} {xs : List Int} (h : inR lo hi xs = true) {j : Nat} (hj : j < xs.length) : lo ≤ xs[j] ∧ xs[j] < hi := by
  unfold inR at h
  rw [List.all_eq_true] at h
  simpa using h xs[j] (List.getElem_mem hj)
/-- registers are a thread's -/
def regsOk (xs : List Int) : Bool := inR 0 10000 xs && ((xs.length : Int) == 4)
theorem regsOk_eq {xs : List Int} : regsOk xs = ((((xs.length : Int) == 4)) && inR 0 10000 xs) := by unfold regsOk; rw [Bool.and_comm]
theorem regsOk_len {xs : List Int} (h : regsOk xs = true) : xs.length = 4 := by
  simp only [regsOk, Bool.and_eq_true, beq_iff_eq] at h
  omega
theorem regsOk_at {xs : List Int} (h : regsOk xs = true) {j : Nat} (hj : j < xs.length) : 0 ≤ xs[j] ∧ xs[j] < 10000 := by
  simp only [regsOk, Bool.and_eq_true] at h
  exact inR_at h.1 hj
/-- the cell that an instruction uses -/
def cellOf (r : C4) (regs : List Int) : Int :=
  if codeOk r.op r.a r.b r.c && (decide (r.op = 7) || decide (r.op = 8)) && regsOk regs then (regs.getD r.b.toNat 0 + r.c) % 8 else -1
/-- a thread: its place, its registers, its stack, its state -/
structure Th where
  pl : Int
  regs : List Int
  stack : List Int
  st : Int
/-- a machine: its threads, its cells, its locks, what was told -/
structure Mc where
  ths : List Th
  cells : List Int
  locks : List Int
  told : List Int
/-- a thread is one of a program of n instructions -/
def thOk (n : Int) (t : Th) : Bool := decide (0 ≤ t.pl ∧ t.pl ≤ n ∧ t.stack.length ≤ 6 ∧ 0 ≤ t.st ∧ t.st ≤ 2) && (regsOk t.regs && inR 0 (n + 1) t.stack)
/-- a machine is one of a program -/
def machOk (rs : List C4) (h : Int) (m : Mc) : Bool := progOk rs h && decide (1 ≤ m.ths.length ∧ m.ths.length ≤ 4 ∧ m.cells.length = 8 ∧ m.locks.length = 2 ∧ m.told.length ≤ 1000) &&
  (inR 0 10000 m.cells && inR (-1) m.ths.length m.locks && inR 0 10000 m.told) && m.ths.all (thOk rs.length)
theorem machOk_thread {rs : List C4} {h : Int} {m : Mc} {k : Nat} (hk : k < m.ths.length) (hg : thOk rs.length m.ths[k] = false) : machOk rs h m = false := by
  have h1 : m.ths.all (thOk rs.length) = false := by
    rw [List.all_eq_false]
    exact ⟨m.ths[k], List.getElem_mem hk, by simp [hg]⟩
  simp [machOk, h1]
theorem all_th {n : Int} {ts : List Th} (h : ∀ j (hj : j < ts.length), thOk n ts[j] = true) : ts.all (thOk n) = true := by
  rw [List.all_eq_true]
  intro x hx
  obtain ⟨i, hi, rfl⟩ := List.getElem_of_mem hx
  exact h i hi
structure MachFacts (rs : List C4) (h : Int) (m : Mc) : Prop where
  prog : progOk rs h = true
  many : 1 ≤ m.ths.length
  few : m.ths.length ≤ 4
  cells : m.cells.length = 8
  locks : m.locks.length = 2
  told : m.told.length ≤ 1000
  cellsIn : inR 0 10000 m.cells = true
  locksIn : inR (-1) m.ths.length m.locks = true
  toldIn : inR 0 10000 m.told = true
  th : ∀ j (hj : j < m.ths.length), thOk rs.length m.ths[j] = true
theorem machOk_facts {rs : List C4} {h : Int} {m : Mc} (hm : machOk rs h m = true) : MachFacts rs h m := by
  simp only [machOk, Bool.and_eq_true, decide_eq_true_eq, List.all_eq_true] at hm
  obtain ⟨⟨⟨h1, h2, h3, h4, h5, h6⟩, ⟨h7, h8⟩, h9⟩, h10⟩ := hm
  exact ⟨h1, h2, h3, h4, h5, h6, h7, h8, h9, fun j hj => h10 _ (List.getElem_mem hj)⟩
theorem machOk_of {rs : List C4} {h : Int} {m : Mc} (f : MachFacts rs h m) : machOk rs h m = true := by
  simp only [machOk, Bool.and_eq_true, decide_eq_true_eq]
  exact ⟨⟨⟨f.prog, f.many, f.few, f.cells, f.locks, f.told⟩, ⟨f.cellsIn, f.locksIn⟩, f.toldIn⟩, all_th f.th⟩
structure ThFacts (n : Int) (t : Th) : Prop where
  lo : 0 ≤ t.pl
  hi : t.pl ≤ n
  top : t.stack.length ≤ 6
  stLo : 0 ≤ t.st
  stHi : t.st ≤ 2
  regs : regsOk t.regs = true
  stack : inR 0 (n + 1) t.stack = true
theorem thOk_facts {n : Int} {t : Th} (h : thOk n t = true) : ThFacts n t := by
  simp only [thOk, Bool.and_eq_true, decide_eq_true_eq] at h
  obtain ⟨⟨h1, h2, h3, h4, h5⟩, h6, h7⟩ := h
  exact ⟨h1, h2, h3, h4, h5, h6, h7⟩
theorem thOk_of {n : Int} {t : Th} (f : ThFacts n t) : thOk n t = true := by
  simp only [thOk, Bool.and_eq_true, decide_eq_true_eq]
  exact ⟨⟨f.lo, f.hi, f.top, f.stLo, f.stHi⟩, f.regs, f.stack⟩
theorem false_of {b : Bool} (h : b = true → False) : b = false := by cases b with
  | false => rfl
  | true => exact (h rfl).elim
end Go.Proofs.Ytolbihilggkldaa.Bt
