/-
  Chapters 1 and 2 told plainly, without any Go: programs, instructions, machines, choices, what a step does.
  Runs, told plainly: how many choices of a row can be made, the machine behind them, what can be chosen, what a seed chooses.
-/

set_option linter.unusedSimpArgs false
set_option linter.unusedVariables false
namespace Go.Proofs.Ytbkbppllcjcmhaa
namespace Bt
/-- there is such an instruction -/
def uOk (op : Int) : Bool := decide (0 ≤ op ∧ op ≤ 17)
/-- it uses A -/
def uA (op : Int) : Bool := decide ((1 ≤ op ∧ op ≤ 8) ∨ op = 10 ∨ op = 13 ∨ op = 14)
/-- it uses B -/
def uB (op : Int) : Bool := decide (2 ≤ op ∧ op ≤ 8)
/-- what its C is -/
def uC (op : Int) : Int := if op = 1 then 1 else if op = 7 ∨ op = 8 then 2 else if op = 9 ∨ op = 10 ∨ op = 11 ∨ op = 17 then 3 else if op = 15 ∨ op = 16 then 4 else 0
/-- what a kind of C is below -/
def topC (k : Int) : Int := if k = 1 then 10000 else if k = 2 then 8 else if k = 3 then 60 else if k = 4 then 2 else 0
/-- a number below another one, if it is used, and 0 if not -/
def below (n top : Int) (used : Bool) : Bool := if used then decide (0 ≤ n ∧ n < top) else decide (n = 0)
/-- an instruction is one -/
def codeOk (op a b c : Int) : Bool := uOk op && below a 4 (uA op) && below b 4 (uB op) && below c (topC (uC op)) (decide (0 < uC op))
/-- what the fields are, as the program tells it -/
def fA (op : Int) : Int := if uA op then 1 else 0
def fB (op : Int) : Int := if uB op then 1 else 0
def fC (op : Int) : Int := if uC op = 0 then 0 else uC op + 1
def fTop (k : Int) : Int := if k = 1 then 4 else if k = 2 then 10000 else if k = 3 then 8 else if k = 4 then 60 else if k = 5 then 2 else 1
def fOk (n k : Int) : Bool := decide (0 ≤ n ∧ n < fTop k)
theorem ops (op : Int) : op = 0 ∨ op = 1 ∨ op = 2 ∨ op = 3 ∨ op = 4 ∨ op = 5 ∨ op = 6 ∨ op = 7 ∨ op = 8 ∨ op = 9 ∨ op = 10 ∨ op = 11 ∨ op = 12 ∨ op = 13 ∨ op = 14 ∨ op = 15 ∨ op = 16 ∨ op = 17 ∨ (op < 0 ∨ 17 < op) := by omega
/-- the name of an instruction; none for others -/
def name (op : Int) : List UInt8 :=
  if op = 0 then [104, 97, 108, 116] else if op = 1 then [115, 101, 116] else if op = 2 then [109, 111, 118, 101] else if op = 3 then [97, 100, 100]
  else if op = 4 then [115, 117, 98] else if op = 5 then [109, 117, 108] else if op = 6 then [108, 101, 115, 115] else if op = 7 then [108, 111, 97, 100]
  else if op = 8 then [115, 116, 111, 114, 101] else if op = 9 then [106, 117, 109, 112] else if op = 10 then [122, 101, 114, 111] else if op = 11 then [99, 97, 108, 108]
  else if op = 12 then [114, 101, 116] else if op = 13 then [97, 115, 107] else if op = 14 then [116, 101, 108, 108] else if op = 15 then [108, 111, 99, 107]
  else if op = 16 then [102, 114, 101, 101] else if op = 17 then [98, 101, 103, 105, 110] else []
theorem name_none {op : Int} (h : op < 0 ∨ 17 < op) : name op = [] := by
  unfold name
  repeat (rw [if_neg (by omega)])
theorem codeOk_eq (op a b c : Int) : (uOk op && (fOk a (fA op) && fOk b (fB op) && fOk c (fC op))) = codeOk op a b c := by
  rcases ops op with h | h | h | h | h | h | h | h | h | h | h | h | h | h | h | h | h | h | h
  all_goals first | subst h | skip
  all_goals simp [codeOk, uOk, uA, uB, uC, topC, below, fOk, fA, fB, fC, fTop]
  all_goals grind
/-- an instruction's four numbers -/
structure C4 where
  op : Int
  a : Int
  b : Int
  c : Int
/-- an instruction is one, and its place is one of n -/
def good (n : Int) (r : C4) : Bool := codeOk r.op r.a r.b r.c && !(decide (uC r.op = 3) && decide (n ≤ r.c))
/-- a program is one -/
def progOk (rs : List C4) (h : Int) : Bool := rs.all (good rs.length) && decide (1 ≤ rs.length ∧ rs.length ≤ 60 ∧ -1 ≤ h ∧ h < rs.length)
theorem progOk_false {rs : List C4} {h : Int} {k : Nat} (hk : k < rs.length) (hg : good rs.length rs[k] = false) : progOk rs h = false := by
  have h1 : rs.all (good rs.length) = false := by
    rw [List.all_eq_false]
    exact ⟨rs[k], List.getElem_mem hk, by simp [hg]⟩
  simp [progOk, h1]
theorem progOk_all {rs : List C4} {h : Int} {n : Nat} (hn : rs.length = n) (hg : ∀ j (hj : j < rs.length), good n rs[j] = true) : progOk rs h = decide (1 ≤ n ∧ n ≤ 60 ∧ -1 ≤ h ∧ h < n) := by
  subst hn
  have ha : rs.all (good rs.length) = true := by
    rw [List.all_eq_true]
    intro x hx
    obtain ⟨i, hi, rfl⟩ := List.getElem_of_mem hx
    exact hg i hi
  unfold progOk
  rw [ha, Bool.true_and]
/-- a thread may go on at the next place -/
def gNext (op : Int) : Bool := !(op == 0) && !(op == 9) && !(op == 11) && !(op == 12)
/-- a thread may go on at C -/
def gAway (op : Int) : Bool := op == 9 || op == 10 || op == 11
/-- where a thread goes on behind an instruction at a place -/
def goes (r : C4) (t : Int) : List Int :=
  if gNext r.op then (if gAway r.op then (if r.c = t + 1 then [t + 1] else if r.c < t + 1 then [r.c, t + 1] else [t + 1, r.c]) else [t + 1])
  else (if gAway r.op then [r.c] else [])
/-- where a thread of a program goes on -/
def goesTo (rs : List C4) (h t : Int) : List Int := if progOk rs h then (if t < 0 then [] else match rs[t.toNat]? with
  | some r => goes r t
  | none => []) else []
theorem goesTo_bad {rs : List C4} {h t : Int} (hp : progOk rs h = false) : goesTo rs h t = [] := by simp [goesTo, hp]
theorem goesTo_neg {rs : List C4} {h t : Int} (ht : t < 0) : goesTo rs h t = [] := by simp [goesTo, ht]
theorem goesTo_out {rs : List C4} {h t : Int} (ht : (rs.length : Int) ≤ t) : goesTo rs h t = [] := by
  have e : rs[t.toNat]? = none := List.getElem?_eq_none (by omega)
  simp only [goesTo, e]
  split <;> simp
theorem goesTo_at {rs : List C4} {h : Int} {k : Nat} (hp : progOk rs h = true) (hk : k < rs.length) : goesTo rs h k = goes rs[k] k := by
  have e : rs[((k : Int)).toNat]? = some rs[k] := by simp [hk]
  have e2 : ¬ ((k : Int) < 0) := by omega
  simp only [goesTo, hp, e, e2, if_true, if_false]
theorem progOk_len {rs : List C4} {h : Int} (hp : progOk rs h = true) : rs.length ≤ 60 := by
  simp only [progOk, Bool.and_eq_true, decide_eq_true_eq] at hp
  omega
/-- all numbers are from one on and below another one -/
def inR (lo hi : Int) (xs : List Int) : Bool := xs.all fun n => decide (lo ≤ n) && decide (n < hi)
theorem inR_false {lo hi : Int} {xs : List Int} {k : Nat} (hk : k < xs.length) (h : xs[k] < lo ∨ hi ≤ xs[k]) : inR lo hi xs = false := by
  unfold inR
  rw [List.all_eq_false]
  refine ⟨xs[k], List.getElem_mem hk, ?_⟩
  simp only [Bool.and_eq_true, decide_eq_true_eq]
  omega
theorem inR_true {lo hi : Int} {xs : List Int} (h : ∀ j (hj : j < xs.length), lo ≤ xs[j] ∧ xs[j] < hi) : inR lo hi xs = true := by
  unfold inR
  rw [List.all_eq_true]
  intro x hx
  obtain ⟨i, hi', rfl⟩ := List.getElem_of_mem hx
  simpa using h i hi'
theorem inR_at {lo hi : Int} {xs : List Int} (h : inR lo hi xs = true) {j : Nat} (hj : j < xs.length) : lo ≤ xs[j] ∧ xs[j] < hi := by
  unfold inR at h
  rw [List.all_eq_true] at h
  simpa using h xs[j] (List.getElem_mem hj)
/-- registers are a thread's -/
def regsOk (xs : List Int) : Bool := inR 0 10000 xs && ((xs.length : Int) == 4)
theorem regsOk_eq {xs : List Int} : regsOk xs = ((((xs.length : Int) == 4)) && inR 0 10000 xs) := by unfold regsOk; rw [Bool.and_comm]
theorem regsOk_len {xs : List Int} (h : regsOk xs = true) : xs.length = 4 := by
  simp only [regsOk, Bool.and_eq_true, beq_iff_eq] at h
  omega
theorem regsOk_at {xs : List Int} (h : regsOk xs = true) {j : Nat} (hj : j < xs.length) : 0 ≤ xs[j] ∧ xs[j] < 10000 := by
  simp only [regsOk, Bool.and_eq_true] at h
  exact inR_at h.1 hj
/-- the cell that an instruction uses -/
def cellOf (r : C4) (regs : List Int) : Int :=
  if codeOk r.op r.a r.b r.c && (decide (r.op = 7) || decide (r.op = 8)) && regsOk regs then (regs.getD r.b.toNat 0 + r.c) % 8 else -1
/-- a thread: its place, its registers, its stack, its state -/
structure Th where
  pl : Int
  regs : List Int
  stack : List Int
  st : Int
/-- a machine: its threads, its cells, its locks, what was told -/
structure Mc where
  ths : List Th
  cells : List Int
  locks : List Int
  told : List Int
/-- a thread is one of a program of n instructions -/
def thOk (n : Int) (t : Th) : Bool := decide (0 ≤ t.pl ∧ t.pl ≤ n ∧ t.stack.length ≤ 6 ∧ 0 ≤ t.st ∧ t.st ≤ 2) && (regsOk t.regs && inR 0 (n + 1) t.stack)
/-- a machine is one of a program -/
def machOk (rs : List C4) (h : Int) (m : Mc) : Bool := progOk rs h && decide (1 ≤ m.ths.length ∧ m.ths.length ≤ 4 ∧ m.cells.length = 8 ∧ m.locks.length = 2 ∧ m.told.length ≤ 1000) &&
  (inR 0 10000 m.cells && inR (-1) m.ths.length m.locks && inR 0 10000 m.told) && m.ths.all (thOk rs.length)
theorem machOk_thread {rs : List C4} {h : Int} {m : Mc} {k : Nat} (hk : k < m.ths.length) (hg : thOk rs.length m.ths[k] = false) : machOk rs h m = false := by
  have h1 : m.ths.all (thOk rs.length) = false := by
    rw [List.all_eq_false]
    exact ⟨m.ths[k], List.getElem_mem hk, by simp [hg]⟩
  simp [machOk, h1]
theorem all_th {n : Int} {ts : List Th} (h : ∀ j (hj : j < ts.length), thOk n ts[j] = true) : ts.all (thOk n) = true := by
  rw [List.all_eq_true]
  intro x hx
  obtain ⟨i, hi, rfl⟩ := List.getElem_of_mem hx
  exact h i hi
structure MachFacts (rs : List C4) (h : Int) (m : Mc) : Prop where
  prog : progOk rs h = true
  many : 1 ≤ m.ths.length
  few : m.ths.length ≤ 4
  cells : m.cells.length = 8
  locks : m.locks.length = 2
  told : m.told.length ≤ 1000
  cellsIn : inR 0 10000 m.cells = true
  locksIn : inR (-1) m.ths.length m.locks = true
  toldIn : inR 0 10000 m.told = true
  th : ∀ j (hj : j < m.ths.length), thOk rs.length m.ths[j] = true
theorem machOk_facts {rs : List C4} {h : Int} {m : Mc} (hm : machOk rs h m = true) : MachFacts rs h m := by
  simp only [machOk, Bool.and_eq_true, decide_eq_true_eq, List.all_eq_true] at hm
  obtain ⟨⟨⟨h1, h2, h3, h4, h5, h6⟩, ⟨h7, h8⟩, h9⟩, h10⟩ := hm
  exact ⟨h1, h2, h3, h4, h5, h6, h7, h8, h9, fun j hj => h10 _ (List.getElem_mem hj)⟩
theorem machOk_of {rs : List C4} {h : Int} {m : Mc} (f : MachFacts rs h m) : machOk rs h m = true := by
  simp only [machOk, Bool.and_eq_true, decide_eq_true_eq]
  exact ⟨⟨⟨f.prog, f.many, f.few, f.cells, f.locks, f.told⟩, ⟨f.cellsIn, f.locksIn⟩, f.toldIn⟩, all_th f.th⟩
structure ThFacts (n : Int) (t : Th) : Prop where
  lo : 0 ≤ t.pl
  hi : t.pl ≤ n
  top : t.stack.length ≤ 6
  stLo : 0 ≤ t.st
  stHi : t.st ≤ 2
  regs : regsOk t.regs = true
  stack : inR 0 (n + 1) t.stack = true
theorem thOk_facts {n : Int} {t : Th} (h : thOk n t = true) : ThFacts n t := by
  simp only [thOk, Bool.and_eq_true, decide_eq_true_eq] at h
  obtain ⟨⟨h1, h2, h3, h4, h5⟩, h6, h7⟩ := h
  exact ⟨h1, h2, h3, h4, h5, h6, h7⟩
theorem thOk_of {n : Int} {t : Th} (f : ThFacts n t) : thOk n t = true := by
  simp only [thOk, Bool.and_eq_true, decide_eq_true_eq]
  exact ⟨⟨f.lo, f.hi, f.top, f.stLo, f.stHi⟩, f.regs, f.stack⟩
theorem false_of {b : Bool} (h : b = true → False) : b = false := by cases b with
  | false => rfl
  | true => exact (h rfl).elim
theorem cellOf_bad {r : C4} {xs : List Int} (h : codeOk r.op r.a r.b r.c = false ∨ ¬ (r.op = 7 ∨ r.op = 8) ∨ regsOk xs = false) : cellOf r xs = -1 := by
  unfold cellOf
  rw [if_neg]
  simp only [Bool.and_eq_true, Bool.or_eq_true, decide_eq_true_eq]
  rintro ⟨⟨h1, h2⟩, h3⟩
  rcases h with h | h | h
  · rw [h1] at h; cases h
  · exact h h2
  · rw [h3] at h; cases h
theorem cellOf_good {r : C4} {xs : List Int} {k : Nat} (hk : k < xs.length) (hb : r.b = k) (h1 : codeOk r.op r.a r.b r.c = true) (h2 : r.op = 7 ∨ r.op = 8) (h3 : regsOk xs = true) : cellOf r xs = (xs[k] + r.c) % 8 := by
  unfold cellOf
  rw [if_pos (by simp only [Bool.and_eq_true, Bool.or_eq_true, decide_eq_true_eq]; exact ⟨⟨h1, h2⟩, h3⟩), hb]
  simp [hk]
theorem mem_bounds {op a b c : Int} (h : codeOk op a b c = true) (h2 : op = 7 ∨ op = 8) : (0 ≤ a ∧ a < 4) ∧ (0 ≤ b ∧ b < 4) ∧ (0 ≤ c ∧ c < 8) := by
  rcases h2 with rfl | rfl <;> simp [codeOk, uOk, uA, uB, uC, topC, below] at h <;> omega
theorem thOk_no {n : Int} {t : Th} (h : t.pl < 0 ∨ n < t.pl ∨ 6 < t.stack.length ∨ t.st < 0 ∨ 2 < t.st ∨ regsOk t.regs = false ∨ inR 0 (n + 1) t.stack = false) : thOk n t = false := by
  refine false_of (fun e => ?_)
  have f := thOk_facts e
  rcases h with h | h | h | h | h | h | h
  · have := f.lo; omega
  · have := f.hi; omega
  · have := f.top; omega
  · have := f.stLo; omega
  · have := f.stHi; omega
  · rw [f.regs] at h; cases h
  · rw [f.stack] at h; cases h
theorem machOk_no {rs : List C4} {h : Int} {m : Mc} (hh : progOk rs h = false ∨ m.ths.length < 1 ∨ 4 < m.ths.length ∨ m.cells.length ≠ 8 ∨ m.locks.length ≠ 2 ∨ 1000 < m.told.length ∨
    inR 0 10000 m.cells = false ∨ inR (-1) m.ths.length m.locks = false ∨ inR 0 10000 m.told = false) : machOk rs h m = false := by
  refine false_of (fun e => ?_)
  have f := machOk_facts e
  rcases hh with h | h | h | h | h | h | h | h | h
  · rw [f.prog] at h; cases h
  · have := f.many; omega
  · have := f.few; omega
  · exact h f.cells
  · exact h f.locks
  · have := f.told; omega
  · rw [f.cellsIn] at h; cases h
  · rw [f.locksIn] at h; cases h
  · rw [f.toldIn] at h; cases h
/-- threads are equal -/
def thSame (t t' : Th) : Bool := t.pl == t'.pl && (t.st == t'.st && ((t.regs == t'.regs) && (t.stack == t'.stack)))
/-- machines are equal -/
def mcSame (m m' : Mc) : Bool := (m.ths.length == m'.ths.length) && ((m.ths.zip m'.ths).all (fun p => thSame p.1 p.2) && ((m.cells == m'.cells) && ((m.locks == m'.locks) && (m.told == m'.told))))
theorem mcSame_len {m m' : Mc} (h : m.ths.length ≠ m'.ths.length) : mcSame m m' = false := by
  unfold mcSame
  rw [beq_eq_false_iff_ne.2 h, Bool.false_and]
theorem mcSame_th {m m' : Mc} {k : Nat} (hk : k < m.ths.length) (hk' : k < m'.ths.length) (h : thSame m.ths[k] m'.ths[k] = false) : mcSame m m' = false := by
  have : (m.ths.zip m'.ths).all (fun p => thSame p.1 p.2) = false := by
    rw [List.all_eq_false]
    refine ⟨(m.ths[k], m'.ths[k]), ?_, by simp [h]⟩
    have hz : k < (m.ths.zip m'.ths).length := by rw [List.length_zip]; omega
    have := List.getElem_mem hz
    rwa [List.getElem_zip] at this
  unfold mcSame
  rw [this, Bool.false_and, Bool.and_false]
theorem mcSame_eq {m m' : Mc} (hl : m.ths.length = m'.ths.length) (h : ∀ j (hj : j < m.ths.length) (hj' : j < m'.ths.length), thSame m.ths[j] m'.ths[j] = true) : mcSame m m' = ((m.cells == m'.cells) && ((m.locks == m'.locks) && (m.told == m'.told))) := by
  have : (m.ths.zip m'.ths).all (fun p => thSame p.1 p.2) = true := by
    rw [List.all_eq_true]
    intro x hx
    obtain ⟨i, hi, rfl⟩ := List.getElem_of_mem hx
    rw [List.getElem_zip]
    rw [List.length_zip] at hi
    exact h i (by omega) (by omega)
  unfold mcSame
  rw [this, beq_iff_eq.2 hl, Bool.true_and, Bool.true_and]
theorem mcSame_cells {m m' : Mc} (h : (m.cells == m'.cells) = false) : mcSame m m' = false := by unfold mcSame; rw [h]; simp
theorem mcSame_locks {m m' : Mc} (h : (m.locks == m'.locks) = false) : mcSame m m' = false := by unfold mcSame; rw [h]; simp
theorem mcSame_told {m m' : Mc} (h : (m.told == m'.told) = false) : mcSame m m' = false := by unfold mcSame; rw [h]; simp
theorem thSame_pl {t t' : Th} (h : t.pl ≠ t'.pl) : thSame t t' = false := by unfold thSame; rw [beq_eq_false_iff_ne.2 h, Bool.false_and]
theorem thSame_st {t t' : Th} (h : t.st ≠ t'.st) : thSame t t' = false := by unfold thSame; rw [beq_eq_false_iff_ne.2 h]; simp
theorem thSame_eq {t t' : Th} (h : t.pl = t'.pl) (h' : t.st = t'.st) : thSame t t' = ((t.regs == t'.regs) && (t.stack == t'.stack)) := by unfold thSame; rw [beq_iff_eq.2 h, beq_iff_eq.2 h', Bool.true_and, Bool.true_and]
/-- a thread of a machine -/
def thAt (m : Mc) (who : Int) : Option Th := if who < 0 then none else m.ths[who.toNat]?
/-- a thread is there and runs -/
def runs (m : Mc) (who : Int) : Bool := match thAt m who with
  | some t => t.st == 0
  | none => false
/-- the instruction at which a thread is -/
def instrOf (rs : List C4) (h : Int) (m : Mc) (who : Int) : Option C4 := if machOk rs h m && runs m who then (match thAt m who with
  | some t => if t.pl < rs.length then rs[t.pl.toNat]? else none
  | none => none) else none
theorem thAt_neg {m : Mc} {who : Int} (h : who < 0) : thAt m who = none := if_pos h
theorem thAt_out {m : Mc} {who : Int} (h : (m.ths.length : Int) ≤ who) : thAt m who = none := by
  unfold thAt
  split
  · rfl
  · exact List.getElem?_eq_none (by omega)
theorem thAt_in {m : Mc} {k : Nat} (h : k < m.ths.length) : thAt m (k : Int) = some m.ths[k] := by
  unfold thAt
  rw [if_neg (by omega)]
  simp [h]
theorem runs_none {m : Mc} {who : Int} (h : thAt m who = none) : runs m who = false := by unfold runs; rw [h]
theorem runs_in {m : Mc} {k : Nat} (h : k < m.ths.length) : runs m (k : Int) = (m.ths[k].st == 0) := by unfold runs; rw [thAt_in h]
theorem runs_lt {m : Mc} {who : Int} (h : runs m who = true) : 0 ≤ who ∧ who < m.ths.length := by
  by_cases h1 : who < 0
  · rw [runs_none (thAt_neg h1)] at h; cases h
  · by_cases h2 : (m.ths.length : Int) ≤ who
    · rw [runs_none (thAt_out h2)] at h; cases h
    · omega
theorem instrOf_no {rs : List C4} {h : Int} {m : Mc} {who : Int} (hh : machOk rs h m = false ∨ runs m who = false) : instrOf rs h m who = none := by
  unfold instrOf
  rw [if_neg]
  rw [Bool.and_eq_true]
  rintro ⟨a, b⟩
  rcases hh with e | e
  · rw [a] at e; cases e
  · rw [b] at e; cases e
theorem instrOf_end {rs : List C4} {h : Int} {m : Mc} {k : Nat} (hk : k < m.ths.length) (he : (rs.length : Int) ≤ m.ths[k].pl) : instrOf rs h m (k : Int) = none := by
  unfold instrOf
  split
  · rw [thAt_in hk]
    simp only
    rw [if_neg (by omega)]
  · rfl
theorem instrOf_at {rs : List C4} {h : Int} {m : Mc} {k j : Nat} (hm : machOk rs h m = true) (hk : k < m.ths.length) (hr : m.ths[k].st = 0) (hj : j < rs.length) (he : m.ths[k].pl = j) : instrOf rs h m (k : Int) = some rs[j] := by
  unfold instrOf
  rw [if_pos (by rw [hm, runs_in hk, hr]; rfl), thAt_in hk]
  simp only
  rw [if_pos (by omega), he]
  simp [hj]
/-- a choice: who, of which kind, what is answered -/
structure Ch where
  who : Int
  kind : Int
  reply : Int
/-- an instruction can be done with this answer -/
def canDoI (m : Mc) (x : C4) (rep : Int) : Bool :=
  if x.op = 15 then (m.locks.getD x.c.toNat (-1) == -1) && rep == 0
  else if x.op = 14 then decide (m.told.length < 1000) && rep == 0
  else if x.op = 13 then decide (0 ≤ rep) && decide (rep < 10000)
  else rep == 0
/-- a choice can be made -/
def canDo (rs : List C4) (h : Int) (m : Mc) (c : Ch) : Bool := machOk rs h m && (match thAt m c.who with
  | none => false
  | some t => t.st == 0 && (if c.kind = 1 then decide (0 ≤ h) && decide (t.stack.length < 6) && c.reply == 0 else if c.kind = 0 then (match instrOf rs h m c.who with
    | none => c.reply == 0
    | some x => canDoI m x c.reply) else false))
theorem canDo_no {rs : List C4} {h : Int} {m : Mc} {c : Ch} (hh : machOk rs h m = false ∨ runs m c.who = false) : canDo rs h m c = false := by
  unfold canDo
  rcases hh with e | e
  · rw [e, Bool.false_and]
  · unfold runs at e
    cases ht : thAt m c.who with
    | none => simp
    | some t => rw [ht] at e; simp only at e ⊢; rw [e]; simp
theorem canDo_in {rs : List C4} {h : Int} {m : Mc} {k : Nat} {kd rep : Int} (hm : machOk rs h m = true) (hk : k < m.ths.length) (hst : m.ths[k].st = 0) :
    canDo rs h m ⟨(k : Int), kd, rep⟩ = (if kd = 1 then decide (0 ≤ h) && decide (m.ths[k].stack.length < 6) && rep == 0 else if kd = 0 then (match instrOf rs h m (k : Int) with
    | none => rep == 0
    | some x => canDoI m x rep) else false) := by
  unfold canDo
  rw [hm, Bool.true_and]
  simp only
  rw [thAt_in hk]
  simp only
  rw [hst]
  simp
theorem canDo_sig {rs : List C4} {h : Int} {m : Mc} {k : Nat} {rep : Int} (hm : machOk rs h m = true) (hk : k < m.ths.length) (hst : m.ths[k].st = 0) : canDo rs h m ⟨(k : Int), 1, rep⟩ = (decide (0 ≤ h) && decide (m.ths[k].stack.length < 6) && rep == 0) := by
  rw [canDo_in hm hk hst, if_pos rfl]
theorem canDo_else {rs : List C4} {h : Int} {m : Mc} {k : Nat} {kd rep : Int} (hm : machOk rs h m = true) (hk : k < m.ths.length) (hst : m.ths[k].st = 0) (h1 : kd ≠ 1) (h0 : kd ≠ 0) : canDo rs h m ⟨(k : Int), kd, rep⟩ = false := by
  rw [canDo_in hm hk hst, if_neg h1, if_neg h0]
theorem canDo_end {rs : List C4} {h : Int} {m : Mc} {k : Nat} {rep : Int} (hm : machOk rs h m = true) (hk : k < m.ths.length) (hst : m.ths[k].st = 0) (hi : instrOf rs h m (k : Int) = none) : canDo rs h m ⟨(k : Int), 0, rep⟩ = (rep == 0) := by
  rw [canDo_in hm hk hst, if_neg (by omega), if_pos rfl, hi]
theorem canDo_at {rs : List C4} {h : Int} {m : Mc} {k : Nat} {rep : Int} {x : C4} (hm : machOk rs h m = true) (hk : k < m.ths.length) (hst : m.ths[k].st = 0) (hi : instrOf rs h m (k : Int) = some x) : canDo rs h m ⟨(k : Int), 0, rep⟩ = canDoI m x rep := by
  rw [canDo_in hm hk hst, if_neg (by omega), if_pos rfl, hi]
theorem canDoI_lock {m : Mc} {x : C4} {rep : Int} (h : x.op = 15) {q : Nat} (hq : q < m.locks.length) (hc : x.c = q) : canDoI m x rep = ((m.locks[q] == -1) && rep == 0) := by
  unfold canDoI
  rw [if_pos h, hc]
  simp [hq]
theorem canDoI_tell {m : Mc} {x : C4} {rep : Int} (h : x.op = 14) : canDoI m x rep = (decide (m.told.length < 1000) && rep == 0) := by
  unfold canDoI
  rw [if_neg (by omega), if_pos h]
theorem canDoI_ask {m : Mc} {x : C4} {rep : Int} (h : x.op = 13) : canDoI m x rep = (decide (0 ≤ rep) && decide (rep < 10000)) := by
  unfold canDoI
  rw [if_neg (by omega), if_neg (by omega), if_pos h]
theorem canDoI_else {m : Mc} {x : C4} {rep : Int} (h1 : x.op ≠ 15) (h2 : x.op ≠ 14) (h3 : x.op ≠ 13) : canDoI m x rep = (rep == 0) := by
  unfold canDoI
  rw [if_neg h1, if_neg h2, if_neg h3]
theorem lock_bounds {op a b c : Int} (h : codeOk op a b c = true) (h2 : op = 15 ∨ op = 16) : 0 ≤ c ∧ c < 2 := by
  rcases h2 with rfl | rfl <;> simp [codeOk, uOk, uA, uB, uC, topC, below] at h <;> omega
theorem progOk_good {rs : List C4} {h : Int} (hp : progOk rs h = true) {j : Nat} (hj : j < rs.length) : good rs.length rs[j] = true := by
  simp only [progOk, Bool.and_eq_true, List.all_eq_true] at hp
  exact hp.1 _ (List.getElem_mem hj)
theorem progOk_code {rs : List C4} {h : Int} (hp : progOk rs h = true) {j : Nat} (hj : j < rs.length) : codeOk rs[j].op rs[j].a rs[j].b rs[j].c = true := by
  have := progOk_good hp hj
  unfold good at this
  rw [Bool.and_eq_true] at this
  exact this.1
theorem instrOf_code {rs : List C4} {h : Int} {m : Mc} {who : Int} {x : C4} (hi : instrOf rs h m who = some x) : codeOk x.op x.a x.b x.c = true := by
  unfold instrOf at hi
  split at hi
  · rename_i hc
    rw [Bool.and_eq_true] at hc
    split at hi
    · rename_i t ht
      split at hi
      · have hp := (machOk_facts hc.1).prog
        obtain ⟨hlt, e⟩ := List.getElem?_eq_some_iff.1 hi
        subst e
        exact progOk_code hp hlt
      · cases hi
    · cases hi
  · cases hi
/-- an instruction can't be done yet -/
def waitsI (m : Mc) (x : C4) : Bool := if x.op = 15 then m.locks.getD x.c.toNat (-1) != -1 else if x.op = 14 then decide (1000 ≤ m.told.length) else false
theorem waitsI_lock {m : Mc} {x : C4} (h : x.op = 15) {q : Nat} (hq : q < m.locks.length) (hc : x.c = q) : waitsI m x = (m.locks[q] != -1) := by
  unfold waitsI
  rw [if_pos h, hc]
  simp [hq]
theorem waitsI_tell {m : Mc} {x : C4} (h : x.op = 14) : waitsI m x = decide (1000 ≤ m.told.length) := by
  unfold waitsI
  rw [if_neg (by omega), if_pos h]
theorem waitsI_else {m : Mc} {x : C4} (h1 : x.op ≠ 15) (h2 : x.op ≠ 14) : waitsI m x = false := by
  unfold waitsI
  rw [if_neg h1, if_neg h2]
theorem canDoI_waits {m : Mc} {x : C4} {rep : Int} (h : x.op ≠ 13) : canDoI m x rep = (rep == 0 && !waitsI m x) := by
  unfold canDoI waitsI
  by_cases h15 : x.op = 15
  · rw [if_pos h15, if_pos h15, Bool.and_comm]; simp [bne]
  · rw [if_neg h15, if_neg h15]
    by_cases h14 : x.op = 14
    · rw [if_pos h14, if_pos h14, Bool.and_comm]
      congr 1
      by_cases hl : m.told.length < 1000
      · rw [decide_eq_true hl, decide_eq_false (by omega)]; rfl
      · rw [decide_eq_false hl, decide_eq_true (by omega)]; rfl
    · rw [if_neg h14, if_neg h14, if_neg h]; simp
/-- a thread that runs can go on -/
def stepI (rs : List C4) (m : Mc) (t : Th) (rep : Int) : Bool := if rs.length ≤ t.pl then rep == 0 else match rs[t.pl.toNat]? with
  | some x => canDoI m x rep
  | none => false
theorem stepI_end {rs : List C4} {m : Mc} {t : Th} {rep : Int} (h : (rs.length : Int) ≤ t.pl) : stepI rs m t rep = (rep == 0) := by unfold stepI; rw [if_pos h]
theorem stepI_at {rs : List C4} {m : Mc} {t : Th} {rep : Int} {j : Nat} (h : j < rs.length) (e : t.pl = j) : stepI rs m t rep = canDoI m rs[j] rep := by
  unfold stepI
  rw [if_neg (by omega), e]
  simp [h]
theorem canDo_step {rs : List C4} {h : Int} {m : Mc} {k : Nat} {rep : Int} (hm : machOk rs h m = true) (hk : k < m.ths.length) (hst : m.ths[k].st = 0) : canDo rs h m ⟨(k : Int), 0, rep⟩ = stepI rs m m.ths[k] rep := by
  have hlo := (thOk_facts ((machOk_facts hm).th k hk)).lo
  by_cases he : (rs.length : Int) ≤ m.ths[k].pl
  · rw [canDo_end hm hk hst (instrOf_end hk he), stepI_end he]
  · obtain ⟨j, hj⟩ : ∃ j : Nat, m.ths[k].pl = j := ⟨m.ths[k].pl.toNat, by omega⟩
    have hjl : j < rs.length := by omega
    rw [canDo_at hm hk hst (instrOf_at hm hk hst hjl hj), stepI_at hjl hj]
/-- one of the first threads runs -/
def runsTo (m : Mc) (k : Nat) : Bool := (m.ths.take k).any fun t => t.st == 0
theorem runsTo_zero (m : Mc) : runsTo m 0 = false := by simp [runsTo]
theorem runsTo_succ {m : Mc} {k : Nat} (h : k < m.ths.length) : runsTo m (k + 1) = (runsTo m k || m.ths[k].st == 0) := by
  unfold runsTo
  rw [List.take_succ_eq_append_getElem h, List.any_append]
  simp
/-- a machine is stuck -/
def stuck (rs : List C4) (h : Int) (m : Mc) : Bool := machOk rs h m && (((List.range m.ths.length).all fun j => !canDo rs h m ⟨(j : Int), 0, 0⟩) && runsTo m m.ths.length)
theorem stuck_no {rs : List C4} {h : Int} {m : Mc} (hm : machOk rs h m = false) : stuck rs h m = false := by unfold stuck; rw [hm, Bool.false_and]
theorem stuck_goes {rs : List C4} {h : Int} {m : Mc} {k : Nat} (hk : k < m.ths.length) (hc : canDo rs h m ⟨(k : Int), 0, 0⟩ = true) : stuck rs h m = false := by
  unfold stuck
  have : ((List.range m.ths.length).all fun j => !canDo rs h m ⟨(j : Int), 0, 0⟩) = false := by
    rw [List.all_eq_false]
    exact ⟨k, List.mem_range.2 hk, by rw [hc]; simp⟩
  rw [this, Bool.false_and, Bool.and_false]
theorem stuck_end {rs : List C4} {h : Int} {m : Mc} (hm : machOk rs h m = true) (hc : ∀ j, j < m.ths.length → canDo rs h m ⟨(j : Int), 0, 0⟩ = false) : stuck rs h m = runsTo m m.ths.length := by
  unfold stuck
  have : ((List.range m.ths.length).all fun j => !canDo rs h m ⟨(j : Int), 0, 0⟩) = true := by
    rw [List.all_eq_true]
    intro j hj
    rw [hc j (List.mem_range.1 hj)]
    rfl
  rw [hm, this, Bool.true_and, Bool.true_and]
theorem goes_same {r : C4} {t : Int} (hop : r.op = 10) (hc : r.c = t + 1) : goes r t = [t + 1] := by
  unfold goes
  rw [hop, show gNext 10 = true from rfl, show gAway 10 = true from rfl, if_pos rfl, if_pos rfl, if_pos hc]
theorem goes_less {r : C4} {t : Int} (hop : r.op = 10) (hc : r.c < t + 1) : goes r t = [r.c, t + 1] := by
  unfold goes
  rw [hop, show gNext 10 = true from rfl, show gAway 10 = true from rfl, if_pos rfl, if_pos rfl, if_neg (by omega), if_pos hc]
theorem goes_more {r : C4} {t : Int} (hop : r.op = 10) (hc : t + 1 < r.c) : goes r t = [t + 1, r.c] := by
  unfold goes
  rw [hop, show gNext 10 = true from rfl, show gAway 10 = true from rfl, if_pos rfl, if_pos rfl, if_neg (by omega), if_neg (by omega)]
/-- the machine at first -/
def mcNew : Mc := ⟨[⟨0, [0, 0, 0, 0], [], 0⟩], [0, 0, 0, 0, 0, 0, 0, 0], [-1, -1], []⟩
/-- an instruction fails -/
def faultsI (m : Mc) (k : Nat) (t : Th) (x : C4) : Bool :=
  if x.op = 11 then decide (6 ≤ t.stack.length) else if x.op = 12 then decide (t.stack.length = 0) else if x.op = 16 then m.locks.getD x.c.toNat (-1) != (k : Int) else if x.op = 17 then decide (4 ≤ m.ths.length) else false
/-- where a thread goes on behind an instruction -/
def placeI (t : Th) (x : C4) : Int :=
  if x.op = 0 then t.pl else if x.op = 9 ∨ x.op = 11 then x.c else if x.op = 10 then (if t.regs.getD x.a.toNat 0 = 0 then x.c else t.pl + 1) else if x.op = 12 then t.stack.getLastD 0 else t.pl + 1
/-- its state -/
def stateI (t : Th) (x : C4) : Int := if x.op = 0 then 1 else t.st
/-- an instruction sets its register A -/
def setsR (op : Int) : Bool := decide (1 ≤ op ∧ op ≤ 7 ∨ op = 13)
/-- to what -/
def numI (m : Mc) (t : Th) (x : C4) (rep : Int) : Int :=
  if x.op = 1 then x.c else if x.op = 2 then t.regs.getD x.b.toNat 0 else if x.op = 3 then (t.regs.getD x.a.toNat 0 + t.regs.getD x.b.toNat 0) % 10000
  else if x.op = 4 then (t.regs.getD x.a.toNat 0 + 10000 - t.regs.getD x.b.toNat 0) % 10000 else if x.op = 5 then t.regs.getD x.a.toNat 0 * t.regs.getD x.b.toNat 0 % 10000
  else if x.op = 6 then (if t.regs.getD x.a.toNat 0 < t.regs.getD x.b.toNat 0 then 1 else 0) else if x.op = 7 then m.cells.getD (cellOf x t.regs).toNat 0 else if x.op = 13 then rep else t.regs.getD x.a.toNat 0
/-- its registers -/
def regsI (m : Mc) (t : Th) (x : C4) (rep : Int) : List Int := if setsR x.op then t.regs.set x.a.toNat (numI m t x rep) else t.regs
/-- its stack -/
def stackI (t : Th) (x : C4) : List Int := if x.op = 11 then t.stack ++ [t.pl + 1] else if x.op = 12 then t.stack.take (t.stack.length - 1) else t.stack
/-- the cells -/
def cellsI (m : Mc) (t : Th) (x : C4) : List Int := if x.op = 8 then m.cells.set (cellOf x t.regs).toNat (t.regs.getD x.a.toNat 0) else m.cells
/-- the locks -/
def locksI (m : Mc) (k : Nat) (x : C4) : List Int := if x.op = 15 then m.locks.set x.c.toNat k else if x.op = 16 then m.locks.set x.c.toNat (-1) else m.locks
/-- what was told -/
def toldI (m : Mc) (t : Th) (x : C4) : List Int := if x.op = 14 then m.told ++ [t.regs.getD x.a.toNat 0] else m.told
/-- the threads -/
def thsI (m : Mc) (k : Nat) (t : Th) (x : C4) (rep : Int) : List Th :=
  m.ths.set k ⟨placeI t x, regsI m t x rep, stackI t x, stateI t x⟩ ++ (if x.op = 17 then [⟨x.c, t.regs, [], 0⟩] else [])
/-- the machine behind a step that does not fail -/
def stepM (m : Mc) (k : Nat) (t : Th) (x : C4) (rep : Int) : Mc := ⟨thsI m k t x rep, cellsI m t x, locksI m k x, toldI m t x⟩
/-- the machine behind a choice, if it can be made -/
def doM (rs : List C4) (h : Int) (m : Mc) (c : Ch) : Option Mc := if canDo rs h m c then (match thAt m c.who with
  | none => none
  | some t => if c.kind = 1 then some ⟨m.ths.set c.who.toNat ⟨h, t.regs, t.stack ++ [t.pl], t.st⟩, m.cells, m.locks, m.told⟩ else match instrOf rs h m c.who with
    | none => some ⟨m.ths.set c.who.toNat ⟨t.pl, t.regs, t.stack, 2⟩, m.cells, m.locks, m.told⟩
    | some x => if faultsI m c.who.toNat t x then some ⟨m.ths.set c.who.toNat ⟨t.pl, t.regs, t.stack, 2⟩, m.cells, m.locks, m.told⟩ else some (stepM m c.who.toNat t x c.reply)) else none
theorem codeOk_A {op a b c : Int} (h : codeOk op a b c = true) : 0 ≤ a ∧ a < 4 := by
  unfold codeOk at h
  simp only [Bool.and_eq_true] at h
  have h1 := h.1.1.2
  unfold below at h1
  split at h1 <;> simp at h1 <;> omega
theorem codeOk_B {op a b c : Int} (h : codeOk op a b c = true) : 0 ≤ b ∧ b < 4 := by
  unfold codeOk at h
  simp only [Bool.and_eq_true] at h
  have h1 := h.1.2
  unfold below at h1
  split at h1 <;> simp at h1 <;> omega
theorem codeOk_op {op a b c : Int} (h : codeOk op a b c = true) : 0 ≤ op ∧ op ≤ 17 := by
  unfold codeOk uOk at h
  simp only [Bool.and_eq_true, decide_eq_true_eq] at h
  exact h.1.1.1
theorem mod_t {n : Int} (h : 0 ≤ n) : n.tmod 10000 = n % 10000 := by rw [Int.tmod_eq_emod_of_nonneg h]
theorem mul_b {a b : Int} (ha : 0 ≤ a) (ha' : a < 10000) (hb : 0 ≤ b) (hb' : b < 10000) : 0 ≤ a * b ∧ a * b ≤ 100000000 := by
  refine ⟨Int.mul_nonneg ha hb, ?_⟩
  have h1 : a * b ≤ 10000 * b := Int.mul_le_mul_of_nonneg_right (by omega) hb
  omega
theorem cellOf_bound {r : C4} {xs : List Int} (h1 : codeOk r.op r.a r.b r.c = true) (h2 : r.op = 7 ∨ r.op = 8) (h3 : regsOk xs = true) : 0 ≤ cellOf r xs ∧ cellOf r xs < 8 := by
  obtain ⟨_, ⟨b0, b1⟩, _, _⟩ := mem_bounds h1 h2
  have hl := regsOk_len h3
  obtain ⟨k, hk⟩ : ∃ k : Nat, r.b = k := ⟨r.b.toNat, by omega⟩
  rw [cellOf_good (r := r) (k := k) (by omega) hk h1 h2 h3]
  omega
/-- a thread fails where it would go on -/
def failsI (rs : List C4) (m : Mc) (k : Nat) (t : Th) : Bool := if rs.length ≤ t.pl then true else match rs[t.pl.toNat]? with
  | some x => faultsI m k t x
  | none => false
theorem failsI_end {rs : List C4} {m : Mc} {k : Nat} {t : Th} (h : (rs.length : Int) ≤ t.pl) : failsI rs m k t = true := by unfold failsI; rw [if_pos h]
theorem failsI_at {rs : List C4} {m : Mc} {k : Nat} {t : Th} {j : Nat} (h : j < rs.length) (e : t.pl = j) : failsI rs m k t = faultsI m k t rs[j] := by
  unfold failsI
  rw [if_neg (by omega), e]
  simp [h]
theorem regsI_length (m : Mc) (t : Th) (x : C4) (rep : Int) : (regsI m t x rep).length = t.regs.length := by unfold regsI; split <;> simp
/-- the thread behind a step -/
def stepT (m : Mc) (t : Th) (x : C4) (rep : Int) : Th := ⟨placeI t x, regsI m t x rep, stackI t x, stateI t x⟩
theorem stackI_length {t : Th} {x : C4} : (stackI t x).length ≤ t.stack.length + 1 := by
  unfold stackI
  split
  · simp
  · split
    · rw [List.length_take]; omega
    · omega
theorem mc_nil (l : List Th) (C L D : List Int) : (⟨l ++ [], C, L, D⟩ : Mc) = ⟨l, C, L, D⟩ := by rw [List.append_nil]
theorem stepM_0 (m : Mc) (k : Nat) (t : Th) (a b c rep : Int) : stepM m k t ⟨0, a, b, c⟩ rep = ⟨m.ths.set k ⟨t.pl, t.regs, t.stack, 1⟩, m.cells, m.locks, m.told⟩ := mc_nil _ _ _ _
theorem stepM_1 (m : Mc) (k : Nat) (t : Th) (a b c rep : Int) : stepM m k t ⟨1, a, b, c⟩ rep = ⟨m.ths.set k ⟨t.pl + 1, t.regs.set a.toNat c, t.stack, t.st⟩, m.cells, m.locks, m.told⟩ := mc_nil _ _ _ _
theorem stepM_2 (m : Mc) (k : Nat) (t : Th) (a b c rep : Int) : stepM m k t ⟨2, a, b, c⟩ rep = ⟨m.ths.set k ⟨t.pl + 1, t.regs.set a.toNat (t.regs.getD b.toNat 0), t.stack, t.st⟩, m.cells, m.locks, m.told⟩ := mc_nil _ _ _ _
theorem stepM_3 (m : Mc) (k : Nat) (t : Th) (a b c rep : Int) : stepM m k t ⟨3, a, b, c⟩ rep = ⟨m.ths.set k ⟨t.pl + 1, t.regs.set a.toNat ((t.regs.getD a.toNat 0 + t.regs.getD b.toNat 0) % 10000), t.stack, t.st⟩, m.cells, m.locks, m.told⟩ := mc_nil _ _ _ _
theorem stepM_4 (m : Mc) (k : Nat) (t : Th) (a b c rep : Int) : stepM m k t ⟨4, a, b, c⟩ rep = ⟨m.ths.set k ⟨t.pl + 1, t.regs.set a.toNat ((t.regs.getD a.toNat 0 + 10000 - t.regs.getD b.toNat 0) % 10000), t.stack, t.st⟩, m.cells, m.locks, m.told⟩ := mc_nil _ _ _ _
theorem stepM_5 (m : Mc) (k : Nat) (t : Th) (a b c rep : Int) : stepM m k t ⟨5, a, b, c⟩ rep = ⟨m.ths.set k ⟨t.pl + 1, t.regs.set a.toNat (t.regs.getD a.toNat 0 * t.regs.getD b.toNat 0 % 10000), t.stack, t.st⟩, m.cells, m.locks, m.told⟩ := mc_nil _ _ _ _
theorem stepM_6 (m : Mc) (k : Nat) (t : Th) (a b c rep : Int) : stepM m k t ⟨6, a, b, c⟩ rep = ⟨m.ths.set k ⟨t.pl + 1, t.regs.set a.toNat (if t.regs.getD a.toNat 0 < t.regs.getD b.toNat 0 then 1 else 0), t.stack, t.st⟩, m.cells, m.locks, m.told⟩ := mc_nil _ _ _ _
theorem stepM_6t (m : Mc) (k : Nat) (t : Th) (a b c rep : Int) (h : t.regs.getD a.toNat 0 < t.regs.getD b.toNat 0) : stepM m k t ⟨6, a, b, c⟩ rep = ⟨m.ths.set k ⟨t.pl + 1, t.regs.set a.toNat 1, t.stack, t.st⟩, m.cells, m.locks, m.told⟩ := by rw [stepM_6, if_pos h]
theorem stepM_6f (m : Mc) (k : Nat) (t : Th) (a b c rep : Int) (h : ¬ t.regs.getD a.toNat 0 < t.regs.getD b.toNat 0) : stepM m k t ⟨6, a, b, c⟩ rep = ⟨m.ths.set k ⟨t.pl + 1, t.regs.set a.toNat 0, t.stack, t.st⟩, m.cells, m.locks, m.told⟩ := by rw [stepM_6, if_neg h]
theorem stepM_7 (m : Mc) (k : Nat) (t : Th) (a b c rep : Int) : stepM m k t ⟨7, a, b, c⟩ rep = ⟨m.ths.set k ⟨t.pl + 1, t.regs.set a.toNat (m.cells.getD (cellOf ⟨7, a, b, c⟩ t.regs).toNat 0), t.stack, t.st⟩, m.cells, m.locks, m.told⟩ := mc_nil _ _ _ _
theorem stepM_8 (m : Mc) (k : Nat) (t : Th) (a b c rep : Int) : stepM m k t ⟨8, a, b, c⟩ rep = ⟨m.ths.set k ⟨t.pl + 1, t.regs, t.stack, t.st⟩, m.cells.set (cellOf ⟨8, a, b, c⟩ t.regs).toNat (t.regs.getD a.toNat 0), m.locks, m.told⟩ := mc_nil _ _ _ _
theorem stepM_9 (m : Mc) (k : Nat) (t : Th) (a b c rep : Int) : stepM m k t ⟨9, a, b, c⟩ rep = ⟨m.ths.set k ⟨c, t.regs, t.stack, t.st⟩, m.cells, m.locks, m.told⟩ := mc_nil _ _ _ _
theorem stepM_10 (m : Mc) (k : Nat) (t : Th) (a b c rep : Int) : stepM m k t ⟨10, a, b, c⟩ rep = ⟨m.ths.set k ⟨if t.regs.getD a.toNat 0 = 0 then c else t.pl + 1, t.regs, t.stack, t.st⟩, m.cells, m.locks, m.told⟩ := mc_nil _ _ _ _
theorem stepM_10t (m : Mc) (k : Nat) (t : Th) (a b c rep : Int) (h : t.regs.getD a.toNat 0 = 0) : stepM m k t ⟨10, a, b, c⟩ rep = ⟨m.ths.set k ⟨c, t.regs, t.stack, t.st⟩, m.cells, m.locks, m.told⟩ := by rw [stepM_10, if_pos h]
theorem stepM_10f (m : Mc) (k : Nat) (t : Th) (a b c rep : Int) (h : ¬ t.regs.getD a.toNat 0 = 0) : stepM m k t ⟨10, a, b, c⟩ rep = ⟨m.ths.set k ⟨t.pl + 1, t.regs, t.stack, t.st⟩, m.cells, m.locks, m.told⟩ := by rw [stepM_10, if_neg h]
theorem stepM_11 (m : Mc) (k : Nat) (t : Th) (a b c rep : Int) : stepM m k t ⟨11, a, b, c⟩ rep = ⟨m.ths.set k ⟨c, t.regs, t.stack ++ [t.pl + 1], t.st⟩, m.cells, m.locks, m.told⟩ := mc_nil _ _ _ _
theorem stepM_12 (m : Mc) (k : Nat) (t : Th) (a b c rep : Int) : stepM m k t ⟨12, a, b, c⟩ rep = ⟨m.ths.set k ⟨t.stack.getLastD 0, t.regs, t.stack.take (t.stack.length - 1), t.st⟩, m.cells, m.locks, m.told⟩ := mc_nil _ _ _ _
theorem stepM_13 (m : Mc) (k : Nat) (t : Th) (a b c rep : Int) : stepM m k t ⟨13, a, b, c⟩ rep = ⟨m.ths.set k ⟨t.pl + 1, t.regs.set a.toNat rep, t.stack, t.st⟩, m.cells, m.locks, m.told⟩ := mc_nil _ _ _ _
theorem stepM_14 (m : Mc) (k : Nat) (t : Th) (a b c rep : Int) : stepM m k t ⟨14, a, b, c⟩ rep = ⟨m.ths.set k ⟨t.pl + 1, t.regs, t.stack, t.st⟩, m.cells, m.locks, m.told ++ [t.regs.getD a.toNat 0]⟩ := mc_nil _ _ _ _
theorem stepM_15 (m : Mc) (k : Nat) (t : Th) (a b c rep : Int) : stepM m k t ⟨15, a, b, c⟩ rep = ⟨m.ths.set k ⟨t.pl + 1, t.regs, t.stack, t.st⟩, m.cells, m.locks.set c.toNat k, m.told⟩ := mc_nil _ _ _ _
theorem stepM_16 (m : Mc) (k : Nat) (t : Th) (a b c rep : Int) : stepM m k t ⟨16, a, b, c⟩ rep = ⟨m.ths.set k ⟨t.pl + 1, t.regs, t.stack, t.st⟩, m.cells, m.locks.set c.toNat (-1), m.told⟩ := mc_nil _ _ _ _
theorem stepM_17 (m : Mc) (k : Nat) (t : Th) (a b c rep : Int) : stepM m k t ⟨17, a, b, c⟩ rep = ⟨m.ths.set k ⟨t.pl + 1, t.regs, t.stack, t.st⟩ ++ [⟨c, t.regs, [], 0⟩], m.cells, m.locks, m.told⟩ := rfl
theorem inR_mono {lo hi hi' : Int} {xs : List Int} (h : inR lo hi xs = true) (hh : hi ≤ hi') : inR lo hi' xs = true := inR_true (fun j hj => by have := inR_at h hj; omega)
theorem ThFacts.mono {n n' : Int} {t : Th} (f : ThFacts n t) (h : n ≤ n') : ThFacts n' t := ⟨f.lo, by have := f.hi; omega, f.top, f.stLo, f.stHi, f.regs, inR_mono f.stack (by omega)⟩
theorem canDo_true {rs : List C4} {h : Int} {m : Mc} {c : Ch} (hc : canDo rs h m c = true) : machOk rs h m = true ∧ runs m c.who = true := by
  constructor
  · cases e : machOk rs h m with
    | true => rfl
    | false => rw [canDo_no (.inl e)] at hc; cases hc
  · cases e : runs m c.who with
    | true => rfl
    | false => rw [canDo_no (.inr e)] at hc; cases hc
theorem doM_no {rs : List C4} {h : Int} {m : Mc} {c : Ch} (hc : canDo rs h m c = false) : doM rs h m c = none := by unfold doM; rw [hc]; rfl
theorem doM_in {rs : List C4} {h : Int} {m : Mc} {k : Nat} {kd rep : Int} (hc : canDo rs h m ⟨(k : Int), kd, rep⟩ = true) (hk : k < m.ths.length) :
    doM rs h m ⟨(k : Int), kd, rep⟩ = (if kd = 1 then some ⟨m.ths.set k ⟨h, m.ths[k].regs, m.ths[k].stack ++ [m.ths[k].pl], m.ths[k].st⟩, m.cells, m.locks, m.told⟩ else match instrOf rs h m (k : Int) with
    | none => some ⟨m.ths.set k ⟨m.ths[k].pl, m.ths[k].regs, m.ths[k].stack, 2⟩, m.cells, m.locks, m.told⟩
    | some x => if faultsI m k m.ths[k] x then some ⟨m.ths.set k ⟨m.ths[k].pl, m.ths[k].regs, m.ths[k].stack, 2⟩, m.cells, m.locks, m.told⟩ else some (stepM m k m.ths[k] x rep)) := by
  unfold doM
  rw [if_pos hc]
  simp only
  rw [thAt_in hk]
  simp only [Int.toNat_natCast] <;> rfl
theorem doM_sig {rs : List C4} {h : Int} {m : Mc} {k : Nat} {rep : Int} (hc : canDo rs h m ⟨(k : Int), 1, rep⟩ = true) (hk : k < m.ths.length) :
    doM rs h m ⟨(k : Int), 1, rep⟩ = some ⟨m.ths.set k ⟨h, m.ths[k].regs, m.ths[k].stack ++ [m.ths[k].pl], m.ths[k].st⟩, m.cells, m.locks, m.told⟩ := by rw [doM_in hc hk, if_pos rfl]
theorem doM_fail {rs : List C4} {h : Int} {m : Mc} {k : Nat} {kd rep : Int} (hc : canDo rs h m ⟨(k : Int), kd, rep⟩ = true) (hk : k < m.ths.length) (hkd : kd ≠ 1) (hf : failsI rs m k m.ths[k] = true) :
    doM rs h m ⟨(k : Int), kd, rep⟩ = some ⟨m.ths.set k ⟨m.ths[k].pl, m.ths[k].regs, m.ths[k].stack, 2⟩, m.cells, m.locks, m.told⟩ := by
  rw [doM_in hc hk, if_neg hkd]
  obtain ⟨hm, hr⟩ := canDo_true hc
  have hst : m.ths[k].st = 0 := by rw [runs_in hk, beq_iff_eq] at hr; exact hr
  have hlo := (thOk_facts ((machOk_facts hm).th k hk)).lo
  by_cases he : (rs.length : Int) ≤ m.ths[k].pl
  · rw [instrOf_end hk he]
  · obtain ⟨j, hj⟩ : ∃ j : Nat, m.ths[k].pl = j := ⟨m.ths[k].pl.toNat, by omega⟩
    have hjl : j < rs.length := by omega
    rw [failsI_at hjl hj] at hf
    rw [instrOf_at hm hk hst hjl hj]
    simp only
    rw [if_pos hf]
theorem doM_step {rs : List C4} {h : Int} {m : Mc} {k j : Nat} {kd rep : Int} (hc : canDo rs h m ⟨(k : Int), kd, rep⟩ = true) (hk : k < m.ths.length) (hkd : kd ≠ 1) (hj : m.ths[k].pl = j) (hjl : j < rs.length) (hf : failsI rs m k m.ths[k] = false) :
    doM rs h m ⟨(k : Int), kd, rep⟩ = some (stepM m k m.ths[k] rs[j] rep) := by
  rw [doM_in hc hk, if_neg hkd]
  obtain ⟨hm, hr⟩ := canDo_true hc
  have hst : m.ths[k].st = 0 := by rw [runs_in hk, beq_iff_eq] at hr; exact hr
  rw [failsI_at hjl hj] at hf
  rw [instrOf_at hm hk hst hjl hj]
  simp only
  rw [if_neg (by rw [hf]; decide)]
/-- how many numbers the rows of threads hold -/
def sumTh (ts : List Th) : Nat := (ts.map fun t => t.regs.length + t.stack.length).sum
theorem sumTh_zero (ts : List Th) : sumTh (ts.take 0) = 0 := by simp [sumTh]
theorem sumTh_succ {ts : List Th} {k : Nat} (h : k < ts.length) : sumTh (ts.take (k + 1)) = sumTh (ts.take k) + (ts[k].regs.length + ts[k].stack.length) := by
  unfold sumTh
  rw [List.take_succ_eq_append_getElem h, List.map_append, List.sum_append]
  simp
theorem sumTh_le (ts : List Th) (k : Nat) : sumTh (ts.take k) ≤ sumTh ts := by
  have h : sumTh ts = sumTh (ts.take k) + sumTh (ts.drop k) := by
    unfold sumTh
    rw [← List.sum_append, ← List.map_append, List.take_append_drop]
  omega
theorem sumTh_at {ts : List Th} {k : Nat} (h : k < ts.length) : ts[k].regs.length + ts[k].stack.length ≤ sumTh ts := by
  have h1 := sumTh_succ h
  have h2 := sumTh_le ts (k + 1)
  omega
/-- how many numbers and rows a machine holds -/
def mcSz (m : Mc) : Nat := m.ths.length + sumTh m.ths + m.cells.length + m.locks.length + m.told.length
def mcNil : Mc := ⟨[], [], [], []⟩
theorem sum_all {ts : List Th} {q : Nat} (h : ∀ t ∈ ts, t.regs.length + t.stack.length ≤ q) : sumTh ts ≤ q * ts.length := by
  induction ts with
  | nil => simp [sumTh]
  | cons t l ih =>
    have h1 := h t (by simp)
    have h2 := ih (fun t' ht => h t' (by simp [ht]))
    have e : sumTh (t :: l) = (t.regs.length + t.stack.length) + sumTh l := by simp [sumTh]
    rw [e, List.length_cons, Nat.mul_add]
    omega
theorem sz_of {m : Mc} (h0 : m.ths.length ≤ 1000) (h1 : ∀ t ∈ m.ths, t.regs.length + t.stack.length ≤ 11) (h2 : m.cells.length ≤ 1000) (h3 : m.locks.length ≤ 1000) (h4 : m.told.length ≤ 2000) : mcSz m ≤ 1048576 := by
  have := sum_all h1
  unfold mcSz
  omega
theorem set_all {ts : List Th} {k : Nat} {t' : Th} {q : Nat} (h : ∀ t ∈ ts, t.regs.length + t.stack.length ≤ q) (h' : t'.regs.length + t'.stack.length ≤ q) : ∀ t ∈ ts.set k t', t.regs.length + t.stack.length ≤ q := fun t ht => by
  rcases List.mem_or_eq_of_mem_set ht with ht | rfl
  · exact h t ht
  · exact h'
theorem regsI_len (m : Mc) (t : Th) (x : C4) (rep : Int) : (regsI m t x rep).length = t.regs.length := by
  unfold regsI
  split <;> simp
theorem stackI_len (t : Th) (x : C4) : (stackI t x).length ≤ t.stack.length + 1 := by
  unfold stackI
  split
  · simp
  · split
    · rw [List.length_take]; omega
    · omega
theorem made_sz (rs : List C4) (h : Int) (m : Mc) (c : Ch) : mcSz ((doM rs h m c).getD mcNil) ≤ 1048576 := by
  cases hd : doM rs h m c with
  | none => exact Nat.zero_le _
  | some m' =>
    show mcSz m' ≤ 1048576
    obtain ⟨who, kd, rep⟩ := c
    cases hc : canDo rs h m ⟨who, kd, rep⟩ with
    | false => rw [doM_no hc] at hd; cases hd
    | true =>
      obtain ⟨hm, hr⟩ := canDo_true hc
      have F := machOk_facts hm
      simp only at hr
      have hlr := runs_lt hr
      obtain ⟨k, rfl⟩ : ∃ k : Nat, who = k := ⟨who.toNat, by omega⟩
      have hk : k < m.ths.length := by omega
      have f1 := F.few
      have f2 := F.cells
      have f3 := F.locks
      have f4 := F.told
      have hth : ∀ t ∈ m.ths, t.regs.length + t.stack.length ≤ 11 := fun t ht => by
        obtain ⟨j, hj, rfl⟩ := List.getElem_of_mem ht
        have g := thOk_facts (F.th j hj)
        have := regsOk_len g.regs
        have := g.top
        omega
      have gk := thOk_facts (F.th k hk)
      have r4 := regsOk_len gk.regs
      have s6 := gk.top
      rw [doM_in hc hk] at hd
      split at hd
      · injection hd with hd
        subst hd
        exact sz_of (by simp; omega) (set_all hth (by simp; omega)) (by simp only; omega) (by simp only; omega) (by simp only; omega)
      · split at hd
        · injection hd with hd
          subst hd
          exact sz_of (by simp; omega) (set_all hth (by simp; omega)) (by simp only; omega) (by simp only; omega) (by simp only; omega)
        · rename_i x _
          split at hd
          · injection hd with hd
            subst hd
            exact sz_of (by simp; omega) (set_all hth (by simp; omega)) (by simp only; omega) (by simp only; omega) (by simp only; omega)
          · injection hd with hd
            subst hd
            have e1 := regsI_len m m.ths[k] x rep
            have e2 := stackI_len m.ths[k] x
            refine sz_of ?_ ?_ ?_ ?_ ?_
            · show (thsI m k m.ths[k] x rep).length ≤ 1000
              unfold thsI
              split <;> simp <;> omega
            · show ∀ t ∈ thsI m k m.ths[k] x rep, t.regs.length + t.stack.length ≤ 11
              unfold thsI
              intro t ht
              rw [List.mem_append] at ht
              rcases ht with ht | ht
              · exact set_all hth (by simp only; omega) t ht
              · split at ht
                · rw [List.mem_singleton] at ht
                  subst ht
                  simp
                  omega
                · simp at ht
            · show (cellsI m m.ths[k] x).length ≤ 1000
              unfold cellsI
              split
              · rw [List.length_set]; omega
              · omega
            · show (locksI m k x).length ≤ 1000
              unfold locksI
              split
              · rw [List.length_set]; omega
              · split
                · rw [List.length_set]; omega
                · omega
            · show (toldI m m.ths[k] x).length ≤ 2000
              unfold toldI
              split
              · rw [List.length_append, List.length_singleton]; omega
              · omega
end Bt
/-- no row is longer than what the laws let by -/
structure Small (m : Bt.Mc) : Prop where
  ths : m.ths.length ≤ 1048576
  cells : m.cells.length ≤ 1048576
  locks : m.locks.length ≤ 1048576
  told : m.told.length ≤ 1048576
  regs : ∀ i (h : i < m.ths.length), m.ths[i].regs.length ≤ 1048576
  stack : ∀ i (h : i < m.ths.length), m.ths[i].stack.length ≤ 1048576
theorem Small.of {m : Bt.Mc} (h : Bt.mcSz m ≤ 1048576) : Small m := by
  unfold Bt.mcSz at h
  refine ⟨by omega, by omega, by omega, by omega, fun i hi => ?_, fun i hi => ?_⟩
  · have := Bt.sumTh_at hi; omega
  · have := Bt.sumTh_at hi; omega
end Go.Proofs.Ytbkbppllcjcmhaa

namespace Go.Proofs.Ytbkbppllcjcmhaa

namespace Bt
/-- how many choices of a row can be made from a machine on -/
def goFrom (rs : List C4) (h : Int) : Mc → List Ch → Nat
  | _, [] => 0
  | m, c :: l => match doM rs h m c with
    | none => 0
    | some m' => goFrom rs h m' l + 1
/-- the machine behind a row -/
def after (rs : List C4) (h : Int) : Mc → List Ch → Mc
  | m, [] => m
  | m, c :: l => after rs h ((doM rs h m c).getD mcNil) l
theorem goFrom_no {rs : List C4} {h : Int} {m : Mc} {c : Ch} {l : List Ch} (e : doM rs h m c = none) : goFrom rs h m (c :: l) = 0 := by simp only [goFrom, e]
theorem goFrom_yes {rs : List C4} {h : Int} {m m' : Mc} {c : Ch} {l : List Ch} (e : doM rs h m c = some m') : goFrom rs h m (c :: l) = goFrom rs h m' l + 1 := by simp only [goFrom, e]
theorem goFrom_le (rs : List C4) (h : Int) : ∀ (l : List Ch) (m : Mc), goFrom rs h m l ≤ l.length
  | [], _ => by simp [goFrom]
  | c :: l, m => by
    cases e : doM rs h m c with
    | none => rw [goFrom_no e]; omega
    | some m' =>
      have := goFrom_le rs h l m'
      rw [goFrom_yes e, List.length_cons]
      omega
theorem after_snoc (rs : List C4) (h : Int) : ∀ (l : List Ch) (m : Mc) (c : Ch), after rs h m (l ++ [c]) = (doM rs h (after rs h m l) c).getD mcNil
  | [], _, _ => rfl
  | _ :: l, _, c => after_snoc rs h l _ c
theorem after_take {rs : List C4} {h : Int} {l : List Ch} {m : Mc} {k : Nat} (hk : k < l.length) : after rs h m (l.take (k + 1)) = (doM rs h (after rs h m (l.take k)) l[k]).getD mcNil := by
  rw [List.take_succ_eq_append_getElem hk, after_snoc]
/-- the answers of RunLong and RunOk -/
def runLong (rs : List C4) (h : Int) (l : List Ch) : Int := if progOk rs h then (goFrom rs h mcNew (l.take 300) : Nat) else -1
def runOk (rs : List C4) (h : Int) (l : List Ch) : Bool := decide (l.length ≤ 300) && runLong rs h l == (l.length : Int)
/-- every choice of a whole row can be made -/
theorem goFrom_all {rs : List C4} {h : Int} : ∀ {l : List Ch} {m : Mc} (_ : goFrom rs h m l = l.length) {k : Nat} (hk : k < l.length), (doM rs h (after rs h m (l.take k)) l[k]).isSome = true
  | [], _, _, _, hk => absurd hk (by simp)
  | c :: l, m, e, k, hk => by
    cases hd : doM rs h m c with
    | none => rw [goFrom_no hd] at e; simp at e
    | some m' =>
      rw [goFrom_yes hd, List.length_cons] at e
      have e' : goFrom rs h m' l = l.length := by omega
      cases k with
      | zero => simp [after, hd]
      | succ k =>
        have := goFrom_all e' (k := k) (by simpa using hk)
        simpa [after, hd] using this
theorem runOk_facts {rs : List C4} {h : Int} {l : List Ch} (e : runOk rs h l = true) : progOk rs h = true ∧ l.length ≤ 300 ∧ goFrom rs h mcNew l = l.length := by
  unfold runOk runLong at e
  rw [Bool.and_eq_true, decide_eq_true_eq, beq_iff_eq] at e
  obtain ⟨e1, e2⟩ := e
  by_cases hp : progOk rs h = true
  · rw [if_pos hp, List.take_of_length_le (by omega)] at e2
    exact ⟨hp, e1, by omega⟩
  · rw [if_neg hp] at e2
    omega
/-- the machine behind some choices is small -/
theorem after_sz (rs : List C4) (h : Int) (l : List Ch) : mcSz (after rs h mcNew l) ≤ 1048576 := by
  rcases List.eq_nil_or_concat l with rfl | ⟨l', c, rfl⟩
  · show mcSz mcNew ≤ 1048576
    decide
  · rw [List.concat_eq_append, after_snoc]
    exact made_sz rs h _ c
/-- the choices that can be made of a machine -/
def chooseOf (rs : List C4) (h : Int) (m : Mc) (k : Nat) : List Ch := (if canDo rs h m ⟨k, 0, 0⟩ then [⟨k, 0, 0⟩] else []) ++ (if canDo rs h m ⟨k, 1, 0⟩ then [⟨k, 1, 0⟩] else [])
def chooseAll (rs : List C4) (h : Int) (m : Mc) : List Ch := (List.range m.ths.length).flatMap (chooseOf rs h m)
/-- the choice that a seed takes of those that there are -/
def seedPick (rs : List C4) (h : Int) (m : Mc) (s : Int) (c : Ch) : Ch := match instrOf rs h m c.who with
  | some x => if x.op = 13 ∧ c.kind = 0 then ⟨c.who, c.kind, s % 10000⟩ else c
  | none => c
/-- the choices that a seed takes -/
def seedRun (rs : List C4) (h : Int) : Nat → Int → Mc → List Ch
  | 0, _, _ => []
  | n + 1, s, m => match (chooseAll rs h m)[(s * 16807 % 2147483647 % (chooseAll rs h m).length).toNat]? with
    | none => []
    | some c => seedPick rs h m (s * 16807 % 2147483647) c :: seedRun rs h n (s * 16807 % 2147483647) ((doM rs h m (seedPick rs h m (s * 16807 % 2147483647) c)).getD mcNil)
/-- the machine behind the first choices of a run, if it is one and there are so many -/
def machAt (rs : List C4) (h : Int) (l : List Ch) (a : Int) : Option Mc := if runOk rs h l = true ∧ 0 ≤ a ∧ a ≤ l.length then some (after rs h mcNew (l.take a.toNat)) else none
def choosing (rs : List C4) (h : Int) (l : List Ch) : List Ch := chooseAll rs h ((machAt rs h l l.length).getD mcNil)
theorem made_few (rs : List C4) (h : Int) (m : Mc) (c : Ch) : ((doM rs h m c).getD mcNil).ths.length ≤ 5 := by
  cases hd : doM rs h m c with
  | none => exact Nat.zero_le _
  | some m' =>
    show m'.ths.length ≤ 5
    obtain ⟨who, kd, rep⟩ := c
    cases hc : canDo rs h m ⟨who, kd, rep⟩ with
    | false => rw [doM_no hc] at hd; cases hd
    | true =>
      obtain ⟨hm, hr⟩ := canDo_true hc
      have f1 := (machOk_facts hm).few
      simp only at hr
      have hlr := runs_lt hr
      obtain ⟨k, rfl⟩ : ∃ k : Nat, who = k := ⟨who.toNat, by omega⟩
      have hk : k < m.ths.length := by omega
      rw [doM_in hc hk] at hd
      split at hd
      · injection hd with hd
        subst hd
        simp
        omega
      · split at hd
        · injection hd with hd
          subst hd
          simp
          omega
        · split at hd
          · injection hd with hd
            subst hd
            simp
            omega
          · injection hd with hd
            subst hd
            show (thsI m k m.ths[k] _ rep).length ≤ 5
            unfold thsI
            split <;> simp <;> omega
theorem machAt_few (rs : List C4) (h : Int) (l : List Ch) (a : Int) : ((machAt rs h l a).getD mcNil).ths.length ≤ 5 := by
  unfold machAt
  split
  · show (after rs h mcNew _).ths.length ≤ 5
    rcases List.eq_nil_or_concat (l.take a.toNat) with e | ⟨l', c, e⟩
    · rw [e]
      show mcNew.ths.length ≤ 5
      decide
    · rw [e, List.concat_eq_append, after_snoc]
      exact made_few rs h _ c
  · exact Nat.zero_le _
theorem choose_succ (rs : List C4) (h : Int) (m : Mc) (j : Nat) : (List.range (j + 1)).flatMap (chooseOf rs h m) = (List.range j).flatMap (chooseOf rs h m) ++ chooseOf rs h m j := by
  rw [List.range_succ, List.flatMap_append]
  simp
def choosePart (rs : List C4) (h : Int) (m : Mc) (j q : Nat) : List Ch := (List.range q).flatMap fun (i : Nat) => if canDo rs h m ⟨j, i, 0⟩ then [⟨j, i, 0⟩] else []
theorem choosePart_two (rs : List C4) (h : Int) (m : Mc) (j : Nat) : choosePart rs h m j 2 = chooseOf rs h m j := by
  unfold choosePart chooseOf
  simp [List.range_succ]
theorem choosePart_succ (rs : List C4) (h : Int) (m : Mc) (j q : Nat) : choosePart rs h m j (q + 1) = choosePart rs h m j q ++ (if canDo rs h m ⟨j, q, 0⟩ then [⟨j, q, 0⟩] else []) := by
  unfold choosePart
  rw [List.range_succ, List.flatMap_append]
  simp
theorem choosePart_len (rs : List C4) (h : Int) (m : Mc) (j : Nat) : ∀ q, (choosePart rs h m j q).length ≤ q
  | 0 => by simp [choosePart]
  | q + 1 => by
    have := choosePart_len rs h m j q
    rw [choosePart_succ, List.length_append]
    split <;> simp <;> omega
theorem choose_len (rs : List C4) (h : Int) (m : Mc) : ∀ j, ((List.range j).flatMap (chooseOf rs h m)).length ≤ 2 * j
  | 0 => by simp
  | j + 1 => by
    have := choose_len rs h m j
    rw [choose_succ, List.length_append]
    have : (chooseOf rs h m j).length ≤ 2 := by
      unfold chooseOf
      split <;> split <;> simp
    omega
/-- the answer of RunOfSeed -/
def runOfSeed (rs : List C4) (h : Int) (s n : Int) : List Ch := if progOk rs h = true ∧ 0 ≤ s ∧ s ≤ 2147483646 ∧ 0 ≤ n ∧ n ≤ 300 then seedRun rs h n.toNat s mcNew else []
theorem seedRun_none {rs : List C4} {h : Int} {n : Nat} {s : Int} {m : Mc} (e : chooseAll rs h m = []) : seedRun rs h n s m = [] := by
  cases n with
  | zero => rfl
  | succ n => simp only [seedRun, e]; rfl
theorem seedRun_some {rs : List C4} {h : Int} {n : Nat} {s s1 : Int} {m : Mc} {c : Ch} {i : Nat} {all : List Ch} (ha : chooseAll rs h m = all) (e : s * 16807 % 2147483647 = s1) (ei : s1 % (all.length : Int) = i) (hi : i < all.length) (hc : all[i] = c) :
    seedRun rs h (n + 1) s m = seedPick rs h m s1 c :: seedRun rs h n s1 ((doM rs h m (seedPick rs h m s1 c)).getD mcNil) := by
  have key : all[(s * 16807 % 2147483647 % (all.length : Int)).toNat]? = some c := by
    rw [e, ei, Int.toNat_natCast, List.getElem?_eq_getElem hi, hc]
  rw [seedRun, ha, key, e]
/-- a row's choices can be made up to one -/
theorem goFrom_eq {rs : List C4} {h : Int} : ∀ {l : List Ch} {m : Mc} {i : Nat} (_ : i ≤ l.length) (_ : ∀ j (hj : j < l.length), j < i → (doM rs h (after rs h m (l.take j)) l[j]).isSome = true) (_ : ∀ hj : i < l.length, doM rs h (after rs h m (l.take i)) l[i] = none), goFrom rs h m l = i
  | [], _, i, hi, _, _ => by simp at hi; simp [goFrom, hi]
  | c :: l, m, i, hi, ha, hn => by
    cases i with
    | zero =>
      have := hn (by simp)
      exact goFrom_no (by simpa [after] using this)
    | succ i =>
      have h0 := ha 0 (by simp) (by omega)
      cases e : doM rs h m c with
      | none => simp [after, e] at h0
      | some m' =>
        rw [goFrom_yes e, goFrom_eq (i := i) (by simpa using hi) (fun j hj hji => ?_) (fun hj => ?_)]
        · have := ha (j + 1) (by simpa using hj) (by omega)
          simpa only [List.take_succ_cons, after, e, Option.getD_some, List.getElem_cons_succ] using this
        · have := hn (by simpa using hj)
          simpa only [List.take_succ_cons, after, e, Option.getD_some, List.getElem_cons_succ] using this
end Bt
theorem Bt.machAt_sz (rs : List Bt.C4) (h : Int) (l : List Bt.Ch) (a : Int) : Bt.mcSz ((Bt.machAt rs h l a).getD Bt.mcNil) ≤ 1048576 := by
  unfold Bt.machAt
  split
  · exact Bt.after_sz rs h _
  · show Bt.mcSz Bt.mcNil ≤ 1048576
    decide
theorem Bt.choosing_len (rs : List Bt.C4) (h : Int) (l : List Bt.Ch) : (Bt.choosing rs h l).length ≤ 1048576 := by
  unfold Bt.choosing Bt.chooseAll
  have h1 := Bt.choose_len rs h ((Bt.machAt rs h l l.length).getD Bt.mcNil) ((Bt.machAt rs h l l.length).getD Bt.mcNil).ths.length
  have h2 := Bt.machAt_few rs h l l.length
  omega
end Go.Proofs.Ytbkbppllcjcmhaa
