/-
  Plain facts on instructions, without any Go: what each of the 18 instructions uses of its fields, what the fields are below, and when an instruction is one.
-/
namespace Go.Proofs.Ytolbihilggkldaa.Bt
/-- there is such an instruction -/
def uOk (op : Int) : Bool := decide (0 ≤ op ∧ op ≤ 17)
/-- it uses A -/
def uA (op : Int) : Bool := decide ((1 ≤ op ∧ op ≤ 8) ∨ op = 10 ∨ op = 13 ∨ op = 14)
/-- it uses B -/
def uB (op : Int) : Bool := decide (2 ≤ op ∧ op ≤ 8)
/-- what its C is -/
def uC (op : Int) : Int := if op = 1 then 1 else if op = 7 ∨ op = 8 then 2 else if op = 9 ∨ op = 10 ∨ op = 11 ∨ op = 17 then 3 else if op = 15 ∨ op = 16 then 4 else 0
/-- what a kind of C is below -/
def topC (k : Int) : Int := if k = 1 then 10000 else if k = 2 then 8 else if k = 3 then 60 else if k = 4 then 2 else 0
/-- a number below another one, if it is used, and 0 if not -/
def below (n top : Int) (used : Bool) : Bool := if used then decide (0 ≤ n ∧ n < top) else decide (n = 0)
/-- an instruction is one -/
def codeOk (op a b c : Int) : Bool := uOk op && below a 4 (uA op) && below b 4 (uB op) && below c (topC (uC op)) (decide (0 < uC op))
/-- what the fields are, as the program tells it -/
def fA (op : Int) : Int := if uA op then 1 else 0
def fB (op : Int) : Int := if uB op then 1 else 0
def fC (op : Int) : Int := if uC op = 0 then 0 else uC op + 1
def fTop (k : Int) : Int := if k = 1 then 4 else if k = 2 then 10000 else if k = 3 then 8 else if k = 4 then 60 else if k = 5 then 2 else 1
def fOk (n k : Int) : Bool := decide (0 ≤ n ∧ n < fTop k)
theorem ops (op : Int) : op = 0 ∨ op = 1 ∨ op = 2 ∨ op = 3 ∨ op = 4 ∨ op = 5 ∨ op = 6 ∨ op = 7 ∨ op = 8 ∨ op = 9 ∨ op = 10 ∨ op = 11 ∨ op = 12 ∨ op = 13 ∨ op = 14 ∨ op = 15 ∨ op = 16 ∨ op = 17 ∨ (op < 0 ∨ 17 < op) := by omega
/-- the name of an instruction; none for others -/
def name (op : Int) : List UInt8 :=
  if op = 0 then [104, 97, 108, 116] else if op = 1 then [115, 101, 116] else if op = 2 then [109, 111, 118, 101] else if op = 3 then [97, 100, 100]
  else if op = 4 then [115, 117, 98] else if op = 5 then [109, 117, 108] else if op = 6 then [108, 101, 115, 115] else if op = 7 then [108, 111, 97, 100]
  else if op = 8 then [115, 116, 111, 114, 101] else if op = 9 then [106, 117, 109, 112] else if op = 10 then [122, 101, 114, 111] else if op = 11 then [99, 97, 108, 108]
  else if op = 12 then [114, 101, 116] else if op = 13 then [97, 115, 107] else if op = 14 then [116, 101, 108, 108] else if op = 15 then [108, 111, 99, 107]
  else if op = 16 then [102, 114, 101, 101] else if op = 17 then [98, 101, 103, 105, 110] else []
theorem name_none {op : Int} (h : op < 0 ∨ 17 < op) : name op = [] := by
  unfold name
  repeat (rw [if_neg (by omega)])
theorem codeOk_eq (op a b c : Int) : (uOk op && (fOk a (fA op) && fOk b (fB op) && fOk c (fC op))) = codeOk op a b c := by
  rcases ops op with h | h | h | h | h | h | h | h | h | h | h | h | h | h | h | h | h | h | h
  all_goals first | subst h | skip
  all_goals simp [codeOk, uOk, uA, uB, uC, topC, below, fOk, fA, fB, fC, fTop]
  all_goals grind
/-- an instruction's four numbers -/
structure C4 where
  op : Int
  a : Int
  b : Int
  c : Int
/-- an instruction is one, and its place is one of n -/
def good (n : Int) (r : C4) : Bool := codeOk r.op r.a r.b r.c && !(decide (uC r.op = 3) && decide (n ≤ r.c))
/-- a program is one -/
def progOk (rs : List C4) (h : Int) : Bool := rs.all (good rs.length) && decide (1 ≤ rs.length ∧ rs.length ≤ 60 ∧ -1 ≤ h ∧ h < rs.length)
theorem progOk_false {rs : List C4} {h : Int} {k : Nat} (hk : k < rs.length) (hg : good rs.length rs[k] = false) : progOk rs h = false := by
  have h1 : rs.all (good rs.length) = false := by
    rw [List.all_eq_false]
    exact ⟨rs[k], List.getElem_mem hk, by simp [hg]⟩
  simp [progOk, h1]
theorem progOk_all {rs : List C4} {h : Int} {n : Nat} (hn : rs.length = n) (hg : ∀ j (hj : j < rs.length), good n rs[j] = true) : progOk rs h = decide (1 ≤ n ∧ n ≤ 60 ∧ -1 ≤ h ∧ h < n) := by
  subst hn
  have ha : rs.all (good rs.length) = true := by
    rw [List.all_eq_true]
    intro x hx
    obtain ⟨i, hi, rfl⟩ := List.getElem_of_mem hx
    exact hg i hi
  unfold progOk
  rw [ha, Bool.true_and]
/-- a thread may go on at the next place -/
def gNext (op : Int) : Bool := !(op == 0) && !(op == 9) && !(op == 11) && !(op == 12)
/-- a thread may go on at C -/
def gAway (op : Int) : Bool := op == 9 || op == 10 || op == 11
/-- where a thread goes on behind an instruction at a place -/
def goes (r : C4) (t : Int) : List Int :=
  if gNext r.op then (if gAway r.op then (if r.c = t + 1 then [t + 1] else if r.c < t + 1 then [r.c, t + 1] else [t + 1, r.c]) else [t + 1])
  else (if gAway r.op then [r.c] else [])
/-- where a thread of a program goes on -/
def goesTo (rs : List C4) (h t : Int) : List Int := if progOk rs h then (if t < 0 then [] else match rs[t.toNat]? with
  | some r => goes r t
  | none => []) else []
theorem goesTo_bad {rs : List C4} {h t : Int} (hp : progOk rs h = false) : goesTo rs h t = [] := by simp [goesTo, hp]
theorem goesTo_neg {rs : List C4} {h t : Int} (ht : t < 0) : goesTo rs h t = [] := by simp [goesTo, ht]
theorem goesTo_out {rs : List C4} {h t : Int} (ht : (rs.length : Int) ≤ t) : goesTo rs h t = [] := by
  have e : rs[t.toNat]? = none := List.getElem?_eq_none (by omega)
  simp only [goesTo, e]
  split <;> simp
theorem goesTo_at {rs : List C4} {h : Int} {k : Nat} (hp : progOk rs h = true) (hk : k < rs.length) : goesTo rs h k = goes rs[k] k := by
  have e : rs[((k : Int)).toNat]? = some rs[k] := by simp [hk]
  have e2 : ¬ ((k : Int) < 0) := by omega
  simp only [goesTo, hp, e, e2, if_true, if_false]
theorem progOk_len {rs : List C4} {h : Int} (hp : progOk rs h = true) : rs.length ≤ 60 := by
  simp only [progOk, Bool.and_eq_true, decide_eq_true_eq] at hp
  omega
end Go.Proofs.Ytolbihilggkldaa.Bt
