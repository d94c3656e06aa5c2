/-
  Part of a proof: Ints, Marks, Mach, Rng, Cell, Rows2. No condition.
-/
import Derived.Test.YtminfkedkkkhdaaRows
import Derived.Deep.OwnRows
import Derived.Test.YtminfkedkkkhdaaZAak
import Derived.IntWalk
import Derived.Laws.OwnMore
section
namespace Go.Proofs.Ytminfkedkkkhdaa
open Go.RowKit
def IntRow (w : World) (base : Nat) (v : Value) (xs : List Int) : Prop := w.ownsRow base 3 1 v xs.length (xs.map (Value.int .i64))
def ArgInts (w : World) (v : Value) (xs : List Int) : Prop :=
 ∃ A cap, v = .slice A xs.length cap ∧ xs.length ≤ cap ∧ (xs ≠ [] → ∃ b o, A = some ⟨b, o, none⟩ ∧ ∀ i (h : i < xs.length), w.cell? ⟨b, o + i, none⟩ = some (.int .i64 xs[i]))
theorem ArgInts.keep {w w' : World} {v : Value} {xs : List Int} (h : ArgInts w v xs) (hb : Below w.heap.size w w') : ArgInts w' v xs := by
 obtain ⟨A, cap, hv, hc, hr⟩ := h
 refine ⟨A, cap, hv, hc, fun hne => ?_⟩
 obtain ⟨b, o, hA, hr⟩ := hr hne
 exact ⟨b, o, hA, fun i hi => keeps hb (hr i hi)⟩
theorem IntRow.nil (w : World) (base : Nat) : IntRow w base (.slice none 0 0) [] := World.ownsRow_nil w base _ 1
theorem IntRow.forms {w : World} {base : Nat} {v : Value} {xs : List Int} (h : IntRow w base v xs) :
  (v = .slice none 0 0 ∧ xs = []) ∨ ∃ g cap, v = .slice (some ⟨g, 0, none⟩) xs.length cap ∧ base ≤ g ∧ g < w.heap.size ∧ xs.length ≤ cap ∧ cap ≤ maxLen := by
 have h' : w.ownsRow base 3 1 v xs.length (xs.map (Value.int .i64)) := h
 rcases h'.2 with ⟨rfl, h0⟩ | ⟨g, cap, cur, rfl, hb, hg, hn, hm, _, _⟩
 ·exact .inl ⟨rfl, by simpa using h0⟩
 ·refine .inr ⟨g, cap, rfl, hb, ?_, hn, hm⟩
  exact (Array.getElem?_eq_some_iff.1 hg).1
theorem IntRow.cell {w : World} {base g cap : Nat} {xs : List Int} (h : IntRow w base (.slice (some ⟨g, 0, none⟩) xs.length cap) xs) (i : Nat) (hi : i < xs.length) :
  w.cell? ⟨g, i, none⟩ = some (.int .i64 xs[i]) := by
 have h' : w.ownsRow base 3 1 (.slice (some ⟨g, 0, none⟩) xs.length cap) xs.length (xs.map (Value.int .i64)) := h
 rw [h'.cellAt i (by omega)]
 simp [hi]
theorem IntRow.arg {w : World} {base : Nat} {v : Value} {xs : List Int} (h : IntRow w base v xs) : ArgInts w v xs := by
 rcases h.forms with ⟨rfl, rfl⟩ | ⟨g, cap, rfl, _, _, hc, _⟩
 ·exact ⟨none, 0, rfl, Nat.le_refl _, fun h => absurd rfl h⟩
 ·refine ⟨_, cap, rfl, hc, fun _ => ⟨g, 0, rfl, fun i hi => ?_⟩⟩
  rw [Nat.zero_add]
  exact h.cell i hi
theorem IntRow.grown {w w' : World} {base : Nat} {v : Value} {xs : List Int} {row : Option Nat} (h : IntRow w base v xs) (hg : w.grownBy w' row) (hne : v.ownBlock = none ∨ v.ownBlock ≠ row) : IntRow w' base v xs :=
 World.ownsRow.kept h hg hne
theorem grown_below {w w' : World} (hb : Below w.heap.size w w') : w.grownBy w' none := ⟨hb.os, hb.tape, hb.output, hb.size, fun k hk _ => hb.block k hk⟩
theorem IntRow.keep {w w' : World} {base : Nat} {v : Value} {xs : List Int} (h : IntRow w base v xs) (hb : Below w.heap.size w w') : IntRow w' base v xs := by
 refine h.grown (grown_below hb) ?_
 rcases h.forms with ⟨rfl, _⟩ | ⟨g, cap, rfl, _⟩
 ·exact .inl rfl
 ·exact .inr (by simp [Value.ownBlock])
theorem IntRow.mono {w : World} {base base' : Nat} {v : Value} {xs : List Int} (h : IntRow w base v xs) (hb : base' ≤ base) : IntRow w base' v xs := Joins.ownsRow_le h hb
theorem IntRow.lit (w : World) (xs : List Int) (hn : xs.length ≤ maxLen) : IntRow (w.alloc (.cells (xs.map (Value.int .i64)).toArray 3)) w.heap.size (.slice (some ⟨w.heap.size, 0, none⟩) xs.length xs.length) xs := by
 have h := World.ownsRow_lit (base := w.heap.size) (e := 3) (size := 1) w (xs.map (Value.int .i64)).toArray xs.length (Nat.le_refl _) hn (by simp)
 simpa [IntRow] using h
theorem infoInt : (Try.prog.info? 3).map (fun i => (i.zero, i.size, i.bytes)) = some (some (.int .i64 0), 1, 8) := by kernel_rfl
theorem wp_app_int {ops : Array Oper} {rest : List Oper} {o : Oper} {a : Act} {Q : Exit → Act → World → Prop} {w : World} (hgd : o.guard = none) (s x : Operand)
  (ho : o.op = .call { callee := .builtin .append, args := #[s, x], argTypes := #[29, 29] }) (base : Nat) (v : Value) (xs : List Int) (hs : a.eval s = v) (hown : IntRow w base v xs)
  (ad : Addr) (c : Nat) (q : Int) (hx : a.eval x = .slice (some ad) 1 c) (hq : w.cell? ad = some (.int .i64 q)) (hlen : xs.length ≤ 1099511627776) (hbase : base ≤ w.heap.size)
  (h : ∀ v' w', IntRow w' base v' (xs ++ [q]) → w.grownBy w' v.ownBlock → wpList Try.prog ops Q rest (a.put o.dst v') w') : wpList Try.prog ops Q (o :: rest) a w := by
 obtain ⟨i, hi, hz⟩ := Option.map_eq_some_iff.1 infoInt
 simp only [Prod.mk.injEq] at hz
 obtain ⟨hz, hsz, hby⟩ := hz
 refine wpList_append_own (P := Try.prog) w hgd s x 29 ho base 3 i (.int .i64 0) 1 8 Try.underlying29 hi hz hsz hby rfl (by decide) v xs.length (xs.map (Value.int .i64)) hs hown ad 1 c [.int .i64 q] hx rfl ?_ ?_ ?_ ?_ hbase ?_
 ·intro j u hu
  cases j with
  | zero =>
   simp only [List.getElem?_cons_zero, Option.some.injEq] at hu
   subst hu
   exact hq
  | succ j => simp at hu
 ·intro u hu
  simp only [List.mem_singleton] at hu
  subst hu
  rfl
 ·unfold maxLen; omega
 ·omega
 ·intro v' w' h1 h2 _
  refine h v' w' ?_ h2
  have e : (xs ++ [q]).length = xs.length + 1 := by simp
  unfold IntRow
  rw [e, List.map_append]
  exact h1
end Go.Proofs.Ytminfkedkkkhdaa
end
section
namespace Go.Proofs.Ytminfkedkkkhdaa
open Go.RowKit
theorem IntRow.stored {w : World} {base g cap n : Nat} {xs : List Int} (h : IntRow w base (.slice (some ⟨g, 0, none⟩) n cap) xs) (hn : xs.length = n) (j : Nat) (u : Int) :
  IntRow (w.setCell ⟨g, j, none⟩ (.int .i64 u)) base (.slice (some ⟨g, 0, none⟩) n cap) (xs.set j u) := by
 subst hn
 have h' : w.ownsRow base 3 1 (.slice (some ⟨g, 0, none⟩) xs.length cap) xs.length (xs.map (Value.int .i64)) := h
 have h1 := (h'.stored j (.int .i64 u)).1
 unfold IntRow
 rw [List.length_set, List.map_set]
 exact h1
end Go.Proofs.Ytminfkedkkkhdaa
end
section
namespace Go.Proofs.Ytminfkedkkkhdaa.Bt
def inR (lo hi : Int) (xs : List Int) : Bool := xs.all fun n => decide (lo ≤ n) && decide (n < hi)
theorem inR_false {lo hi : Int} {xs : List Int} {k : Nat} (hk : k < xs.length) (h : xs[k] < lo ∨ hi ≤ xs[k]) : inR lo hi xs = false := by
 unfold inR
 rw [List.all_eq_false]
 refine ⟨xs[k], List.getElem_mem hk, ?_⟩
 simp only [Bool.and_eq_true, decide_eq_true_eq]
 omega
theorem inR_true {lo hi : Int} {xs : List Int} (h : ∀ j (hj : j < xs.length), lo ≤ xs[j] ∧ xs[j] < hi) : inR lo hi xs = true := by
 unfold inR
 rw [List.all_eq_true]
 intro x hx
 obtain ⟨i, hi', rfl⟩ := List.getElem_of_mem hx
 simpa using h i hi'
theorem inR_at {lo hi : Int} {xs : List Int} (h : inR lo hi xs = true) {j : Nat} (hj : j < xs.length) : lo ≤ xs[j] ∧ xs[j] < hi := by
 unfold inR at h
 rw [List.all_eq_true] at h
 simpa using h xs[j] (List.getElem_mem hj)
def regsOk (xs : List Int) : Bool := inR 0 10000 xs && ((xs.length : Int) == 4)
theorem regsOk_eq {xs : List Int} : regsOk xs = ((((xs.length : Int) == 4)) && inR 0 10000 xs) := by unfold regsOk; rw [Bool.and_comm]
theorem regsOk_len {xs : List Int} (h : regsOk xs = true) : xs.length = 4 := by
 simp only [regsOk, Bool.and_eq_true, beq_iff_eq] at h
 omega
theorem regsOk_at {xs : List Int} (h : regsOk xs = true) {j : Nat} (hj : j < xs.length) : 0 ≤ xs[j] ∧ xs[j] < 10000 := by
 simp only [regsOk, Bool.and_eq_true] at h
 exact inR_at h.1 hj
def cellOf (r : C4) (regs : List Int) : Int :=
 if codeOk r.op r.a r.b r.c && (decide (r.op = 7) || decide (r.op = 8)) && regsOk regs then (regs.getD r.b.toNat 0 + r.c) % 8 else -1
structure Th where
 pl : Int
 regs : List Int
 stack : List Int
 st : Int
structure Mc where
 ths : List Th
 cells : List Int
 locks : List Int
 told : List Int
def thOk (n : Int) (t : Th) : Bool := decide (0 ≤ t.pl ∧ t.pl ≤ n ∧ t.stack.length ≤ 6 ∧ 0 ≤ t.st ∧ t.st ≤ 2) && (regsOk t.regs && inR 0 (n + 1) t.stack)
def machOk (rs : List C4) (h : Int) (m : Mc) : Bool := progOk rs h && decide (1 ≤ m.ths.length ∧ m.ths.length ≤ 4 ∧ m.cells.length = 8 ∧ m.locks.length = 2 ∧ m.told.length ≤ 1000) &&
 (inR 0 10000 m.cells && inR (-1) m.ths.length m.locks && inR 0 10000 m.told) && m.ths.all (thOk rs.length)
theorem machOk_thread {rs : List C4} {h : Int} {m : Mc} {k : Nat} (hk : k < m.ths.length) (hg : thOk rs.length m.ths[k] = false) : machOk rs h m = false := by
 have h1 : m.ths.all (thOk rs.length) = false := by
  rw [List.all_eq_false]
  exact ⟨m.ths[k], List.getElem_mem hk, by simp [hg]⟩
 simp [machOk, h1]
theorem all_th {n : Int} {ts : List Th} (h : ∀ j (hj : j < ts.length), thOk n ts[j] = true) : ts.all (thOk n) = true := by
 rw [List.all_eq_true]
 intro x hx
 obtain ⟨i, hi, rfl⟩ := List.getElem_of_mem hx
 exact h i hi
structure MachFacts (rs : List C4) (h : Int) (m : Mc) : Prop where
 prog : progOk rs h = true
 many : 1 ≤ m.ths.length
 few : m.ths.length ≤ 4
 cells : m.cells.length = 8
 locks : m.locks.length = 2
 told : m.told.length ≤ 1000
 cellsIn : inR 0 10000 m.cells = true
 locksIn : inR (-1) m.ths.length m.locks = true
 toldIn : inR 0 10000 m.told = true
 th : ∀ j (hj : j < m.ths.length), thOk rs.length m.ths[j] = true
theorem machOk_facts {rs : List C4} {h : Int} {m : Mc} (hm : machOk rs h m = true) : MachFacts rs h m := by
 simp only [machOk, Bool.and_eq_true, decide_eq_true_eq, List.all_eq_true] at hm
 obtain ⟨⟨⟨h1, h2, h3, h4, h5, h6⟩, ⟨h7, h8⟩, h9⟩, h10⟩ := hm
 exact ⟨h1, h2, h3, h4, h5, h6, h7, h8, h9, fun j hj => h10 _ (List.getElem_mem hj)⟩
theorem machOk_of {rs : List C4} {h : Int} {m : Mc} (f : MachFacts rs h m) : machOk rs h m = true := by
 simp only [machOk, Bool.and_eq_true, decide_eq_true_eq]
 exact ⟨⟨⟨f.prog, f.many, f.few, f.cells, f.locks, f.told⟩, ⟨f.cellsIn, f.locksIn⟩, f.toldIn⟩, all_th f.th⟩
structure ThFacts (n : Int) (t : Th) : Prop where
 lo : 0 ≤ t.pl
 hi : t.pl ≤ n
 top : t.stack.length ≤ 6
 stLo : 0 ≤ t.st
 stHi : t.st ≤ 2
 regs : regsOk t.regs = true
 stack : inR 0 (n + 1) t.stack = true
theorem thOk_facts {n : Int} {t : Th} (h : thOk n t = true) : ThFacts n t := by
 simp only [thOk, Bool.and_eq_true, decide_eq_true_eq] at h
 obtain ⟨⟨h1, h2, h3, h4, h5⟩, h6, h7⟩ := h
 exact ⟨h1, h2, h3, h4, h5, h6, h7⟩
theorem thOk_of {n : Int} {t : Th} (f : ThFacts n t) : thOk n t = true := by
 simp only [thOk, Bool.and_eq_true, decide_eq_true_eq]
 exact ⟨⟨f.lo, f.hi, f.top, f.stLo, f.stHi⟩, f.regs, f.stack⟩
theorem false_of {b : Bool} (h : b = true → False) : b = false := by cases b with
 | false => rfl
 | true => exact (h rfl).elim
end Go.Proofs.Ytminfkedkkkhdaa.Bt
end
section
namespace Go.Proofs.Ytminfkedkkkhdaa
open Go.RowKit
theorem ArgInts.at_ {w : World} {A : Option Addr} {n cap : Nat} {xs : List Int} (h : ArgInts w (.slice A n cap) xs) (hN : xs.length = n) : n ≤ cap ∧ ∀ i (hi : i < xs.length), ∃ b o, A = some ⟨b, o, none⟩ ∧ w.cell? ⟨b, o + i, none⟩ = some (.int .i64 xs[i]) := by
 obtain ⟨A', cap', hv, hc, hr⟩ := h
 injection hv with e1 e2 e3
 subst e1 e2 e3
 refine ⟨hc, fun i hi => ?_⟩
 obtain ⟨b, o, hA, h⟩ := hr (by intro e; rw [e] at hi; simp at hi)
 exact ⟨b, o, hA, h i hi⟩
theorem ArgInts.form {w : World} {v : Value} {xs : List Int} (h : ArgInts w v xs) : ∃ A cap, v = .slice A xs.length cap ∧ ArgInts w (.slice A xs.length cap) xs := by
 have h' := h
 obtain ⟨A, cap, rfl, _, _⟩ := h
 exact ⟨A, cap, rfl, h'⟩
set_option maxHeartbeats 1000000 in
theorem l2n_any (v : Value) (xs : List Int) (many : Int) (w : World) (hn : xs.length ≤ 1099511627776) (hv : ArgInts w v xs) :
  Calls Try.prog 120 #[v, .int .i64 many] w fun e w' => e = .returned (.bool (Bt.inR 0 10000 xs && ((xs.length : Int) == many))) ∧ w = w' := by
 obtain ⟨A, cap, rfl, hv⟩ := hv.form
 generalize hN : xs.length = n at *
 obtain ⟨hc, hr⟩ := hv.at_ hN
 have HN := Lib.hid hN; clear hN
 have HR := Lib.hid hr; clear hr hv
 go_enter Try.func120, Try.ntmps120
 go_wp2
 go_loop [5] (fun i => ∃ k : Nat, k ≤ n ∧ i = .int .i64 k ∧ ∀ j (hj : j < xs.length), j < k → 0 ≤ xs[j] ∧ xs[j] < 10000) (fun i => n - (intOf i).toNat)
 case atStart => exact ⟨0, Nat.zero_le _, rfl, fun _ _ hj => absurd hj (by omega)⟩
 case round =>
  obtain ⟨k, hk, rfl, hall⟩ := hrel
  have HA := Lib.hid hall; clear hall
  by_cases hlt : k < n
  ·have hlt' : k < xs.length := by rw [HN.out]; exact hlt
   obtain ⟨b, o, rfl, f0⟩ := HR.out k hlt'
   generalize hq : xs[k] = q at *
   have HQ := Lib.hid hq; clear hq
   by_cases h1 : q < 0
   ·have HF : Hid (Bt.inR 0 10000 xs = false) := Lib.hid (Bt.inR_false hlt' (by rw [HQ.out]; omega))
    go_wp2
    go_ret
    exact ⟨ret_bool (by rw [HF.out]; rfl), rfl⟩
   ·by_cases h2 : 10000 ≤ q
    ·have HF : Hid (Bt.inR 0 10000 xs = false) := Lib.hid (Bt.inR_false hlt' (by rw [HQ.out]; omega))
     go_wp2
     go_ret
     exact ⟨ret_bool (by rw [HF.out]; rfl), rfl⟩
    ·go_wp2
     go_round
     case rel => exact ⟨k + 1, by omega, by go_num, fun j hj hjk => by
      by_cases hjk' : j < k
      ·exact HA.out j hj hjk'
      ·obtain rfl : j = k := by omega
       rw [HQ.out]; omega⟩
     case measure => simp [intOf]; omega
  ·obtain rfl : k = n := by omega
   have HF : Hid (Bt.inR 0 10000 xs = true) := Lib.hid (Bt.inR_true (fun j hj => HA.out j hj (by have := HN.out; omega)))
   go_wp2
   go_ret
   exact ⟨ret_bool (by rw [HF.out]; simp), rfl⟩
set_option maxHeartbeats 1000000 in
theorem within_any (v : Value) (xs : List Int) (lo hi : Int) (w : World) (hn : xs.length ≤ 1099511627776) (hv : ArgInts w v xs) :
  Calls Try.prog 133 #[v, .int .i64 lo, .int .i64 hi] w fun e w' => e = .returned (.bool (Bt.inR lo hi xs)) ∧ w = w' := by
 obtain ⟨A, cap, rfl, hv⟩ := hv.form
 generalize hN : xs.length = n at *
 obtain ⟨hc, hr⟩ := hv.at_ hN
 have HN := Lib.hid hN; clear hN
 have HR := Lib.hid hr; clear hr hv
 go_enter Try.func133, Try.ntmps133
 go_wp2
 go_loop [11] (fun i => ∃ k : Nat, k ≤ n ∧ i = .int .i64 k ∧ ∀ j (hj : j < xs.length), j < k → lo ≤ xs[j] ∧ xs[j] < hi) (fun i => n - (intOf i).toNat)
 case atStart => exact ⟨0, Nat.zero_le _, rfl, fun _ _ hj => absurd hj (by omega)⟩
 case round =>
  obtain ⟨k, hk, rfl, hall⟩ := hrel
  have HA := Lib.hid hall; clear hall
  by_cases hlt : k < n
  ·have hlt' : k < xs.length := by rw [HN.out]; exact hlt
   obtain ⟨b, o, rfl, f0⟩ := HR.out k hlt'
   generalize hq : xs[k] = q at *
   have HQ := Lib.hid hq; clear hq
   by_cases h1 : q < lo
   ·have HF : Hid (Bt.inR lo hi xs = false) := Lib.hid (Bt.inR_false hlt' (by rw [HQ.out]; omega))
    go_wp2
    go_ret
    exact ⟨ret_bool HF.out.symm, rfl⟩
   ·by_cases h2 : hi ≤ q
    ·have HF : Hid (Bt.inR lo hi xs = false) := Lib.hid (Bt.inR_false hlt' (by rw [HQ.out]; omega))
     go_wp2
     go_ret
     exact ⟨ret_bool HF.out.symm, rfl⟩
    ·go_wp2
     go_round
     case rel => exact ⟨k + 1, by omega, by go_num, fun j hj hjk => by
      by_cases hjk' : j < k
      ·exact HA.out j hj hjk'
      ·obtain rfl : j = k := by omega
       rw [HQ.out]; omega⟩
     case measure => simp [intOf]; omega
  ·obtain rfl : k = n := by omega
   have HF : Hid (Bt.inR lo hi xs = true) := Lib.hid (Bt.inR_true (fun j hj => HA.out j hj (by have := HN.out; omega)))
   go_wp2
   go_ret
   exact ⟨ret_bool HF.out.symm, rfl⟩
set_option maxHeartbeats 1000000 in
theorem regsOk_any (v : Value) (xs : List Int) (w : World) (hn : xs.length ≤ 1099511627776) (hv : ArgInts w v xs) :
  Calls Try.prog 143 #[v] w fun e w' => e = .returned (.bool (Bt.regsOk xs)) ∧ w = w' := by
 rw [Bt.regsOk_eq]
 obtain ⟨A, cap, rfl, hv⟩ := hv.form
 have HV := Lib.hid hv; clear hv
 have HNN := Lib.hid hn; clear hn
 by_cases h4 : xs.length = 4
 ·have HE : Hid ((((xs.length : Int) == 4)) = true) := Lib.hid (by rw [beq_iff_eq]; omega)
  rw [HE.out, Bool.true_and]
  have hb : ((xs.length : Int) == 4) = true := HE.out
  clear h4
  go_enter Try.func143, Try.ntmps143
  go_wp2_with (go_at_call 133; refine (within_any _ xs _ _ _ HNN.out HV.out).mono ?_; rintro e w' ⟨rfl, rfl⟩)
  go_ret
  exact ⟨rfl, rfl⟩
 ·have hb : ((xs.length : Int) == 4) = false := by rw [beq_eq_false_iff_ne]; omega
  rw [hb, Bool.false_and]
  go_enter Try.func143, Try.ntmps143
  go_wp2
  go_ret
  exact ⟨rfl, rfl⟩
end Go.Proofs.Ytminfkedkkkhdaa
end
section
namespace Go.Proofs.Ytminfkedkkkhdaa
open Go.RowKit
theorem l2n_regs (v : Value) (xs : List Int) (w : World) (hn : xs.length ≤ 1099511627776) (hv : ArgInts w v xs) :
  Calls Try.prog 120 #[v, .int .i64 4] w fun e w' => e = .returned (.bool (Bt.regsOk xs)) ∧ w = w' := l2n_any v xs 4 w hn hv
namespace Bt
theorem cellOf_bad {r : C4} {xs : List Int} (h : codeOk r.op r.a r.b r.c = false ∨ ¬ (r.op = 7 ∨ r.op = 8) ∨ regsOk xs = false) : cellOf r xs = -1 := by
 unfold cellOf
 rw [if_neg]
 simp only [Bool.and_eq_true, Bool.or_eq_true, decide_eq_true_eq]
 rintro ⟨⟨h1, h2⟩, h3⟩
 rcases h with h | h | h
 ·rw [h1] at h; cases h
 ·exact h h2
 ·rw [h3] at h; cases h
theorem cellOf_good {r : C4} {xs : List Int} {k : Nat} (hk : k < xs.length) (hb : r.b = k) (h1 : codeOk r.op r.a r.b r.c = true) (h2 : r.op = 7 ∨ r.op = 8) (h3 : regsOk xs = true) : cellOf r xs = (xs[k] + r.c) % 8 := by
 unfold cellOf
 rw [if_pos (by simp only [Bool.and_eq_true, Bool.or_eq_true, decide_eq_true_eq]; exact ⟨⟨h1, h2⟩, h3⟩), hb]
 simp [hk]
theorem mem_bounds {op a b c : Int} (h : codeOk op a b c = true) (h2 : op = 7 ∨ op = 8) : (0 ≤ a ∧ a < 4) ∧ (0 ≤ b ∧ b < 4) ∧ (0 ≤ c ∧ c < 8) := by
 rcases h2 with rfl | rfl <;> simp [codeOk, uOk, uA, uB, uC, topC, below] at h <;> omega
end Bt
set_option maxHeartbeats 1000000 in
theorem specCellOf_any (op a b c : Int) (v : Value) (xs : List Int) (w : World) (hn : xs.length ≤ 1099511627776) (hv : ArgInts w v xs) :
  Calls Try.prog 100 #[.agg #[.int .i64 op, .int .i64 a, .int .i64 b, .int .i64 c], v] w fun e w' => e = .returned (.int .i64 (Bt.cellOf ⟨op, a, b, c⟩ xs)) ∧ Below w.heap.size w w' := by
 obtain ⟨A, cap, rfl, hv⟩ := hv.form
 have HV := Lib.hid hv; have HNN := Lib.hid hn
 cases hk : Bt.codeOk op a b c
 ·rw [Bt.cellOf_bad (.inl hk)]
  clear hn hv
  go_enter Try.func100, Try.ntmps100
  go_wp2_with (go_at_call 104; refine (specCodeOk_any _ _ _ _ _).mono ?_; rintro e w1 ⟨rfl, hb⟩; obtain ⟨hc, hf⟩ := bcell hb; have hz : w.heap.size < w1.heap.size := (by have := hb.size; simp at this; omega))
  go_ret
  exact ⟨rfl, ((Below.refl _ _).alloc (Nat.le_refl _) _).trans (hb.mono (by simp))⟩
 ·by_cases h78 : op = 7 ∨ op = 8
  ·obtain ⟨_, ⟨b0, b1⟩, c0, c1⟩ := Bt.mem_bounds hk h78
   cases hr : Bt.regsOk xs
   ·rw [Bt.cellOf_bad (.inr (.inr hr))]
    clear hn hv b0 b1 c0 c1
    rcases h78 with rfl | rfl
    all_goals
     go_enter Try.func100, Try.ntmps100
     go_wp2_with (first | (go_at_call 104; refine (specCodeOk_any _ _ _ _ _).mono ?_; rintro e w1 ⟨rfl, hb⟩; obtain ⟨hc, hf⟩ := bcell hb; have hz : w.heap.size < w1.heap.size := (by have := hb.size; simp at this; omega)) | (go_at_call 120; refine (l2n_regs _ xs _ HNN.out (HV.out.keep (((Below.refl _ _).alloc (Nat.le_refl _) _).trans (hb.mono (by simp))))).mono ?_; rintro e w' ⟨rfl, rfl⟩))
     go_ret
     exact ⟨rfl, ((Below.refl _ _).alloc (Nat.le_refl _) _).trans (hb.mono (by simp))⟩
   ·obtain ⟨k, rfl⟩ : ∃ k : Nat, b = k := ⟨b.toNat, by omega⟩
    have hlen := Bt.regsOk_len hr
    have hkl : k < xs.length := by omega
    have hE := Bt.cellOf_good (r := ⟨op, a, (k : Int), c⟩) hkl rfl hk h78 hr
    have hq := Bt.regsOk_at hr hkl
    obtain ⟨hcap, hat⟩ := hv.at_ rfl
    obtain ⟨bb, o, rfl, f0⟩ := hat k hkl
    rw [hE]
    clear hat hE
    generalize xs[k] = q at *
    have e1 : IntKind.i64.wrap (q + c) = q + c := IntWalk.i64_in _ (by omega)
    have e2 : (q + c).tmod 8 = (q + c) % 8 := by rw [Int.tmod_eq_emod_of_nonneg (by omega)]
    have hcap4 : 4 ≤ cap := by omega
    have HV4 : Hid (ArgInts w (.slice (some ⟨bb, o, none⟩) 4 cap) xs) := Lib.hid (by have h := hv; rw [hlen] at h; exact h)
    have k4 : k < 4 := by omega
    rw [hlen]
    clear hlen hn hkl hv HV b0 b1 hcap
    rcases h78 with rfl | rfl
    all_goals
     go_enter Try.func100, Try.ntmps100
     go_wp2_with (first | (go_at_call 104; refine (specCodeOk_any _ _ _ _ _).mono ?_; rintro e w1 ⟨rfl, hb⟩; obtain ⟨hc, hf⟩ := bcell hb; have hz : w.heap.size < w1.heap.size := (by have := hb.size; simp at this; omega); have f1 := keeps (((Below.refl _ _).alloc (Nat.le_refl _) _).trans (hb.mono (by simp))) f0) | (go_at_call 120; refine (l2n_regs _ xs _ HNN.out (HV4.out.keep (((Below.refl _ _).alloc (Nat.le_refl _) _).trans (hb.mono (by simp))))).mono ?_; rintro e w' ⟨rfl, rfl⟩))
     go_quiet (fail)
     go_wp2
     go_ret
     exact ⟨rfl, bDrewN (((Below.refl _ _).alloc (Nat.le_refl _) _).trans (hb.mono (by simp))) _⟩
  ·have o7 : (op != 7) = true := by rw [bne_iff_ne]; omega
   have o8 : (op != 8) = true := by rw [bne_iff_ne]; omega
   rw [Bt.cellOf_bad (.inr (.inl h78))]
   clear hn hv h78
   go_enter Try.func100, Try.ntmps100
   go_wp2_with (go_at_call 104; refine (specCodeOk_any _ _ _ _ _).mono ?_; rintro e w1 ⟨rfl, hb⟩; obtain ⟨hc, hf⟩ := bcell hb; have hz : w.heap.size < w1.heap.size := (by have := hb.size; simp at this; omega))
   go_ret
   exact ⟨rfl, ((Below.refl _ _).alloc (Nat.le_refl _) _).trans (hb.mono (by simp))⟩
set_option maxHeartbeats 1000000 in
theorem implCellOf_any (op a b c : Int) (v : Value) (xs : List Int) (w : World) (hn : xs.length ≤ 1099511627776) (hv : ArgInts w v xs) :
  Calls Try.prog 142 #[.agg #[.int .i64 op, .int .i64 a, .int .i64 b, .int .i64 c], v] w fun e w' => e = .returned (.int .i64 (Bt.cellOf ⟨op, a, b, c⟩ xs)) ∧ Below w.heap.size w w' := by
 obtain ⟨A, cap, rfl, hv⟩ := hv.form
 have HV := Lib.hid hv; have HNN := Lib.hid hn
 by_cases h78 : op = 7 ∨ op = 8
 ·cases hk : Bt.codeOk op a b c
  ·rw [Bt.cellOf_bad (.inl hk)]
   clear hn hv
   rcases h78 with rfl | rfl
   all_goals
    go_enter Try.func142, Try.ntmps142
    go_wp2_with (go_at_call 105; refine (implCodeOk_any _ _ _ _ _).mono ?_; rintro e w1 ⟨rfl, hb⟩; obtain ⟨hc, hf⟩ := bcell hb; have hz : w.heap.size < w1.heap.size := (by have := hb.size; simp at this; omega))
    go_ret
    exact ⟨rfl, ((Below.refl _ _).alloc (Nat.le_refl _) _).trans (hb.mono (by simp))⟩
  ·obtain ⟨_, ⟨b0, b1⟩, c0, c1⟩ := Bt.mem_bounds hk h78
   cases hr : Bt.regsOk xs
   ·rw [Bt.cellOf_bad (.inr (.inr hr))]
    clear hn hv b0 b1 c0 c1
    rcases h78 with rfl | rfl
    all_goals
     go_enter Try.func142, Try.ntmps142
     go_wp2_with (first | (go_at_call 105; refine (implCodeOk_any _ _ _ _ _).mono ?_; rintro e w1 ⟨rfl, hb⟩; obtain ⟨hc, hf⟩ := bcell hb; have hz : w.heap.size < w1.heap.size := (by have := hb.size; simp at this; omega)) | (go_at_call 143; refine (regsOk_any _ xs _ HNN.out (HV.out.keep (((Below.refl _ _).alloc (Nat.le_refl _) _).trans (hb.mono (by simp))))).mono ?_; rintro e w' ⟨rfl, rfl⟩))
     go_ret
     exact ⟨rfl, ((Below.refl _ _).alloc (Nat.le_refl _) _).trans (hb.mono (by simp))⟩
   ·obtain ⟨k, rfl⟩ : ∃ k : Nat, b = k := ⟨b.toNat, by omega⟩
    have hlen := Bt.regsOk_len hr
    have hkl : k < xs.length := by omega
    have hE := Bt.cellOf_good (r := ⟨op, a, (k : Int), c⟩) hkl rfl hk h78 hr
    have hq := Bt.regsOk_at hr hkl
    obtain ⟨hcap, hat⟩ := hv.at_ rfl
    obtain ⟨bb, o, rfl, f0⟩ := hat k hkl
    rw [hE]
    clear hat hE
    generalize xs[k] = q at *
    have e1 : IntKind.i64.wrap (q + c) = q + c := IntWalk.i64_in _ (by omega)
    have e2 : (q + c).tmod 8 = (q + c) % 8 := by rw [Int.tmod_eq_emod_of_nonneg (by omega)]
    have hcap4 : 4 ≤ cap := by omega
    have HV4 : Hid (ArgInts w (.slice (some ⟨bb, o, none⟩) 4 cap) xs) := Lib.hid (by have h := hv; rw [hlen] at h; exact h)
    have k4 : k < 4 := by omega
    rw [hlen]
    clear hlen hn hkl hv HV b0 b1 hcap
    rcases h78 with rfl | rfl
    all_goals
     go_enter Try.func142, Try.ntmps142
     go_wp2_with (first | (go_at_call 105; refine (implCodeOk_any _ _ _ _ _).mono ?_; rintro e w1 ⟨rfl, hb⟩; obtain ⟨hc, hf⟩ := bcell hb; have hz : w.heap.size < w1.heap.size := (by have := hb.size; simp at this; omega); have f1 := keeps (((Below.refl _ _).alloc (Nat.le_refl _) _).trans (hb.mono (by simp))) f0) | (go_at_call 143; refine (regsOk_any _ xs _ HNN.out (HV4.out.keep (((Below.refl _ _).alloc (Nat.le_refl _) _).trans (hb.mono (by simp))))).mono ?_; rintro e w' ⟨rfl, rfl⟩))
     go_quiet (fail)
     go_wp2
     go_ret
     exact ⟨rfl, bDrewN (((Below.refl _ _).alloc (Nat.le_refl _) _).trans (hb.mono (by simp))) _⟩
 ·have o7 : (op != 7) = true := by rw [bne_iff_ne]; omega
  have o8 : (op != 8) = true := by rw [bne_iff_ne]; omega
  rw [Bt.cellOf_bad (.inr (.inl h78))]
  clear hn hv h78
  go_enter Try.func142, Try.ntmps142
  go_wp2
  go_ret
  exact ⟨rfl, (Below.refl _ _).alloc (Nat.le_refl _) _⟩
end Go.Proofs.Ytminfkedkkkhdaa
end
section
namespace Go.Proofs.Ytminfkedkkkhdaa
open Go.RowKit
theorem run_make_ints (n : Nat) (hn : n ≤ 1048576) (w : World) :
  (Instr.makeSlice 29 (.int .i64 (n : Int)) (.int .i64 (n : Int))).run Try.prog w = .ok (.slice (some ⟨w.heap.size, 0, none⟩) n n) (w.alloc (.cells (madeCells #[.int .i64 0] n) 3)) := by
 obtain ⟨i, hi, hz⟩ := Option.map_eq_some_iff.1 infoInt
 simp only [Prod.mk.injEq] at hz
 obtain ⟨hz, hs, hb⟩ := hz
 have h := run_make (P := Try.prog) w 29 3 i _ Try.underlying29 hi hz .i64 .i64 (n : Int) (n : Int) (by omega) (Int.le_refl _) (by rw [hb]; omega) (by omega)
 simp only [Int.toNat_natCast, hs, Nat.mul_one] at h
 exact h
theorem IntRow.made (w : World) (n : Nat) (hn : n ≤ 1048576) : IntRow (w.alloc (.cells (madeCells #[.int .i64 0] n) 3)) w.heap.size (.slice (some ⟨w.heap.size, 0, none⟩) n n) (List.replicate n 0) := by
 have h := World.ownsRow_lit (base := w.heap.size) (e := 3) (size := 1) w (madeCells #[.int .i64 0] n) n (Nat.le_refl _) (by unfold maxLen; omega) (by rw [size_madeCells]; omega)
 rw [toList_madeCells_one] at h
 unfold IntRow
 rw [List.length_replicate, List.map_replicate]
 exact h
def CopyInts (xs : List Int) (w : World) (e : Ending) (w' : World) : Prop :=
 e = .returned (.slice (some ⟨w.heap.size, 0, none⟩) xs.length xs.length) ∧ Below w.heap.size w w' ∧ IntRow w' w.heap.size (.slice (some ⟨w.heap.size, 0, none⟩) xs.length xs.length) xs
end Go.Proofs.Ytminfkedkkkhdaa
end
