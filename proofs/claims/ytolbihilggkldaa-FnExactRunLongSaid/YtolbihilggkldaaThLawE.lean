/-
  How the laws count and compare threads and machines: contracts.
  How the laws count and compare machines: contracts.
  How the laws copy threads and machines: contracts.
  How the laws copy rows of threads, and machines: contracts.
  How the laws copy machines: a contract; and how what they copied is read.
-/
import Derived.Test.YtolbihilggkldaaMem
import Derived.Test.YtolbihilggkldaaPlaw
namespace Go.Proofs.Ytolbihilggkldaa
open Go.RowKit

namespace Bt
/-- how many numbers the rows of threads hold -/
def sumTh (ts : List Th) : Nat := (ts.map fun t => t.regs.length + t.stack.length).sum
theorem sumTh_zero (ts : List Th) : sumTh (ts.take 0) = 0 := by simp [sumTh]
theorem sumTh_succ {ts : List Th} {k : Nat} (h : k < ts.length) : sumTh (ts.take (k + 1)) = sumTh (ts.take k) + (ts[k].regs.length + ts[k].stack.length) := by
  unfold sumTh
  rw [List.take_succ_eq_append_getElem h, List.map_append, List.sum_append]
  simp
theorem sumTh_le (ts : List Th) (k : Nat) : sumTh (ts.take k) ≤ sumTh ts := by
  have h : sumTh ts = sumTh (ts.take k) + sumTh (ts.drop k) := by
    unfold sumTh
    rw [← List.sum_append, ← List.map_append, List.take_append_drop]
  omega
theorem sumTh_at {ts : List Th} {k : Nat} (h : k < ts.length) : ts[k].regs.length + ts[k].stack.length ≤ sumTh ts := by
  have h1 := sumTh_succ h
  have h2 := sumTh_le ts (k + 1)
  omega
/-- how many numbers and rows a machine holds -/
def mcSz (m : Mc) : Nat := m.ths.length + sumTh m.ths + m.cells.length + m.locks.length + m.told.length
end Bt

/-- what the rows of an argument are shorter than -/
structure Lens (m : Bt.Mc) : Prop where
  ths : m.ths.length ≤ maxLen
  cells : m.cells.length ≤ maxLen
  locks : m.locks.length ≤ maxLen
  told : m.told.length ≤ maxLen
  regs : ∀ i (h : i < m.ths.length), m.ths[i].regs.length ≤ maxLen
  stack : ∀ i (h : i < m.ths.length), m.ths[i].stack.length ≤ maxLen
theorem Small.of {m : Bt.Mc} (h : Bt.mcSz m ≤ 1048576) : Small m := by
  unfold Bt.mcSz at h
  refine ⟨by omega, by omega, by omega, by omega, fun i hi => ?_, fun i hi => ?_⟩
  · have := Bt.sumTh_at hi; omega
  · have := Bt.sumTh_at hi; omega
/-- what is left of a number when another one is taken from it -/
def rest (left : Int) (n : Nat) : Int := if left < n then -1 else left - n
theorem rest_neg {left : Int} {n : Nat} (h : left < n) : rest left n = -1 := if_pos h
theorem rest_pos {left : Int} {n : Nat} (h : ¬ left < n) : rest left n = left - n := if_neg h

end Go.Proofs.Ytolbihilggkldaa

namespace Go.Proofs.Ytolbihilggkldaa
open Go.RowKit

set_option maxHeartbeats 1000000 in
theorem eqThread_same {AR AS AR' AS' : Option Addr} {nr cr ns cs nr' cr' ns' cs' : Nat} {t : Bt.Th} {w : World} (H : ArgTh w AR nr cr AS ns cs t) (H' : ArgTh w AR' nr' cr' AS' ns' cs' t) (hr : nr ≤ 1048576) (hs : ns ≤ 1048576) :
    Calls Try.prog 68 #[.agg #[.int .i64 t.pl, .slice AR nr cr, .slice AS ns cs, .int .i64 t.st], .agg #[.int .i64 t.pl, .slice AR' nr' cr', .slice AS' ns' cs', .int .i64 t.st]] w fun e w' => e = .returned (.bool true) ∧ Below w.heap.size w w' := by
  have HR := Lib.hid (le40 (H.nR ▸ hr))
  have HS := Lib.hid (le40 (H.nS ▸ hs))
  have B0 : Below w.heap.size w ((w.alloc (.cells #[.int .i64 t.pl, .slice AR nr cr, .slice AS ns cs, .int .i64 t.st] 86)).alloc (.cells #[.int .i64 t.pl, .slice AR' nr' cr', .slice AS' ns' cs', .int .i64 t.st] 86)) := ((Below.refl _ _).alloc (Nat.le_refl _) _).alloc (by simp) _
  have HH := Lib.hid (H.keep B0); have HH' := Lib.hid (H'.keep B0); clear H H'
  generalize t.pl = pl at *
  generalize t.st = st at *
  go_enter Try.func68, Try.ntmps68
  go_wp2_with fail
  refine (eqInts_any _ _ t.regs _ HR.out HH.out.regs HH'.out.regs).mono ?_
  rintro e w1 ⟨rfl, hb1⟩
  obtain ⟨hc, hf⟩ := bcell hb1
  go_wp2_with fail
  refine (eqInts_any _ _ t.stack _ HS.out (HH.out.keep hb1).stack (HH'.out.keep hb1).stack).mono ?_
  rintro e w2 ⟨rfl, hb2⟩
  have h12 := hb1.trans (hb2.mono hb1.size)
  clear hc hf
  obtain ⟨hc, hf⟩ := bcell h12
  go_wp2
  go_ret
  exact ⟨rfl, B0.trans (h12.mono (by simp; omega))⟩

set_option maxHeartbeats 2000000 in
theorem eqThreads_same {A A' : Option Addr} {n cap cap' : Nat} {ts : List Bt.Th} {w : World} (H : ArgThs w A n cap ts) (H' : ArgThs w A' n cap' ts) (hn : n ≤ 1048576) (hL : ∀ i (h : i < ts.length), ts[i].regs.length ≤ 1048576 ∧ ts[i].stack.length ≤ 1048576) :
    Calls Try.prog 46 #[.slice A n cap, .slice A' n cap'] w fun e w' => e = .returned (.bool true) ∧ Below w.heap.size w w' := by
  have hT := Lib.hid H.1
  have hcap := H.2.1
  have hcap' := H'.2.1
  have HH := Lib.hid H; have HH' := Lib.hid H'; clear H H'
  have HL := Lib.hid hL; clear hL
  go_enter Try.func46, Try.ntmps46
  go_wp2
  go_loopw [5] (fun i wr => ∃ k : Nat, k ≤ n ∧ i = .int .i64 k ∧ Below w.heap.size w wr) (fun i _ => n - (intOf i).toNat)
  case atStart => exact ⟨0, Nat.zero_le _, rfl, Below.refl _ _⟩
  case round =>
    obtain ⟨k, hk, rfl, hb⟩ := hrel
    by_cases hlt : k < n
    · have hlt' : k < ts.length := by rw [hT.out]; exact hlt
      obtain ⟨bt, ot, rfl, ht⟩ := (HH.out.keep hb).2.2 k hlt'
      obtain ⟨bt', ot', rfl, ht'⟩ := (HH'.out.keep hb).2.2 k hlt'
      obtain ⟨AR, cr, AS, cs, HT, f0, f1, f2, f3⟩ := ht.open
      obtain ⟨AR', cr', AS', cs', HT', f0', f1', f2', f3'⟩ := ht'.open
      obtain ⟨lr, ls⟩ := HL.out k hlt'
      clear ht ht'
      have G := fun (x : Cls wr) => eqThread_same (HT.keep x.below) (HT'.keep x.below) lr ls
      have HG := Lib.hid G; clear G HT HT'
      generalize ts[k] = th at *
      generalize th.regs.length = nr at *
      generalize th.stack.length = ns at *
      generalize th.pl = pl at *
      generalize th.st = st at *
      have q0 := Cls.keeps f0
      have q1 := Cls.keeps f1
      have q2 := Cls.keeps f2
      have q3 := Cls.keeps f3
      have q0' := Cls.keeps f0'
      have q1' := Cls.keeps f1'
      have q2' := Cls.keeps f2'
      have q3' := Cls.keeps f3'
      clear f0 f1 f2 f3 f0' f1' f2' f3'
      go_wp2
      refine wp_region_cls (by kernel_rfl) (by kernel_rfl) ?_
      repeat (go_big_quiet_step ((go_at_call 68; exact cls_of (HG.out _))))
      refine wpQuiet_nil ?_
      intro w2' hw2'
      obtain ⟨⟨w2, hb2⟩, rfl⟩ := hw2'
      go_wp2
      go_roundw
      case rel => exact ⟨k + 1, by omega, by go_num, hb.trans (hb2.mono hb.size)⟩
      case measure => simp [intOf]; omega
    · obtain rfl : k = n := by omega
      go_wp2
      go_ret
      exact ⟨rfl, hb⟩

set_option maxHeartbeats 1000000 in
theorem eqMachine_same {AT AC AL AD AT' AC' AL' AD' : Option Addr} {nt ct nc cc nl cl nd cd ct' cc' cl' cd' : Nat} {m : Bt.Mc} {w : World} (H : ArgMc w AT nt ct AC nc cc AL nl cl AD nd cd m) (H' : ArgMc w AT' nt ct' AC' nc cc' AL' nl cl' AD' nd cd' m) (S : Small m) :
    Calls Try.prog 21 #[.agg #[.slice AT nt ct, .slice AC nc cc, .slice AL nl cl, .slice AD nd cd], .agg #[.slice AT' nt ct', .slice AC' nc cc', .slice AL' nl cl', .slice AD' nd cd']] w fun e w' => e = .returned (.bool true) ∧ Below w.heap.size w w' := by
  have sT : nt ≤ 1048576 := H.nT ▸ S.ths
  have HS := Lib.hid S; clear S
  have B0 : Below w.heap.size w ((w.alloc (.cells #[.slice AT nt ct, .slice AC nc cc, .slice AL nl cl, .slice AD nd cd] 42)).alloc (.cells #[.slice AT' nt ct', .slice AC' nc cc', .slice AL' nl cl', .slice AD' nd cd'] 42)) := ((Below.refl _ _).alloc (Nat.le_refl _) _).alloc (by simp) _
  have HH := Lib.hid (H.keep B0); have HH' := Lib.hid (H'.keep B0); clear H H'
  go_enter Try.func21, Try.ntmps21
  go_wp2_with fail
  refine (eqThreads_same HH.out.ths HH'.out.ths sT (fun i h => ⟨HS.out.regs i h, HS.out.stack i h⟩)).mono ?_
  rintro e w1 ⟨rfl, hb1⟩
  obtain ⟨hc, hf⟩ := bcell hb1
  go_wp2_with fail
  refine (eqInts_any _ _ m.cells _ (le40 HS.out.cells) (HH.out.keep hb1).cells (HH'.out.keep hb1).cells).mono ?_
  rintro e w2 ⟨rfl, hb2⟩
  have h12 := hb1.trans (hb2.mono hb1.size)
  clear hc hf
  obtain ⟨hc, hf⟩ := bcell h12
  go_wp2_with fail
  refine (eqInts_any _ _ m.locks _ (le40 HS.out.locks) (HH.out.keep h12).locks (HH'.out.keep h12).locks).mono ?_
  rintro e w3 ⟨rfl, hb3⟩
  have h13 := h12.trans (hb3.mono h12.size)
  clear hc hf
  obtain ⟨hc, hf⟩ := bcell h13
  go_wp2_with fail
  refine (eqInts_any _ _ m.told _ (le40 HS.out.told) (HH.out.keep h13).told (HH'.out.keep h13).told).mono ?_
  rintro e w4 ⟨rfl, hb4⟩
  have h14 := h13.trans (hb4.mono h13.size)
  go_wp2
  go_ret
  exact ⟨rfl, B0.trans (h14.mono (by simp; omega))⟩
end Go.Proofs.Ytolbihilggkldaa

namespace Go.Proofs.Ytolbihilggkldaa
open Go.RowKit

/-- two slices share no block -/
def Apart (u v : Value) : Prop := ∀ b, u.ownBlock = some b → v.ownBlock ≠ some b
theorem Apart.of_lt {u v : Value} {n : Nat} (hu : ∀ k, u.ownBlock = some k → k < n) (hv : ∀ k, v.ownBlock = some k → n ≤ k) : Apart u v := fun b h1 h2 => by
  have := hu b h1; have := hv b h2; omega
theorem Apart.symm {u v : Value} (h : Apart u v) : Apart v u := fun b h1 h2 => h b h2 h1
theorem Apart.or {u v : Value} (h : Apart u v) : u.ownBlock = none ∨ u.ownBlock ≠ v.ownBlock := by
  cases hu : u.ownBlock with
  | none => exact .inl rfl
  | some b => exact .inr (fun e => h b hu e.symm)

theorem IntRow.bd {w : World} {base : Nat} {v : Value} {xs : List Int} (h : IntRow w base v xs) : ∀ k, v.ownBlock = some k → base ≤ k ∧ k < w.heap.size := World.ownsRow.lt h

/-- what a copied thread is -/
def ThMade (t : Bt.Th) (nr ns : Nat) (w : World) (e : Ending) (w' : World) : Prop :=
  ∃ g, e = .returned (.agg #[.int .i64 t.pl, .slice (some ⟨w.heap.size + 3, 0, none⟩) nr nr, .slice (some ⟨g, 0, none⟩) ns ns, .int .i64 t.st]) ∧ w.heap.size + 3 < g ∧ Below w.heap.size w w' ∧
    IntRow w' (w.heap.size + 3) (.slice (some ⟨w.heap.size + 3, 0, none⟩) nr nr) t.regs ∧ IntRow w' (w.heap.size + 3) (.slice (some ⟨g, 0, none⟩) ns ns) t.stack

/-- a row stays where a cell of another block is set -/
theorem IntRow.setOther {w : World} {base : Nat} {v : Value} {xs : List Int} (h : IntRow w base v xs) {p : Addr} (u : Value) (hp : ∀ b, v.ownBlock = some b → b ≠ p.block) : IntRow (w.setCell p u) base v xs := by
  refine h.grown (row := some p.block) ⟨rfl, rfl, rfl, by simp [World.setCell], fun k hk hne => Below.heap_setCell w p u k (fun e => hne (by rw [e]))⟩ ?_
  cases hv : v.ownBlock with
  | none => exact .inl rfl
  | some b => exact .inr (by simpa using hp b hv)

/-- a thread's four cells lie in a row from i on -/
def Th4 (L : List Value) (i : Nat) (t : Bt.Th) (x : Value × Value) : Prop := L[i]? = some (.int .i64 t.pl) ∧ L[i + 1]? = some x.1 ∧ L[i + 2]? = some x.2 ∧ L[i + 3]? = some (.int .i64 t.st)
/-- threads of the call's own: a row of threads, and for each of them two rows of numbers -/
structure OwnThs (w : World) (B : Nat) (v : Value) (ts : List Bt.Th) (xs : List (Value × Value)) : Prop where
  len : xs.length = ts.length
  row : ∃ L, w.ownsRow B 86 4 v ts.length L ∧ ∀ i (h : i < ts.length) (h' : i < xs.length), Th4 L (i * 4) ts[i] xs[i]
  ints : ∀ i (h : i < ts.length) (h' : i < xs.length), IntRow w B xs[i].1 ts[i].regs ∧ IntRow w B xs[i].2 ts[i].stack
/-- the rows of numbers of threads -/
def rowsOf (xs : List (Value × Value)) : List Value := xs.flatMap fun x => [x.1, x.2]
theorem rowsOf_snoc (xs : List (Value × Value)) (x : Value × Value) : rowsOf (xs ++ [x]) = rowsOf xs ++ [x.1, x.2] := by simp [rowsOf]
theorem rowsOf_mem {xs : List (Value × Value)} {u : Value} (h : u ∈ rowsOf xs) : ∃ i, ∃ h : i < xs.length, u = xs[i].1 ∨ u = xs[i].2 := by
  unfold rowsOf at h
  rw [List.mem_flatMap] at h
  obtain ⟨x, hx, hu⟩ := h
  obtain ⟨i, hi, rfl⟩ := List.getElem_of_mem hx
  refine ⟨i, hi, ?_⟩
  simpa using hu
theorem apart_snoc {l : List Value} {a b : Value} {N : Nat} (hl : l.Pairwise Apart) (hN : ∀ u ∈ l, ∀ k, u.ownBlock = some k → k < N) (ha : ∀ k, a.ownBlock = some k → N ≤ k) (hb : ∀ k, b.ownBlock = some k → N ≤ k) (hab : Apart a b) :
    (l ++ [a, b]).Pairwise Apart := by
  rw [List.pairwise_append]
  refine ⟨hl, by simpa using hab, fun u hu v hv => ?_⟩
  simp only [List.mem_cons, List.not_mem_nil, or_false] at hv
  rcases hv with rfl | rfl
  · exact Apart.of_lt (hN u hu) ha
  · exact Apart.of_lt (hN u hu) hb

theorem infoThread : (Try.prog.info? 86).map (fun i => (i.zero, i.size, i.bytes)) = some (some (.agg #[.int .i64 0, .slice none 0 0, .slice none 0 0, .int .i64 0]), 4, 64) := by kernel_rfl

/-- make of threads, whatever their number -/
theorem run_make_threads (n : Nat) (hn : n ≤ 1048576) (w : World) :
    (Instr.makeSlice 39 (.int .i64 (n : Int)) (.int .i64 (n : Int))).run Try.prog w = .ok (.slice (some ⟨w.heap.size, 0, none⟩) n n) (w.alloc (.cells (madeCells #[.int .i64 0, .slice none 0 0, .slice none 0 0, .int .i64 0] (n * 4)) 86)) := by
  obtain ⟨i, hi, hz⟩ := Option.map_eq_some_iff.1 infoThread
  simp only [Prod.mk.injEq] at hz
  obtain ⟨hz, hs, hb⟩ := hz
  have h := run_make (P := Try.prog) w 39 86 i _ Try.underlying39 hi hz .i64 .i64 (n : Int) (n : Int) (by omega) (Int.le_refl _) (by rw [hb]; omega) (by omega)
  simp only [Int.toNat_natCast, hs] at h
  exact h
end Go.Proofs.Ytolbihilggkldaa

namespace Go.Proofs.Ytolbihilggkldaa
open Go.RowKit

/-- four stores into a list -/
def set4L (L : List Value) (i : Nat) (a b c d : Value) : List Value := (((L.set i a).set (i + 1) b).set (i + 2) c).set (i + 3) d
theorem set4L_length (L : List Value) (i : Nat) (a b c d : Value) : (set4L L i a b c d).length = L.length := by simp [set4L]
theorem set4L_ne {L : List Value} {i j : Nat} {a b c d : Value} (h : j < i ∨ i + 4 ≤ j) : (set4L L i a b c d)[j]? = L[j]? := by
  unfold set4L
  rw [List.getElem?_set_ne (by omega), List.getElem?_set_ne (by omega), List.getElem?_set_ne (by omega), List.getElem?_set_ne (by omega)]
theorem set4L_new {L : List Value} {i : Nat} {t : Bt.Th} {x : Value × Value} (h : i + 4 ≤ L.length) : Th4 (set4L L i (.int .i64 t.pl) x.1 x.2 (.int .i64 t.st)) i t x := by
  unfold Th4 set4L
  refine ⟨?_, ?_, ?_, ?_⟩
  · rw [List.getElem?_set_ne (by omega), List.getElem?_set_ne (by omega), List.getElem?_set_ne (by omega), List.getElem?_set_self (by omega)]
  · rw [List.getElem?_set_ne (by omega), List.getElem?_set_ne (by omega), List.getElem?_set_self (by simp; omega)]
  · rw [List.getElem?_set_ne (by omega), List.getElem?_set_self (by simp; omega)]
  · rw [List.getElem?_set_self (by simp; omega)]
theorem Th4.old {L : List Value} {i k : Nat} {t : Bt.Th} {x : Value × Value} {a b c d : Value} (h : Th4 L (i * 4) t x) (hik : i < k) : Th4 (set4L L (k * 4) a b c d) (i * 4) t x := by
  obtain ⟨h0, h1, h2, h3⟩ := h
  exact ⟨(set4L_ne (by omega)).trans h0, (set4L_ne (by omega)).trans h1, (set4L_ne (by omega)).trans h2, (set4L_ne (by omega)).trans h3⟩

/-- the copying of threads, on the way -/
structure ThsGo (w : World) (g n k : Nat) (ts : List Bt.Th) (xs : List (Value × Value)) : Prop where
  len : xs.length = k
  row : ∃ L, w.ownsRow g 86 4 (.slice (some ⟨g, 0, none⟩) n n) n L ∧ ∀ i (h : i < ts.length) (h' : i < xs.length), Th4 L (i * 4) ts[i] xs[i]
  ints : ∀ i (h : i < ts.length) (h' : i < xs.length), IntRow w (g + 1) xs[i].1 ts[i].regs ∧ IntRow w (g + 1) xs[i].2 ts[i].stack
  apart : (rowsOf xs).Pairwise Apart

theorem ThsGo.start (w : World) (n : Nat) (ts : List Bt.Th) (hn : n ≤ 1048576) :
    ThsGo (w.alloc (.cells (madeCells #[.int .i64 0, .slice none 0 0, .slice none 0 0, .int .i64 0] (n * 4)) 86)) w.heap.size n 0 ts [] := by
  refine ⟨rfl, ⟨_, World.ownsRow_lit (base := w.heap.size) (e := 86) (size := 4) w _ n (Nat.le_refl _) (by unfold maxLen; omega) (by rw [size_madeCells]), fun i _ h' => absurd h' (by simp)⟩, fun i _ h' => absurd h' (by simp), by simp [rowsOf]⟩

theorem ThsGo.cells {w : World} {g n k : Nat} {ts : List Bt.Th} {xs : List (Value × Value)} (h : ThsGo w g n k ts xs) {j : Nat} (hj : j < n * 4) : (∃ c, w.cell? ⟨g, j, none⟩ = some c) ∧ w.frozen? ⟨g, j, none⟩ = false := by
  obtain ⟨L, hL, _⟩ := h.row
  have hl := hL.1
  refine ⟨⟨L[j]'(by omega), ?_⟩, World.ownsRow.frozenAt hL j⟩
  rw [World.ownsRow.cellAt hL j hj, List.getElem?_eq_getElem]

theorem ThsGo.keep {w w' : World} {g n k : Nat} {ts : List Bt.Th} {xs : List (Value × Value)} (h : ThsGo w g n k ts xs) (hb : Below w.heap.size w w') : ThsGo w' g n k ts xs := by
  obtain ⟨h0, ⟨L, hL, h1⟩, h2, h3⟩ := h
  have hg : g < w.heap.size := (World.ownsRow.lt hL g rfl).2
  refine ⟨h0, ⟨L, World.ownsRow.kept hL (grown_below hb) (.inr (by simp [Value.ownBlock])), h1⟩, fun i a b => ⟨(h2 i a b).1.keep hb, (h2 i a b).2.keep hb⟩, h3⟩

theorem ThsGo.next {w : World} {g n k N : Nat} {ts : List Bt.Th} {xs : List (Value × Value)} (h : ThsGo w g n k ts xs) (hk : k < ts.length) (hkn : k < n) (hnn : ts.length = n) {v u : Value}
    (hN : ∀ x ∈ rowsOf xs, ∀ j, x.ownBlock = some j → j < N) (hgN : g + 1 ≤ N)
    (hv : IntRow w N v ts[k].regs) (hu : IntRow w N u ts[k].stack) (hvu : Apart v u) :
    ThsGo ((((w.setCell ⟨g, k * 4, none⟩ (.int .i64 ts[k].pl)).setCell ⟨g, k * 4 + 1, none⟩ v).setCell ⟨g, k * 4 + 2, none⟩ u).setCell ⟨g, k * 4 + 3, none⟩ (.int .i64 ts[k].st)) g n (k + 1) ts (xs ++ [(v, u)]) := by
  obtain ⟨h0, ⟨L, hL, h1⟩, h2, h3⟩ := h
  have hlen := hL.1
  have hs := (World.ownsRow.stored (World.ownsRow.stored (World.ownsRow.stored (World.ownsRow.stored hL (k * 4) (.int .i64 ts[k].pl)).1 (k * 4 + 1) v).1 (k * 4 + 2) u).1 (k * 4 + 3) (.int .i64 ts[k].st)).1
  have hoth : ∀ {y : Value} {zs : List Int}, IntRow w (g + 1) y zs → IntRow ((((w.setCell ⟨g, k * 4, none⟩ (.int .i64 ts[k].pl)).setCell ⟨g, k * 4 + 1, none⟩ v).setCell ⟨g, k * 4 + 2, none⟩ u).setCell ⟨g, k * 4 + 3, none⟩ (.int .i64 ts[k].st)) (g + 1) y zs := by
    intro y zs hy
    have hb := hy.bd
    exact (((hy.setOther _ (fun b e => by have := hb b e; simp; omega)).setOther _ (fun b e => by have := hb b e; simp; omega)).setOther _ (fun b e => by have := hb b e; simp; omega)).setOther _ (fun b e => by have := hb b e; simp; omega)
  refine ⟨by simp [h0], ⟨_, hs, fun i hi hi' => ?_⟩, fun i hi hi' => ?_, ?_⟩
  · by_cases hik : i < k
    · rw [List.getElem_append_left (by omega)]
      exact (h1 i hi (by omega)).old hik
    · have : i = k := by simp at hi'; omega
      subst this
      rw [List.getElem_append_right (by omega)]
      simp only [h0, Nat.sub_self, List.getElem_cons_zero]
      exact set4L_new (x := (v, u)) (by omega)
  · by_cases hik : i < k
    · rw [List.getElem_append_left (by omega)]
      exact ⟨hoth (h2 i hi (by omega)).1, hoth (h2 i hi (by omega)).2⟩
    · have : i = k := by simp at hi'; omega
      subst this
      rw [List.getElem_append_right (by omega)]
      simp only [h0, Nat.sub_self, List.getElem_cons_zero]
      exact ⟨hoth (hv.mono hgN), hoth (hu.mono hgN)⟩
  · rw [rowsOf_snoc]
    exact apart_snoc h3 hN (fun j e => (hv.bd j e).1) (fun j e => (hu.bd j e).1) hvu

theorem ThsGo.lt {w : World} {g n k : Nat} {ts : List Bt.Th} {xs : List (Value × Value)} (h : ThsGo w g n k ts xs) (hk : k ≤ ts.length) : ∀ x ∈ rowsOf xs, ∀ j, x.ownBlock = some j → j < w.heap.size := by
  intro x hx j hj
  obtain ⟨i, hi, he⟩ := rowsOf_mem hx
  have hi' : i < ts.length := by have := h.len; omega
  obtain ⟨a, b⟩ := h.ints i hi' hi
  rcases he with rfl | rfl
  · exact (a.bd j hj).2
  · exact (b.bd j hj).2

/-- what copied threads are -/
def ThsMade (ts : List Bt.Th) (n : Nat) (w : World) (e : Ending) (w' : World) : Prop :=
  ∃ xs, e = .returned (.slice (some ⟨w.heap.size, 0, none⟩) n n) ∧ Below w.heap.size w w' ∧ ThsGo w' w.heap.size n n ts xs

end Go.Proofs.Ytolbihilggkldaa

namespace Go.Proofs.Ytolbihilggkldaa
open Go.RowKit

/-- a machine of the call's own -/
structure OwnMc (w : World) (B : Nat) (vt vc vl vd : Value) (xs : List (Value × Value)) (m : Bt.Mc) : Prop where
  ths : OwnThs w B vt m.ths xs
  cells : IntRow w B vc m.cells
  locks : IntRow w B vl m.locks
  told : IntRow w B vd m.told
  apart : (rowsOf xs ++ [vc, vl, vd]).Pairwise Apart

theorem OwnThs.keep {w w' : World} {B : Nat} {v : Value} {ts : List Bt.Th} {xs : List (Value × Value)} (h : OwnThs w B v ts xs) (hb : Below w.heap.size w w') : OwnThs w' B v ts xs := by
  obtain ⟨h0, ⟨L, hL, h1⟩, h2⟩ := h
  refine ⟨h0, ⟨L, World.ownsRow.kept hL (grown_below hb) ?_, h1⟩, fun i a b => ⟨(h2 i a b).1.keep hb, (h2 i a b).2.keep hb⟩⟩
  cases h : v.ownBlock with
  | none => exact .inl rfl
  | some k => exact .inr (by simp)
theorem OwnMc.keep {w w' : World} {B : Nat} {vt vc vl vd : Value} {xs : List (Value × Value)} {m : Bt.Mc} (h : OwnMc w B vt vc vl vd xs m) (hb : Below w.heap.size w w') : OwnMc w' B vt vc vl vd xs m :=
  ⟨h.ths.keep hb, h.cells.keep hb, h.locks.keep hb, h.told.keep hb, h.apart⟩
theorem OwnThs.forms {w : World} {B : Nat} {v : Value} {ts : List Bt.Th} {xs : List (Value × Value)} (h : OwnThs w B v ts xs) :
    (v = .slice none 0 0 ∧ ts = []) ∨ ∃ g cap, v = .slice (some ⟨g, 0, none⟩) ts.length cap ∧ B ≤ g ∧ g < w.heap.size ∧ ts.length ≤ cap ∧ cap ≤ maxLen := by
  obtain ⟨L, hL, _⟩ := h.row
  rcases hL.2 with ⟨rfl, h0⟩ | ⟨g, cap, cur, rfl, hb, hg, hn, hm, _, _⟩
  · exact .inl ⟨rfl, List.eq_nil_of_length_eq_zero h0⟩
  · exact .inr ⟨g, cap, rfl, hb, (Array.getElem?_eq_some_iff.1 hg).1, hn, hm⟩
/-- threads of the call's own, read -/
theorem OwnThs.arg {w : World} {B : Nat} {A : Option Addr} {n cap : Nat} {ts : List Bt.Th} {xs : List (Value × Value)} (h : OwnThs w B (.slice A n cap) ts xs) (hN : ts.length = n) : ArgThs w A n cap ts := by
  subst hN
  rcases h.forms with ⟨e, rfl⟩ | ⟨g, cap', e, _, _, hc, _⟩
  · injection e with e1 e2 e3
    subst e1 e3
    exact ⟨rfl, Nat.le_refl _, fun i hi => absurd hi (by simp)⟩
  · injection e with e1 e2 e3
    subst e1 e3
    refine ⟨rfl, hc, fun i hi => ⟨g, 0, rfl, ?_⟩⟩
    obtain ⟨L, hL, h1⟩ := h.row
    have hi' : i < xs.length := by rw [h.len]; exact hi
    obtain ⟨a0, a1, a2, a3⟩ := h1 i hi hi'
    obtain ⟨b1, b2⟩ := h.ints i hi hi'
    obtain ⟨A1, c1, e1, p1⟩ := b1.arg.form
    obtain ⟨A2, c2, e2, p2⟩ := b2.arg.form
    have hl := hL.1
    rw [Nat.zero_add]
    refine ⟨?_, ⟨A1, c1, ?_, p1⟩, ⟨A2, c2, ?_, p2⟩, ?_⟩
    · rw [World.ownsRow.cellAt hL _ (by omega)]; exact a0
    · rw [World.ownsRow.cellAt hL _ (by omega), ← e1]; exact a1
    · rw [World.ownsRow.cellAt hL _ (by omega), ← e2]; exact a2
    · rw [World.ownsRow.cellAt hL _ (by omega)]; exact a3
/-- a machine of the call's own, read -/
theorem OwnMc.arg {w : World} {B : Nat} {AT AC AL AD : Option Addr} {nt ct nc cc nl cl nd cd : Nat} {xs : List (Value × Value)} {m : Bt.Mc} (h : OwnMc w B (.slice AT nt ct) (.slice AC nc cc) (.slice AL nl cl) (.slice AD nd cd) xs m)
    (nT : m.ths.length = nt) (nC : m.cells.length = nc) (nL : m.locks.length = nl) (nD : m.told.length = nd) : ArgMc w AT nt ct AC nc cc AL nl cl AD nd cd m :=
  ⟨h.ths.arg nT, h.cells.arg, h.locks.arg, h.told.arg, nC, nL, nD⟩
theorem ThsGo.own {w : World} {g n : Nat} {ts : List Bt.Th} {xs : List (Value × Value)} (h : ThsGo w g n n ts xs) (hT : ts.length = n) : OwnThs w g (.slice (some ⟨g, 0, none⟩) n n) ts xs := by
  subst hT
  exact ⟨h.len, h.row, fun i a b => ⟨(h.ints i a b).1.mono (by omega), (h.ints i a b).2.mono (by omega)⟩⟩
theorem OwnThs.mono {w : World} {B B' : Nat} {v : Value} {ts : List Bt.Th} {xs : List (Value × Value)} (h : OwnThs w B v ts xs) (hB : B' ≤ B) : OwnThs w B' v ts xs := by
  obtain ⟨h0, ⟨L, hL, h1⟩, h2⟩ := h
  exact ⟨h0, ⟨L, Joins.ownsRow_le hL hB, h1⟩, fun i a b => ⟨(h2 i a b).1.mono hB, (h2 i a b).2.mono hB⟩⟩
theorem OwnThs.setOther {w : World} {B : Nat} {v : Value} {ts : List Bt.Th} {xs : List (Value × Value)} (h : OwnThs w B v ts xs) {p : Addr} (u : Value) (hp : p.block < B) : OwnThs (w.setCell p u) B v ts xs := by
  obtain ⟨h0, ⟨L, hL, h1⟩, h2⟩ := h
  refine ⟨h0, ⟨L, World.ownsRow.kept hL (row := some p.block) ⟨rfl, rfl, rfl, by simp [World.setCell], fun k hk hne => Below.heap_setCell w p u k (fun e => hne (by rw [e]))⟩ ?_, h1⟩, fun i a b => ⟨(h2 i a b).1.setOther u (fun k e => by have := ((h2 i a b).1.bd k e).1; omega), (h2 i a b).2.setOther u (fun k e => by have := ((h2 i a b).2.bd k e).1; omega)⟩⟩
  cases hv : v.ownBlock with
  | none => exact .inl rfl
  | some k => exact .inr (by have := (World.ownsRow.lt hL k hv).1; simp; omega)

/-- what a copied machine is -/
def McMade (m : Bt.Mc) (nt nc nl nd : Nat) (w : World) (e : Ending) (w' : World) : Prop :=
  ∃ gT gC gL gD xs, e = .returned (.agg #[.slice (some ⟨gT, 0, none⟩) nt nt, .slice (some ⟨gC, 0, none⟩) nc nc, .slice (some ⟨gL, 0, none⟩) nl nl, .slice (some ⟨gD, 0, none⟩) nd nd]) ∧ Below w.heap.size w w' ∧
    OwnMc w' w.heap.size (.slice (some ⟨gT, 0, none⟩) nt nt) (.slice (some ⟨gC, 0, none⟩) nc nc) (.slice (some ⟨gL, 0, none⟩) nl nl) (.slice (some ⟨gD, 0, none⟩) nd nd) xs m

theorem apart3 {l : List Value} {a b c : Value} {N M K : Nat} (hl : l.Pairwise Apart) (hN : ∀ u ∈ l, ∀ k, u.ownBlock = some k → k < N) (ha : ∀ k, a.ownBlock = some k → N ≤ k ∧ k < M) (hb : ∀ k, b.ownBlock = some k → M ≤ k ∧ k < K) (hc : ∀ k, c.ownBlock = some k → K ≤ k) (hNM : N ≤ M) (hMK : M ≤ K) :
    (l ++ [a, b, c]).Pairwise Apart := by
  rw [List.pairwise_append]
  refine ⟨hl, ?_, fun u hu v hv => ?_⟩
  · simp only [List.pairwise_cons, List.mem_cons, List.not_mem_nil, or_false, List.Pairwise.nil, and_true, forall_eq_or_imp, forall_eq, false_implies, implies_true]
    exact ⟨⟨Apart.of_lt (fun k e => (ha k e).2) (fun k e => (hb k e).1), Apart.of_lt (n := K) (fun k e => by have := (ha k e).2; omega) hc⟩, Apart.of_lt (fun k e => (hb k e).2) hc⟩
  · simp only [List.mem_cons, List.not_mem_nil, or_false] at hv
    rcases hv with rfl | rfl | rfl
    · exact Apart.of_lt (hN u hu) (fun k e => (ha k e).1)
    · exact Apart.of_lt (n := N) (hN u hu) (fun k e => by have := (hb k e).1; omega)
    · exact Apart.of_lt (n := N) (hN u hu) (fun k e => by have := hc k e; omega)

end Go.Proofs.Ytolbihilggkldaa
