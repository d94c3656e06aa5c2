/-
  How the laws copy threads and machines: contracts.
-/
import Derived.Test.YtdhkaediffiplaaThLawB
namespace Go.Proofs.Ytdhkaediffiplaa
open Go.RowKit

/-- two slices share no block -/
def Apart (u v : Value) : Prop := ∀ b, u.ownBlock = some b → v.ownBlock ≠ some b
theorem Apart.of_lt {u v : Value} {n : Nat} (hu : ∀ k, u.ownBlock = some k → k < n) (hv : ∀ k, v.ownBlock = some k → n ≤ k) : Apart u v := fun b h1 h2 => by
  have := hu b h1; have := hv b h2; omega
theorem Apart.symm {u v : Value} (h : Apart u v) : Apart v u := fun b h1 h2 => h b h2 h1
theorem Apart.or {u v : Value} (h : Apart u v) : u.ownBlock = none ∨ u.ownBlock ≠ v.ownBlock := by
  cases hu : u.ownBlock with
  | none => exact .inl rfl
  | some b => exact .inr (fun e => h b hu e.symm)

theorem IntRow.bd {w : World} {base : Nat} {v : Value} {xs : List Int} (h : IntRow w base v xs) : ∀ k, v.ownBlock = some k → base ≤ k ∧ k < w.heap.size := World.ownsRow.lt h

/-- what a copied thread is -/
def ThMade (t : Bt.Th) (nr ns : Nat) (w : World) (e : Ending) (w' : World) : Prop :=
  ∃ g, e = .returned (.agg #[.int .i64 t.pl, .slice (some ⟨w.heap.size + 3, 0, none⟩) nr nr, .slice (some ⟨g, 0, none⟩) ns ns, .int .i64 t.st]) ∧ w.heap.size + 3 < g ∧ Below w.heap.size w w' ∧
    IntRow w' (w.heap.size + 3) (.slice (some ⟨w.heap.size + 3, 0, none⟩) nr nr) t.regs ∧ IntRow w' (w.heap.size + 3) (.slice (some ⟨g, 0, none⟩) ns ns) t.stack

theorem CopyInts.mk {xs : List Int} {n : Nat} {w : World} (h : xs.length = n) {v : Value} (C : Calls Try.prog 31 #[v] w (CopyInts xs w)) :
    Calls Try.prog 31 #[v] w fun e w' => e = .returned (.slice (some ⟨w.heap.size, 0, none⟩) n n) ∧ Below w.heap.size w w' ∧ IntRow w' w.heap.size (.slice (some ⟨w.heap.size, 0, none⟩) n n) xs := by
  subst h
  exact C
theorem toInts_n {v : Value} {xs : List Int} {n : Nat} {w : World} (h : xs.length = n) (hn : n ≤ 1048576) (hv : ArgInts w v xs) :
    Calls Try.prog 31 #[v] w fun e w' => e = .returned (.slice (some ⟨w.heap.size, 0, none⟩) n n) ∧ Below w.heap.size w w' ∧ IntRow w' w.heap.size (.slice (some ⟨w.heap.size, 0, none⟩) n n) xs :=
  CopyInts.mk h (toInts_any v xs w (by omega) hv)

/-- a row stays where a cell of another block is set -/
theorem IntRow.setOther {w : World} {base : Nat} {v : Value} {xs : List Int} (h : IntRow w base v xs) {p : Addr} (u : Value) (hp : ∀ b, v.ownBlock = some b → b ≠ p.block) : IntRow (w.setCell p u) base v xs := by
  refine h.grown (row := some p.block) ⟨rfl, rfl, rfl, by simp [World.setCell], fun k hk hne => Below.heap_setCell w p u k (fun e => hne (by rw [e]))⟩ ?_
  cases hv : v.ownBlock with
  | none => exact .inl rfl
  | some b => exact .inr (by simpa using hp b hv)

set_option maxHeartbeats 1000000 in
theorem toThread_any {AR AS : Option Addr} {nr cr ns cs : Nat} {t : Bt.Th} {w : World} (H : ArgTh w AR nr cr AS ns cs t) (hr : nr ≤ 1048576) (hs : ns ≤ 1048576) :
    Calls Try.prog 87 #[.agg #[.int .i64 t.pl, .slice AR nr cr, .slice AS ns cs, .int .i64 t.st]] w (ThMade t nr ns w) := by
  have nR := Lib.hid H.nR; have nS := Lib.hid H.nS
  have HH := Lib.hid H; clear H
  unfold ThMade
  generalize hp : t.pl = pl
  generalize hs' : t.st = st
  clear hp hs'
  go_enter Try.func87, Try.ntmps87
  go_wp2_with fail
  refine (toInts_n nR.out hr (HH.out.keep ((((Below.refl _ _).alloc (Nat.le_refl _) _).alloc (by simp) _).alloc (by simp <;> omega) _)).regs).mono ?_
  rintro e w1 ⟨rfl, hb1, hr1⟩
  obtain ⟨hc1, hf1⟩ := bcell hb1
  have hz : w.heap.size + 2 < w1.heap.size := by have := hb1.size; simp at this; omega
  have R1 : Hid (IntRow w1 (w.heap.size + 3) (.slice (some ⟨w.heap.size + 3, 0, none⟩) nr nr) t.regs) := Lib.hid (by simpa using hr1)
  clear hr1
  have W1 : Below w.heap.size w w1 := ((((Below.refl w.heap.size w).alloc (Nat.le_refl _) _).alloc (by simp) _).alloc (by simp; omega) _).trans (hb1.mono (by simp; omega))
  have hz1 : w.heap.size + 3 < w1.heap.size := (R1.out.bd _ rfl).2
  go_wp2_with fail
  refine (toInts_n nS.out hs (HH.out.keep (W1.setCell (by simp; try omega) _)).stack).mono ?_
  rintro e w2 ⟨rfl, hb2, hr2⟩
  obtain ⟨hc2, hf2⟩ := bcell hb2
  have R2 : Hid (IntRow w2 (w.heap.size + 3) (.slice (some ⟨w1.heap.size, 0, none⟩) ns ns) t.stack) := Lib.hid (IntRow.mono (by simpa using hr2) (by omega))
  clear hr2
  have hz2 : w.heap.size + 2 < w2.heap.size := by have := hb2.size; simp at this; omega
  have W2 : Below w.heap.size w w2 := (W1.setCell (by simp; try omega) _).trans (hb2.mono (by simp; omega))
  have R1' : Hid (IntRow w2 (w.heap.size + 3) (.slice (some ⟨w.heap.size + 3, 0, none⟩) nr nr) t.regs) := Lib.hid ((R1.out.setOther _ (by intro b hb; simp [Value.ownBlock] at hb; simp; omega)).keep hb2)
  have x0 : w.heap.size < w1.heap.size := by omega
  have x1 : w.heap.size + 1 < w1.heap.size := by omega
  have y0 : w.heap.size < w2.heap.size := by omega
  have y1 : w.heap.size + 1 < w2.heap.size := by omega
  have e0 : w1.cell? ⟨w.heap.size + 1, 0, none⟩ = some (.int .i64 0) := keeps hb1 (keeps ((Below.refl _ _).alloc (Nat.le_refl _) _) (by simp))
  have k0 : w2.cell? ⟨w.heap.size + 1, 0, none⟩ = some (.int .i64 0) := keeps hb2 (by go_simp)
  have e1 : w1.cell? ⟨w.heap.size + 1, 1, none⟩ = some (.slice none 0 0) := keeps hb1 (keeps ((Below.refl _ _).alloc (Nat.le_refl _) _) (by simp))
  have k1 : w2.cell? ⟨w.heap.size + 1, 1, none⟩ = some (.slice none 0 0) := keeps hb2 (by go_simp)
  have e2 : w1.cell? ⟨w.heap.size + 1, 2, none⟩ = some (.slice none 0 0) := keeps hb1 (keeps ((Below.refl _ _).alloc (Nat.le_refl _) _) (by simp))
  have k2 : w2.cell? ⟨w.heap.size + 1, 2, none⟩ = some (.slice none 0 0) := keeps hb2 (by go_simp)
  have e3 : w1.cell? ⟨w.heap.size + 1, 3, none⟩ = some (.int .i64 0) := keeps hb1 (keeps ((Below.refl _ _).alloc (Nat.le_refl _) _) (by simp))
  have k3 : w2.cell? ⟨w.heap.size + 1, 3, none⟩ = some (.int .i64 0) := keeps hb2 (by go_simp)
  clear e0 e1 e2 e3
  go_wp2
  refine bodyPost_ret (v := .agg #[.int .i64 pl, .slice (some ⟨w.heap.size + 3, 0, none⟩) nr nr, .slice (some ⟨w1.heap.size, 0, none⟩) ns ns, .int .i64 st]) (by simp [results, Try.results87, go_sem, k0, k1, k2, k3]) rfl ⟨w1.heap.size, rfl, hz1, ?_, ?_, ?_⟩
  · repeat (refine Below.setCell ?_ (by simp; try omega) _)
    exact W2
  · repeat (refine IntRow.setOther ?_ _ (by intro b hb; simp [Value.ownBlock] at hb; simp; omega))
    exact R1'.out
  · repeat (refine IntRow.setOther ?_ _ (by intro b hb; simp [Value.ownBlock] at hb; simp; omega))
    exact R2.out

/-- a thread's four cells lie in a row from i on -/
def Th4 (L : List Value) (i : Nat) (t : Bt.Th) (x : Value × Value) : Prop := L[i]? = some (.int .i64 t.pl) ∧ L[i + 1]? = some x.1 ∧ L[i + 2]? = some x.2 ∧ L[i + 3]? = some (.int .i64 t.st)
/-- threads of the call's own: a row of threads, and for each of them two rows of numbers -/
structure OwnThs (w : World) (B : Nat) (v : Value) (ts : List Bt.Th) (xs : List (Value × Value)) : Prop where
  len : xs.length = ts.length
  row : ∃ L, w.ownsRow B 71 4 v ts.length L ∧ ∀ i (h : i < ts.length) (h' : i < xs.length), Th4 L (i * 4) ts[i] xs[i]
  ints : ∀ i (h : i < ts.length) (h' : i < xs.length), IntRow w B xs[i].1 ts[i].regs ∧ IntRow w B xs[i].2 ts[i].stack
/-- the rows of numbers of threads -/
def rowsOf (xs : List (Value × Value)) : List Value := xs.flatMap fun x => [x.1, x.2]
theorem rowsOf_snoc (xs : List (Value × Value)) (x : Value × Value) : rowsOf (xs ++ [x]) = rowsOf xs ++ [x.1, x.2] := by simp [rowsOf]
theorem rowsOf_mem {xs : List (Value × Value)} {u : Value} (h : u ∈ rowsOf xs) : ∃ i, ∃ h : i < xs.length, u = xs[i].1 ∨ u = xs[i].2 := by
  unfold rowsOf at h
  rw [List.mem_flatMap] at h
  obtain ⟨x, hx, hu⟩ := h
  obtain ⟨i, hi, rfl⟩ := List.getElem_of_mem hx
  refine ⟨i, hi, ?_⟩
  simpa using hu
theorem apart_snoc {l : List Value} {a b : Value} {N : Nat} (hl : l.Pairwise Apart) (hN : ∀ u ∈ l, ∀ k, u.ownBlock = some k → k < N) (ha : ∀ k, a.ownBlock = some k → N ≤ k) (hb : ∀ k, b.ownBlock = some k → N ≤ k) (hab : Apart a b) :
    (l ++ [a, b]).Pairwise Apart := by
  rw [List.pairwise_append]
  refine ⟨hl, by simpa using hab, fun u hu v hv => ?_⟩
  simp only [List.mem_cons, List.not_mem_nil, or_false] at hv
  rcases hv with rfl | rfl
  · exact Apart.of_lt (hN u hu) ha
  · exact Apart.of_lt (hN u hu) hb

theorem infoThread : (Try.prog.info? 71).map (fun i => (i.zero, i.size, i.bytes)) = some (some (.agg #[.int .i64 0, .slice none 0 0, .slice none 0 0, .int .i64 0]), 4, 64) := by kernel_rfl

/-- make of threads, whatever their number -/
theorem run_make_threads (n : Nat) (hn : n ≤ 1048576) (w : World) :
    (Instr.makeSlice 36 (.int .i64 (n : Int)) (.int .i64 (n : Int))).run Try.prog w = .ok (.slice (some ⟨w.heap.size, 0, none⟩) n n) (w.alloc (.cells (madeCells #[.int .i64 0, .slice none 0 0, .slice none 0 0, .int .i64 0] (n * 4)) 71)) := by
  obtain ⟨i, hi, hz⟩ := Option.map_eq_some_iff.1 infoThread
  simp only [Prod.mk.injEq] at hz
  obtain ⟨hz, hs, hb⟩ := hz
  have h := run_make (P := Try.prog) w 36 71 i _ Try.underlying36 hi hz .i64 .i64 (n : Int) (n : Int) (by omega) (Int.le_refl _) (by rw [hb]; omega) (by omega)
  simp only [Int.toNat_natCast, hs] at h
  exact h
end Go.Proofs.Ytdhkaediffiplaa
