/-
  Slices of ints that a call made, and how the laws compare, mark and look at them: contracts.
-/
import Derived.Test.YtolbihilggkldaaKit
import Derived.Test.YtolbihilggkldaaRows
import Derived.Deep.OwnRows
namespace Go.Proofs.Ytolbihilggkldaa
open Go.RowKit

/-- v is a slice of a call's own, from block base on, that holds these numbers -/
def IntRow (w : World) (base : Nat) (v : Value) (xs : List Int) : Prop := w.ownsRow base 3 1 v xs.length (xs.map (Value.int .i64))

/-- v is a slice that holds these numbers -/
def ArgInts (w : World) (v : Value) (xs : List Int) : Prop :=
  ∃ A cap, v = .slice A xs.length cap ∧ xs.length ≤ cap ∧ (xs ≠ [] → ∃ b o, A = some ⟨b, o, none⟩ ∧ ∀ i (h : i < xs.length), w.cell? ⟨b, o + i, none⟩ = some (.int .i64 xs[i]))

theorem ArgInts.keep {w w' : World} {v : Value} {xs : List Int} (h : ArgInts w v xs) (hb : Below w.heap.size w w') : ArgInts w' v xs := by
  obtain ⟨A, cap, hv, hc, hr⟩ := h
  refine ⟨A, cap, hv, hc, fun hne => ?_⟩
  obtain ⟨b, o, hA, hr⟩ := hr hne
  exact ⟨b, o, hA, fun i hi => keeps hb (hr i hi)⟩

theorem IntRow.nil (w : World) (base : Nat) : IntRow w base (.slice none 0 0) [] := World.ownsRow_nil w base _ 1

theorem IntRow.forms {w : World} {base : Nat} {v : Value} {xs : List Int} (h : IntRow w base v xs) :
    (v = .slice none 0 0 ∧ xs = []) ∨ ∃ g cap, v = .slice (some ⟨g, 0, none⟩) xs.length cap ∧ base ≤ g ∧ g < w.heap.size ∧ xs.length ≤ cap ∧ cap ≤ maxLen := by
  have h' : w.ownsRow base 3 1 v xs.length (xs.map (Value.int .i64)) := h
  rcases h'.2 with ⟨rfl, h0⟩ | ⟨g, cap, cur, rfl, hb, hg, hn, hm, _, _⟩
  · exact .inl ⟨rfl, by simpa using h0⟩
  · refine .inr ⟨g, cap, rfl, hb, ?_, hn, hm⟩
    exact (Array.getElem?_eq_some_iff.1 hg).1

theorem IntRow.cell {w : World} {base g cap : Nat} {xs : List Int} (h : IntRow w base (.slice (some ⟨g, 0, none⟩) xs.length cap) xs) (i : Nat) (hi : i < xs.length) :
    w.cell? ⟨g, i, none⟩ = some (.int .i64 xs[i]) := by
  have h' : w.ownsRow base 3 1 (.slice (some ⟨g, 0, none⟩) xs.length cap) xs.length (xs.map (Value.int .i64)) := h
  rw [h'.cellAt i (by omega)]
  simp [hi]

theorem IntRow.arg {w : World} {base : Nat} {v : Value} {xs : List Int} (h : IntRow w base v xs) : ArgInts w v xs := by
  rcases h.forms with ⟨rfl, rfl⟩ | ⟨g, cap, rfl, _, _, hc, _⟩
  · exact ⟨none, 0, rfl, Nat.le_refl _, fun h => absurd rfl h⟩
  · refine ⟨_, cap, rfl, hc, fun _ => ⟨g, 0, rfl, fun i hi => ?_⟩⟩
    rw [Nat.zero_add]
    exact h.cell i hi

/-- a row stays where only other blocks turn -/
theorem IntRow.grown {w w' : World} {base : Nat} {v : Value} {xs : List Int} {row : Option Nat} (h : IntRow w base v xs) (hg : w.grownBy w' row) (hne : v.ownBlock = none ∨ v.ownBlock ≠ row) : IntRow w' base v xs :=
  World.ownsRow.kept h hg hne
theorem grown_below {w w' : World} (hb : Below w.heap.size w w') : w.grownBy w' none := ⟨hb.os, hb.tape, hb.output, hb.size, fun k hk _ => hb.block k hk⟩
theorem IntRow.keep {w w' : World} {base : Nat} {v : Value} {xs : List Int} (h : IntRow w base v xs) (hb : Below w.heap.size w w') : IntRow w' base v xs := by
  refine h.grown (grown_below hb) ?_
  rcases h.forms with ⟨rfl, _⟩ | ⟨g, cap, rfl, _⟩
  · exact .inl rfl
  · exact .inr (by simp [Value.ownBlock])
theorem IntRow.mono {w : World} {base base' : Nat} {v : Value} {xs : List Int} (h : IntRow w base v xs) (hb : base' ≤ base) : IntRow w base' v xs := Joins.ownsRow_le h hb

/-- a literal slice -/
theorem IntRow.lit (w : World) (xs : List Int) (hn : xs.length ≤ maxLen) : IntRow (w.alloc (.cells (xs.map (Value.int .i64)).toArray 3)) w.heap.size (.slice (some ⟨w.heap.size, 0, none⟩) xs.length xs.length) xs := by
  have h := World.ownsRow_lit (base := w.heap.size) (e := 3) (size := 1) w (xs.map (Value.int .i64)).toArray xs.length (Nat.le_refl _) hn (by simp)
  simpa [IntRow] using h

theorem infoInt : (Try.prog.info? 3).map (fun i => (i.zero, i.size, i.bytes)) = some (some (.int .i64 0), 1, 8) := by kernel_rfl

/-- append of one int to a slice of the call's own -/
theorem wp_app_int {ops : Array Oper} {rest : List Oper} {o : Oper} {a : Act} {Q : Exit → Act → World → Prop} {w : World} (hgd : o.guard = none) (s x : Operand)
    (ho : o.op = .call { callee := .builtin .append, args := #[s, x], argTypes := #[40, 40] }) (base : Nat) (v : Value) (xs : List Int) (hs : a.eval s = v) (hown : IntRow w base v xs)
    (ad : Addr) (c : Nat) (q : Int) (hx : a.eval x = .slice (some ad) 1 c) (hq : w.cell? ad = some (.int .i64 q)) (hlen : xs.length ≤ 1099511627776) (hbase : base ≤ w.heap.size)
    (h : ∀ v' w', IntRow w' base v' (xs ++ [q]) → w.grownBy w' v.ownBlock → wpList Try.prog ops Q rest (a.put o.dst v') w') : wpList Try.prog ops Q (o :: rest) a w := by
  obtain ⟨i, hi, hz⟩ := Option.map_eq_some_iff.1 infoInt
  simp only [Prod.mk.injEq] at hz
  obtain ⟨hz, hsz, hby⟩ := hz
  refine wpList_append_own (P := Try.prog) w hgd s x 40 ho base 3 i (.int .i64 0) 1 8 Try.underlying40 hi hz hsz hby rfl (by decide) v xs.length (xs.map (Value.int .i64)) hs hown ad 1 c [.int .i64 q] hx rfl ?_ ?_ ?_ ?_ hbase ?_
  · intro j u hu
    cases j with
    | zero =>
      simp only [List.getElem?_cons_zero, Option.some.injEq] at hu
      subst hu
      exact hq
    | succ j => simp at hu
  · intro u hu
    simp only [List.mem_singleton] at hu
    subst hu
    rfl
  · unfold maxLen; omega
  · omega
  · intro v' w' h1 h2 _
    refine h v' w' ?_ h2
    have e : (xs ++ [q]).length = xs.length + 1 := by simp
    unfold IntRow
    rw [e, List.map_append]
    exact h1

set_option maxHeartbeats 1000000 in
theorem eqInts_nil (A B : Option Addr) (c d : Nat) (w : World) :
    Calls Try.prog 47 #[.slice A 0 c, .slice B 0 d] w fun e w' => e = .returned (.bool true) ∧ w = w' := by
  go_enter Try.func47, Try.ntmps47
  go_wp2
  go_loop [5] (fun i => i = .int .i64 0) (fun _ => 0)
  case atStart => exact rfl
  case round =>
    obtain rfl := hrel
    go_wp2
    go_ret
    exact ⟨rfl, rfl⟩

set_option maxHeartbeats 1000000 in
theorem eqInts_some (b o b' o' n c d : Nat) (xs : List Int) (w : World) (hN : xs.length = n) (hn : n ≤ 1099511627776) (hc : n ≤ c) (hd : n ≤ d) (h : ∀ i (h : i < xs.length), w.cell? ⟨b, o + i, none⟩ = some (.int .i64 xs[i]))
    (h' : ∀ i (h : i < xs.length), w.cell? ⟨b', o' + i, none⟩ = some (.int .i64 xs[i])) :
    Calls Try.prog 47 #[.slice (some ⟨b, o, none⟩) n c, .slice (some ⟨b', o', none⟩) n d] w fun e w' => e = .returned (.bool true) ∧ Below w.heap.size w w' := by
  have HN := Lib.hid hN; clear hN
  have H1 := Lib.hid h; clear h
  have H2 := Lib.hid h'; clear h'
  go_enter Try.func47, Try.ntmps47
  go_wp2
  go_loopw [5] (fun i wr => ∃ k : Nat, k ≤ n ∧ i = .int .i64 k ∧ Below w.heap.size w wr) (fun i _ => n - (intOf i).toNat)
  case atStart => exact ⟨0, Nat.zero_le _, rfl, Below.refl _ _⟩
  case round =>
    obtain ⟨k, hk, rfl, hb⟩ := hrel
    by_cases hlt : k < n
    · have f0 := keeps hb (H1.out k (by rw [HN.out]; exact hlt))
      have g0 := keeps hb (H2.out k (by rw [HN.out]; exact hlt))
      generalize xs[k]'(by rw [HN.out]; exact hlt) = q at *
      go_wp2
      go_quiet (fail)
      go_wp2
      go_roundw
      case rel => exact ⟨k + 1, by omega, by go_num, bDrewN hb _⟩
      case measure => simp [intOf]; omega
    · obtain rfl : k = n := by omega
      go_wp2
      go_ret
      exact ⟨rfl, hb⟩

theorem eqInts_any (v v' : Value) (xs : List Int) (w : World) (hn : xs.length ≤ 1099511627776) (h : ArgInts w v xs) (h' : ArgInts w v' xs) :
    Calls Try.prog 47 #[v, v'] w fun e w' => e = .returned (.bool true) ∧ Below w.heap.size w w' := by
  obtain ⟨A, c, rfl, hc, hr⟩ := h
  obtain ⟨B, d, rfl, hd, hr'⟩ := h'
  by_cases hne : xs = []
  · subst hne
    exact (eqInts_nil A B c d w).mono fun e w' ⟨he, hw⟩ => ⟨he, hw ▸ Below.refl _ _⟩
  · obtain ⟨b, o, rfl, h1⟩ := hr hne
    obtain ⟨b', o', rfl, h2⟩ := hr' hne
    exact eqInts_some b o b' o' xs.length c d xs w rfl hn hc hd h1 h2
end Go.Proofs.Ytolbihilggkldaa
