/-
  Appends to rows of the call's own: within a region that draws its order, and of threads.
-/
import Derived.Test.YtolbihilggkldaaNewL
import Derived.Test.YtolbihilggkldaaOrd
namespace Go.Proofs.Ytolbihilggkldaa
open Go.RowKit

theorem surely_app_int {o : Oper} {a : Act} {w : World} {R : Value → World → Prop} (s x : Operand)
    (ho : o.op = .call { callee := .builtin .append, args := #[s, x], argTypes := #[40, 40] }) (base : Nat) (v : Value) (xs : List Int) (hs : a.eval s = v) (hown : IntRow w base v xs)
    (ad : Addr) (c : Nat) (q : Int) (hx : a.eval x = .slice (some ad) 1 c) (hq : w.cell? ad = some (.int .i64 q)) (hlen : xs.length ≤ 1099511627776) (hbase : base ≤ w.heap.size)
    (h : ∀ v' w', IntRow w' base v' (xs ++ [q]) → w.grownBy w' v.ownBlock → R v' w') : surely Try.prog o a w R := by
  obtain ⟨i, hi, hz⟩ := Option.map_eq_some_iff.1 infoInt
  simp only [Prod.mk.injEq] at hz
  obtain ⟨hz, hsz, hby⟩ := hz
  intro K Q hK
  refine wp_append_own (P := Try.prog) w s x 40 ho base 3 i (.int .i64 0) 1 8 Try.underlying40 hi hz hsz hby rfl (by decide) v xs.length (xs.map (Value.int .i64)) hs hown ad 1 c [.int .i64 q] hx rfl ?_ ?_ ?_ ?_ hbase ?_
  · intro j u hu
    cases j with
    | zero =>
      simp only [List.getElem?_cons_zero, Option.some.injEq] at hu
      subst hu
      exact hq
    | succ j => simp at hu
  · intro u hu
    simp only [List.mem_singleton] at hu
    subst hu
    rfl
  · unfold maxLen; omega
  · omega
  · intro v' w' h1 h2 _
    refine hK v' w' (h v' w' ?_ h2)
    have e : (xs ++ [q]).length = xs.length + 1 := by simp
    unfold IntRow
    rw [e, List.map_append]
    exact h1

/-- threads of the call's own, and that no two rows of theirs are one -/
structure ThsAcc (w : World) (B : Nat) (v : Value) (ts : List Bt.Th) (xs : List (Value × Value)) : Prop where
  own : OwnThs w B v ts xs
  apart : (rowsOf xs).Pairwise Apart
theorem ThsAcc.keep {w w' : World} {B : Nat} {v : Value} {ts : List Bt.Th} {xs : List (Value × Value)} (h : ThsAcc w B v ts xs) (hb : Below w.heap.size w w') : ThsAcc w' B v ts xs := ⟨h.own.keep hb, h.apart⟩
theorem ThsAcc.lt {w : World} {B : Nat} {v : Value} {ts : List Bt.Th} {xs : List (Value × Value)} (h : ThsAcc w B v ts xs) : ∀ u ∈ v :: rowsOf xs, ∀ k, u.ownBlock = some k → B ≤ k ∧ k < w.heap.size := by
  intro u hu k e
  rcases List.mem_cons.1 hu with rfl | hu
  · obtain ⟨L, hL, _⟩ := h.own.row
    exact World.ownsRow.lt hL _ e
  · obtain ⟨i, hi, he⟩ := rowsOf_mem hu
    have hi' : i < ts.length := by rw [← h.own.len]; exact hi
    have := h.own.ints i hi' hi
    rcases he with rfl | rfl
    · exact this.1.bd _ e
    · exact this.2.bd _ e
theorem infoTh : (Try.prog.info? 86).map (fun i => (i.zero, i.size, i.bytes)) = some (some (.agg #[.int .i64 0, .slice none 0 0, .slice none 0 0, .int .i64 0]), 4, 64) := by kernel_rfl

/-- one thread more behind threads -/
theorem wp_app_th {ops : Array Oper} {rest : List Oper} {o : Oper} {a : Act} {Q : Exit → Act → World → Prop} {w : World} (hgd : o.guard = none) (s x : Operand)
    (ho : o.op = .call { callee := .builtin .append, args := #[s, x], argTypes := #[39, 39] }) (base : Nat) (v : Value) (ts : List Bt.Th) (xs : List (Value × Value)) (hs : a.eval s = v) (hown : ThsAcc w base v ts xs)
    (g c : Nat) (t : Bt.Th) (r k : Value) (hr : IntRow w base r t.regs) (hk : IntRow w base k t.stack) (hrk : Apart r k) (hnew : ∀ u ∈ rowsOf xs, Apart u r ∧ Apart u k) (hx : a.eval x = .slice (some ⟨g, 0, none⟩) 1 c)
    (h0 : w.cell? ⟨g, 0, none⟩ = some (.int .i64 t.pl)) (h1 : w.cell? ⟨g, 1, none⟩ = some r) (h2 : w.cell? ⟨g, 2, none⟩ = some k) (h3 : w.cell? ⟨g, 3, none⟩ = some (.int .i64 t.st)) (hlen : ts.length ≤ 1048576) (hbase : base ≤ w.heap.size)
    (h : ∀ v' w', ThsAcc w' base v' (ts ++ [t]) (xs ++ [(r, k)]) → w.grownBy w' v.ownBlock → wpList Try.prog ops Q rest (a.put o.dst v') w') : wpList Try.prog ops Q (o :: rest) a w := by
  obtain ⟨i, hi, hz⟩ := Option.map_eq_some_iff.1 infoTh
  simp only [Prod.mk.injEq] at hz
  obtain ⟨hz, hsz, hby⟩ := hz
  obtain ⟨L, hL, hT⟩ := hown.own.row
  have hrs : ∃ A n c, r = .slice A n c := by
    obtain ⟨A, c, e, _⟩ := hr.arg.form
    exact ⟨A, _, c, e⟩
  have hks : ∃ A n c, k = .slice A n c := by
    obtain ⟨A, c, e, _⟩ := hk.arg.form
    exact ⟨A, _, c, e⟩
  refine wpList_append_own (P := Try.prog) w hgd s x 39 ho base 86 i (.agg #[.int .i64 0, .slice none 0 0, .slice none 0 0, .int .i64 0]) 4 64 Try.underlying39 hi hz hsz hby rfl (by decide) v ts.length L hs hL ⟨g, 0, none⟩ 1 c [.int .i64 t.pl, r, k, .int .i64 t.st] hx rfl ?_ ?_ ?_ ?_ hbase ?_
  · intro j u hu
    rw [add_plain, Nat.zero_add]
    match j, hu with
    | 0, hu => simp at hu; subst hu; exact h0
    | 1, hu => simp at hu; subst hu; exact h1
    | 2, hu => simp at hu; subst hu; exact h2
    | 3, hu => simp at hu; subst hu; exact h3
    | j + 4, hu => simp at hu
  · intro u hu
    obtain ⟨A1, n1, c1, rfl⟩ := hrs
    obtain ⟨A2, n2, c2, rfl⟩ := hks
    simp only [List.mem_cons, List.not_mem_nil, or_false] at hu
    rcases hu with rfl | rfl | rfl | rfl <;> rfl
  · unfold maxLen; omega
  · omega
  · intro v' w' hrow hg _
    refine h v' w' ?_ hg
    have hv : ∀ u ys, IntRow w base u ys → u.ownBlock = none ∨ u.ownBlock ≠ v.ownBlock := fun u ys hu => by
      have ha := hown.own.apart hu
      exact ha.keep
    refine ⟨⟨by simp [hown.own.len], ⟨L ++ [.int .i64 t.pl, r, k, .int .i64 t.st], by rw [List.length_append]; exact hrow, fun j hj hj' => ?_⟩, fun j hj hj' => ?_⟩, ?_⟩
    · have hl := hL.1
      by_cases hjl : j < ts.length
      · have hjx : j < xs.length := by rw [hown.own.len]; exact hjl
        rw [List.getElem_append_left hjl, List.getElem_append_left hjx]
        obtain ⟨a0, a1, a2, a3⟩ := hT j hjl hjx
        refine ⟨?_, ?_, ?_, ?_⟩
        · rw [List.getElem?_append_left (by omega)]; exact a0
        · rw [List.getElem?_append_left (by omega)]; exact a1
        · rw [List.getElem?_append_left (by omega)]; exact a2
        · rw [List.getElem?_append_left (by omega)]; exact a3
      · have e : j = ts.length := by simp at hj; omega
        subst e
        have ex : ts.length = xs.length := hown.own.len.symm
        have e1 : (ts ++ [t])[ts.length]'hj = t := by simp
        have e2 : (xs ++ [(r, k)])[ts.length]'hj' = (r, k) := by
          rw [List.getElem_append_right (by omega)]
          simp [ex]
        rw [e1, e2]
        refine ⟨?_, ?_, ?_, ?_⟩
        all_goals rw [List.getElem?_append_right (by omega)]
        · rw [show ts.length * 4 - L.length = 0 by omega]; rfl
        · rw [show ts.length * 4 + 1 - L.length = 1 by omega]; rfl
        · rw [show ts.length * 4 + 2 - L.length = 2 by omega]; rfl
        · rw [show ts.length * 4 + 3 - L.length = 3 by omega]; rfl
    · by_cases hjl : j < ts.length
      · have hjx : j < xs.length := by rw [hown.own.len]; exact hjl
        rw [List.getElem_append_left hjl, List.getElem_append_left hjx]
        obtain ⟨b1, b2⟩ := hown.own.ints j hjl hjx
        exact ⟨b1.grown hg (hv _ _ b1), b2.grown hg (hv _ _ b2)⟩
      · have e : j = ts.length := by simp at hj; omega
        subst e
        have ex : ts.length = xs.length := hown.own.len.symm
        have e1 : (ts ++ [t])[ts.length]'hj = t := by simp
        have e2 : (xs ++ [(r, k)])[ts.length]'hj' = (r, k) := by
          rw [List.getElem_append_right (by omega)]
          simp [ex]
        rw [e1, e2]
        exact ⟨hr.grown hg (hv _ _ hr), hk.grown hg (hv _ _ hk)⟩
    · rw [rowsOf_snoc, List.pairwise_append]
      refine ⟨hown.apart, by simpa using hrk, fun u hu u' hu' => ?_⟩
      simp only [List.mem_cons, List.not_mem_nil, or_false] at hu'
      rcases hu' with rfl | rfl
      · exact (hnew u hu).1
      · exact (hnew u hu).2
end Go.Proofs.Ytolbihilggkldaa
