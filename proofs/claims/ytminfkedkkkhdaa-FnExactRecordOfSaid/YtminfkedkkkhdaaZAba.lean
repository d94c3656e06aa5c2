/-
  Part of a proof: DoH. No condition.
-/
import Derived.Test.YtminfkedkkkhdaaZAaz
namespace Go.Proofs.Ytminfkedkkkhdaa
open Go.RowKit
set_option maxRecDepth 100000 in
set_option maxHeartbeats 4000000 in
theorem l2Faults_any {AT AC AL AD : Option Addr} {nt ct nc cc nl cl nd cd : Nat} {m : Bt.Mc} (k : Nat) (op xa xb xc : Int) (w : World)
  (H : ArgMc w AT nt ct AC nc cc AL nl cl AD nd cd m) (hk' : k < m.ths.length) (hc : Bt.codeOk op xa xb xc = true) (h6 : m.ths[k].stack.length ≤ 6) (h4 : m.ths.length ≤ 4) (hl2 : m.locks.length = 2) :
  Calls Try.prog 99 #[.agg #[.slice AT nt ct, .slice AC nc cc, .slice AL nl cl, .slice AD nd cd], .int .i64 (k : Int), .agg #[.int .i64 op, .int .i64 xa, .int .i64 xb, .int .i64 xc]] w fun e w' => e = .returned (.bool (Bt.faultsI m k m.ths[k] ⟨op, xa, xb, xc⟩)) ∧ Below w.heap.size w w' := by
 have hk : k < nt := by rw [← H.nT]; exact hk'
 have hle := H.ths.2.1
 have hT := H.nT
 rw [hT] at h4
 have HH := Lib.hid H; clear H
 have HC := Lib.hid hc; clear hc
 have BB := Lib.hid (((Below.refl w.heap.size w).alloc (Nat.le_refl _) (.cells #[.slice AT nt ct, .slice AC nc cc, .slice AL nl cl, .slice AD nd cd] 31)).alloc (by simp) (.cells #[.int .i64 op, .int .i64 xa, .int .i64 xb, .int .i64 xc] 96))
 obtain ⟨bt, ot, rfl, ht⟩ := (HH.out.keep BB.out).ths.2.2 k hk'
 obtain ⟨AR, cr, AS, cs, HT, f0, f1, f2, f3⟩ := ht.open
 have hbt : bt < w.heap.size := by
  obtain ⟨bt', ot', e, ht'⟩ := HH.out.ths.2.2 k hk'
  injection e with e1
  injection e1 with e1 e2
  subst e1
  obtain ⟨_, _, _, _, _, y0, _⟩ := ht'.open
  exact cell_lt y0
 clear ht HT
 generalize hth : m.ths[k] = th at *
 obtain ⟨pl, rg, sk, st⟩ := th
 simp only at *
 generalize rg.length = nr at *
 generalize hns : sk.length = ns at *
 have HNS := Lib.hid hns
 have HL1 := Lib.hid (HH.out.locks.keep (BB.out.alloc (by simp; omega) (.cells #[.int .i64 pl, .slice AR nr cr, .slice AS ns cs, .int .i64 st] 123)))
 have hNL := HH.out.nL
 clear hth hns
 by_cases o11 : op = 11
 ·subst o11
  have HV : Hid (((ns : Int) == 6) = Bt.faultsI m k ⟨pl, rg, sk, st⟩ ⟨11, xa, xb, xc⟩) := Lib.hid (by simp only [Bt.faultsI, HNS.out]; rw [if_pos trivial, Bool.eq_iff_iff, beq_iff_eq, decide_eq_true_eq]; omega)
  go_enter Try.func99, Try.ntmps99
  go_wp2
  go_ret
  exact ⟨ret_bool HV.out, BB.out.alloc (by simp; omega) _⟩
 ·have d11 : (op == 11) = false := by rw [beq_eq_false_iff_ne]; exact o11
  by_cases o12 : op = 12
  ·subst o12
   have HV : Hid (((ns : Int) == 0) = Bt.faultsI m k ⟨pl, rg, sk, st⟩ ⟨12, xa, xb, xc⟩) := Lib.hid (by simp only [Bt.faultsI, HNS.out]; rw [if_neg (by omega), if_pos trivial, Bool.eq_iff_iff, beq_iff_eq, decide_eq_true_eq]; omega)
   go_enter Try.func99, Try.ntmps99
   go_wp2
   go_ret
   exact ⟨ret_bool HV.out, BB.out.alloc (by simp; omega) _⟩
  ·have d12 : (op == 12) = false := by rw [beq_eq_false_iff_ne]; exact o12
   by_cases o16 : op = 16
   ·subst o16
    obtain ⟨q0, q1⟩ := Bt.lock_bounds HC.out (.inr rfl)
    obtain ⟨q, rfl⟩ : ∃ q : Nat, xc = q := ⟨xc.toNat, by omega⟩
    have hq : q < m.locks.length := by omega
    have HV : Hid ((m.locks[q] != (k : Int)) = Bt.faultsI m k ⟨pl, rg, sk, st⟩ ⟨16, xa, xb, (q : Int)⟩) := Lib.hid (by simp only [Bt.faultsI]; rw [if_neg (by omega), if_neg (by omega), if_pos trivial]; simp [hq])
    obtain ⟨lcap, lat⟩ := HL1.out.at_ hNL
    obtain ⟨bl, ol, rfl, fl⟩ := lat q hq
    have hqn : q < nl := by omega
    generalize m.locks[q] = lk at *
    clear lat hNL hl2 hq q0 q1
    go_enter Try.func99, Try.ntmps99
    go_wp2
    go_ret
    exact ⟨ret_bool HV.out, BB.out.alloc (by simp; omega) _⟩
   ·have d16 : (op == 16) = false := by rw [beq_eq_false_iff_ne]; exact o16
    by_cases o17 : op = 17
    ·subst o17
     have HV : Hid (((nt : Int) == 4) = Bt.faultsI m k ⟨pl, rg, sk, st⟩ ⟨17, xa, xb, xc⟩) := Lib.hid (by simp only [Bt.faultsI, hT]; rw [if_neg (by omega), if_neg (by omega), if_neg (by omega), if_pos trivial, Bool.eq_iff_iff, beq_iff_eq, decide_eq_true_eq]; omega)
     clear hT
     go_enter Try.func99, Try.ntmps99
     go_wp2
     go_ret
     exact ⟨ret_bool HV.out, BB.out.alloc (by simp; omega) _⟩
    ·have d17 : (op == 17) = false := by rw [beq_eq_false_iff_ne]; exact o17
     have HV : Hid (false = Bt.faultsI m k ⟨pl, rg, sk, st⟩ ⟨op, xa, xb, xc⟩) := Lib.hid (by simp [Bt.faultsI, o11, o12, o16, o17])
     clear o11 o12 o16 o17
     go_enter Try.func99, Try.ntmps99
     go_wp2
     go_ret
     exact ⟨ret_bool HV.out, BB.out.alloc (by simp; omega) _⟩
end Go.Proofs.Ytminfkedkkkhdaa
namespace Go.Proofs.Ytminfkedkkkhdaa
open Go.RowKit
structure Mid (W0 : World) (B g : Nat) (vt vc vl vd : Value) (xs : List (Value × Value)) (m : Bt.Mc) (w : World) : Prop where
 below : Below W0.heap.size W0 w
 box : McBox w g
 four : Four w g vt vc vl vd
 ths : OwnThs w B vt m.ths xs
 cells : IntRow w B vc m.cells
 locks : IntRow w B vl m.locks
 told : IntRow w B vd m.told
theorem Mid.keep {W0 w w' : World} {B g : Nat} {vt vc vl vd : Value} {xs : List (Value × Value)} {m : Bt.Mc} (h : Mid W0 B g vt vc vl vd xs m w) (hb : Below w.heap.size w w') : Mid W0 B g vt vc vl vd xs m w' :=
 ⟨below_then h.below hb, h.box.keep hb, h.four.keep hb, h.ths.keep hb, h.cells.keep hb, h.locks.keep hb, h.told.keep hb⟩
theorem Four.setFar {w : World} {g : Nat} {a b c d : Value} (h : Four w g a b c d) (p : Addr) (u : Value) (hp : p.block ≠ g) : Four (w.setCell p u) g a b c d :=
 h.only (only_set w p u) (fun u' hu e => by
  simp only [List.mem_singleton] at hu
  subst hu
  simp only [Value.ownBlock, Option.some.injEq] at e
  exact hp e)
theorem OwnMc.mid {W0 w : World} {B g : Nat} {vt vc vl vd : Value} {xs : List (Value × Value)} {m : Bt.Mc} (h : OwnMc w B vt vc vl vd xs m) (hb : Below W0.heap.size W0 w) (hg : McBox w g) (hf : Four w g vt vc vl vd) : Mid W0 B g vt vc vl vd xs m w :=
 ⟨hb, hg, hf, h.ths, h.cells, h.locks, h.told⟩
theorem Mid.setTh {W0 w : World} {B g gt n cap j : Nat} {vc vl vd : Value} {xs xs' : List (Value × Value)} {m : Bt.Mc} {ts : List Bt.Th} {u : Value} (h : Mid W0 B g (.slice (some ⟨gt, 0, none⟩) n cap) vc vl vd xs m w) (hB : W0.heap.size ≤ gt)
  (ht : OwnThs (w.setCell ⟨gt, j, none⟩ u) B (.slice (some ⟨gt, 0, none⟩) n cap) ts xs') : Mid W0 B g (.slice (some ⟨gt, 0, none⟩) n cap) vc vl vd xs' ⟨ts, m.cells, m.locks, m.told⟩ (w.setCell ⟨gt, j, none⟩ u) := by
 have hne := h.ths.neM h.box
 have hgg : gt ≠ g := fun e => hne (by rw [e]; rfl)
 exact ⟨h.below.setCell hB _, h.box.set _ _, h.four.setFar _ _ hgg, ht, h.cells.setOther _ (fun b e e' => h.ths.ne h.cells (by rw [e, e'])), h.locks.setOther _ (fun b e e' => h.ths.ne h.locks (by rw [e, e'])), h.told.setOther _ (fun b e e' => h.ths.ne h.told (by rw [e, e']))⟩
theorem Mid.setPl {W0 w : World} {B g gt n cap k : Nat} {vc vl vd : Value} {xs : List (Value × Value)} {m : Bt.Mc} (h : Mid W0 B g (.slice (some ⟨gt, 0, none⟩) n cap) vc vl vd xs m w) (hB : W0.heap.size ≤ gt) (hk : k < m.ths.length) (q : Int) {ts : List Bt.Th} (e : m.ths.set k ⟨q, m.ths[k].regs, m.ths[k].stack, m.ths[k].st⟩ = ts) :
  Mid W0 B g (.slice (some ⟨gt, 0, none⟩) n cap) vc vl vd xs ⟨ts, m.cells, m.locks, m.told⟩ (w.setCell ⟨gt, k * 4, none⟩ (.int .i64 q)) := by
 subst e
 exact h.setTh hB (h.ths.setPl hk q)
theorem Mid.setSt {W0 w : World} {B g gt n cap k : Nat} {vc vl vd : Value} {xs : List (Value × Value)} {m : Bt.Mc} (h : Mid W0 B g (.slice (some ⟨gt, 0, none⟩) n cap) vc vl vd xs m w) (hB : W0.heap.size ≤ gt) (hk : k < m.ths.length) (q : Int) {ts : List Bt.Th} (e : m.ths.set k ⟨m.ths[k].pl, m.ths[k].regs, m.ths[k].stack, q⟩ = ts) :
  Mid W0 B g (.slice (some ⟨gt, 0, none⟩) n cap) vc vl vd xs ⟨ts, m.cells, m.locks, m.told⟩ (w.setCell ⟨gt, k * 4 + 3, none⟩ (.int .i64 q)) := by
 subst e
 exact h.setTh hB (h.ths.setSt hk q)
theorem Mid.setStack {W0 w : World} {B g gt n cap k : Nat} {vc vl vd : Value} {xs : List (Value × Value)} {m : Bt.Mc} (h : Mid W0 B g (.slice (some ⟨gt, 0, none⟩) n cap) vc vl vd xs m w) (hB : W0.heap.size ≤ gt) (hk : k < m.ths.length) (hk' : k < xs.length) (v : Value) (ys : List Int) (hv : IntRow w B v ys) :
  Mid W0 B g (.slice (some ⟨gt, 0, none⟩) n cap) vc vl vd (xs.set k (xs[k].1, v)) ⟨m.ths.set k ⟨m.ths[k].pl, m.ths[k].regs, ys, m.ths[k].st⟩, m.cells, m.locks, m.told⟩ (w.setCell ⟨gt, k * 4 + 2, none⟩ v) :=
 h.setTh hB (h.ths.setStack hk hk' v ys hv)
theorem grownS (w : World) (p : Addr) (u : Value) : w.grownBy (w.setCell p u) (some p.block) :=
 ⟨rfl, rfl, rfl, by simp [World.setCell], fun k hk hne => Below.heap_setCell w p u k (fun e => hne (by rw [e]))⟩
theorem IntRow.set_at {w : World} {base b cap n : Nat} {xs : List Int} (h : IntRow w base (.slice (some ⟨b, 0, none⟩) n cap) xs) (i : Nat) (q : Int) : IntRow (w.setCell ⟨b, i, none⟩ (.int .i64 q)) base (.slice (some ⟨b, 0, none⟩) n cap) (xs.set i q) := by
 have hn : xs.length = n := by
  rcases h.forms with ⟨e, _⟩ | ⟨g', cap', e, _⟩
  ·cases e
  ·injection e with _ e2 _; exact e2.symm
 subst hn
 exact IntRow.stored h rfl _ _
theorem Mid.setReg {W0 w : World} {B g gt n cap k br nr cr : Nat} {vc vl vd : Value} {xs : List (Value × Value)} {m : Bt.Mc} (h : Mid W0 B g (.slice (some ⟨gt, 0, none⟩) n cap) vc vl vd xs m w) (ha : (rowsOf xs ++ [vc, vl, vd]).Pairwise Apart) (hB : W0.heap.size ≤ br) (hk : k < m.ths.length) (hk' : k < xs.length)
  (hx : xs[k].1 = .slice (some ⟨br, 0, none⟩) nr cr) (i : Nat) (q : Int) {ts : List Bt.Th} (e : m.ths.set k ⟨m.ths[k].pl, m.ths[k].regs.set i q, m.ths[k].stack, m.ths[k].st⟩ = ts) :
  Mid W0 B g (.slice (some ⟨gt, 0, none⟩) n cap) vc vl vd xs ⟨ts, m.cells, m.locks, m.told⟩ (w.setCell ⟨br, i, none⟩ (.int .i64 q)) := by
 subst e
 have hr := (h.ths.ints k hk hk').1
 rw [List.pairwise_append] at ha
 obtain ⟨a1, a2, a3⟩ := ha
 have hmem : (Value.slice (some ⟨br, 0, none⟩) nr cr) ∈ rowsOf xs := List.mem_of_getElem? (by rw [← hx]; exact (rowsOf_at hk').1)
 have hbg : br ≠ g := fun e => hr.neM h.box (by rw [hx, e]; rfl)
 have hne : ∀ v ∈ [vc, vl, vd], ∀ b, v.ownBlock = some b → b ≠ br := fun v hv b e e' => a3 _ hmem v hv br rfl (by rw [e, e'])
 rw [hx] at hr
 exact ⟨h.below.setCell hB _, h.box.set _ _, h.four.setFar _ _ hbg, h.ths.regs a1 hk hk' _ (by rw [hx]; exact grownS _ _ _) (by rw [hx]; exact hr.set_at i q), h.cells.setOther _ (hne vc (by simp)), h.locks.setOther _ (hne vl (by simp)), h.told.setOther _ (hne vd (by simp))⟩
theorem Mid.thsOf {w w' : World} {B b : Nat} {vt : Value} {xs : List (Value × Value)} {ts : List Bt.Th} (h : OwnThs w B vt ts xs) {vb : Value} {ys : List Int} {base : Nat} (hb : IntRow w base vb ys) (hvb : vb.ownBlock = some b) (ha : ∀ u ∈ rowsOf xs, Apart u vb) (hw : Only [vb] w w') : OwnThs w' B vt ts xs :=
 h.only hw (fun u hu => by simp only [List.mem_singleton] at hu; subst hu; exact (h.apart hb).symm) (fun u hu x hx => by simp only [List.mem_singleton] at hu; subst hu; exact (ha x hx).symm)
theorem Mid.setCells {W0 w : World} {B g bc nc cc : Nat} {vt vl vd : Value} {xs : List (Value × Value)} {m : Bt.Mc} (h : Mid W0 B g vt (.slice (some ⟨bc, 0, none⟩) nc cc) vl vd xs m w) (ha : (rowsOf xs ++ [.slice (some ⟨bc, 0, none⟩) nc cc, vl, vd]).Pairwise Apart) (hB : W0.heap.size ≤ bc) (i : Nat) (q : Int) :
  Mid W0 B g vt (.slice (some ⟨bc, 0, none⟩) nc cc) vl vd xs ⟨m.ths, m.cells.set i q, m.locks, m.told⟩ (w.setCell ⟨bc, i, none⟩ (.int .i64 q)) := by
 rw [List.pairwise_append] at ha
 obtain ⟨a1, a2, a3⟩ := ha
 simp only [List.pairwise_cons, List.mem_cons, List.not_mem_nil, or_false, forall_eq_or_imp, forall_eq] at a2
 have hbg : bc ≠ g := fun e => h.cells.neM h.box (by rw [e]; rfl)
 exact ⟨h.below.setCell hB _, h.box.set _ _, h.four.setFar _ _ hbg, Mid.thsOf h.ths h.cells (b := bc) rfl (fun u hu => a3 u hu _ (by simp)) (Only.of_grown (u := .slice (some ⟨bc, 0, none⟩) nc cc) (grownS _ _ _) (by simp)), h.cells.set_at i q, h.locks.setOther _ (fun b e e' => a2.1.1 bc rfl (by rw [e, e'])), h.told.setOther _ (fun b e e' => a2.1.2 bc rfl (by rw [e, e']))⟩
theorem Mid.setLocks {W0 w : World} {B g bl nl cl : Nat} {vt vc vd : Value} {xs : List (Value × Value)} {m : Bt.Mc} (h : Mid W0 B g vt vc (.slice (some ⟨bl, 0, none⟩) nl cl) vd xs m w) (ha : (rowsOf xs ++ [vc, .slice (some ⟨bl, 0, none⟩) nl cl, vd]).Pairwise Apart) (hB : W0.heap.size ≤ bl) (i : Nat) (q : Int) :
  Mid W0 B g vt vc (.slice (some ⟨bl, 0, none⟩) nl cl) vd xs ⟨m.ths, m.cells, m.locks.set i q, m.told⟩ (w.setCell ⟨bl, i, none⟩ (.int .i64 q)) := by
 rw [List.pairwise_append] at ha
 obtain ⟨a1, a2, a3⟩ := ha
 simp only [List.pairwise_cons, List.mem_cons, List.not_mem_nil, or_false, forall_eq_or_imp, forall_eq] at a2
 have hbg : bl ≠ g := fun e => h.locks.neM h.box (by rw [e]; rfl)
 exact ⟨h.below.setCell hB _, h.box.set _ _, h.four.setFar _ _ hbg, Mid.thsOf h.ths h.locks (b := bl) rfl (fun u hu => a3 u hu _ (by simp)) (Only.of_grown (u := .slice (some ⟨bl, 0, none⟩) nl cl) (grownS _ _ _) (by simp)), h.cells.setOther _ (fun b e e' => a2.1.1.symm bl rfl (by rw [e, e'])), h.locks.set_at i q, h.told.setOther _ (fun b e e' => a2.2.1 bl rfl (by rw [e, e']))⟩
structure McOwn (w : World) (B : Nat) (vt vc vl vd : Value) (xs : List (Value × Value)) (m : Bt.Mc) : Prop where
 ths : OwnThs w B vt m.ths xs
 cells : IntRow w B vc m.cells
 locks : IntRow w B vl m.locks
 told : IntRow w B vd m.told
theorem McOwn.keep {w w' : World} {B : Nat} {vt vc vl vd : Value} {xs : List (Value × Value)} {m : Bt.Mc} (h : McOwn w B vt vc vl vd xs m) (hb : Below w.heap.size w w') : McOwn w' B vt vc vl vd xs m := ⟨h.ths.keep hb, h.cells.keep hb, h.locks.keep hb, h.told.keep hb⟩
theorem McOwn.mono {w : World} {B B' : Nat} {vt vc vl vd : Value} {xs : List (Value × Value)} {m : Bt.Mc} (h : McOwn w B vt vc vl vd xs m) (hB : B' ≤ B) : McOwn w B' vt vc vl vd xs m := ⟨h.ths.mono hB, h.cells.mono hB, h.locks.mono hB, h.told.mono hB⟩
theorem McOwn.setOther {w : World} {B : Nat} {vt vc vl vd : Value} {xs : List (Value × Value)} {m : Bt.Mc} (h : McOwn w B vt vc vl vd xs m) {p : Addr} (u : Value) (hp : p.block < B) : McOwn (w.setCell p u) B vt vc vl vd xs m :=
 ⟨h.ths.setOther u hp, h.cells.setOther u (fun b hb => by have := (h.cells.bd b hb).1; omega), h.locks.setOther u (fun b hb => by have := (h.locks.bd b hb).1; omega), h.told.setOther u (fun b hb => by have := (h.told.bd b hb).1; omega)⟩
theorem OwnMc.loose {w : World} {B : Nat} {vt vc vl vd : Value} {xs : List (Value × Value)} {m : Bt.Mc} (h : OwnMc w B vt vc vl vd xs m) : McOwn w B vt vc vl vd xs m := ⟨h.ths, h.cells, h.locks, h.told⟩
def DoSaid (r : Option Bt.Mc) (w : World) (e : Ending) (w' : World) : Prop := match r with
 | none => e = .returned (.tuple #[.agg #[.slice none 0 0, .slice none 0 0, .slice none 0 0, .slice none 0 0], .bool false]) ∧ Below w.heap.size w w'
 | some m => ∃ vt vc vl vd xs, e = .returned (.tuple #[.agg #[vt, vc, vl, vd], .bool true]) ∧ Below w.heap.size w w' ∧ McOwn w' w.heap.size vt vc vl vd xs m
theorem OwnThs.slice {w : World} {B : Nat} {v : Value} {ts : List Bt.Th} {xs : List (Value × Value)} (h : OwnThs w B v ts xs) : ∃ A c, v = .slice A ts.length c := by
 rcases h.forms with ⟨e, e'⟩ | ⟨g, cap, e, _⟩
 ·exact ⟨none, 0, by rw [e, e']; rfl⟩
 ·exact ⟨_, cap, e⟩
theorem Mid.done {w0 W0 w : World} {B g r : Nat} {vt vc vl vd : Value} {xs : List (Value × Value)} {m : Bt.Mc} (h : Mid W0 B g vt vc vl vd xs m w) (B0 : Below w0.heap.size w0 W0) (h1 : w0.heap.size ≤ r) (h2 : r < B) :
  DoSaid (some m) w0 (.returned (.tuple #[.agg #[vt, vc, vl, vd], .bool true])) ((((w.setCell ⟨r, 0, none⟩ vt).setCell ⟨r, 1, none⟩ vc).setCell ⟨r, 2, none⟩ vl).setCell ⟨r, 3, none⟩ vd) := by
 refine ⟨vt, vc, vl, vd, xs, rfl, ?_, ?_⟩
 ·repeat (refine Below.setCell ?_ h1 _)
  exact B0.trans (h.below.mono B0.size)
 ·refine McOwn.mono (B := B) ?_ (by omega)
  repeat (refine McOwn.setOther ?_ _ h2)
  exact ⟨h.ths, h.cells, h.locks, h.told⟩
end Go.Proofs.Ytminfkedkkkhdaa
namespace Go.Proofs.Ytminfkedkkkhdaa
open Go.RowKit
theorem OwnThs.swapStack {w w' : World} {B g n cap : Nat} {ts : List Bt.Th} {xs : List (Value × Value)} (h : OwnThs w B (.slice (some ⟨g, 0, none⟩) n cap) ts xs) (ha : (rowsOf xs).Pairwise Apart) {k : Nat} (hi : k < ts.length) (hi' : k < xs.length)
  (hw : Only [xs[k].2] w w') (v : Value) (ys : List Int) (hv : IntRow w' B v ys) :
  OwnThs (w'.setCell ⟨g, k * 4 + 2, none⟩ v) B (.slice (some ⟨g, 0, none⟩) n cap) (ts.set k ⟨ts[k].pl, ts[k].regs, ys, ts[k].st⟩) (xs.set k (xs[k].1, v)) := by
 have hn : n = ts.length := by
  rcases h.forms with ⟨e, _⟩ | ⟨g', cap', e, _⟩
  ·cases e
  ·injection e with _ e2 _
 subst hn
 have hgs : ∀ u ∈ [xs[k].2], u.ownBlock ≠ some g := fun u hu => by
  simp only [List.mem_singleton] at hu
  subst hu
  exact h.ne (h.ints k hi hi').2
 obtain ⟨r0, r1⟩ := rowsOf_at hi'
 obtain ⟨L, hL, h1⟩ := h.row
 have hl := hL.1
 have hL' : w'.ownsRow B 123 4 (.slice (some ⟨g, 0, none⟩) ts.length cap) ts.length L := by
  refine ⟨hL.1, ?_⟩
  rcases hL.2 with ⟨e, _⟩ | ⟨g', cap', cur, e, hb, hg, hn, hm, hs, ht⟩
  ·cases e
  ·have e0 := e
   injection e0 with e1 _ _
   injection e1 with e1
   injection e1 with e1
   subst e1
   exact .inr ⟨g, cap', cur, e, hb, by rw [hw.block g (Array.getElem?_eq_some_iff.1 hg).1 hgs]; exact hg, hn, hm, hs, ht⟩
 have hty : ∃ c fr, w'.heap[g]? = some (.cells c 123 fr) := by
  rcases hL'.2 with ⟨e, _⟩ | ⟨g', cap', cur, e, hb, hg, _⟩
  ·cases e
  ·injection e with e1 _ _
   injection e1 with e1
   injection e1 with e1
   subst e1
   exact ⟨_, _, hg⟩
 obtain ⟨cT, fT, hT⟩ := hty
 have hset : ∀ {u : Value} {zs : List Int}, IntRow w' B u zs → IntRow (w'.setCell ⟨g, k * 4 + 2, none⟩ v) B u zs := fun hu => hu.setOther v (fun b e e' => hu.neTh hT (by rw [e, e']))
 have hone : ∀ {u : Value} {zs : List Int}, IntRow w B u zs → Apart xs[k].2 u → IntRow w' B u zs := fun hu hap => hu.only hw (fun u' hu' => by simp only [List.mem_singleton] at hu'; subst hu'; exact hap)
 refine ⟨by simp [h.len], ⟨L.set (k * 4 + 2) v, by rw [List.length_set]; exact (hL'.stored (k * 4 + 2) v).1, fun j hj hj' => ?_⟩, fun j hj hj' => ?_⟩
 ·simp only [List.length_set] at hj hj'
  by_cases e : k = j
  ·subst e
   rw [List.getElem_set_self, List.getElem_set_self]
   obtain ⟨a0, a1, a2, a3⟩ := h1 k hi hi'
   refine ⟨?_, ?_, ?_, ?_⟩
   ·rw [List.getElem?_set_ne (by omega)]; exact a0
   ·rw [List.getElem?_set_ne (by omega)]; exact a1
   ·rw [List.getElem?_set_self (by omega)]
   ·rw [List.getElem?_set_ne (by omega)]; exact a3
  ·rw [List.getElem_set_ne e, List.getElem_set_ne e]
   obtain ⟨a0, a1, a2, a3⟩ := h1 j hj hj'
   refine ⟨?_, ?_, ?_, ?_⟩
   all_goals rw [List.getElem?_set_ne (by omega)]
   ·exact a0
   ·exact a1
   ·exact a2
   ·exact a3
 ·simp only [List.length_set] at hj hj'
  obtain ⟨q0, q1⟩ := rowsOf_at hj'
  by_cases e : k = j
  ·subst e
   rw [List.getElem_set_self, List.getElem_set_self]
   exact ⟨hset (hone (h.ints k hi hi').1 (apart_at ha r1 r0 (by omega))), hset hv⟩
  ·rw [List.getElem_set_ne e, List.getElem_set_ne e]
   exact ⟨hset (hone (h.ints j hj hj').1 (apart_at ha r1 q0 (by omega))), hset (hone (h.ints j hj hj').2 (apart_at ha r1 q1 (by omega)))⟩
theorem Mid.push {W0 w w' : World} {B g gt n cap k : Nat} {vc vl vd : Value} {xs : List (Value × Value)} {m : Bt.Mc} (h : OwnMc w B (.slice (some ⟨gt, 0, none⟩) n cap) vc vl vd xs m) (hb : Below W0.heap.size W0 w) (hg : McBox w g) (hf : Four w g (.slice (some ⟨gt, 0, none⟩) n cap) vc vl vd)
  (hB : W0.heap.size ≤ B) (hk : k < m.ths.length) (hk' : k < xs.length) (hw : Only [xs[k].2] w w') (v : Value) (ys : List Int) (hv : IntRow w' B v ys) {ts : List Bt.Th} (e : m.ths.set k ⟨m.ths[k].pl, m.ths[k].regs, ys, m.ths[k].st⟩ = ts) :
  Mid W0 B g (.slice (some ⟨gt, 0, none⟩) n cap) vc vl vd (xs.set k (xs[k].1, v)) ⟨ts, m.cells, m.locks, m.told⟩ (w'.setCell ⟨gt, k * 4 + 2, none⟩ v) := by
 subst e
 have hne := h.ths.neM hg
 have hgg : gt ≠ g := fun e => hne (by rw [e]; rfl)
 obtain ⟨L, hL, _⟩ := h.ths.row
 have hgt : B ≤ gt := (World.ownsRow.lt hL gt rfl).1
 have hr := (h.ths.ints k hk hk').2
 have hgs : ∀ u ∈ [xs[k].2], u.ownBlock ≠ some g := fun u hu => by
  simp only [List.mem_singleton] at hu
  subst hu
  exact hr.neM hg
 have hmem : xs[k].2 ∈ rowsOf xs := List.mem_of_getElem? (rowsOf_at hk').2
 have ha := h.apart
 rw [List.pairwise_append] at ha
 have hrow : ∀ {u : Value} {zs : List Int}, u ∈ [vc, vl, vd] → IntRow w B u zs → IntRow (w'.setCell ⟨gt, k * 4 + 2, none⟩ v) B u zs := fun hm hu =>
  (hu.only hw (fun u' hu' => by simp only [List.mem_singleton] at hu'; subst hu'; exact ha.2.2 _ hmem _ hm)).setOther _ (fun b e e' => h.ths.ne hu (by rw [e, e']))
 exact ⟨(hb.trans (hw.below (fun u hu q e => by simp only [List.mem_singleton] at hu; subst hu; have := (hr.bd q e).1; omega) hb.size)).setCell (by simp; omega) _, (hg.only hw hgs).set _ _, (hf.only hw hgs).setFar _ _ hgg, h.ths.swapStack ha.1 hk hk' hw v ys hv, hrow (by simp) h.cells, hrow (by simp) h.locks, hrow (by simp) h.told⟩
theorem Four.set3 {w : World} {g : Nat} {a b c d : Value} (h : Four w g a b c d) (u : Value) : Four (w.setCell ⟨g, 3, none⟩ u) g a b c u := by
 obtain ⟨h0, h1, h2, h3, f0, f1, f2, f3⟩ := h
 unfold Four
 go_simp
theorem OwnThs.setBox {w : World} {B : Nat} {v : Value} {ts : List Bt.Th} {xs : List (Value × Value)} (h : OwnThs w B v ts xs) (p : Addr) (u : Value) (hp : McBox w p.block) : OwnThs (w.setCell p u) B v ts xs :=
 h.only (only_set w p u) (fun u' hu => by simp only [List.mem_singleton] at hu; subst hu; exact apart_box (h.neM hp)) (fun u' hu x hx => by
  simp only [List.mem_singleton] at hu
  subst hu
  obtain ⟨i, hi, he⟩ := rowsOf_mem hx
  have hi' : i < ts.length := by rw [← h.len]; exact hi
  rcases he with rfl | rfl
  ·exact apart_box ((h.ints i hi' hi).1.neM hp)
  ·exact apart_box ((h.ints i hi' hi).2.neM hp))
theorem IntRow.setBox {w : World} {B : Nat} {v : Value} {xs : List Int} (h : IntRow w B v xs) (p : Addr) (u : Value) (hp : McBox w p.block) : IntRow (w.setCell p u) B v xs := h.setOther u (fun b e e' => h.neM hp (by rw [e, e']))
theorem Mid.tell {W0 w w' : World} {B g : Nat} {vt vc vl vd : Value} {xs : List (Value × Value)} {m : Bt.Mc} (h : OwnMc w B vt vc vl vd xs m) (hb : Below W0.heap.size W0 w) (hg : McBox w g) (hf : Four w g vt vc vl vd)
  (hB : W0.heap.size ≤ B) (hgB : W0.heap.size ≤ g) (hw : Only [vd] w w') (v : Value) (ys : List Int) (hv : IntRow w' B v ys) :
  Mid W0 B g vt vc vl v xs ⟨m.ths, m.cells, m.locks, ys⟩ (w'.setCell ⟨g, 3, none⟩ v) := by
 have ha := h.rows
 have hgs : ∀ u ∈ [vd], u.ownBlock ≠ some g := fun u hu => by
  simp only [List.mem_singleton] at hu
  subst hu
  exact h.told.neM hg
 have hg' := hg.only hw hgs
 exact ⟨(hb.trans (hw.below (fun u hu q e => by simp only [List.mem_singleton] at hu; subst hu; have := (h.told.bd q e).1; omega) hb.size)).setCell (by simp; omega) _, hg'.set _ _, (hf.only hw hgs).set3 _,
  (h.ths.only hw (fun u hu => by simp only [List.mem_singleton] at hu; subst hu; exact (h.ths.apart h.told).symm) (fun u hu x hx => by simp only [List.mem_singleton] at hu; subst hu; exact (ha.2.1 x hx).2.2.symm)).setBox _ _ hg',
  (h.cells.only hw (fun u hu => by simp only [List.mem_singleton] at hu; subst hu; exact ha.2.2.2.1.symm)).setBox _ _ hg', (h.locks.only hw (fun u hu => by simp only [List.mem_singleton] at hu; subst hu; exact ha.2.2.2.2.symm)).setBox _ _ hg', hv.setBox _ _ hg'⟩
theorem ne_of_bd {v : Value} {B g q : Nat} (h : ∀ k, v.ownBlock = some k → B ≤ k ∧ k < g) (hq : q < B ∨ g ≤ q) : ∀ u ∈ [v], u.ownBlock ≠ some q := fun u hu e => by
 simp only [List.mem_singleton] at hu
 subst hu
 have := h q e
 omega
end Go.Proofs.Ytminfkedkkkhdaa
namespace Go.Proofs.Ytminfkedkkkhdaa
open Go.RowKit
namespace Bt
theorem mc_nil (l : List Th) (C L D : List Int) : (⟨l ++ [], C, L, D⟩ : Mc) = ⟨l, C, L, D⟩ := by rw [List.append_nil]
theorem stepM_0 (m : Mc) (k : Nat) (t : Th) (a b c rep : Int) : stepM m k t ⟨0, a, b, c⟩ rep = ⟨m.ths.set k ⟨t.pl, t.regs, t.stack, 1⟩, m.cells, m.locks, m.told⟩ := mc_nil _ _ _ _
theorem stepM_1 (m : Mc) (k : Nat) (t : Th) (a b c rep : Int) : stepM m k t ⟨1, a, b, c⟩ rep = ⟨m.ths.set k ⟨t.pl + 1, t.regs.set a.toNat c, t.stack, t.st⟩, m.cells, m.locks, m.told⟩ := mc_nil _ _ _ _
theorem stepM_2 (m : Mc) (k : Nat) (t : Th) (a b c rep : Int) : stepM m k t ⟨2, a, b, c⟩ rep = ⟨m.ths.set k ⟨t.pl + 1, t.regs.set a.toNat (t.regs.getD b.toNat 0), t.stack, t.st⟩, m.cells, m.locks, m.told⟩ := mc_nil _ _ _ _
theorem stepM_3 (m : Mc) (k : Nat) (t : Th) (a b c rep : Int) : stepM m k t ⟨3, a, b, c⟩ rep = ⟨m.ths.set k ⟨t.pl + 1, t.regs.set a.toNat ((t.regs.getD a.toNat 0 + t.regs.getD b.toNat 0) % 10000), t.stack, t.st⟩, m.cells, m.locks, m.told⟩ := mc_nil _ _ _ _
theorem stepM_4 (m : Mc) (k : Nat) (t : Th) (a b c rep : Int) : stepM m k t ⟨4, a, b, c⟩ rep = ⟨m.ths.set k ⟨t.pl + 1, t.regs.set a.toNat ((t.regs.getD a.toNat 0 + 10000 - t.regs.getD b.toNat 0) % 10000), t.stack, t.st⟩, m.cells, m.locks, m.told⟩ := mc_nil _ _ _ _
theorem stepM_5 (m : Mc) (k : Nat) (t : Th) (a b c rep : Int) : stepM m k t ⟨5, a, b, c⟩ rep = ⟨m.ths.set k ⟨t.pl + 1, t.regs.set a.toNat (t.regs.getD a.toNat 0 * t.regs.getD b.toNat 0 % 10000), t.stack, t.st⟩, m.cells, m.locks, m.told⟩ := mc_nil _ _ _ _
theorem stepM_6 (m : Mc) (k : Nat) (t : Th) (a b c rep : Int) : stepM m k t ⟨6, a, b, c⟩ rep = ⟨m.ths.set k ⟨t.pl + 1, t.regs.set a.toNat (if t.regs.getD a.toNat 0 < t.regs.getD b.toNat 0 then 1 else 0), t.stack, t.st⟩, m.cells, m.locks, m.told⟩ := mc_nil _ _ _ _
theorem stepM_6t (m : Mc) (k : Nat) (t : Th) (a b c rep : Int) (h : t.regs.getD a.toNat 0 < t.regs.getD b.toNat 0) : stepM m k t ⟨6, a, b, c⟩ rep = ⟨m.ths.set k ⟨t.pl + 1, t.regs.set a.toNat 1, t.stack, t.st⟩, m.cells, m.locks, m.told⟩ := by rw [stepM_6, if_pos h]
theorem stepM_6f (m : Mc) (k : Nat) (t : Th) (a b c rep : Int) (h : ¬ t.regs.getD a.toNat 0 < t.regs.getD b.toNat 0) : stepM m k t ⟨6, a, b, c⟩ rep = ⟨m.ths.set k ⟨t.pl + 1, t.regs.set a.toNat 0, t.stack, t.st⟩, m.cells, m.locks, m.told⟩ := by rw [stepM_6, if_neg h]
theorem stepM_7 (m : Mc) (k : Nat) (t : Th) (a b c rep : Int) : stepM m k t ⟨7, a, b, c⟩ rep = ⟨m.ths.set k ⟨t.pl + 1, t.regs.set a.toNat (m.cells.getD (cellOf ⟨7, a, b, c⟩ t.regs).toNat 0), t.stack, t.st⟩, m.cells, m.locks, m.told⟩ := mc_nil _ _ _ _
theorem stepM_8 (m : Mc) (k : Nat) (t : Th) (a b c rep : Int) : stepM m k t ⟨8, a, b, c⟩ rep = ⟨m.ths.set k ⟨t.pl + 1, t.regs, t.stack, t.st⟩, m.cells.set (cellOf ⟨8, a, b, c⟩ t.regs).toNat (t.regs.getD a.toNat 0), m.locks, m.told⟩ := mc_nil _ _ _ _
theorem stepM_9 (m : Mc) (k : Nat) (t : Th) (a b c rep : Int) : stepM m k t ⟨9, a, b, c⟩ rep = ⟨m.ths.set k ⟨c, t.regs, t.stack, t.st⟩, m.cells, m.locks, m.told⟩ := mc_nil _ _ _ _
theorem stepM_10 (m : Mc) (k : Nat) (t : Th) (a b c rep : Int) : stepM m k t ⟨10, a, b, c⟩ rep = ⟨m.ths.set k ⟨if t.regs.getD a.toNat 0 = 0 then c else t.pl + 1, t.regs, t.stack, t.st⟩, m.cells, m.locks, m.told⟩ := mc_nil _ _ _ _
theorem stepM_10t (m : Mc) (k : Nat) (t : Th) (a b c rep : Int) (h : t.regs.getD a.toNat 0 = 0) : stepM m k t ⟨10, a, b, c⟩ rep = ⟨m.ths.set k ⟨c, t.regs, t.stack, t.st⟩, m.cells, m.locks, m.told⟩ := by rw [stepM_10, if_pos h]
theorem stepM_10f (m : Mc) (k : Nat) (t : Th) (a b c rep : Int) (h : ¬ t.regs.getD a.toNat 0 = 0) : stepM m k t ⟨10, a, b, c⟩ rep = ⟨m.ths.set k ⟨t.pl + 1, t.regs, t.stack, t.st⟩, m.cells, m.locks, m.told⟩ := by rw [stepM_10, if_neg h]
theorem stepM_11 (m : Mc) (k : Nat) (t : Th) (a b c rep : Int) : stepM m k t ⟨11, a, b, c⟩ rep = ⟨m.ths.set k ⟨c, t.regs, t.stack ++ [t.pl + 1], t.st⟩, m.cells, m.locks, m.told⟩ := mc_nil _ _ _ _
theorem stepM_12 (m : Mc) (k : Nat) (t : Th) (a b c rep : Int) : stepM m k t ⟨12, a, b, c⟩ rep = ⟨m.ths.set k ⟨t.stack.getLastD 0, t.regs, t.stack.take (t.stack.length - 1), t.st⟩, m.cells, m.locks, m.told⟩ := mc_nil _ _ _ _
theorem stepM_13 (m : Mc) (k : Nat) (t : Th) (a b c rep : Int) : stepM m k t ⟨13, a, b, c⟩ rep = ⟨m.ths.set k ⟨t.pl + 1, t.regs.set a.toNat rep, t.stack, t.st⟩, m.cells, m.locks, m.told⟩ := mc_nil _ _ _ _
theorem stepM_14 (m : Mc) (k : Nat) (t : Th) (a b c rep : Int) : stepM m k t ⟨14, a, b, c⟩ rep = ⟨m.ths.set k ⟨t.pl + 1, t.regs, t.stack, t.st⟩, m.cells, m.locks, m.told ++ [t.regs.getD a.toNat 0]⟩ := mc_nil _ _ _ _
theorem stepM_15 (m : Mc) (k : Nat) (t : Th) (a b c rep : Int) : stepM m k t ⟨15, a, b, c⟩ rep = ⟨m.ths.set k ⟨t.pl + 1, t.regs, t.stack, t.st⟩, m.cells, m.locks.set c.toNat k, m.told⟩ := mc_nil _ _ _ _
theorem stepM_16 (m : Mc) (k : Nat) (t : Th) (a b c rep : Int) : stepM m k t ⟨16, a, b, c⟩ rep = ⟨m.ths.set k ⟨t.pl + 1, t.regs, t.stack, t.st⟩, m.cells, m.locks.set c.toNat (-1), m.told⟩ := mc_nil _ _ _ _
theorem stepM_17 (m : Mc) (k : Nat) (t : Th) (a b c rep : Int) : stepM m k t ⟨17, a, b, c⟩ rep = ⟨m.ths.set k ⟨t.pl + 1, t.regs, t.stack, t.st⟩ ++ [⟨c, t.regs, [], 0⟩], m.cells, m.locks, m.told⟩ := rfl
end Bt
theorem DoSaid.keep {r : Option Bt.Mc} {w w' w'' : World} {e : Ending} (h : DoSaid r w e w') (hb : Below w'.heap.size w' w'') : DoSaid r w e w'' := by
 cases r with
 | none => exact ⟨h.1, below_then h.2 hb⟩
 | some m =>
  obtain ⟨vt, vc, vl, vd, xs, e, h1, h2⟩ := h
  exact ⟨vt, vc, vl, vd, xs, e, below_then h1 hb, h2.keep hb⟩
theorem Mid.regPl {W0 w : World} {B g gt n cap k br nr cr : Nat} {vc vl vd : Value} {xs : List (Value × Value)} {m : Bt.Mc} (h : Mid W0 B g (.slice (some ⟨gt, 0, none⟩) n cap) vc vl vd xs m w) (ha : (rowsOf xs ++ [vc, vl, vd]).Pairwise Apart) (hB : W0.heap.size ≤ br) (hB' : W0.heap.size ≤ gt) (hk : k < m.ths.length) (hk' : k < xs.length)
  (hx : xs[k].1 = .slice (some ⟨br, 0, none⟩) nr cr) (i : Nat) (q p : Int) {ts : List Bt.Th} (e : m.ths.set k ⟨p, m.ths[k].regs.set i q, m.ths[k].stack, m.ths[k].st⟩ = ts) :
  Mid W0 B g (.slice (some ⟨gt, 0, none⟩) n cap) vc vl vd xs ⟨ts, m.cells, m.locks, m.told⟩ ((w.setCell ⟨br, i, none⟩ (.int .i64 q)).setCell ⟨gt, k * 4, none⟩ (.int .i64 p)) :=
 (h.setReg ha hB hk hk' hx i q rfl).setPl hB' (by simpa using hk) p (by subst e; simp)
theorem Mid.regsPl {W0 w : World} {B g gt n cap k br nr cr : Nat} {vc vl vd : Value} {xs : List (Value × Value)} {m : Bt.Mc} (h : Mid W0 B g (.slice (some ⟨gt, 0, none⟩) n cap) vc vl vd xs m w) (ha : (rowsOf xs ++ [vc, vl, vd]).Pairwise Apart) (hB : W0.heap.size ≤ br) (hB' : W0.heap.size ≤ gt) (hk : k < m.ths.length) (hk' : k < xs.length)
  (hx : xs[k].1 = .slice (some ⟨br, 0, none⟩) nr cr) (i : Nat) (q' q p : Int) {ts : List Bt.Th} (e : m.ths.set k ⟨p, m.ths[k].regs.set i q, m.ths[k].stack, m.ths[k].st⟩ = ts) :
  Mid W0 B g (.slice (some ⟨gt, 0, none⟩) n cap) vc vl vd xs ⟨ts, m.cells, m.locks, m.told⟩ (((w.setCell ⟨br, i, none⟩ (.int .i64 q')).setCell ⟨br, i, none⟩ (.int .i64 q)).setCell ⟨gt, k * 4, none⟩ (.int .i64 p)) :=
 (h.setReg ha hB hk hk' hx i q' rfl).regPl ha hB hB' (by simpa using hk) hk' hx i q p (by subst e; simp)
theorem Mid.stPl {W0 w : World} {B g gt n cap k : Nat} {vc vl vd : Value} {xs : List (Value × Value)} {m : Bt.Mc} (h : Mid W0 B g (.slice (some ⟨gt, 0, none⟩) n cap) vc vl vd xs m w) (hB : W0.heap.size ≤ gt) (hk : k < m.ths.length) (q p : Int) {ts : List Bt.Th} (e : m.ths.set k ⟨p, m.ths[k].regs, m.ths[k].stack, q⟩ = ts) :
  Mid W0 B g (.slice (some ⟨gt, 0, none⟩) n cap) vc vl vd xs ⟨ts, m.cells, m.locks, m.told⟩ ((w.setCell ⟨gt, k * 4 + 3, none⟩ (.int .i64 q)).setCell ⟨gt, k * 4, none⟩ (.int .i64 p)) :=
 (h.setSt hB hk q rfl).setPl hB (by simpa using hk) p (by subst e; simp)
theorem IntRow.frz {w : World} {base g n cap : Nat} {xs : List Int} (h : IntRow w base (.slice (some ⟨g, 0, none⟩) n cap) xs) (j : Nat) : w.frozen? ⟨g, j, none⟩ = false := by
 have hn : xs.length = n := by
  rcases h.forms with ⟨e, _⟩ | ⟨g', cap', e, _⟩
  ·cases e
  ·injection e with _ e2 _; exact e2.symm
 subst hn
 exact World.ownsRow.frozenAt h j
theorem IntRow.at_ {w : World} {base g n cap : Nat} {xs : List Int} (h : IntRow w base (.slice (some ⟨g, 0, none⟩) n cap) xs) (j : Nat) (hj : j < xs.length) : w.cell? ⟨g, j, none⟩ = some (.int .i64 xs[j]) := by
 have hn : xs.length = n := by
  rcases h.forms with ⟨e, _⟩ | ⟨g', cap', e, _⟩
  ·cases e
  ·injection e with _ e2 _; exact e2.symm
 subst hn
 exact h.cell j hj
theorem IntRow.empty {w : World} {B g : Nat} (hB : B ≤ g) (h : w.heap[g]? = some (.cells #[] 3)) : IntRow w B (.slice (some ⟨g, 0, none⟩) 0 0) [] :=
 ⟨by simp, .inr ⟨g, 0, #[], rfl, hB, h, Nat.le_refl _, by unfold maxLen; omega, rfl, rfl⟩⟩
theorem IntRow.apart_empty {w : World} {B g : Nat} {v : Value} {ys : List Int} (h : IntRow w B v ys) (hne : 0 < ys.length) (hg : w.heap[g]? = some (.cells #[] 3)) : Apart v (.slice (some ⟨g, 0, none⟩) 0 0) := by
 intro k hk hk'
 simp only [Value.ownBlock, Option.some.injEq] at hk'
 subst hk'
 rcases h.forms with ⟨_, e⟩ | ⟨g', cap', e, _⟩
 ·rw [e] at hne; simp at hne
 ·subst e
  simp only [Value.ownBlock, Option.some.injEq] at hk
  subst hk
  have := h.at_ 0 hne
  simp [World.cell?, hg] at this
theorem Mid.grow {W0 w w' : World} {B g : Nat} {vt vc vl vd v' : Value} {xs' : List (Value × Value)} {m' : Bt.Mc} (h : OwnMc w' B v' vc vl vd xs' m') (hb : Below W0.heap.size W0 w) (hg : McBox w g) (hf : Four w g vt vc vl vd)
  (hw : Only [vt] w w') (hvt : ∀ u ∈ [vt], u.ownBlock ≠ some g) (hvB : ∀ u ∈ [vt], ∀ k, u.ownBlock = some k → W0.heap.size ≤ k) (hgB : W0.heap.size ≤ g) : Mid W0 B g v' vc vl vd xs' m' (w'.setCell ⟨g, 0, none⟩ v') := by
 have hg' := hg.only hw hvt
 have hO := h.setBox ⟨g, 0, none⟩ v' hg'
 exact ⟨(hb.trans (hw.below hvB hb.size)).setCell hgB _, hg'.set _ _, (hf.only hw hvt).set0 _, hO.ths, hO.cells, hO.locks, hO.told⟩
theorem Only.lit_grown {w w2 : World} {o : Obj} (v : Value) (h : (w.alloc o).grownBy w2 v.ownBlock) : Only [v] w w2 :=
 Only.trans (Only.of_below ((Below.refl w.heap.size w).alloc (Nat.le_refl _) o)) (Only.of_grown h List.mem_cons_self)
theorem Bt.codeOk_in {op a b c : Int} (h : Bt.codeOk op a b c = true) : 0 ≤ op ∧ op ≤ 17 := by
 unfold Bt.codeOk Bt.uOk at h
 simp only [Bool.and_eq_true, decide_eq_true_eq] at h
 exact h.1.1.1
end Go.Proofs.Ytminfkedkkkhdaa
