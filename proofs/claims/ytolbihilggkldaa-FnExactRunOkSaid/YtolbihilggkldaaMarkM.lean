/-
  How the laws mark and look at machines: contracts.
-/
import Derived.Test.YtolbihilggkldaaOwn
namespace Go.Proofs.Ytolbihilggkldaa
open Go.RowKit

section
variable {w w' : World} {B g n cap : Nat} {ts : List Bt.Th} {xs : List (Value × Value)} {i : Nat} {t : Bt.Th} {x : Value × Value}
theorem OwnThs.setPl' (h : OwnThs w B (.slice (some ⟨g, 0, none⟩) n cap) ts xs) (ht : ts[i]? = some t) (q : Int) : OwnThs (w.setCell ⟨g, i * 4, none⟩ (.int .i64 q)) B (.slice (some ⟨g, 0, none⟩) n cap) (ts.set i ⟨q, t.regs, t.stack, t.st⟩) xs := by
  obtain ⟨hi, rfl⟩ := List.getElem?_eq_some_iff.1 ht
  exact h.setPl hi q
theorem OwnThs.setSt' (h : OwnThs w B (.slice (some ⟨g, 0, none⟩) n cap) ts xs) (ht : ts[i]? = some t) (q : Int) : OwnThs (w.setCell ⟨g, i * 4 + 3, none⟩ (.int .i64 q)) B (.slice (some ⟨g, 0, none⟩) n cap) (ts.set i ⟨t.pl, t.regs, t.stack, q⟩) xs := by
  obtain ⟨hi, rfl⟩ := List.getElem?_eq_some_iff.1 ht
  exact h.setSt hi q
theorem OwnThs.setStack' (h : OwnThs w B (.slice (some ⟨g, 0, none⟩) n cap) ts xs) (ht : ts[i]? = some t) (hx : xs[i]? = some x) (v : Value) (ys : List Int) (hv : IntRow w B v ys) : OwnThs (w.setCell ⟨g, i * 4 + 2, none⟩ v) B (.slice (some ⟨g, 0, none⟩) n cap) (ts.set i ⟨t.pl, t.regs, ys, t.st⟩) (xs.set i (x.1, v)) := by
  obtain ⟨hi, rfl⟩ := List.getElem?_eq_some_iff.1 ht
  obtain ⟨hi', rfl⟩ := List.getElem?_eq_some_iff.1 hx
  exact h.setStack hi hi' v ys hv
theorem OwnThs.regs' (h : OwnThs w B (.slice (some ⟨g, 0, none⟩) n cap) ts xs) (ha : (rowsOf xs).Pairwise Apart) (ht : ts[i]? = some t) (hx : xs[i]? = some x) (ys : List Int) (hg : w.grownBy w' x.1.ownBlock) (hr : IntRow w' B x.1 ys) :
    OwnThs w' B (.slice (some ⟨g, 0, none⟩) n cap) (ts.set i ⟨t.pl, ys, t.stack, t.st⟩) xs := by
  obtain ⟨hi, rfl⟩ := List.getElem?_eq_some_iff.1 ht
  obtain ⟨hi', rfl⟩ := List.getElem?_eq_some_iff.1 hx
  exact h.regs ha hi hi' ys hg hr
theorem OwnThs.stack' (h : OwnThs w B (.slice (some ⟨g, 0, none⟩) n cap) ts xs) (ha : (rowsOf xs).Pairwise Apart) (ht : ts[i]? = some t) (hx : xs[i]? = some x) (ys : List Int) (hg : w.grownBy w' x.2.ownBlock) (hr : IntRow w' B x.2 ys) :
    OwnThs w' B (.slice (some ⟨g, 0, none⟩) n cap) (ts.set i ⟨t.pl, t.regs, ys, t.st⟩) xs := by
  obtain ⟨hi, rfl⟩ := List.getElem?_eq_some_iff.1 ht
  obtain ⟨hi', rfl⟩ := List.getElem?_eq_some_iff.1 hx
  exact h.stack ha hi hi' ys hg hr
theorem OwnThs.cells' (h : OwnThs w B (.slice (some ⟨g, 0, none⟩) n cap) ts xs) (ht : ts[i]? = some t) (hx : xs[i]? = some x) :
    w.cell? ⟨g, i * 4, none⟩ = some (.int .i64 t.pl) ∧ w.cell? ⟨g, i * 4 + 1, none⟩ = some x.1 ∧ w.cell? ⟨g, i * 4 + 2, none⟩ = some x.2 ∧ w.cell? ⟨g, i * 4 + 3, none⟩ = some (.int .i64 t.st) := by
  obtain ⟨hi, rfl⟩ := List.getElem?_eq_some_iff.1 ht
  obtain ⟨hi', rfl⟩ := List.getElem?_eq_some_iff.1 hx
  exact h.cells hi hi'
theorem OwnThs.ints' {v : Value} (h : OwnThs w B v ts xs) (ht : ts[i]? = some t) (hx : xs[i]? = some x) : IntRow w B x.1 t.regs ∧ IntRow w B x.2 t.stack := by
  obtain ⟨hi, rfl⟩ := List.getElem?_eq_some_iff.1 ht
  obtain ⟨hi', rfl⟩ := List.getElem?_eq_some_iff.1 hx
  exact h.ints i hi hi'
end

/-- a thread marked from k on -/
def markTh (k : Int) (t : Bt.Th) : Bt.Th := ⟨k, marks (k + 1) t.regs.length, marks (k + 1 + t.regs.length) t.stack.length, k + 1 + t.regs.length + t.stack.length⟩
/-- how many marks lie ahead of thread i -/
def offTh (ts : List Bt.Th) (i : Nat) : Int := Bt.sumTh (ts.take i) + 2 * i
theorem offTh_zero (ts : List Bt.Th) : offTh ts 0 = 0 := by simp [offTh, Bt.sumTh]
theorem offTh_succ {ts : List Bt.Th} {i : Nat} {t : Bt.Th} (h : ts[i]? = some t) : offTh ts (i + 1) = offTh ts i + t.regs.length + t.stack.length + 2 := by
  obtain ⟨hi, rfl⟩ := List.getElem?_eq_some_iff.1 h
  unfold offTh
  rw [Bt.sumTh_succ hi]
  push_cast
  omega
theorem offTh_nn (ts : List Bt.Th) (i : Nat) : 0 ≤ offTh ts i := by unfold offTh; omega
theorem offTh_le {ts : List Bt.Th} {i : Nat} (h : i ≤ ts.length) : offTh ts i ≤ offTh ts ts.length := by
  unfold offTh
  have := Bt.sumTh_le ts i
  rw [List.take_length]
  omega
/-- threads marked from k on -/
def markThs (k : Int) (ts : List Bt.Th) : List Bt.Th := ts.mapIdx fun i t => markTh (k + offTh ts i) t
theorem markThs_length (k : Int) (ts : List Bt.Th) : (markThs k ts).length = ts.length := by simp [markThs]
theorem markThs_at (k : Int) (ts : List Bt.Th) {i : Nat} {t : Bt.Th} (h : ts[i]? = some t) : (markThs k ts)[i]? = some (markTh (k + offTh ts i) t) := by
  unfold markThs
  rw [List.getElem?_mapIdx, h]
  rfl

set_option maxHeartbeats 2000000 in
theorem markThreads_any (B : Nat) (v : Value) (ts : List Bt.Th) (xs : List (Value × Value)) (k : Int) (w : World) (H : OwnThs w B v ts xs) (ha : (rowsOf xs).Pairwise Apart)
    (h0 : 0 ≤ k) (h1 : k + offTh ts ts.length ≤ 1099511627776) :
    Calls Try.prog 49 #[v, .int .i64 k] w fun e w' => e = .returned (.int .i64 (k + offTh ts ts.length)) ∧ Only (v :: rowsOf xs) w w' ∧ OwnThs w' B v (markThs k ts) xs := by
  generalize hN : ts.length = n at *
  have hform : (v = .slice none 0 0 ∧ ts = []) ∨ ∃ g cap, v = .slice (some ⟨g, 0, none⟩) n cap ∧ n ≤ cap := by
    rcases H.forms with h | ⟨g, cap, e, _, _, hc, _⟩
    · exact .inl h
    · rw [hN] at e hc
      exact .inr ⟨g, cap, e, hc⟩
  have HN := Lib.hid hN; clear hN
  have HA := Lib.hid ha; clear ha
  rcases hform with ⟨rfl, rfl⟩ | ⟨g, cap, rfl, hc⟩
  · have hn : n = 0 := HN.out.symm
    subst hn
    have HO := Lib.hid H; clear H
    rw [offTh_zero]
    go_enter Try.func49, Try.ntmps49
    go_wp2
    go_loop [1, 5] (fun t i => t = .int .i64 k ∧ i = .int .i64 0) (fun _ _ => 0)
    case atStart => exact ⟨rfl, rfl⟩
    case round =>
      obtain ⟨rfl, rfl⟩ := hrel
      go_wp2
      go_ret
      exact ⟨ret_int (by omega), Only.refl _ _, HO.out⟩
  · have HO := Lib.hid H; clear H
    have hnb : n ≤ 1099511627776 := by
      have : offTh ts n = Bt.sumTh (ts.take n) + 2 * n := rfl
      omega
    have HX : Hid (∀ (i : Nat) (x : Value × Value), xs[i]? = some x → x.1 ∈ Value.slice (some ⟨g, 0, none⟩) n cap :: rowsOf xs ∧ x.2 ∈ Value.slice (some ⟨g, 0, none⟩) n cap :: rowsOf xs) := Lib.hid (fun i x hx => by
      obtain ⟨hi', rfl⟩ := List.getElem?_eq_some_iff.1 hx
      obtain ⟨r0, r1⟩ := rowsOf_at hi'
      exact ⟨List.mem_cons_of_mem _ (List.mem_of_getElem? r0), List.mem_cons_of_mem _ (List.mem_of_getElem? r1)⟩)
    go_enter Try.func49, Try.ntmps49
    go_wp2
    go_loopw [1, 5] (fun t i wr => ∃ m : Nat, m ≤ n ∧ i = .int .i64 m ∧ t = .int .i64 (k + offTh ts m) ∧ Only (.slice (some ⟨g, 0, none⟩) n cap :: rowsOf xs) w wr ∧ ∃ ts' : List Bt.Th, ts'.length = n ∧ OwnThs wr B (.slice (some ⟨g, 0, none⟩) n cap) ts' xs ∧ (∀ j t, j < m → ts[j]? = some t → ts'[j]? = some (markTh (k + offTh ts j) t)) ∧ (∀ j, m ≤ j → ts'[j]? = ts[j]?)) (fun _ i _ => n - (intOf i).toNat)
    case atStart => exact ⟨0, Nat.zero_le _, rfl, by rw [offTh_zero]; simp, Only.refl _ _, ts, HN.out, HO.out, fun _ _ hj => absurd hj (by omega), fun _ _ => rfl⟩
    case round =>
      obtain ⟨m, hm, rfl, rfl, hw, ts', hl', hown, hold, hnew⟩ := hrel
      have HW := Lib.hid hw; clear hw
      have HL := Lib.hid hl'; clear hl'
      have HO' := Lib.hid hown; clear hown
      have HOLD := Lib.hid hold; clear hold
      have HNEW := Lib.hid hnew; clear hnew
      by_cases hlt : m < n
      · obtain ⟨th, hth⟩ : ∃ th, ts[m]? = some th := ⟨ts[m]'(by rw [HN.out]; exact hlt), List.getElem?_eq_getElem _⟩
        obtain ⟨x, hx⟩ : ∃ x, xs[m]? = some x := ⟨xs[m]'(by rw [HO'.out.len, HL.out]; exact hlt), List.getElem?_eq_getElem _⟩
        have ht' : ts'[m]? = some th := (HNEW.out m (Nat.le_refl _)).trans hth
        have hoff := offTh_succ hth
        have hle : offTh ts (m + 1) ≤ offTh ts n := by
          have := offTh_le (ts := ts) (i := m + 1) (by have := HN.out; omega)
          rw [HN.out] at this
          exact this
        have hnn := offTh_nn ts m
        obtain ⟨c0, c1, c2, c3⟩ := HO'.out.cells' ht' hx
        have z0 := HO'.out.frozen (m * 4)
        have hcap : m < cap := by omega
        have hmn : m < ts'.length := by rw [HL.out]; exact hlt
        obtain ⟨q, hq⟩ : ∃ q : Int, q = k + offTh ts m := ⟨_, rfl⟩
        have q0 : 0 ≤ q := by omega
        have q1 : q + th.regs.length + th.stack.length + 2 ≤ 1099511627776 := by omega
        have HQ := Lib.hid hq
        have HOFF := Lib.hid hoff
        have O1 := Lib.hid (HO'.out.setPl' ht' q)
        have HTH := Lib.hid hth; have HXX := Lib.hid hx
        rw [← hq]
        clear hq hoff hle hnn hth hx ht'
        have T1 : Hid ((ts'.set m ⟨q, th.regs, th.stack, th.st⟩)[m]? = some ⟨q, th.regs, th.stack, th.st⟩) := Lib.hid (List.getElem?_set_self hmn)
        have J1 := Lib.hid ((O1.out.ints' T1.out HXX.out).1)
        go_wp2_with fail
        refine (markInts_any B x.1 th.regs (q + 1) _ (by omega) (by omega) (by omega) J1.out).mono ?_
        rintro e w2 ⟨rfl, hg2, hr2⟩
        have O2 := Lib.hid (O1.out.regs' HA.out T1.out HXX.out _ hg2 hr2)
        have W2 := Lib.hid ((HW.out.set List.mem_cons_self (p := ⟨g, m * 4, none⟩) rfl (.int .i64 q)).trans (Only.of_grown hg2 (HX.out m x HXX.out).1))
        clear hg2 hr2
        have T2 : Hid (((ts'.set m ⟨q, th.regs, th.stack, th.st⟩).set m ⟨q, marks (q + 1) th.regs.length, th.stack, th.st⟩)[m]? = some ⟨q, marks (q + 1) th.regs.length, th.stack, th.st⟩) := Lib.hid (List.getElem?_set_self (by rw [List.length_set]; exact hmn))
        have J2 := Lib.hid ((O2.out.ints' T2.out HXX.out).2)
        obtain ⟨d0, d1, d2, d3⟩ := O2.out.cells' T2.out HXX.out
        clear c0 c1 c2 c3 z0 d0 d1 d3
        go_wp2_with fail
        refine (markInts_any B x.2 th.stack (q + 1 + th.regs.length) _ (by omega) (by omega) (by omega) J2.out).mono ?_
        rintro e w3 ⟨rfl, hg3, hr3⟩
        have O3 := Lib.hid (O2.out.stack' HA.out T2.out HXX.out _ hg3 hr3)
        have W3 := Lib.hid (W2.out.trans (Only.of_grown hg3 (HX.out m x HXX.out).2))
        clear hg3 hr3 d2
        have T3 : Hid ((((ts'.set m ⟨q, th.regs, th.stack, th.st⟩).set m ⟨q, marks (q + 1) th.regs.length, th.stack, th.st⟩).set m ⟨q, marks (q + 1) th.regs.length, marks (q + 1 + th.regs.length) th.stack.length, th.st⟩)[m]? = some ⟨q, marks (q + 1) th.regs.length, marks (q + 1 + th.regs.length) th.stack.length, th.st⟩) := Lib.hid (List.getElem?_set_self (by rw [List.length_set, List.length_set]; exact hmn))
        obtain ⟨d0, d1, d2, d3⟩ := O3.out.cells' T3.out HXX.out
        have z3 := O3.out.frozen (m * 4 + 3)
        have O4 := Lib.hid (O3.out.setSt' T3.out (q + 1 + th.regs.length + th.stack.length))
        clear d0 d1 d2
        go_wp2
        go_roundw
        case rel =>
          refine ⟨m + 1, by omega, by go_num, ?_, W3.out.set List.mem_cons_self (p := ⟨g, m * 4 + 3, none⟩) rfl _, _, ?_, O4.out, fun j t hj ht => ?_, fun j hj => ?_⟩
          · rw [HOFF.out]
            have := HQ.out
            go_num
          · simp only [List.length_set]; exact HL.out
          · by_cases e : m = j
            · subst e
              rw [HTH.out] at ht
              injection ht with ht
              subst ht
              rw [List.getElem?_set_self (by simp only [List.length_set]; exact hmn), ← HQ.out]
              rfl
            · rw [List.getElem?_set_ne e, List.getElem?_set_ne e, List.getElem?_set_ne e, List.getElem?_set_ne e]
              exact HOLD.out j t (by omega) ht
          · rw [List.getElem?_set_ne (by omega), List.getElem?_set_ne (by omega), List.getElem?_set_ne (by omega), List.getElem?_set_ne (by omega)]
            exact HNEW.out j (by omega)
        case measure => simp [intOf]; omega
      · obtain rfl : m = n := by omega
        have HE : Hid (ts' = markThs k ts) := Lib.hid (List.ext_getElem? (fun j => by
          by_cases hj : j < m
          · have hj' : j < ts.length := by rw [HN.out]; exact hj
            rw [HOLD.out j ts[j] hj (List.getElem?_eq_getElem hj'), markThs_at k ts (List.getElem?_eq_getElem hj')]
          · rw [List.getElem?_eq_none (by rw [HL.out]; omega), List.getElem?_eq_none (by rw [markThs_length, HN.out]; omega)]))
        go_wp2
        go_ret
        exact ⟨rfl, HW.out, HE.out ▸ HO'.out⟩

set_option maxHeartbeats 2000000 in
theorem heldThreads_any {A : Option Addr} {n cap : Nat} {ts : List Bt.Th} {w : World} (k : Int) (H : ArgThs w A n cap (markThs k ts)) (h0 : 0 ≤ k) (h1 : k + offTh ts ts.length ≤ 1099511627776) :
    Calls Try.prog 51 #[.slice A n cap, .int .i64 k] w fun e w' => e = .returned (.int .i64 (k + offTh ts ts.length)) ∧ w = w' := by
  have hN : ts.length = n := by rw [← H.1, markThs_length]
  have hcap := H.2.1
  have HH := Lib.hid H; clear H
  rw [hN] at h1 ⊢
  have HN := Lib.hid hN; clear hN
  have hnb : n ≤ 1099511627776 := by
    have : offTh ts n = Bt.sumTh (ts.take n) + 2 * n := rfl
    omega
  go_enter Try.func51, Try.ntmps51
  go_wp2
  go_loop [1, 5] (fun t i => ∃ m : Nat, m ≤ n ∧ i = .int .i64 m ∧ t = .int .i64 (k + offTh ts m)) (fun _ i => n - (intOf i).toNat)
  case atStart => exact ⟨0, Nat.zero_le _, rfl, by rw [offTh_zero]; simp⟩
  case round =>
    obtain ⟨m, hm, rfl, rfl⟩ := hrel
    by_cases hlt : m < n
    · obtain ⟨th, hth⟩ : ∃ th, ts[m]? = some th := ⟨ts[m]'(by rw [HN.out]; exact hlt), List.getElem?_eq_getElem _⟩
      have hmk := markThs_at k ts hth
      obtain ⟨hml, hme⟩ := List.getElem?_eq_some_iff.1 hmk
      obtain ⟨bt, ot, rfl, ht⟩ := HH.out.2.2 m hml
      rw [hme] at ht
      obtain ⟨AR, cr, AS, cs, HT, f0, f1, f2, f3⟩ := ht.open
      have hoff := offTh_succ hth
      have hle : offTh ts (m + 1) ≤ offTh ts n := by
        have := offTh_le (ts := ts) (i := m + 1) (by have := HN.out; omega)
        rw [HN.out] at this
        exact this
      have hnn := offTh_nn ts m
      obtain ⟨q, hq⟩ : ∃ q : Int, q = k + offTh ts m := ⟨_, rfl⟩
      have q0 : 0 ≤ q := by omega
      have q1 : q + th.regs.length + th.stack.length + 2 ≤ 1099511627776 := by omega
      have HQ := Lib.hid hq
      have HOFF := Lib.hid hoff
      rw [← hq] at f0 f1 f2 f3 HT ⊢
      simp only [markTh, marks_length] at f0 f1 f2 f3 HT
      have HR := Lib.hid HT.regs; have HS := Lib.hid HT.stack
      clear hq hoff hle hnn hth hmk hml hme ht HT
      generalize th.regs.length = nr at *
      generalize th.stack.length = ns at *
      go_wp2_with fail
      refine (heldInts_any _ (q + 1) nr _ (by omega) (by omega) (by omega) HR.out).mono ?_
      rintro e w' ⟨rfl, rfl⟩
      go_wp2_with fail
      refine (heldInts_any _ (q + 1 + nr) ns _ (by omega) (by omega) (by omega) HS.out).mono ?_
      rintro e w' ⟨rfl, rfl⟩
      go_wp2
      go_round
      case rel =>
        refine ⟨m + 1, by omega, by go_num, ?_⟩
        rw [HOFF.out]
        have := HQ.out
        go_num
      case measure => simp [intOf]; omega
    · obtain rfl : m = n := by omega
      go_wp2
      go_ret
      exact ⟨rfl, rfl⟩

/-- how many marks a machine bears -/
def mcN (m : Bt.Mc) : Int := offTh m.ths m.ths.length + m.cells.length + m.locks.length + m.told.length
/-- a machine marked from k on -/
def markMc (k : Int) (m : Bt.Mc) : Bt.Mc :=
  ⟨markThs k m.ths, marks (k + offTh m.ths m.ths.length) m.cells.length, marks (k + offTh m.ths m.ths.length + m.cells.length) m.locks.length, marks (k + offTh m.ths m.ths.length + m.cells.length + m.locks.length) m.told.length⟩
theorem mcN_le {m : Bt.Mc} (h : Bt.mcSz m ≤ 1048576) : mcN m ≤ 4194304 := by
  unfold mcN offTh
  unfold Bt.mcSz at h
  rw [List.take_length]
  omega
theorem OwnMc.rows {w : World} {B : Nat} {vt vc vl vd : Value} {xs : List (Value × Value)} {m : Bt.Mc} (h : OwnMc w B vt vc vl vd xs m) : (rowsOf xs).Pairwise Apart ∧ (∀ u ∈ rowsOf xs, Apart u vc ∧ Apart u vl ∧ Apart u vd) ∧ Apart vc vl ∧ Apart vc vd ∧ Apart vl vd := by
  have h1 := h.apart
  rw [List.pairwise_append] at h1
  obtain ⟨a, b, c⟩ := h1
  simp only [List.pairwise_cons, List.mem_cons, List.not_mem_nil, or_false, forall_eq_or_imp, forall_eq] at b
  exact ⟨a, fun u hu => ⟨c u hu vc (by simp), c u hu vl (by simp), c u hu vd (by simp)⟩, b.1.1, b.1.2, b.2.1⟩
theorem mcN_nn (m : Bt.Mc) : 0 ≤ mcN m := by unfold mcN offTh; omega
/-- the values of a machine whose blocks may turn -/
def mcVals (vt vc vl vd : Value) (xs : List (Value × Value)) : List Value := vt :: (rowsOf xs ++ [vc, vl, vd])

set_option maxHeartbeats 2000000 in
theorem markMachine_any {vt vc vl vd : Value} {xs : List (Value × Value)} {m : Bt.Mc} (B : Nat) (k : Int) (w : World) (H : OwnMc w B vt vc vl vd xs m) (h0 : 0 ≤ k) (h1 : k + mcN m ≤ 1099511627776) :
    Calls Try.prog 24 #[.agg #[vt, vc, vl, vd], .int .i64 k] w fun e w' => e = .returned (.int .i64 (k + mcN m)) ∧ Only (mcVals vt vc vl vd xs) w w' ∧ OwnMc w' B vt vc vl vd xs (markMc k m) := by
  unfold mcN at h1
  have hnn : 0 ≤ offTh m.ths m.ths.length := offTh_nn _ _
  have ER : Hid (mcN m = offTh m.ths m.ths.length + m.cells.length + m.locks.length + m.told.length) := Lib.hid rfl
  have HO := Lib.hid H; clear H
  have HR := Lib.hid HO.out.rows
  have B0 : Below w.heap.size w (w.alloc (.cells #[vt, vc, vl, vd] 42)) := (Below.refl _ _).alloc (Nat.le_refl _) _
  have HB0 := Lib.hid B0
  have H0 := Lib.hid (HO.out.keep B0)
  have hbox : Hid (∀ u ∈ mcVals vt vc vl vd xs, u.ownBlock ≠ some w.heap.size) := Lib.hid (fun u hu e => by
    unfold mcVals at hu
    simp only [List.mem_cons, List.mem_append, List.not_mem_nil, or_false] at hu
    rcases hu with rfl | hu | rfl | rfl | rfl
    · obtain ⟨L, hL, _⟩ := HO.out.ths.row
      have := (World.ownsRow.lt hL _ e).2; omega
    · obtain ⟨i, hi, he⟩ := rowsOf_mem hu
      have hi' : i < m.ths.length := by rw [← HO.out.ths.len]; exact hi
      have := HO.out.ths.ints i hi' hi
      rcases he with rfl | rfl
      · have := (this.1.bd _ e).2; omega
      · have := (this.2.bd _ e).2; omega
    · have := (HO.out.cells.bd _ e).2; omega
    · have := (HO.out.locks.bd _ e).2; omega
    · have := (HO.out.told.bd _ e).2; omega)
  have HBX : Hid (∀ w', Only (mcVals vt vc vl vd xs) (w.alloc (.cells #[vt, vc, vl, vd] 42)) w' → w'.cell? ⟨w.heap.size, 0, none⟩ = some vt ∧ w'.cell? ⟨w.heap.size, 1, none⟩ = some vc ∧ w'.cell? ⟨w.heap.size, 2, none⟩ = some vl ∧ w'.cell? ⟨w.heap.size, 3, none⟩ = some vd) := Lib.hid (fun w' h => by
    have hblk := h.block w.heap.size (by simp) hbox.out
    refine ⟨?_, ?_, ?_, ?_⟩
    all_goals rw [World.cell?_of_block (a := ⟨w.heap.size, _, none⟩) hblk]; simp)
  have S0 : Hid (∀ u ∈ vt :: rowsOf xs, u ∈ mcVals vt vc vl vd xs) := Lib.hid (fun u hu => by
    unfold mcVals
    rcases List.mem_cons.1 hu with rfl | hu
    · exact List.mem_cons_self
    · exact List.mem_cons_of_mem _ (List.mem_append_left _ hu))
  generalize hT : offTh m.ths m.ths.length = T at *
  have HT := Lib.hid hT; clear hT
  go_enter Try.func24, Try.ntmps24
  go_wp2_with fail
  refine (markThreads_any B vt m.ths xs k _ H0.out.ths HR.out.1 h0 (by rw [HT.out]; omega)).mono ?_
  rw [HT.out]
  rintro e w1 ⟨rfl, hw1, ho1⟩
  have W1 := Lib.hid (hw1.mono S0.out)
  have C1 := Lib.hid (H0.out.cells.only hw1 (fun u hu => by
    rcases List.mem_cons.1 hu with rfl | hu
    · exact H0.out.ths.apart H0.out.cells
    · exact (HR.out.2.1 u hu).1))
  have L1 := Lib.hid (H0.out.locks.only hw1 (fun u hu => by
    rcases List.mem_cons.1 hu with rfl | hu
    · exact H0.out.ths.apart H0.out.locks
    · exact (HR.out.2.1 u hu).2.1))
  have D1 := Lib.hid (H0.out.told.only hw1 (fun u hu => by
    rcases List.mem_cons.1 hu with rfl | hu
    · exact H0.out.ths.apart H0.out.told
    · exact (HR.out.2.1 u hu).2.2))
  have T1 := Lib.hid ho1
  clear hw1 ho1 hbox
  obtain ⟨b0, b1, b2, b3⟩ := HBX.out _ W1.out
  go_wp2_with fail
  refine (markInts_any B vc m.cells (k + T) _ (by omega) (by omega) (by omega) C1.out).mono ?_
  rintro e w2 ⟨rfl, hg2, hr2⟩
  have o2 : Only [vc] w1 w2 := Only.of_grown hg2 (by simp)
  have W2 := Lib.hid (W1.out.trans (o2.mono (by simp [mcVals])))
  have L2 := Lib.hid (L1.out.only o2 (by simpa using HR.out.2.2.1))
  have D2 := Lib.hid (D1.out.only o2 (by simpa using HR.out.2.2.2.1))
  have T2 := Lib.hid (T1.out.only o2 (by simpa using (T1.out.apart C1.out).symm) (fun u hu x hx => by simp at hu; subst hu; exact (HR.out.2.1 x hx).1.symm))
  have C2 := Lib.hid hr2
  clear hg2 hr2 o2 b0 b1 b2 b3
  obtain ⟨b0, b1, b2, b3⟩ := HBX.out _ W2.out
  go_wp2_with fail
  refine (markInts_any B vl m.locks (k + T + m.cells.length) _ (by omega) (by omega) (by omega) L2.out).mono ?_
  rintro e w3 ⟨rfl, hg3, hr3⟩
  have o3 : Only [vl] w2 w3 := Only.of_grown hg3 (by simp)
  have W3 := Lib.hid (W2.out.trans (o3.mono (by simp [mcVals])))
  have C3 := Lib.hid (C2.out.only o3 (by simpa using HR.out.2.2.1.symm))
  have D3 := Lib.hid (D2.out.only o3 (by simpa using HR.out.2.2.2.2))
  have T3 := Lib.hid (T2.out.only o3 (by simpa using (T2.out.apart L2.out).symm) (fun u hu x hx => by simp at hu; subst hu; exact (HR.out.2.1 x hx).2.1.symm))
  have L3 := Lib.hid hr3
  clear hg3 hr3 o3 b0 b1 b2 b3
  obtain ⟨b0, b1, b2, b3⟩ := HBX.out _ W3.out
  go_wp2_with fail
  refine (markInts_any B vd m.told (k + T + m.cells.length + m.locks.length) _ (by omega) (by omega) (by omega) D3.out).mono ?_
  rintro e w4 ⟨rfl, hg4, hr4⟩
  have o4 : Only [vd] w3 w4 := Only.of_grown hg4 (by simp)
  have W4 := Lib.hid (W3.out.trans (o4.mono (by simp [mcVals])))
  have C4 := Lib.hid (C3.out.only o4 (by simpa using HR.out.2.2.2.1.symm))
  have L4 := Lib.hid (L3.out.only o4 (by simpa using HR.out.2.2.2.2.symm))
  have T4 := Lib.hid (T3.out.only o4 (by simpa using (T3.out.apart D3.out).symm) (fun u hu x hx => by simp at hu; subst hu; exact (HR.out.2.1 x hx).2.2.symm))
  have D4 := Lib.hid hr4
  clear hg4 hr4 o4 b0 b1 b2 b3
  go_wp2
  go_ret
  refine ⟨ret_int (by rw [ER.out]; omega), (Only.of_below HB0.out).trans W4.out, T4.out, ?_, ?_, ?_, HO.out.apart⟩
  · simp only [markMc, HT.out]; exact C4.out
  · simp only [markMc, HT.out]; exact L4.out
  · simp only [markMc, HT.out]; exact D4.out

set_option maxHeartbeats 2000000 in
theorem heldMachine_any {AT AC AL AD : Option Addr} {nt ct nc cc nl cl nd cd : Nat} {m : Bt.Mc} (k : Int) (w : World) (H : ArgMc w AT nt ct AC nc cc AL nl cl AD nd cd (markMc k m)) (h0 : 0 ≤ k) (h1 : k + mcN m ≤ 1099511627776) :
    Calls Try.prog 25 #[.agg #[.slice AT nt ct, .slice AC nc cc, .slice AL nl cl, .slice AD nd cd], .int .i64 k] w fun e w' => e = .returned (.int .i64 (k + mcN m)) ∧ Below w.heap.size w w' := by
  unfold mcN at h1
  have hnn : 0 ≤ offTh m.ths m.ths.length := offTh_nn _ _
  have ER : Hid (mcN m = offTh m.ths m.ths.length + m.cells.length + m.locks.length + m.told.length) := Lib.hid rfl
  have B0 : Below w.heap.size w (w.alloc (.cells #[.slice AT nt ct, .slice AC nc cc, .slice AL nl cl, .slice AD nd cd] 42)) := (Below.refl _ _).alloc (Nat.le_refl _) _
  have HH := Lib.hid (H.keep B0); clear H
  simp only [markMc] at HH
  have HT : Hid (Calls Try.prog 51 #[.slice AT nt ct, .int .i64 k] (w.alloc (.cells #[.slice AT nt ct, .slice AC nc cc, .slice AL nl cl, .slice AD nd cd] 42)) fun e w' => e = .returned (.int .i64 (k + offTh m.ths m.ths.length)) ∧ (w.alloc (.cells #[.slice AT nt ct, .slice AC nc cc, .slice AL nl cl, .slice AD nd cd] 42)) = w') :=
    Lib.hid (heldThreads_any k HH.out.ths h0 (by omega))
  generalize offTh m.ths m.ths.length = T at *
  go_enter Try.func25, Try.ntmps25
  go_wp2_with fail
  refine HT.out.mono ?_
  rintro e w' ⟨rfl, rfl⟩
  go_wp2_with fail
  refine (heldInts_any _ (k + T) m.cells.length _ (by omega) (by omega) (by omega) HH.out.cells).mono ?_
  rintro e w' ⟨rfl, rfl⟩
  go_wp2_with fail
  refine (heldInts_any _ (k + T + m.cells.length) m.locks.length _ (by omega) (by omega) (by omega) HH.out.locks).mono ?_
  rintro e w' ⟨rfl, rfl⟩
  go_wp2_with fail
  refine (heldInts_any _ (k + T + m.cells.length + m.locks.length) m.told.length _ (by omega) (by omega) (by omega) HH.out.told).mono ?_
  rintro e w' ⟨rfl, rfl⟩
  go_wp2
  go_ret
  exact ⟨ret_int (by rw [ER.out]; omega), B0⟩
end Go.Proofs.Ytolbihilggkldaa
