/-
  Rows of Choice values in memory: how the laws copy, count, compare, mark and look at them, and one more behind them.
  An argument of a law that is a row of choices, opened.
-/
import Derived.Test.YtolbihilggkldaaMarks
import Derived.Laws.OwnMore
import Derived.Test.YtolbihilggkldaaThLawE
import Derived.Test.YtolbihilggkldaaCanD
import Derived.Test.YtolbihilggkldaaApp
import Derived.Test.YtolbihilggkldaaSz
namespace Go.Proofs.Ytolbihilggkldaa
open Go.RowKit

namespace Bt
def chFlat (l : List Ch) : List Int := l.flatMap fun c => [c.who, c.kind, c.reply]
theorem chFlat_len (l : List Ch) : (chFlat l).length = l.length * 3 := by
  induction l with
  | nil => rfl
  | cons c l ih =>
    unfold chFlat at ih ⊢
    rw [List.flatMap_cons, List.length_append, ih, List.length_cons]
    simp only [List.length_cons, List.length_nil]
    omega
theorem chFlat_cons (c : Ch) (l : List Ch) : chFlat (c :: l) = c.who :: c.kind :: c.reply :: chFlat l := rfl
theorem chFlat_snoc (l : List Ch) (c : Ch) : chFlat (l ++ [c]) = chFlat l ++ [c.who, c.kind, c.reply] := by simp [chFlat]
theorem chFlat_at : ∀ {l : List Ch} {i : Nat} (h : i < l.length), (chFlat l)[i * 3]? = some l[i].who ∧ (chFlat l)[i * 3 + 1]? = some l[i].kind ∧ (chFlat l)[i * 3 + 2]? = some l[i].reply
  | [], _, h => absurd h (by simp)
  | c :: l, 0, _ => ⟨rfl, rfl, rfl⟩
  | c :: l, i + 1, h => by
    have ih := chFlat_at (l := l) (i := i) (by simpa using h)
    rw [chFlat_cons, show (i + 1) * 3 = i * 3 + 3 by omega]
    simp only [List.getElem_cons_succ]
    exact ih
theorem chFlat_set : ∀ {l : List Ch} {i : Nat} (c : Ch) (_ : i < l.length), chFlat (l.set i c) = (((chFlat l).set (i * 3) c.who).set (i * 3 + 1) c.kind).set (i * 3 + 2) c.reply
  | [], _, _, h => absurd h (by simp)
  | d :: l, 0, c, _ => rfl
  | d :: l, i + 1, c, h => by
    have ih := chFlat_set (l := l) (i := i) c (by simpa using h)
    rw [List.set_cons_succ, chFlat_cons, chFlat_cons, ih, show (i + 1) * 3 = i * 3 + 3 by omega]
    rfl
/-- the marks from q on -/
def markChs (q : Int) (n : Nat) : List Ch := (List.range n).map fun (i : Nat) => ⟨q + (3 * i : Nat), q + (3 * i + 1 : Nat), q + (3 * i + 2 : Nat)⟩
theorem markChs_len (q : Int) (n : Nat) : (markChs q n).length = n := by simp [markChs]
theorem markChs_at (q : Int) (n i : Nat) (h : i < (markChs q n).length) : (markChs q n)[i] = ⟨q + (3 * i : Nat), q + (3 * i + 1 : Nat), q + (3 * i + 2 : Nat)⟩ := by simp [markChs]
end Bt

/-- v is a slice that holds these -/
def ArgChs (w : World) (v : Value) (l : List Bt.Ch) : Prop :=
  ∃ A cap, v = .slice A l.length cap ∧ l.length ≤ cap ∧ (l ≠ [] → ∃ b o, A = some ⟨b, o, none⟩ ∧ ∀ i (_ : i < l.length), w.cell? ⟨b, o + i * 3, none⟩ = some (.int .i64 l[i].who) ∧ w.cell? ⟨b, o + i * 3 + 1, none⟩ = some (.int .i64 l[i].kind) ∧ w.cell? ⟨b, o + i * 3 + 2, none⟩ = some (.int .i64 l[i].reply))
theorem ArgChs.keep {w w' : World} {v : Value} {l : List Bt.Ch} (h : ArgChs w v l) (hb : Below w.heap.size w w') : ArgChs w' v l := by
  obtain ⟨A, cap, hv, hc, hr⟩ := h
  refine ⟨A, cap, hv, hc, fun hne => ?_⟩
  obtain ⟨b, o, hA, hr⟩ := hr hne
  exact ⟨b, o, hA, fun i hi => by
    obtain ⟨q0, q1, q2⟩ := hr i hi
    exact ⟨keeps hb q0, keeps hb q1, keeps hb q2⟩⟩
theorem ArgChs.form {w : World} {v : Value} {l : List Bt.Ch} (h : ArgChs w v l) : ∃ A cap, v = .slice A l.length cap ∧ ArgChs w (.slice A l.length cap) l := by
  have h' := h
  obtain ⟨A, cap, rfl, _, _⟩ := h
  exact ⟨A, cap, rfl, h'⟩
theorem ArgChs.at_ {w : World} {A : Option Addr} {n cap : Nat} {l : List Bt.Ch} (h : ArgChs w (.slice A n cap) l) (hN : l.length = n) : n ≤ cap ∧ ∀ i (hi : i < l.length), ∃ b o, A = some ⟨b, o, none⟩ ∧ w.cell? ⟨b, o + i * 3, none⟩ = some (.int .i64 l[i].who) ∧ w.cell? ⟨b, o + i * 3 + 1, none⟩ = some (.int .i64 l[i].kind) ∧ w.cell? ⟨b, o + i * 3 + 2, none⟩ = some (.int .i64 l[i].reply) := by
  obtain ⟨A', cap', hv, hc, hr⟩ := h
  injection hv with e1 e2 e3
  subst e1 e2 e3
  refine ⟨hc, fun i hi => ?_⟩
  obtain ⟨b, o, hA, hr⟩ := hr (fun e => by rw [e] at hi; exact absurd hi (by simp))
  exact ⟨b, o, hA, hr i hi⟩
/-- v is a slice of a call's own, from block base on, that holds these -/
def ChRow (w : World) (base : Nat) (v : Value) (l : List Bt.Ch) : Prop := w.ownsRow base 62 3 v l.length ((Bt.chFlat l).map (Value.int .i64))
theorem ChRow.nil (w : World) (base : Nat) : ChRow w base (.slice none 0 0) [] := World.ownsRow_nil w base _ 3
theorem ChRow.empty {w : World} {B g : Nat} (hB : B ≤ g) (h : w.heap[g]? = some (.cells #[] 62)) : ChRow w B (.slice (some ⟨g, 0, none⟩) 0 0) [] :=
  ⟨by simp [Bt.chFlat], .inr ⟨g, 0, #[], rfl, hB, h, Nat.le_refl _, by unfold maxLen; omega, rfl, rfl⟩⟩
theorem ChRow.forms {w : World} {base : Nat} {v : Value} {l : List Bt.Ch} (h : ChRow w base v l) :
    (v = .slice none 0 0 ∧ l = []) ∨ ∃ g cap, v = .slice (some ⟨g, 0, none⟩) l.length cap ∧ base ≤ g ∧ g < w.heap.size ∧ l.length ≤ cap ∧ cap ≤ maxLen := by
  rcases h.2 with ⟨rfl, h0⟩ | ⟨g, cap, cur, rfl, hb, hg, hn, hm, _, _⟩
  · exact .inl ⟨rfl, by simpa using h0⟩
  · exact .inr ⟨g, cap, rfl, hb, (Array.getElem?_eq_some_iff.1 hg).1, hn, hm⟩
theorem ChRow.bd {w : World} {base : Nat} {v : Value} {l : List Bt.Ch} (h : ChRow w base v l) : ∀ q, v.ownBlock = some q → base ≤ q ∧ q < w.heap.size := World.ownsRow.lt h
theorem ChRow.cell {w : World} {base g cap n : Nat} {l : List Bt.Ch} (h : ChRow w base (.slice (some ⟨g, 0, none⟩) n cap) l) (hn : l.length = n) (i : Nat) (hi : i < l.length) : w.cell? ⟨g, i * 3, none⟩ = some (.int .i64 l[i].who) ∧ w.cell? ⟨g, i * 3 + 1, none⟩ = some (.int .i64 l[i].kind) ∧ w.cell? ⟨g, i * 3 + 2, none⟩ = some (.int .i64 l[i].reply) := by
  subst hn
  have e := Bt.chFlat_at hi
  obtain ⟨e0, e1, e2⟩ := e
  have key : ∀ j u, j < l.length * 3 → (Bt.chFlat l)[j]? = some u → w.cell? ⟨g, j, none⟩ = some (.int .i64 u) := fun j u hj hu => by
    rw [World.ownsRow.cellAt h j hj, List.getElem?_map, hu]
    rfl
  exact ⟨key _ _ (by omega) e0, key _ _ (by omega) e1, key _ _ (by omega) e2⟩
theorem ChRow.frz {w : World} {base g n cap : Nat} {l : List Bt.Ch} (h : ChRow w base (.slice (some ⟨g, 0, none⟩) n cap) l) (hn : l.length = n) (j : Nat) : w.frozen? ⟨g, j, none⟩ = false := by
  subst hn
  exact World.ownsRow.frozenAt h j
theorem ChRow.arg {w : World} {base : Nat} {v : Value} {l : List Bt.Ch} (h : ChRow w base v l) : ArgChs w v l := by
  rcases h.forms with ⟨rfl, rfl⟩ | ⟨g, cap, rfl, _, _, hc, _⟩
  · exact ⟨none, 0, rfl, Nat.le_refl _, fun h => absurd rfl h⟩
  · refine ⟨_, cap, rfl, hc, fun _ => ⟨g, 0, rfl, fun i hi => ?_⟩⟩
    simp only [Nat.zero_add]
    exact h.cell rfl i hi
theorem ChRow.grown {w w' : World} {base : Nat} {v : Value} {l : List Bt.Ch} {row : Option Nat} (h : ChRow w base v l) (hg : w.grownBy w' row) (hne : v.ownBlock = none ∨ v.ownBlock ≠ row) : ChRow w' base v l :=
  World.ownsRow.kept h hg hne
theorem ChRow.keep {w w' : World} {base : Nat} {v : Value} {l : List Bt.Ch} (h : ChRow w base v l) (hb : Below w.heap.size w w') : ChRow w' base v l := by
  refine h.grown (grown_below hb) ?_
  rcases h.forms with ⟨rfl, _⟩ | ⟨g, cap, rfl, _⟩
  · exact .inl rfl
  · exact .inr (by simp [Value.ownBlock])
theorem ChRow.mono {w : World} {base base' : Nat} {v : Value} {l : List Bt.Ch} (h : ChRow w base v l) (hb : base' ≤ base) : ChRow w base' v l := Joins.ownsRow_le h hb
theorem ChRow.set {w : World} {base g n cap : Nat} {l : List Bt.Ch} (h : ChRow w base (.slice (some ⟨g, 0, none⟩) n cap) l) (hn : l.length = n) (i : Nat) (hi : i < l.length) (c : Bt.Ch) :
    ChRow ((((w).setCell ⟨g, i * 3, none⟩ (.int .i64 c.who)).setCell ⟨g, i * 3 + 1, none⟩ (.int .i64 c.kind)).setCell ⟨g, i * 3 + 2, none⟩ (.int .i64 c.reply)) base (.slice (some ⟨g, 0, none⟩) n cap) (l.set i c) := by
  subst hn
  have h0 := h
  unfold ChRow at h0 ⊢
  have h1 := (World.ownsRow.stored h0 (i * 3) (.int .i64 c.who)).1
  have h2 := (World.ownsRow.stored h1 (i * 3 + 1) (.int .i64 c.kind)).1
  have h3 := (World.ownsRow.stored h2 (i * 3 + 2) (.int .i64 c.reply)).1
  rw [List.length_set, Bt.chFlat_set c hi]
  simp only [List.map_set]
  exact h3

theorem infoCh : (Try.prog.info? 62).map (fun i => (i.zero, i.size, i.bytes)) = some (some (.agg #[.int .i64 0, .int .i64 0, .int .i64 0]), 3, 24) := by kernel_rfl
theorem run_make_chs (n : Nat) (hn : n ≤ 1048576) (w : World) :
    (Instr.makeSlice 33 (.int .i64 (n : Int)) (.int .i64 (n : Int))).run Try.prog w = .ok (.slice (some ⟨w.heap.size, 0, none⟩) n n) (w.alloc (.cells (madeCells #[.int .i64 0, .int .i64 0, .int .i64 0] (n * 3)) 62)) := by
  obtain ⟨i, hi, hz⟩ := Option.map_eq_some_iff.1 infoCh
  simp only [Prod.mk.injEq] at hz
  obtain ⟨hz, hs, hb⟩ := hz
  have h := run_make (P := Try.prog) w 33 62 i _ Try.underlying33 hi hz .i64 .i64 (n : Int) (n : Int) (by omega) (Int.le_refl _) (by rw [hb]; omega) (by omega)
  simp only [Int.toNat_natCast, hs] at h
  exact h
theorem ch_zeros (m : Nat) : (madeCells #[.int .i64 0, .int .i64 0, .int .i64 0] m).toList = List.replicate m (.int .i64 0) := by
  apply List.ext_getElem?
  intro j
  by_cases hj : j < m
  · have h3 : j % 3 = 0 ∨ j % 3 = 1 ∨ j % 3 = 2 := by omega
    rcases h3 with h3 | h3 | h3
    all_goals simp [madeCells, hj, h3]
  · simp [madeCells, hj]
theorem Bt.chFlat_zero : ∀ n, Bt.chFlat (List.replicate n ⟨0, 0, 0⟩) = List.replicate (n * 3) 0
  | 0 => by simp [Bt.chFlat]
  | n + 1 => by
    rw [List.replicate_succ, Bt.chFlat_cons, Bt.chFlat_zero n, show (n + 1) * 3 = n * 3 + 1 + 1 + 1 by omega]
    simp only [List.replicate_succ]
theorem ChRow.made (w : World) (n : Nat) (hn : n ≤ 1048576) : ChRow (w.alloc (.cells (madeCells #[.int .i64 0, .int .i64 0, .int .i64 0] (n * 3)) 62)) w.heap.size (.slice (some ⟨w.heap.size, 0, none⟩) n n) (List.replicate n ⟨0, 0, 0⟩) := by
  have h := World.ownsRow_lit (base := w.heap.size) (e := 62) (size := 3) w (madeCells #[.int .i64 0, .int .i64 0, .int .i64 0] (n * 3)) n (Nat.le_refl _) (by unfold maxLen; omega) (by rw [size_madeCells])
  have e : (madeCells #[.int .i64 0, .int .i64 0, .int .i64 0] (n * 3)).toList = (Bt.chFlat (List.replicate n ⟨0, 0, 0⟩)).map (Value.int .i64) := by
    rw [ch_zeros, Bt.chFlat_zero, List.map_replicate]
  unfold ChRow
  rw [List.length_replicate, ← e]
  exact h
set_option maxHeartbeats 2000000 in
theorem toCh_one (x0 x1 x2 : Int) (w : World) :
    Calls Try.prog 41 #[.agg #[.int .i64 x0, .int .i64 x1, .int .i64 x2]] w fun e w' => e = .returned (.agg #[.int .i64 x0, .int .i64 x1, .int .i64 x2]) ∧ Below w.heap.size w w' := by
  go_enter Try.func41, Try.ntmps41
  go_wp2
  refine bodyPost_ret (v := .agg #[.int .i64 x0, .int .i64 x1, .int .i64 x2]) (by simp [results, Try.results41, go_sem]) rfl ⟨rfl, ?_⟩
  repeat (first | (refine Below.setCell ?_ (by simp; try omega) _) | (refine Below.alloc ?_ (by simp; try omega) _))
  exact Below.refl _ _
/-- a copied row -/
def CopyChs (l : List Bt.Ch) (w : World) (e : Ending) (w' : World) : Prop :=
  e = .returned (.slice (some ⟨w.heap.size, 0, none⟩) l.length l.length) ∧ Below w.heap.size w w' ∧ ChRow w' w.heap.size (.slice (some ⟨w.heap.size, 0, none⟩) l.length l.length) l
set_option maxHeartbeats 2000000 in
theorem toChs_any (v : Value) (l : List Bt.Ch) (w : World) (hn : l.length ≤ 1048576) (hv : ArgChs w v l) : Calls Try.prog 13 #[v] w (CopyChs l w) := by
  obtain ⟨A, cap, rfl, hv⟩ := hv.form
  unfold CopyChs
  generalize hN : l.length = n at *
  obtain ⟨hc, hr⟩ := hv.at_ hN
  have HN := Lib.hid hN; clear hN
  have HR := Lib.hid hr; clear hr hv
  have hmk := run_make_chs n hn
  go_enter Try.func13, Try.ntmps13
  go_wp2
  clear hmk
  go_loopw [4] (fun i wr => ∃ m : Nat, m ≤ n ∧ i = .int .i64 m ∧ Below w.heap.size w wr ∧ ∃ ys : List Bt.Ch, ys.length = n ∧ ChRow wr w.heap.size (.slice (some ⟨w.heap.size, 0, none⟩) n n) ys ∧ ∀ j (hj : j < l.length) (hj' : j < ys.length), j < m → ys[j] = l[j]) (fun i _ => n - (intOf i).toNat)
  case atStart => exact ⟨0, Nat.zero_le _, rfl, (Below.refl _ _).alloc (Nat.le_refl _) _, _, by simp, ChRow.made w n hn, fun _ _ _ hj => absurd hj (by omega)⟩
  case round =>
    obtain ⟨m, hm, rfl, hb, ys, hys, hrow, hall⟩ := hrel
    have HA := Lib.hid hall; clear hall
    have HB := Lib.hid hb
    have HY := Lib.hid hys; clear hys
    have HW := Lib.hid hrow; clear hrow
    by_cases hlt : m < n
    · have hlt' : m < l.length := by rw [HN.out]; exact hlt
      have hly' : m < ys.length := by rw [HY.out]; exact hlt
      obtain ⟨b, o, rfl, f0, f1, f2⟩ := HR.out m hlt'
      have g0 := keeps hb f0
      have g1 := keeps hb f1
      have g2 := keeps hb f2
      clear f0 f1 f2
      generalize hq : l[m] = q at *
      obtain ⟨x0, x1, x2⟩ := q
      have HQ := Lib.hid hq; clear hq
      have hgs : w.heap.size < wr.heap.size := by
        have := (HW.out.bd w.heap.size rfl).2
        omega
      clear hb
      go_wp2_with (go_at_call 41; refine (toCh_one _ _ _ _).mono ?_; rintro e w2 ⟨rfl, hb2⟩; have HW2 := Lib.hid (HW.out.keep hb2); obtain ⟨r0, r1, r2⟩ := HW2.out.cell HY.out m hly'; have z0 := HW2.out.frz HY.out (m * 3); have z1 := HW2.out.frz HY.out (m * 3 + 1); have z2 := HW2.out.frz HY.out (m * 3 + 2); have HB2 := Lib.hid (HB.out.trans (hb2.mono HB.out.size)); clear hb2)
      go_roundw
      case rel =>
        refine ⟨m + 1, by omega, by go_num, (((HB2.out).setCell (Nat.le_refl _) _).setCell (Nat.le_refl _) _).setCell (Nat.le_refl _) _, ys.set m ⟨x0, x1, x2⟩, by rw [List.length_set]; exact HY.out, HW2.out.set HY.out m hly' ⟨x0, x1, x2⟩, fun j hj hj' hjk => ?_⟩
        rw [List.length_set] at hj'
        by_cases e : j = m
        · subst e; rw [List.getElem_set_self, HQ.out]
        · rw [List.getElem_set_ne (by omega)]
          exact HA.out j hj hj' (by omega)
      case measure => simp [intOf]; omega
    · obtain rfl : m = n := by omega
      have HE : Hid (ys = l) := Lib.hid (List.ext_getElem (by rw [HY.out, HN.out]) (fun j hj hj' => HA.out j hj' hj (by have := HN.out; omega)))
      clear hb
      go_wp2
      go_ret
      exact ⟨rfl, HB.out, HE.out ▸ HW.out⟩
set_option maxHeartbeats 2000000 in
theorem szChs_any (A : Option Addr) (n cap : Nat) (left : Int) (w : World) (hn : n ≤ maxLen) (h0 : 0 ≤ left) (h1 : left ≤ 1048576) :
    Calls Try.prog 10 #[.slice A n cap, .int .i64 left] w fun e w' => e = .returned (.int .i64 (rest left n)) ∧ Below w.heap.size w w' := by
  unfold maxLen at hn
  unfold rest
  by_cases hlt : left < n
  · rw [if_pos hlt]
    go_enter Try.func10, Try.ntmps10
    go_wp2
    go_ret
    exact ⟨rfl, Below.refl _ _⟩
  · rw [if_neg hlt]
    go_enter Try.func10, Try.ntmps10
    go_wp2
    go_ret
    exact ⟨rfl, Below.refl _ _⟩
set_option maxHeartbeats 2000000 in
theorem eqCh_one (x0 x1 x2 : Int) (w : World) :
    Calls Try.prog 44 #[.agg #[.int .i64 x0, .int .i64 x1, .int .i64 x2], .agg #[.int .i64 x0, .int .i64 x1, .int .i64 x2]] w fun e w' => e = .returned (.bool true) ∧ Below w.heap.size w w' := by
  go_enter Try.func44, Try.ntmps44
  go_wp2
  go_ret
  exact ⟨rfl, ((Below.refl _ _).alloc (Nat.le_refl _) _).alloc (by simp) _⟩
set_option maxHeartbeats 2000000 in
theorem eqChs_same (v v' : Value) (l : List Bt.Ch) (w : World) (hn : l.length ≤ 1048576) (hv : ArgChs w v l) (hv' : ArgChs w v' l) :
    Calls Try.prog 16 #[v, v'] w fun e w' => e = .returned (.bool true) ∧ Below w.heap.size w w' := by
  obtain ⟨A, cap, rfl, hv⟩ := hv.form
  obtain ⟨A', cap', rfl, hv'⟩ := hv'.form
  have HV := Lib.hid hv; have HV' := Lib.hid hv'; clear hv hv'
  generalize hN : l.length = n at *
  have hcp := (HV.out.at_ hN).1
  have hcp' := (HV'.out.at_ hN).1
  have HN := Lib.hid hN; clear hN
  go_enter Try.func16, Try.ntmps16
  go_wp2
  go_loopw [5] (fun i wr => ∃ m : Nat, m ≤ n ∧ i = .int .i64 m ∧ Below w.heap.size w wr) (fun i _ => n - (intOf i).toNat)
  case atStart => exact ⟨0, Nat.zero_le _, rfl, Below.refl _ _⟩
  case round =>
    obtain ⟨m, hm, rfl, hb⟩ := hrel
    by_cases hlt : m < n
    · have hlt' : m < l.length := by rw [HN.out]; exact hlt
      obtain ⟨b, o, rfl, f0, f1, f2⟩ := ((HV.out.keep hb).at_ HN.out).2 m hlt'
      obtain ⟨b', o', rfl, g0, g1, g2⟩ := ((HV'.out.keep hb).at_ HN.out).2 m hlt'
      have q0 := Cls.keeps f0
      have p0 := Cls.keeps g0
      have q1 := Cls.keeps f1
      have p1 := Cls.keeps g1
      have q2 := Cls.keeps f2
      have p2 := Cls.keeps g2
      go_wp2
      refine wp_region_cls (by kernel_rfl) (by kernel_rfl) ?_
      repeat (go_big_quiet_step ((go_at_call 44; exact cls_of (eqCh_one _ _ _ _))))
      refine wpQuiet_nil ?_
      intro w2' hw2'
      obtain ⟨⟨w2, hb2⟩, rfl⟩ := hw2'
      go_wp2
      go_roundw
      case rel => exact ⟨m + 1, by omega, by go_num, hb.trans (hb2.mono hb.size)⟩
      case measure => simp [intOf]; omega
    · obtain rfl : m = n := by omega
      go_wp2
      go_ret
      exact ⟨rfl, hb⟩
set_option maxHeartbeats 2000000 in
theorem markChs_nil (A : Option Addr) (c : Nat) (q : Int) (w : World) :
    Calls Try.prog 23 #[.slice A 0 c, .int .i64 q] w fun e w' => e = .returned (.int .i64 q) ∧ w = w' := by
  go_enter Try.func23, Try.ntmps23
  go_wp2
  go_loop [1, 5] (fun t i => t = .int .i64 q ∧ i = .int .i64 0) (fun _ _ => 0)
  case atStart => exact ⟨rfl, rfl⟩
  case round =>
    obtain ⟨rfl, rfl⟩ := hrel
    go_wp2
    go_ret
    exact ⟨rfl, rfl⟩
set_option maxHeartbeats 2000000 in
theorem markChs_some (base g cap n : Nat) (l : List Bt.Ch) (q : Int) (w : World) (hN : l.length = n) (hn : n ≤ 1048576) (hc : n ≤ cap) (h0 : 0 ≤ q) (h1 : q ≤ 1099511627776) (h : ChRow w base (.slice (some ⟨g, 0, none⟩) n cap) l) :
    Calls Try.prog 23 #[.slice (some ⟨g, 0, none⟩) n cap, .int .i64 q] w fun e w' => e = .returned (.int .i64 (q + (n * 3 : Nat))) ∧ w.grownBy w' (some g) ∧ ChRow w' base (.slice (some ⟨g, 0, none⟩) n cap) (Bt.markChs q n) := by
  have HN := Lib.hid hN; clear hN
  have H1 := Lib.hid h; clear h
  go_enter Try.func23, Try.ntmps23
  go_wp2
  go_loopw [1, 5] (fun t i wr => ∃ m : Nat, m ≤ n ∧ i = .int .i64 m ∧ t = .int .i64 (q + 3 * m) ∧ w.grownBy wr (some g) ∧ ∃ ys : List Bt.Ch, ys.length = n ∧ ChRow wr base (.slice (some ⟨g, 0, none⟩) n cap) ys ∧ ∀ j (hj : j < ys.length), j < m → ys[j] = ⟨q + (3 * j : Nat), q + (3 * j + 1 : Nat), q + (3 * j + 2 : Nat)⟩) (fun _ i _ => n - (intOf i).toNat)
  case atStart => exact ⟨0, Nat.zero_le _, rfl, by simp, grown_refl _ _, l, HN.out, H1.out, fun _ _ hj => absurd hj (by omega)⟩
  case round =>
    obtain ⟨m, hm, rfl, rfl, hg, ys, hys, hrow, hall⟩ := hrel
    have HY := Lib.hid hys; clear hys
    have HR := Lib.hid hrow; clear hrow
    have HA := Lib.hid hall; clear hall
    have HG := Lib.hid hg; clear hg
    by_cases hlt : m < n
    · have hlt' : m < ys.length := by rw [HY.out]; exact hlt
      obtain ⟨r0, r1, r2⟩ := HR.out.cell HY.out m hlt'
      have z0 := HR.out.frz HY.out (m * 3)
      have z1 := HR.out.frz HY.out (m * 3 + 1)
      have z2 := HR.out.frz HY.out (m * 3 + 2)
      go_wp2
      go_roundw
      case rel =>
        refine ⟨m + 1, by omega, by go_num, by go_num, grown_set (grown_set (grown_set (HG.out) _ _) _ _) _ _, ys.set m ⟨_, _, _⟩, by rw [List.length_set]; exact HY.out, HR.out.set HY.out m hlt' ⟨_, _, _⟩, fun j hj hjm => ?_⟩
        rw [List.length_set] at hj
        by_cases e : j = m
        · subst e
          rw [List.getElem_set_self]
          simp only [Bt.Ch.mk.injEq]
          omega
        · rw [List.getElem_set_ne (by omega)]
          exact HA.out j hj (by omega)
      case measure => simp [intOf]; omega
    · obtain rfl : m = n := by omega
      have e : ys = Bt.markChs q m := List.ext_getElem (by rw [Bt.markChs_len]; exact HY.out) (fun j hj hj' => by rw [Bt.markChs_at]; exact HA.out j hj (by have := HY.out; omega))
      have HE := Lib.hid e; clear e
      have HV : Hid (q + (3 * m : Int) = q + ((m * 3 : Nat) : Int)) := Lib.hid (by omega)
      go_wp2
      go_ret
      exact ⟨ret_int HV.out, HG.out, HE.out ▸ HR.out⟩
set_option maxHeartbeats 2000000 in
theorem markChs_any (base : Nat) (v : Value) (l : List Bt.Ch) (q : Int) (w : World) (hn : l.length ≤ 1048576) (h0 : 0 ≤ q) (h1 : q ≤ 1099511627776) (h : ChRow w base v l) :
    Calls Try.prog 23 #[v, .int .i64 q] w fun e w' => e = .returned (.int .i64 (q + (l.length * 3 : Nat))) ∧ w.grownBy w' v.ownBlock ∧ ChRow w' base v (Bt.markChs q l.length) := by
  rcases h.forms with ⟨rfl, rfl⟩ | ⟨g, cap, rfl, _, _, hc, _⟩
  · refine (markChs_nil none 0 q w).mono fun e w' ⟨he, hw⟩ => ?_
    subst hw
    exact ⟨by rw [he]; simp, grown_refl _ _, ChRow.nil _ _⟩
  · exact markChs_some base g cap l.length l q w rfl hn hc h0 h1 h
set_option maxHeartbeats 2000000 in
theorem heldChs_any (v : Value) (q : Int) (n : Nat) (w : World) (hn : n ≤ 1048576) (h0 : 0 ≤ q) (h1 : q ≤ 1099511627776) (h : ArgChs w v (Bt.markChs q n)) :
    Calls Try.prog 33 #[v, .int .i64 q] w fun e w' => e = .returned (.int .i64 (q + (n * 3 : Nat))) ∧ Below w.heap.size w w' := by
  obtain ⟨A, cap, rfl, h⟩ := h.form
  have hL := Bt.markChs_len q n
  rw [hL] at h ⊢
  have hcp := (h.at_ hL).1
  have HV := Lib.hid (h.at_ hL).2
  have HL := Lib.hid hL
  have AT : ∀ i (hi : i < n), ∃ b o, A = some ⟨b, o, none⟩ ∧ w.cell? ⟨b, o + i * 3, none⟩ = some (.int .i64 (q + 3 * i)) ∧ w.cell? ⟨b, o + i * 3 + 1, none⟩ = some (.int .i64 (q + 3 * i + 1)) ∧ w.cell? ⟨b, o + i * 3 + 2, none⟩ = some (.int .i64 (q + 3 * i + 2)) := fun i hi => by
    obtain ⟨b, o, e, f0, f1, f2⟩ := HV.out i (by rw [HL.out]; exact hi)
    refine ⟨b, o, e, by rw [f0, Bt.markChs_at]; simp only [Option.some.injEq, Value.int.injEq, true_and]; omega, by rw [f1, Bt.markChs_at]; simp only [Option.some.injEq, Value.int.injEq, true_and]; omega, by rw [f2, Bt.markChs_at]; simp only [Option.some.injEq, Value.int.injEq, true_and]; omega⟩
  have HT := Lib.hid AT
  clear AT h hL
  go_enter Try.func33, Try.ntmps33
  go_wp2
  go_loopw [1, 5] (fun t i wr => ∃ m : Nat, m ≤ n ∧ i = .int .i64 m ∧ t = .int .i64 (q + 3 * m) ∧ Below w.heap.size w wr) (fun _ i _ => n - (intOf i).toNat)
  case atStart => exact ⟨0, Nat.zero_le _, rfl, by simp, Below.refl _ _⟩
  case round =>
    obtain ⟨m, hm, rfl, rfl, hb⟩ := hrel
    by_cases hlt : m < n
    · obtain ⟨b, o, rfl, f0, f1, f2⟩ := HT.out m hlt
      have g0 := keeps hb f0
      have g1 := keeps hb f1
      have g2 := keeps hb f2
      clear f0 f1 f2
      go_wp2
      go_roundw
      case rel => exact ⟨m + 1, by omega, by go_num, by go_num, hb⟩
      case measure => simp [intOf]; omega
    · obtain rfl : m = n := by omega
      have HV : Hid (q + (3 * m : Int) = q + ((m * 3 : Nat) : Int)) := Lib.hid (by omega)
      go_wp2
      go_ret
      exact ⟨ret_int HV.out, hb⟩
set_option maxHeartbeats 2000000 in
theorem surely_app_ch {o : Oper} {a : Act} {w : World} {R : Value → World → Prop} (s x : Operand)
    (ho : o.op = .call { callee := .builtin .append, args := #[s, x], argTypes := #[33, 33] }) (base : Nat) (v : Value) (l : List Bt.Ch) (hs : a.eval s = v) (hown : ChRow w base v l)
    (g d : Nat) (c : Bt.Ch) (hx : a.eval x = .slice (some ⟨g, 0, none⟩) 1 d) (h0 : w.cell? ⟨g, 0, none⟩ = some (.int .i64 c.who)) (h1 : w.cell? ⟨g, 1, none⟩ = some (.int .i64 c.kind)) (h2 : w.cell? ⟨g, 2, none⟩ = some (.int .i64 c.reply)) (hlen : l.length ≤ 1048576) (hbase : base ≤ w.heap.size)
    (h : ∀ v' w', ChRow w' base v' (l ++ [c]) → w.grownBy w' v.ownBlock → R v' w') : surely Try.prog o a w R := by
  obtain ⟨i, hi, hz⟩ := Option.map_eq_some_iff.1 infoCh
  simp only [Prod.mk.injEq] at hz
  obtain ⟨hz, hsz, hby⟩ := hz
  intro K Q hK
  refine wp_append_own (P := Try.prog) w s x 33 ho base 62 i (.agg #[.int .i64 0, .int .i64 0, .int .i64 0]) 3 24 Try.underlying33 hi hz hsz hby rfl (by decide) v l.length ((Bt.chFlat l).map (Value.int .i64)) hs hown ⟨g, 0, none⟩ 1 d [.int .i64 c.who, .int .i64 c.kind, .int .i64 c.reply] hx rfl ?_ ?_ ?_ ?_ hbase ?_
  · intro j u hu
    rw [add_plain, Nat.zero_add]
    match j, hu with
    | 0, hu => simp at hu; subst hu; exact h0
    | 1, hu => simp at hu; subst hu; exact h1
    | 2, hu => simp at hu; subst hu; exact h2
    | j + 3, hu => simp at hu
  · intro u hu
    simp only [List.mem_cons, List.not_mem_nil, or_false] at hu
    rcases hu with rfl | rfl | rfl <;> rfl
  · unfold maxLen; omega
  · omega
  · intro v' w' h1 h2 _
    refine hK v' w' (h v' w' ?_ h2)
    have e : (l ++ [c]).length = l.length + 1 := by simp
    unfold ChRow
    rw [e, Bt.chFlat_snoc, List.map_append]
    exact h1
theorem wp_app_ch {ops : Array Oper} {rest : List Oper} {o : Oper} {a : Act} {Q : Exit → Act → World → Prop} {w : World} (hgd : o.guard = none) (s x : Operand)
    (ho : o.op = .call { callee := .builtin .append, args := #[s, x], argTypes := #[33, 33] }) (base : Nat) (v : Value) (l : List Bt.Ch) (hs : a.eval s = v) (hown : ChRow w base v l)
    (g d : Nat) (c : Bt.Ch) (hx : a.eval x = .slice (some ⟨g, 0, none⟩) 1 d) (h0 : w.cell? ⟨g, 0, none⟩ = some (.int .i64 c.who)) (h1 : w.cell? ⟨g, 1, none⟩ = some (.int .i64 c.kind)) (h2 : w.cell? ⟨g, 2, none⟩ = some (.int .i64 c.reply)) (hlen : l.length ≤ 1048576) (hbase : base ≤ w.heap.size)
    (h : ∀ v' w', ChRow w' base v' (l ++ [c]) → w.grownBy w' v.ownBlock → wpList Try.prog ops Q rest (a.put o.dst v') w') : wpList Try.prog ops Q (o :: rest) a w := by
  obtain ⟨i, hi, hz⟩ := Option.map_eq_some_iff.1 infoCh
  simp only [Prod.mk.injEq] at hz
  obtain ⟨hz, hsz, hby⟩ := hz
  refine wpList_append_own (P := Try.prog) w hgd s x 33 ho base 62 i (.agg #[.int .i64 0, .int .i64 0, .int .i64 0]) 3 24 Try.underlying33 hi hz hsz hby rfl (by decide) v l.length ((Bt.chFlat l).map (Value.int .i64)) hs hown ⟨g, 0, none⟩ 1 d [.int .i64 c.who, .int .i64 c.kind, .int .i64 c.reply] hx rfl ?_ ?_ ?_ ?_ hbase ?_
  · intro j u hu
    rw [add_plain, Nat.zero_add]
    match j, hu with
    | 0, hu => simp at hu; subst hu; exact h0
    | 1, hu => simp at hu; subst hu; exact h1
    | 2, hu => simp at hu; subst hu; exact h2
    | j + 3, hu => simp at hu
  · intro u hu
    simp only [List.mem_cons, List.not_mem_nil, or_false] at hu
    rcases hu with rfl | rfl | rfl <;> rfl
  · unfold maxLen; omega
  · omega
  · intro v' w' h1 h2 _
    refine h v' w' ?_ h2
    have e : (l ++ [c]).length = l.length + 1 := by simp
    unfold ChRow
    rw [e, Bt.chFlat_snoc, List.map_append]
    exact h1
end Go.Proofs.Ytolbihilggkldaa

namespace Go.Proofs.Ytolbihilggkldaa
open Go.ChangeShapes Go.WideShapes Go.ChangeAt Go.RowKit

theorem open_chs {H : Type} {enc : TypeId × Value → H} {w : World} {base : Nat} {spare : Nat → Bool} {held : Bool} {fuel : Nat} {cs : List Value} {x : DataW H × List MemPlace}
    (h : DataW.trod enc Try.prog w base spare held fuel 25 cs = some x) :
    ∃ (A : Option Addr) (cap : Nat) (l : List Bt.Ch), cs = [.slice A l.length cap] ∧ ArgChs w (.slice A l.length cap) l ∧ l.length ≤ maxLen := by
  rcases open_rows Try.underlying25 Try.underlying65 (by kernel_rfl) (show Try.prog.cellsOf 65 = 3 by kernel_rfl) (by kernel_rfl) h with rfl | ⟨a, len, cap, z, rfl, hl, hm, hz⟩
  · exact ⟨none, 0, [], rfl, ⟨none, 0, rfl, Nat.le_refl _, fun h => absurd rfl h⟩, Nat.zero_le _⟩
  · refine ⟨some a, cap, (List.range len).map fun i => ⟨z i 0, z i 1, z i 2⟩, by simp, ⟨some a, cap, rfl, by simpa using hl, fun hne => ?_⟩, by simp; omega⟩
    have hlen : 0 < len := by
      rcases Nat.eq_zero_or_pos len with h0 | h0
      · subst h0; exact absurd rfl hne
      · exact h0
    have h00 : w.cell? (a.add 0) = some (.int .i64 (z 0 0)) := hz 0 hlen 0 (by decide)
    obtain ⟨b, o, rfl⟩ := plain_addr h00
    refine ⟨b, o, rfl, fun i hi => ?_⟩
    have hi' : i < len := by simpa using hi
    have hc : ∀ j, j < 3 → w.cell? ⟨b, o + i * 3 + j, none⟩ = some (.int .i64 (z i j)) := fun j hj => by
      have h := hz i hi' j hj
      rw [add_plain] at h
      rw [Nat.add_assoc]
      exact h
    simp only [List.getElem_map, List.getElem_range]
    exact ⟨hc 0 (by decide), hc 1 (by decide), hc 2 (by decide)⟩
end Go.Proofs.Ytolbihilggkldaa
