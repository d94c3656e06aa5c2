/-
  Runs, told plainly: how many choices of a row can be made, the machine behind them, what can be chosen, what a seed chooses.
-/
import Derived.Test.YtemogjmghgfdfaaPur
namespace Go.Proofs.Ytemogjmghgfdfaa

namespace Bt
/-- how many choices of a row can be made from a machine on -/
def goFrom (rs : List C4) (h : Int) : Mc → List Ch → Nat
  | _, [] => 0
  | m, c :: l => match doM rs h m c with
    | none => 0
    | some m' => goFrom rs h m' l + 1
/-- the machine behind a row -/
def after (rs : List C4) (h : Int) : Mc → List Ch → Mc
  | m, [] => m
  | m, c :: l => after rs h ((doM rs h m c).getD mcNil) l
theorem goFrom_no {rs : List C4} {h : Int} {m : Mc} {c : Ch} {l : List Ch} (e : doM rs h m c = none) : goFrom rs h m (c :: l) = 0 := by simp only [goFrom, e]
theorem goFrom_yes {rs : List C4} {h : Int} {m m' : Mc} {c : Ch} {l : List Ch} (e : doM rs h m c = some m') : goFrom rs h m (c :: l) = goFrom rs h m' l + 1 := by simp only [goFrom, e]
theorem goFrom_le (rs : List C4) (h : Int) : ∀ (l : List Ch) (m : Mc), goFrom rs h m l ≤ l.length
  | [], _ => by simp [goFrom]
  | c :: l, m => by
    cases e : doM rs h m c with
    | none => rw [goFrom_no e]; omega
    | some m' =>
      have := goFrom_le rs h l m'
      rw [goFrom_yes e, List.length_cons]
      omega
theorem after_snoc (rs : List C4) (h : Int) : ∀ (l : List Ch) (m : Mc) (c : Ch), after rs h m (l ++ [c]) = (doM rs h (after rs h m l) c).getD mcNil
  | [], _, _ => rfl
  | _ :: l, _, c => after_snoc rs h l _ c
theorem after_take {rs : List C4} {h : Int} {l : List Ch} {m : Mc} {k : Nat} (hk : k < l.length) : after rs h m (l.take (k + 1)) = (doM rs h (after rs h m (l.take k)) l[k]).getD mcNil := by
  rw [List.take_succ_eq_append_getElem hk, after_snoc]
/-- the answers of RunLong and RunOk -/
def runLong (rs : List C4) (h : Int) (l : List Ch) : Int := if progOk rs h then (goFrom rs h mcNew (l.take 300) : Nat) else -1
def runOk (rs : List C4) (h : Int) (l : List Ch) : Bool := decide (l.length ≤ 300) && runLong rs h l == (l.length : Int)
/-- every choice of a whole row can be made -/
theorem goFrom_all {rs : List C4} {h : Int} : ∀ {l : List Ch} {m : Mc} (_ : goFrom rs h m l = l.length) {k : Nat} (hk : k < l.length), (doM rs h (after rs h m (l.take k)) l[k]).isSome = true
  | [], _, _, _, hk => absurd hk (by simp)
  | c :: l, m, e, k, hk => by
    cases hd : doM rs h m c with
    | none => rw [goFrom_no hd] at e; simp at e
    | some m' =>
      rw [goFrom_yes hd, List.length_cons] at e
      have e' : goFrom rs h m' l = l.length := by omega
      cases k with
      | zero => simp [after, hd]
      | succ k =>
        have := goFrom_all e' (k := k) (by simpa using hk)
        simpa [after, hd] using this
theorem runOk_facts {rs : List C4} {h : Int} {l : List Ch} (e : runOk rs h l = true) : progOk rs h = true ∧ l.length ≤ 300 ∧ goFrom rs h mcNew l = l.length := by
  unfold runOk runLong at e
  rw [Bool.and_eq_true, decide_eq_true_eq, beq_iff_eq] at e
  obtain ⟨e1, e2⟩ := e
  by_cases hp : progOk rs h = true
  · rw [if_pos hp, List.take_of_length_le (by omega)] at e2
    exact ⟨hp, e1, by omega⟩
  · rw [if_neg hp] at e2
    omega
/-- the machine behind some choices is small -/
theorem after_sz (rs : List C4) (h : Int) (l : List Ch) : mcSz (after rs h mcNew l) ≤ 1048576 := by
  rcases List.eq_nil_or_concat l with rfl | ⟨l', c, rfl⟩
  · show mcSz mcNew ≤ 1048576
    decide
  · rw [List.concat_eq_append, after_snoc]
    exact made_sz rs h _ c
/-- the choices that can be made of a machine -/
def chooseOf (rs : List C4) (h : Int) (m : Mc) (k : Nat) : List Ch := (if canDo rs h m ⟨k, 0, 0⟩ then [⟨k, 0, 0⟩] else []) ++ (if canDo rs h m ⟨k, 1, 0⟩ then [⟨k, 1, 0⟩] else [])
def chooseAll (rs : List C4) (h : Int) (m : Mc) : List Ch := (List.range m.ths.length).flatMap (chooseOf rs h m)
/-- the choice that a seed takes of those that there are -/
def seedPick (rs : List C4) (h : Int) (m : Mc) (s : Int) (c : Ch) : Ch := match instrOf rs h m c.who with
  | some x => if x.op = 13 ∧ c.kind = 0 then ⟨c.who, c.kind, s % 10000⟩ else c
  | none => c
/-- the choices that a seed takes -/
def seedRun (rs : List C4) (h : Int) : Nat → Int → Mc → List Ch
  | 0, _, _ => []
  | n + 1, s, m => match (chooseAll rs h m)[(s * 16807 % 2147483647 % (chooseAll rs h m).length).toNat]? with
    | none => []
    | some c => seedPick rs h m (s * 16807 % 2147483647) c :: seedRun rs h n (s * 16807 % 2147483647) ((doM rs h m (seedPick rs h m (s * 16807 % 2147483647) c)).getD mcNil)
/-- the machine behind the first choices of a run, if it is one and there are so many -/
def machAt (rs : List C4) (h : Int) (l : List Ch) (a : Int) : Option Mc := if runOk rs h l = true ∧ 0 ≤ a ∧ a ≤ l.length then some (after rs h mcNew (l.take a.toNat)) else none
def choosing (rs : List C4) (h : Int) (l : List Ch) : List Ch := chooseAll rs h ((machAt rs h l l.length).getD mcNil)
theorem made_few (rs : List C4) (h : Int) (m : Mc) (c : Ch) : ((doM rs h m c).getD mcNil).ths.length ≤ 5 := by
  cases hd : doM rs h m c with
  | none => exact Nat.zero_le _
  | some m' =>
    show m'.ths.length ≤ 5
    obtain ⟨who, kd, rep⟩ := c
    cases hc : canDo rs h m ⟨who, kd, rep⟩ with
    | false => rw [doM_no hc] at hd; cases hd
    | true =>
      obtain ⟨hm, hr⟩ := canDo_true hc
      have f1 := (machOk_facts hm).few
      simp only at hr
      have hlr := runs_lt hr
      obtain ⟨k, rfl⟩ : ∃ k : Nat, who = k := ⟨who.toNat, by omega⟩
      have hk : k < m.ths.length := by omega
      rw [doM_in hc hk] at hd
      split at hd
      · injection hd with hd
        subst hd
        simp
        omega
      · split at hd
        · injection hd with hd
          subst hd
          simp
          omega
        · split at hd
          · injection hd with hd
            subst hd
            simp
            omega
          · injection hd with hd
            subst hd
            show (thsI m k m.ths[k] _ rep).length ≤ 5
            unfold thsI
            split <;> simp <;> omega
theorem machAt_few (rs : List C4) (h : Int) (l : List Ch) (a : Int) : ((machAt rs h l a).getD mcNil).ths.length ≤ 5 := by
  unfold machAt
  split
  · show (after rs h mcNew _).ths.length ≤ 5
    rcases List.eq_nil_or_concat (l.take a.toNat) with e | ⟨l', c, e⟩
    · rw [e]
      show mcNew.ths.length ≤ 5
      decide
    · rw [e, List.concat_eq_append, after_snoc]
      exact made_few rs h _ c
  · exact Nat.zero_le _
theorem choose_succ (rs : List C4) (h : Int) (m : Mc) (j : Nat) : (List.range (j + 1)).flatMap (chooseOf rs h m) = (List.range j).flatMap (chooseOf rs h m) ++ chooseOf rs h m j := by
  rw [List.range_succ, List.flatMap_append]
  simp
def choosePart (rs : List C4) (h : Int) (m : Mc) (j q : Nat) : List Ch := (List.range q).flatMap fun (i : Nat) => if canDo rs h m ⟨j, i, 0⟩ then [⟨j, i, 0⟩] else []
theorem choosePart_two (rs : List C4) (h : Int) (m : Mc) (j : Nat) : choosePart rs h m j 2 = chooseOf rs h m j := by
  unfold choosePart chooseOf
  simp [List.range_succ]
theorem choosePart_succ (rs : List C4) (h : Int) (m : Mc) (j q : Nat) : choosePart rs h m j (q + 1) = choosePart rs h m j q ++ (if canDo rs h m ⟨j, q, 0⟩ then [⟨j, q, 0⟩] else []) := by
  unfold choosePart
  rw [List.range_succ, List.flatMap_append]
  simp
theorem choosePart_len (rs : List C4) (h : Int) (m : Mc) (j : Nat) : ∀ q, (choosePart rs h m j q).length ≤ q
  | 0 => by simp [choosePart]
  | q + 1 => by
    have := choosePart_len rs h m j q
    rw [choosePart_succ, List.length_append]
    split <;> simp <;> omega
theorem choose_len (rs : List C4) (h : Int) (m : Mc) : ∀ j, ((List.range j).flatMap (chooseOf rs h m)).length ≤ 2 * j
  | 0 => by simp
  | j + 1 => by
    have := choose_len rs h m j
    rw [choose_succ, List.length_append]
    have : (chooseOf rs h m j).length ≤ 2 := by
      unfold chooseOf
      split <;> split <;> simp
    omega
/-- the answer of RunOfSeed -/
def runOfSeed (rs : List C4) (h : Int) (s n : Int) : List Ch := if progOk rs h = true ∧ 0 ≤ s ∧ s ≤ 2147483646 ∧ 0 ≤ n ∧ n ≤ 300 then seedRun rs h n.toNat s mcNew else []
theorem seedRun_none {rs : List C4} {h : Int} {n : Nat} {s : Int} {m : Mc} (e : chooseAll rs h m = []) : seedRun rs h n s m = [] := by
  cases n with
  | zero => rfl
  | succ n => simp only [seedRun, e]; rfl
theorem seedRun_some {rs : List C4} {h : Int} {n : Nat} {s s1 : Int} {m : Mc} {c : Ch} {i : Nat} {all : List Ch} (ha : chooseAll rs h m = all) (e : s * 16807 % 2147483647 = s1) (ei : s1 % (all.length : Int) = i) (hi : i < all.length) (hc : all[i] = c) :
    seedRun rs h (n + 1) s m = seedPick rs h m s1 c :: seedRun rs h n s1 ((doM rs h m (seedPick rs h m s1 c)).getD mcNil) := by
  have key : all[(s * 16807 % 2147483647 % (all.length : Int)).toNat]? = some c := by
    rw [e, ei, Int.toNat_natCast, List.getElem?_eq_getElem hi, hc]
  rw [seedRun, ha, key, e]
/-- a row's choices can be made up to one -/
theorem goFrom_eq {rs : List C4} {h : Int} : ∀ {l : List Ch} {m : Mc} {i : Nat} (_ : i ≤ l.length) (_ : ∀ j (hj : j < l.length), j < i → (doM rs h (after rs h m (l.take j)) l[j]).isSome = true) (_ : ∀ hj : i < l.length, doM rs h (after rs h m (l.take i)) l[i] = none), goFrom rs h m l = i
  | [], _, i, hi, _, _ => by simp at hi; simp [goFrom, hi]
  | c :: l, m, i, hi, ha, hn => by
    cases i with
    | zero =>
      have := hn (by simp)
      exact goFrom_no (by simpa [after] using this)
    | succ i =>
      have h0 := ha 0 (by simp) (by omega)
      cases e : doM rs h m c with
      | none => simp [after, e] at h0
      | some m' =>
        rw [goFrom_yes e, goFrom_eq (i := i) (by simpa using hi) (fun j hj hji => ?_) (fun hj => ?_)]
        · have := ha (j + 1) (by simpa using hj) (by omega)
          simpa only [List.take_succ_cons, after, e, Option.getD_some, List.getElem_cons_succ] using this
        · have := hn (by simpa using hj)
          simpa only [List.take_succ_cons, after, e, Option.getD_some, List.getElem_cons_succ] using this
end Bt
theorem Bt.machAt_sz (rs : List Bt.C4) (h : Int) (l : List Bt.Ch) (a : Int) : Bt.mcSz ((Bt.machAt rs h l a).getD Bt.mcNil) ≤ 1048576 := by
  unfold Bt.machAt
  split
  · exact Bt.after_sz rs h _
  · show Bt.mcSz Bt.mcNil ≤ 1048576
    decide
theorem Bt.choosing_len (rs : List Bt.C4) (h : Int) (l : List Bt.Ch) : (Bt.choosing rs h l).length ≤ 1048576 := by
  unfold Bt.choosing Bt.chooseAll
  have h1 := Bt.choose_len rs h ((Bt.machAt rs h l l.length).getD Bt.mcNil) ((Bt.machAt rs h l l.length).getD Bt.mcNil).ths.length
  have h2 := Bt.machAt_few rs h l l.length
  omega
end Go.Proofs.Ytemogjmghgfdfaa
