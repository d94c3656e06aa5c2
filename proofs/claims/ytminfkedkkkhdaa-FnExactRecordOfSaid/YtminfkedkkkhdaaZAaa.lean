/-
  Part of a proof: Plain, Kit. No condition.
-/
import Derived.WalkKit
import Derived.WalkSpells
import Derived.WalkLawsBesides
import Derived.Lib.Hide
import Derived.Deep.QuietTactic
import Derived.BigQuiet
import Derived.Lib.SmallJoins
section
namespace Go.Proofs.Ytminfkedkkkhdaa.Bt
def uOk (op : Int) : Bool := decide (0 ≤ op ∧ op ≤ 17)
def uA (op : Int) : Bool := decide ((1 ≤ op ∧ op ≤ 8) ∨ op = 10 ∨ op = 13 ∨ op = 14)
def uB (op : Int) : Bool := decide (2 ≤ op ∧ op ≤ 8)
def uC (op : Int) : Int := if op = 1 then 1 else if op = 7 ∨ op = 8 then 2 else if op = 9 ∨ op = 10 ∨ op = 11 ∨ op = 17 then 3 else if op = 15 ∨ op = 16 then 4 else 0
def topC (k : Int) : Int := if k = 1 then 10000 else if k = 2 then 8 else if k = 3 then 60 else if k = 4 then 2 else 0
def below (n top : Int) (used : Bool) : Bool := if used then decide (0 ≤ n ∧ n < top) else decide (n = 0)
def codeOk (op a b c : Int) : Bool := uOk op && below a 4 (uA op) && below b 4 (uB op) && below c (topC (uC op)) (decide (0 < uC op))
def fA (op : Int) : Int := if uA op then 1 else 0
def fB (op : Int) : Int := if uB op then 1 else 0
def fC (op : Int) : Int := if uC op = 0 then 0 else uC op + 1
def fTop (k : Int) : Int := if k = 1 then 4 else if k = 2 then 10000 else if k = 3 then 8 else if k = 4 then 60 else if k = 5 then 2 else 1
def fOk (n k : Int) : Bool := decide (0 ≤ n ∧ n < fTop k)
theorem ops (op : Int) : op = 0 ∨ op = 1 ∨ op = 2 ∨ op = 3 ∨ op = 4 ∨ op = 5 ∨ op = 6 ∨ op = 7 ∨ op = 8 ∨ op = 9 ∨ op = 10 ∨ op = 11 ∨ op = 12 ∨ op = 13 ∨ op = 14 ∨ op = 15 ∨ op = 16 ∨ op = 17 ∨ (op < 0 ∨ 17 < op) := by omega
def name (op : Int) : List UInt8 :=
 if op = 0 then [104, 97, 108, 116] else if op = 1 then [115, 101, 116] else if op = 2 then [109, 111, 118, 101] else if op = 3 then [97, 100, 100]
 else if op = 4 then [115, 117, 98] else if op = 5 then [109, 117, 108] else if op = 6 then [108, 101, 115, 115] else if op = 7 then [108, 111, 97, 100]
 else if op = 8 then [115, 116, 111, 114, 101] else if op = 9 then [106, 117, 109, 112] else if op = 10 then [122, 101, 114, 111] else if op = 11 then [99, 97, 108, 108]
 else if op = 12 then [114, 101, 116] else if op = 13 then [97, 115, 107] else if op = 14 then [116, 101, 108, 108] else if op = 15 then [108, 111, 99, 107]
 else if op = 16 then [102, 114, 101, 101] else if op = 17 then [98, 101, 103, 105, 110] else []
theorem name_none {op : Int} (h : op < 0 ∨ 17 < op) : name op = [] := by
 unfold name
 repeat (rw [if_neg (by omega)])
theorem codeOk_eq (op a b c : Int) : (uOk op && (fOk a (fA op) && fOk b (fB op) && fOk c (fC op))) = codeOk op a b c := by
 rcases ops op with h | h | h | h | h | h | h | h | h | h | h | h | h | h | h | h | h | h | h
 all_goals first | subst h | skip
 all_goals simp [codeOk, uOk, uA, uB, uC, topC, below, fOk, fA, fB, fC, fTop]
 all_goals grind
structure C4 where
 op : Int
 a : Int
 b : Int
 c : Int
def good (n : Int) (r : C4) : Bool := codeOk r.op r.a r.b r.c && !(decide (uC r.op = 3) && decide (n ≤ r.c))
def progOk (rs : List C4) (h : Int) : Bool := rs.all (good rs.length) && decide (1 ≤ rs.length ∧ rs.length ≤ 60 ∧ -1 ≤ h ∧ h < rs.length)
theorem progOk_false {rs : List C4} {h : Int} {k : Nat} (hk : k < rs.length) (hg : good rs.length rs[k] = false) : progOk rs h = false := by
 have h1 : rs.all (good rs.length) = false := by
  rw [List.all_eq_false]
  exact ⟨rs[k], List.getElem_mem hk, by simp [hg]⟩
 simp [progOk, h1]
theorem progOk_all {rs : List C4} {h : Int} {n : Nat} (hn : rs.length = n) (hg : ∀ j (hj : j < rs.length), good n rs[j] = true) : progOk rs h = decide (1 ≤ n ∧ n ≤ 60 ∧ -1 ≤ h ∧ h < n) := by
 subst hn
 have ha : rs.all (good rs.length) = true := by
  rw [List.all_eq_true]
  intro x hx
  obtain ⟨i, hi, rfl⟩ := List.getElem_of_mem hx
  exact hg i hi
 unfold progOk
 rw [ha, Bool.true_and]
theorem progOk_len {rs : List C4} {h : Int} (hp : progOk rs h = true) : rs.length ≤ 60 := by
 simp only [progOk, Bool.and_eq_true, decide_eq_true_eq] at hp
 omega
end Go.Proofs.Ytminfkedkkkhdaa.Bt
end
section
namespace Go.Proofs.Ytminfkedkkkhdaa
open Go.RowKit
theorem bDrewN {B : Nat} {u w : World} (h : Below B u w) (n : Nat) : Below B u (w.drewN n) := ⟨h.os, h.tape, h.output, h.size, h.block⟩
theorem bcell {W w1 : World} (hb : Below W.heap.size W w1) : (∀ b o, b < W.heap.size → w1.cell? ⟨b, o, none⟩ = W.cell? ⟨b, o, none⟩) ∧ (∀ b o, b < W.heap.size → w1.frozen? ⟨b, o, none⟩ = W.frozen? ⟨b, o, none⟩) :=
 ⟨fun b o h => hb.cell (p := ⟨b, o, none⟩) h, fun b o h => hb.frozen (p := ⟨b, o, none⟩) h⟩
theorem cell_lt {W : World} {p : Addr} {v : Value} (h : W.cell? p = some v) : p.block < W.heap.size := by
 by_cases hlt : p.block < W.heap.size
 ·exact hlt
 ·have hn : W.heap[p.block]? = none := Array.getElem?_eq_none (by omega)
  simp [World.cell?, hn] at h
theorem keeps {W w' : World} (hb : Below W.heap.size W w') {p : Addr} {v : Value} (h : W.cell? p = some v) : w'.cell? p = some v := by
 rw [hb.cell (cell_lt h), h]
theorem ret_bool {a b : Bool} (h : a = b) : Ending.returned (.bool a) = .returned (.bool b) := by rw [h]
theorem ret_int {k : IntKind} {a b : Int} (h : a = b) : Ending.returned (.int k a) = .returned (.int k b) := by rw [h]
def Cls (W : World) : Type := { w' : World // Below W.heap.size W w' }
instance (W : World) : Nonempty (Cls W) := ⟨⟨W, Below.refl _ _⟩⟩
def Cls.val {W : World} (x : Cls W) : World := x.1
theorem Cls.below {W : World} (x : Cls W) : Below W.heap.size W x.val := x.2
theorem Cls.keeps {W : World} {p : Addr} {v : Value} (h : W.cell? p = some v) (x : Cls W) : x.val.cell? p = some v := by rw [x.below.cell (cell_lt h), h]
theorem wp_region_cls {P : Program} {id : Nat} {Q : Exit → Act → World → Prop} {a : Act} {w : World} {l : List Oper} (hm : P.follows .mixedOrders = true) (hB : Region.lexB .any l.toArray = true)
  (h : wpQuiet P l.toArray (fun w' => ∃ x : Cls w, w' = x.val) (fun a' => ∀ w', (∃ x : Cls w, w' = x.val) → Q .normal a' w') l a) : (Code.region id l.toArray true).wp P Q a w :=
 wp_region_quiet (C := fun w' => ∃ x : Cls w, w' = x.val) hm hB ⟨⟨{ w with drawn := w.drawn + 1 }, ⟨rfl, rfl, rfl, Nat.le_refl _, fun _ _ => rfl⟩⟩, rfl⟩ (by simpa using h)
theorem cls_of {P : Program} {f : FuncId} {args : Array Value} {W : World} {x : Cls W} {v : Value}
  (h : Calls P f args x.val fun e w' => e = .returned v ∧ Below x.val.heap.size x.val w') : Calls P f args x.val fun e w'' => e = .returned v ∧ ∃ y : Cls W, w'' = y.val :=
 h.mono fun _ w' ⟨he, hb⟩ => ⟨he, ⟨w', x.below.trans (hb.mono x.below.size)⟩, rfl⟩
end Go.Proofs.Ytminfkedkkkhdaa
end
