/-
  Chapter 6: marks of a run, told plainly.
-/
import Derived.Test.YtbkbppllcjcmhaaSThs
import Derived.Test.YtbkbppllcjcmhaaIThr
import Derived.Test.YtbkbppllcjcmhaaKept
set_option linter.unusedSimpArgs false
set_option linter.unusedVariables false
namespace Go.Proofs.Ytbkbppllcjcmhaa
open Go.RowKit
namespace Av
/-- the mark at a place -/
def mkRow (rs : List Bt.C4) (h : Int) (l : List Bt.Ch) (j : Nat) : List PV := pI j :: pMc (Bt.after rs h Bt.mcNew (l.take j))
/-- the marks at those of the first places that are kept -/
def mkRows (rs : List Bt.C4) (h : Int) (l : List Bt.Ch) (p : Nat → Bool) (k : Nat) : List (List PV) := ((List.range k).filter p).map (mkRow rs h l)
theorem mkRows_zero (rs : List Bt.C4) (h : Int) (l : List Bt.Ch) (p : Nat → Bool) : mkRows rs h l p 0 = [] := rfl
theorem mkRows_yes {rs : List Bt.C4} {h : Int} {l : List Bt.Ch} {p : Nat → Bool} {k : Nat} (hp : p k = true) : mkRows rs h l p (k + 1) = mkRows rs h l p k ++ [mkRow rs h l k] := by
  unfold mkRows
  rw [List.range_succ, List.filter_append, List.map_append]
  simp [hp]
theorem mkRows_no {rs : List Bt.C4} {h : Int} {l : List Bt.Ch} {p : Nat → Bool} {k : Nat} (hp : p k = false) : mkRows rs h l p (k + 1) = mkRows rs h l p k := by
  unfold mkRows
  rw [List.range_succ, List.filter_append, List.map_append]
  simp [hp]
theorem mkRows_len (rs : List Bt.C4) (h : Int) (l : List Bt.Ch) (p : Nat → Bool) (k : Nat) : (mkRows rs h l p k).length ≤ k := by
  unfold mkRows
  rw [List.length_map]
  exact Nat.le_trans (List.length_filter_le _ _) (by simp)
theorem mkRows_all (rs : List Bt.C4) (h : Int) (l : List Bt.Ch) (p : Nat → Bool) (hp : ∀ j, p j = true) (k : Nat) : mkRows rs h l p k = (List.range k).map (mkRow rs h l) := by
  unfold mkRows
  rw [List.filter_eq_self.2 (fun j _ => hp j)]
def manyK (rs : List Bt.C4) (h : Int) (l : List Bt.Ch) : Nat := if Bt.runOk rs h l then l.length + 1 else 0
theorem machs_lenK (rs : List Bt.C4) (h : Int) (l : List Bt.Ch) : (machs rs h l).length = manyK rs h l := by
  unfold machs manyK
  split <;> simp [alongTo]
theorem manyK_le (rs : List Bt.C4) (h : Int) (l : List Bt.Ch) : manyK rs h l ≤ l.length + 1 := by
  unfold manyK
  split <;> omega
theorem machs_getK {rs : List Bt.C4} {h : Int} {l : List Bt.Ch} {k : Nat} (hk : k < (machs rs h l).length) : (machs rs h l)[k]? = some (pMc (Bt.after rs h Bt.mcNew (l.take k))) := by
  rw [machs_lenK] at hk
  unfold manyK at hk
  unfold machs
  split at hk
  · rename_i ho
    rw [if_pos ho]
    unfold alongTo
    rw [List.getElem?_map, List.getElem?_range hk]
    rfl
  · omega
theorem mkRows_mv (rs : List Bt.C4) (h : Int) (l : List Bt.Ch) (p : Nat → Bool) {k : Nat} (hk : k ≤ (machs rs h l).length) : ((List.range k).filter p).map (fun (j : Nat) => pI (j : Int) :: ((machs rs h l)[j]?).getD []) = mkRows rs h l p k := by
  unfold mkRows
  refine List.map_congr_left (fun j hj => ?_)
  have h1 : j < k := List.mem_range.1 (List.mem_filter.1 hj).1
  rw [machs_getK (by omega)]
  rfl
/-- is it a multiple -/
def times (n : Int) (j : Nat) : Bool := ((j : Int).tmod n == 0)
def everyOf (rs : List Bt.C4) (h : Int) (l : List Bt.Ch) (n : Int) : List (List PV) := if Bt.runOk rs h l = true ∧ 1 ≤ n then mkRows rs h l (times n) (l.length + 1) else []
/-- is it kept at the end -/
def keepOf (n j : Nat) : Bool := Bt.kept (j : Int) (n : Int)
def thinOf (rs : List Bt.C4) (h : Int) (l : List Bt.Ch) : List (List PV) := if Bt.runOk rs h l = true then mkRows rs h l (keepOf l.length) (l.length + 1) else []
end Av
end Go.Proofs.Ytbkbppllcjcmhaa
