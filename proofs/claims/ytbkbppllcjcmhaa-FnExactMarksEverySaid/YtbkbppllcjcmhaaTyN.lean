/-
  Nested parameters of laws: shapes, and how many elements they have.
-/
import Derived.Test.YtbkbppllcjcmhaaTyMs
set_option linter.unusedSimpArgs false
set_option linter.unusedVariables false
namespace Go.Proofs.Ytbkbppllcjcmhaa
open Go.RowKit
namespace Av
mutual
/-- how many elements the slices of a value have, down to the last -/
def totP : PV → Nat
  | .lst _ rows => totR rows
  | _ => 0
def totL : List PV → Nat
  | [] => 0
  | p :: l => totP p + totL l
def totR : List (List PV) → Nat
  | [] => 0
  | r :: l => 1 + totL r + totR l
end
def totS : List (List PV) → Nat
  | [] => 0
  | r :: l => totL r + totS l
theorem totR_eq : ∀ (R : List (List PV)), totR R = R.length + totS R
  | [] => rfl
  | r :: R => by simp only [totR, totS, totR_eq R, List.length_cons]; omega
theorem totS_take : ∀ {R : List (List PV)} {k : Nat} {r : List PV}, R[k]? = some r → totS (R.take (k + 1)) = totS (R.take k) + totL r
  | [], _, _, h => by simp at h
  | x :: R, 0, r, h => by
    obtain rfl : x = r := by simpa using h
    simp [totS]
  | x :: R, k + 1, r, h => by
    have := totS_take (R := R) (k := k) (r := r) (by simpa using h)
    simp only [List.take_succ_cons, totS, this]; omega
theorem totS_mono : ∀ (R : List (List PV)) (k : Nat), totS (R.take k) ≤ totS R
  | [], k => by simp [totS]
  | x :: R, 0 => by simp [totS]
  | x :: R, k + 1 => by
    have := totS_mono R k
    simp only [List.take_succ_cons, totS]; omega
theorem tot_ints : ∀ (R : List (List PV)) (_ : ∀ r ∈ R, ShInt r), totR R = R.length
  | [], _ => rfl
  | r :: R, h => by
    obtain ⟨a, rfl⟩ := h r (List.mem_cons_self ..)
    simp only [totR, totL, totP, pI, tot_ints R (fun x hx => h x (List.mem_cons_of_mem _ hx)), List.length_cons]; omega
theorem tot_mem : ∀ {R : List (List PV)} {r : List PV}, r ∈ R → totL r + 1 ≤ totR R
  | x :: R, r, h => by
    simp only [totR]
    rcases List.mem_cons.1 h with rfl | h
    · omega
    · have := tot_mem h; omega
theorem tot_len (R : List (List PV)) : R.length ≤ totR R := by rw [totR_eq]; omega
/-- marks are few where elements are -/
theorem cnt_tot {k : Nat} : ∀ (R : List (List PV)) (_ : ∀ r ∈ R, cntL r ≤ k * (1 + totL r)), cntR R ≤ k * totR R
  | [], _ => by simp [cntR, totR]
  | r :: R, h => by
    have h1 := h r (List.mem_cons_self ..)
    have h2 := cnt_tot R (fun x hx => h x (List.mem_cons_of_mem _ hx))
    simp only [cntR, totR, Nat.mul_add] at *
    omega
def LoIntS (R : List (List PV)) : Prop := R.length ≤ 9223372036854775807 ∧ ∀ r ∈ R, ShInt r
theorem LoIntS.sh {R : List (List PV)} (h : LoIntS R) (hl : R.length ≤ 1048576) : ShIntS R := ⟨hl, h.2⟩
def LoThread (r : List PV) : Prop := ∃ (a0 : Int) (a1 : List (List PV)) (a2 : List (List PV)) (a3 : Int), r = [pI a0, .lst 3 a1, .lst 3 a2, pI a3] ∧ LoIntS a1 ∧ LoIntS a2
def LoThreadS (R : List (List PV)) : Prop := R.length ≤ 9223372036854775807 ∧ ∀ r ∈ R, LoThread r
theorem LoThread.sh {r : List PV} (h : LoThread r) (hl : totL r ≤ 1048576) : ShThread r := by
  obtain ⟨a0, a1, a2, a3, rfl, s1, s2⟩ := h
  simp only [totL, totP, pI, tot_ints a1 s1.2, tot_ints a2 s2.2] at hl
  exact ⟨a0, a1, a2, a3, rfl, s1.sh (by omega), s2.sh (by omega)⟩
theorem LoThreadS.sh {R : List (List PV)} (h : LoThreadS R) (hl : totR R ≤ 1048576) : ShThreadS R := ⟨Nat.le_trans (tot_len R) hl, fun r hr => (h.2 r hr).sh (by have := tot_mem hr; omega)⟩
theorem cnt_ThreadS {R : List (List PV)} (h : ∀ r ∈ R, LoThread r) : cntR R ≤ 2 * totR R := cnt_tot R (fun r hr => by
  obtain ⟨a0, a1, a2, a3, rfl, s1, s2⟩ := h r hr
  have h1 := cntR_le (B := 1) a1 (fun r hr => by obtain ⟨b, rfl⟩ := s1.2 r hr; simp [cntL, cntP, pI])
  have h2 := cntR_le (B := 1) a2 (fun r hr => by obtain ⟨b, rfl⟩ := s2.2 r hr; simp [cntL, cntP, pI])
  simp only [cntL, cntP, totL, totP, pI, tot_ints a1 s1.2, tot_ints a2 s2.2]
  omega)
def LoMachine (r : List PV) : Prop := ∃ (a0 : List (List PV)) (a1 : List (List PV)) (a2 : List (List PV)) (a3 : List (List PV)), r = [.lst 133 a0, .lst 3 a1, .lst 3 a2, .lst 3 a3] ∧ LoThreadS a0 ∧ LoIntS a1 ∧ LoIntS a2 ∧ LoIntS a3
def LoMachineS (R : List (List PV)) : Prop := R.length ≤ 9223372036854775807 ∧ ∀ r ∈ R, LoMachine r
def LoUndo (r : List PV) : Prop := ∃ (a0 : Int) (a1 : Int) (a2 : List (List PV)) (a3 : List (List PV)) (a4 : Int) (a5 : Int) (a6 : Int) (a7 : Int) (a8 : Int) (a9 : Bool) (a10 : Bool), r = [pI a0, pI a1, .lst 3 a2, .lst 3 a3, pI a4, pI a5, pI a6, pI a7, pI a8, .bool a9, .bool a10] ∧ LoIntS a2 ∧ LoIntS a3
def LoUndoS (R : List (List PV)) : Prop := R.length ≤ 9223372036854775807 ∧ ∀ r ∈ R, LoUndo r
def LoMark (r : List PV) : Prop := ∃ (a0 : Int) (a1 : List (List PV)) (a2 : List (List PV)) (a3 : List (List PV)) (a4 : List (List PV)), r = [pI a0, .lst 133 a1, .lst 3 a2, .lst 3 a3, .lst 3 a4] ∧ LoThreadS a1 ∧ LoIntS a2 ∧ LoIntS a3 ∧ LoIntS a4
def LoMarkS (R : List (List PV)) : Prop := R.length ≤ 9223372036854775807 ∧ ∀ r ∈ R, LoMark r
theorem tot_Thread (a0 : Int) (a1 : List (List PV)) (a2 : List (List PV)) (a3 : Int) (s1 : LoIntS a1) (s2 : LoIntS a2) : totL [pI a0, .lst 3 a1, .lst 3 a2, pI a3] = a1.length + a2.length := by
  simp only [totL, totP, pI, tot_ints a1 s1.2, tot_ints a2 s2.2]
  omega
theorem tot_Machine (a0 : List (List PV)) (a1 : List (List PV)) (a2 : List (List PV)) (a3 : List (List PV)) (s0 : LoThreadS a0) (s1 : LoIntS a1) (s2 : LoIntS a2) (s3 : LoIntS a3) : totL [.lst 133 a0, .lst 3 a1, .lst 3 a2, .lst 3 a3] = totR a0 + a1.length + a2.length + a3.length := by
  simp only [totL, totP, pI, tot_ints a1 s1.2, tot_ints a2 s2.2, tot_ints a3 s3.2]
  omega
theorem tot_Undo (a0 : Int) (a1 : Int) (a2 : List (List PV)) (a3 : List (List PV)) (a4 : Int) (a5 : Int) (a6 : Int) (a7 : Int) (a8 : Int) (a9 : Bool) (a10 : Bool) (s2 : LoIntS a2) (s3 : LoIntS a3) : totL [pI a0, pI a1, .lst 3 a2, .lst 3 a3, pI a4, pI a5, pI a6, pI a7, pI a8, .bool a9, .bool a10] = a2.length + a3.length := by
  simp only [totL, totP, pI, tot_ints a2 s2.2, tot_ints a3 s3.2]
  omega
theorem tot_Mark (a0 : Int) (a1 : List (List PV)) (a2 : List (List PV)) (a3 : List (List PV)) (a4 : List (List PV)) (s1 : LoThreadS a1) (s2 : LoIntS a2) (s3 : LoIntS a3) (s4 : LoIntS a4) : totL [pI a0, .lst 133 a1, .lst 3 a2, .lst 3 a3, .lst 3 a4] = totR a1 + a2.length + a3.length + a4.length := by
  simp only [totL, totP, pI, tot_ints a2 s2.2, tot_ints a3 s3.2, tot_ints a4 s4.2]
  omega
def ShUndo (r : List PV) : Prop := ∃ (a0 : Int) (a1 : Int) (a2 : List (List PV)) (a3 : List (List PV)) (a4 : Int) (a5 : Int) (a6 : Int) (a7 : Int) (a8 : Int) (a9 : Bool) (a10 : Bool), r = [pI a0, pI a1, .lst 3 a2, .lst 3 a3, pI a4, pI a5, pI a6, pI a7, pI a8, .bool a9, .bool a10] ∧ ShIntS a2 ∧ ShIntS a3
def ShUndoS (R : List (List PV)) : Prop := R.length ≤ 1048576 ∧ ∀ r ∈ R, ShUndo r
def ShMark (r : List PV) : Prop := ∃ (a0 : Int) (a1 : List (List PV)) (a2 : List (List PV)) (a3 : List (List PV)) (a4 : List (List PV)), r = [pI a0, .lst 134 a1, .lst 3 a2, .lst 3 a3, .lst 3 a4] ∧ ShThreadS a1 ∧ ShIntS a2 ∧ ShIntS a3 ∧ ShIntS a4
def ShMarkS (R : List (List PV)) : Prop := R.length ≤ 1048576 ∧ ∀ r ∈ R, ShMark r
end Av
end Go.Proofs.Ytbkbppllcjcmhaa
