/-
  Arguments of the laws, opened: rows of numbers, threads, machines.
  Arguments of the laws, opened: threads and machines.
-/
import Derived.Test.YtbfmhcegnffolaaRows2
import Derived.Test.YtbfmhcegnffolaaExactProgramOk
import Derived.Test.YtbfmhcegnffolaaThLawE
import Derived.Test.YtbfmhcegnffolaaStart
namespace Go.Proofs.Ytbfmhcegnffolaa
open Go.ChangeShapes Go.WideShapes Go.ChangeAt Go.RowKit Go.Joins Go.Deep

theorem cellsInt : Try.prog.cellsOf 3 = 1 := by kernel_rfl

/-- an argument that is a slice of ints, opened -/
theorem open_nums {H : Type} {enc : TypeId × Value → H} {w : World} {base : Nat} {spare : Nat → Bool} {held : Bool} {fuel : Nat} {cs : List Value} {x : DataW H × List MemPlace}
    (h : DataW.trod enc Try.prog w base spare held fuel 26 cs = some x) :
    ∃ (v : Value) (xs : List Int), cs = [v] ∧ ArgInts w v xs ∧ xs.length ≤ maxLen := by
  rcases open_ints Try.underlying26 Try.underlying3 cellsInt h with ⟨rfl, _⟩ | ⟨a, len, cap, zs, rfl, _, hl, hm, hlen, _, hz, _⟩
  · exact ⟨_, [], rfl, ⟨none, 0, rfl, Nat.le_refl _, fun h => absurd rfl h⟩, Nat.zero_le _⟩
  · have hle : len ≤ zs.length := by rw [hlen]; split <;> omega
    have ht : (zs.take len).length = len := by rw [List.length_take]; omega
    refine ⟨_, zs.take len, rfl, ⟨some a, cap, by rw [ht], by rw [ht]; exact hl, fun hne => ?_⟩, by rw [ht]; omega⟩
    have h0 : 0 < len := by
      rcases Nat.eq_zero_or_pos len with h0 | h0
      · subst h0; exact absurd rfl hne
      · exact h0
    obtain ⟨b, o, rfl⟩ := plain_addr (hz 0 (by omega))
    refine ⟨b, o, rfl, fun i hi => ?_⟩
    rw [ht] at hi
    have h := hz i (by omega)
    rw [add_plain] at h
    rw [h]
    simp [List.getD_eq_getElem?_getD, List.getElem?_eq_getElem (show i < zs.length by omega)]
end Go.Proofs.Ytbfmhcegnffolaa

namespace Go.Proofs.Ytbfmhcegnffolaa
open Go.ChangeShapes Go.WideShapes Go.ChangeAt Go.RowKit Go.Joins Go.Deep

/-- every field of every element has its cell, and reads -/
theorem open_elems {H : Type} {enc : TypeId × Value → H} {P : Program} {w : World} {base : Nat} {spare : Nat → Bool} {held : Bool} {t e : TypeId} {fs : Array Field} {fuel : Nat} {cs : List Value} {x : DataW H × List MemPlace}
    (ht : P.underlying t = some (.slice e)) (he : P.underlying e = some (.struct fs)) (hone : oneCellFields P fs = true) (hC : P.cellsOf e = fs.size) (h : DataW.trod enc P w base spare held fuel t cs = some x) :
    cs = [.slice none 0 0] ∨ ∃ (a : Addr) (len cap : Nat), cs = [.slice (some a) len cap] ∧ len ≤ cap ∧ cap ≤ maxLen ∧
      ∀ i, i < len → ∃ n', ∀ (j : Nat) (f : Field), fs[j]? = some f → ∃ (v : Value) (y : DataW H × List MemPlace), w.cell? (a.add (i * fs.size + j)) = some v ∧ DataW.trod enc P w base spare held n' f.type [v] = some y := by
  rcases open_slice ht h with ⟨h0, _⟩ | ⟨a, len, cap, m, n, D, Pl, hcs, _, hl, hm, hmm, _, hi⟩
  · exact .inl h0
  · refine .inr ⟨a, len, cap, hcs, hl, hm, fun i hil => ?_⟩
    have hle : len ≤ m := by rw [hmm]; split <;> omega
    obtain ⟨cs', hc, ht'⟩ := hi i (by omega)
    rw [hC] at hc
    obtain ⟨ys, n', _, _, hlen, hyl, hf⟩ := DataW.trod_struct he ht'
    obtain ⟨_, hcl, hat⟩ := World.cells?_some hc
    refine ⟨n', fun j f hj => ?_⟩
    have hjl : j < fs.size := (Array.getElem?_eq_some_iff.1 hj).1
    obtain ⟨ho, hk⟩ := hone_of hone j f hj
    have h1 := hf j f hj
    rw [ho, hk] at h1
    have h2 : (cs'.drop j).take 1 = [cs'[j]'(by omega)] := by
      rw [List.drop_eq_getElem_cons (by omega)]; rfl
    rw [h2] at h1
    have hys : ys[j]? = some (ys[j]'(by omega)) := List.getElem?_eq_getElem (by omega)
    refine ⟨cs'[j]'(by omega), ys[j]'(by omega), ?_, h1.trans hys⟩
    rw [← add_add, hat j hjl, List.getElem?_eq_getElem]

theorem cellsThread : Try.prog.cellsOf 109 = 4 := by kernel_rfl
theorem cellsMachine : Try.prog.cellsOf 48 = 4 := by kernel_rfl

/-- an argument that is a slice of threads, opened -/
theorem open_threads {H : Type} {enc : TypeId × Value → H} {w : World} {base : Nat} {spare : Nat → Bool} {held : Bool} {fuel : Nat} {cs : List Value} {x : DataW H × List MemPlace}
    (h : DataW.trod enc Try.prog w base spare held fuel 46 cs = some x) :
    ∃ (A : Option Addr) (n cap : Nat) (ts : List Bt.Th), cs = [.slice A n cap] ∧ ArgThs w A n cap ts ∧ n ≤ maxLen ∧ ∀ i (h : i < ts.length), ts[i].regs.length ≤ maxLen ∧ ts[i].stack.length ≤ maxLen := by
  rcases open_elems Try.underlying46 Try.underlying109 (by kernel_rfl) cellsThread h with rfl | ⟨a, len, cap, rfl, hl, hm, hi⟩
  · exact ⟨none, 0, 0, [], rfl, ⟨rfl, Nat.le_refl _, fun i hi => absurd hi (by simp)⟩, Nat.zero_le _, fun i hi => absurd hi (by simp)⟩
  · have key : ∀ i, i < len → ∃ t : Bt.Th, (∃ b o, a = ⟨b, o, none⟩ ∧ ThAt w b (o + i * 4) t) ∧ t.regs.length ≤ maxLen ∧ t.stack.length ≤ maxLen := by
      intro i hil
      obtain ⟨b, o, ho⟩ : ∃ b o, a = ⟨b, o, none⟩ := by
        obtain ⟨n0, hf0⟩ := hi 0 (by omega)
        obtain ⟨v0, y0, c0, _⟩ := hf0 0 _ rfl
        exact plain_addr c0
      obtain ⟨n', hf⟩ := hi i hil
      obtain ⟨v0, y0, c0, t0⟩ := hf 0 _ rfl
      obtain ⟨v1, y1, c1, t1⟩ := hf 1 _ rfl
      obtain ⟨v2, y2, c2, t2⟩ := hf 2 _ rfl
      obtain ⟨v3, y3, c3, t3⟩ := hf 3 _ rfl
      obtain ⟨pl, e0, _, _⟩ := DataW.trod_int Try.underlying3 t0
      obtain ⟨v1', xs, e1, p1, l1⟩ := open_nums t1
      obtain ⟨v2', ys, e2, p2, l2⟩ := open_nums t2
      obtain ⟨st, e3, _, _⟩ := DataW.trod_int Try.underlying3 t3
      simp only [List.cons.injEq, and_true] at e0 e1 e2 e3
      subst e0 e1 e2 e3
      subst ho
      obtain ⟨A1, k1, rfl, p1'⟩ := p1.form
      obtain ⟨A2, k2, rfl, p2'⟩ := p2.form
      rw [add_plain] at c0 c1 c2 c3
      refine ⟨⟨pl, xs, ys, st⟩, ⟨b, o, rfl, c0, ⟨A1, k1, c1, p1'⟩, ⟨A2, k2, c2, p2'⟩, c3⟩, l1, l2⟩
    refine ⟨some a, len, cap, (List.range len).map fun i => if h : i < len then (key i h).choose else ⟨0, [], [], 0⟩, rfl, ⟨by simp, hl, fun i hi' => ?_⟩, by omega, fun i hi' => ?_⟩
    · have hil : i < len := by simpa using hi'
      obtain ⟨⟨b, o, rfl, ht⟩, _⟩ := (key i hil).choose_spec
      refine ⟨b, o, rfl, ?_⟩
      simp only [List.getElem_map, List.getElem_range, dif_pos hil]
      exact ht
    · have hil : i < len := by simpa using hi'
      simp only [List.getElem_map, List.getElem_range, dif_pos hil]
      exact (key i hil).choose_spec.2

set_option maxRecDepth 100000 in
/-- an argument that is a machine, opened -/
theorem open_machine {H : Type} {enc : TypeId × Value → H} {w : World} {base b0 : Nat} {spare : Nat → Bool} {held : Bool} {v : Value} {d : DataW H} {p : List MemPlace}
    (hv : Value.okWide Try.prog w .any b0 48 v) (h : DataW.Trod enc Try.prog w base spare held 48 v d p) :
    ∃ (AT : Option Addr) (nt ct : Nat) (AC : Option Addr) (nc cc : Nat) (AL : Option Addr) (nl cl : Nat) (AD : Option Addr) (nd cd : Nat) (m : Bt.Mc),
      v = .agg #[.slice AT nt ct, .slice AC nc cc, .slice AL nl cl, .slice AD nd cd] ∧ ArgMc w AT nt ct AC nc cc AL nl cl AD nd cd m ∧ Lens m := by
  obtain ⟨c0, c1, c2, c3, y0, y1, y2, y3, n, rfl, _, _, hy0, hy1, hy2, hy3⟩ := open_agg4 Try.underlying48 (by kernel_rfl) cellsMachine hv h
  obtain ⟨AT, nt, ct, ts, e0, hT, lT, hL⟩ := open_threads hy0
  obtain ⟨v1, xs1, e1, p1, l1⟩ := open_nums hy1
  obtain ⟨v2, xs2, e2, p2, l2⟩ := open_nums hy2
  obtain ⟨v3, xs3, e3, p3, l3⟩ := open_nums hy3
  simp only [List.cons.injEq, and_true] at e0 e1 e2 e3
  subst e0 e1 e2 e3
  obtain ⟨A1, k1, rfl, p1'⟩ := p1.form
  obtain ⟨A2, k2, rfl, p2'⟩ := p2.form
  obtain ⟨A3, k3, rfl, p3'⟩ := p3.form
  exact ⟨AT, nt, ct, A1, _, k1, A2, _, k2, A3, _, k3, ⟨ts, xs1, xs2, xs3⟩, rfl, ⟨hT, p1', p2', p3', rfl, rfl, rfl⟩, ⟨by rw [hT.1]; exact lT, l1, l2, l3, fun i h => (hL i h).1, fun i h => (hL i h).2⟩⟩
end Go.Proofs.Ytbfmhcegnffolaa
