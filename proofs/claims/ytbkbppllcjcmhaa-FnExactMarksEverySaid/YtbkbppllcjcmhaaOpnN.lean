/-
  Parameters of laws, told plainly: numbers, truths, slices and structs of these, nested.
-/
import Derived.Test.YtbkbppllcjcmhaaTy
import Derived.Test.YtbkbppllcjcmhaaStart
import Derived.Test.YtbkbppllcjcmhaaOpnR
set_option linter.unusedSimpArgs false
set_option linter.unusedVariables false
namespace Go.Proofs.Ytbkbppllcjcmhaa
open Go.ChangeShapes Go.WideShapes Go.ChangeAt Go.RowKit Go.Deep
namespace Av
/-- cells read so -/
def RdL (P : Program) (w : World) : List PV → List Value → Prop
  | [], [] => True
  | p :: ps, v :: vs => Rd P w (fun _ => False) p v ∧ RdL P w ps vs
  | _, _ => False
theorem RdL.len {P : Program} {w : World} : ∀ {ps : List PV} {vs : List Value}, RdL P w ps vs → vs.length = ps.length
  | [], [], _ => rfl
  | _ :: _, _ :: _, h => by simp [RdL.len h.2]
  | [], _ :: _, h => h.elim
  | _ :: _, [], h => h.elim
theorem RdL.at {P : Program} {w : World} : ∀ {ps : List PV} {vs : List Value}, RdL P w ps vs → ∀ i (hi : i < ps.length) (hj : i < vs.length), Rd P w (fun _ => False) ps[i] vs[i]
  | [], [], _, i, hi, _ => absurd hi (by simp)
  | _ :: _, _ :: _, h, 0, _, _ => h.1
  | _ :: _, _ :: _, h, i + 1, hi, hj => RdL.at h.2 i (by simpa using hi) (by simpa using hj)
  | [], _ :: _, h, _, _, _ => h.elim
  | _ :: _, [], h, _, _, _ => h.elim
theorem RdL.append {P : Program} {w : World} : ∀ {ps qs : List PV} {vs us : List Value}, RdL P w ps vs → RdL P w qs us → RdL P w (ps ++ qs) (vs ++ us)
  | [], _, [], _, _, h => h
  | _ :: _, _, _ :: _, _, h, h' => ⟨h.1, RdL.append h.2 h'⟩
  | [], _, _ :: _, _, h, _ => h.elim
  | _ :: _, _, [], _, h, _ => h.elim
/-- the cells of a value of this type read so -/
def Opn (P : Program) (t : TypeId) (S : List PV → Prop) : Prop := ∀ (H : Type) (enc : TypeId × Value → H) (w : World) (base : Nat) (spare : Nat → Bool) (held : Bool) (fuel : Nat) (cs : List Value) (x : DataW H × List MemPlace),
  DataW.trod enc P w base spare held fuel t cs = some x → ∃ ps, RdL P w ps cs ∧ S ps
theorem opn_int {P : Program} {t : TypeId} (ht : P.underlying t = some (.int .i64)) : Opn P t (fun ps => ∃ a, ps = [pI a]) := fun H enc w base spare held fuel cs x h => by
  obtain ⟨n, rfl, _, _⟩ := DataW.trod_int ht h
  exact ⟨[pI n], ⟨.int _ _, trivial⟩, n, rfl⟩
theorem opn_bool {P : Program} {t : TypeId} (ht : P.underlying t = some .bool) : Opn P t (fun ps => ∃ a, ps = [.bool a]) := fun H enc w base spare held fuel cs x h => by
  obtain ⟨b, rfl, _⟩ := DataW.trod_bool ht h
  exact ⟨[.bool b], ⟨.bool _, trivial⟩, b, rfl⟩
theorem opn_sl {P : Program} {t e : TypeId} {S : List PV → Prop} (ht : P.underlying t = some (.slice e)) (hn : 0 < P.cellsOf e) (he : Opn P e S) : Opn P t (fun ps => ∃ R : List (List PV), ps = [.lst e R] ∧ R.length ≤ maxLen ∧ ∀ r ∈ R, S r) := fun H enc w base spare held fuel cs x h => by
  rcases open_slice ht h with ⟨rfl, _⟩ | ⟨a, len, cap, m, n, D, Pl, rfl, _, hl, hm, hmm, _, hi⟩
  · exact ⟨[.lst e []], ⟨.nil e _ _, trivial⟩, [], rfl, Nat.zero_le _, fun r hr => by cases hr⟩
  have hle : len ≤ m := by rw [hmm]; split <;> omega
  have each : ∀ i, i < len → ∃ ps cs', cs'.length = P.cellsOf e ∧ (∀ j, j < P.cellsOf e → w.cell? (a.add (i * P.cellsOf e + j)) = cs'[j]?) ∧ RdL P w ps cs' ∧ S ps := fun i hil => by
    obtain ⟨cs', hc, ht'⟩ := hi i (by omega)
    obtain ⟨_, hcl, hat⟩ := World.cells?_some hc
    obtain ⟨ps, h1, h2⟩ := he H enc w base spare held n cs' _ ht'
    exact ⟨ps, cs', hcl, fun j hj => by rw [← add_add]; exact hat j hj, h1, h2⟩
  obtain ⟨R, hR⟩ : ∃ R : List (List PV), R = (List.range len).map fun i => if h : i < len then (each i h).choose else [] := ⟨_, rfl⟩
  have hRl : R.length = len := by rw [hR]; simp
  have hRi : ∀ i (hi : i < len), R[i]? = some (each i hi).choose := fun i hi => by rw [hR]; simp [hi]
  refine ⟨[.lst e R], ⟨?_, trivial⟩, R, rfl, by omega, fun r hr => ?_⟩
  · rcases Nat.eq_zero_or_pos len with h0 | h0
    · obtain rfl := List.eq_nil_of_length_eq_zero (hRl.trans h0)
      rw [h0]
      exact .nil e _ _
    · obtain ⟨cs0, hc0, hat0, _, _⟩ := (each 0 h0).choose_spec
      have h1 := hat0 0 hn
      rw [Nat.zero_mul, Nat.zero_add, add_zero, List.getElem?_eq_getElem (by omega)] at h1
      obtain ⟨b, o, rfl⟩ := plain_addr h1
      have := Rd.lst (P := P) (w := w) (M := fun _ => False) e R b o cap (fun k => (w.cell? ⟨b, o + k, none⟩).getD undef) (cell_there h1) (by omega) (fun h => h) (fun r hr => ?_) (fun k hk => ?_) (fun i hi j hj => ?_)
      · rw [hRl] at this
        exact this
      · obtain ⟨i, hi', rfl⟩ := List.getElem_of_mem hr
        have hil : i < len := by omega
        obtain ⟨cs', hcl, hat, h2, _⟩ := (each i hil).choose_spec
        have e1 := hRi i hil
        rw [List.getElem?_eq_getElem hi'] at e1
        injection e1 with e1
        rw [e1, ← h2.len, hcl]
      · rw [hRl] at hk
        have hil : k / P.cellsOf e < len := Nat.div_lt_of_lt_mul (by rw [Nat.mul_comm]; exact hk)
        obtain ⟨cs', hcl, hat, h2, _⟩ := (each _ hil).choose_spec
        have h3 := hat (k % P.cellsOf e) (Nat.mod_lt _ hn)
        rw [add_plain, Nat.div_add_mod', List.getElem?_eq_getElem (by rw [hcl]; exact Nat.mod_lt _ hn)] at h3
        simp only [h3, Option.getD_some]
      · have hil : i < len := by omega
        obtain ⟨cs', hcl, hat, h2, _⟩ := (each i hil).choose_spec
        have e1 := hRi i hil
        rw [List.getElem?_eq_getElem hi] at e1
        injection e1 with e1
        have hj' : j < (each i hil).choose.length := by rw [← e1]; exact hj
        have hjc : j < cs'.length := by rw [h2.len]; exact hj'
        have h3 := hat j (by omega)
        rw [add_plain, List.getElem?_eq_getElem hjc] at h3
        have h4 := h2.at j hj' hjc
        simp only [h3, Option.getD_some]
        simp only [e1]
        exact h4
  · obtain ⟨i, hi', rfl⟩ := List.getElem_of_mem hr
    have hil : i < len := by omega
    obtain ⟨cs', hcl, hat, h2, h3⟩ := (each i hil).choose_spec
    have e1 := hRi i hil
    rw [List.getElem?_eq_getElem hi'] at e1
    injection e1 with e1
    rw [e1]
    exact h3
/-- the cells of these fields read so -/
def OpnF (P : Program) (fs : List (Nat × TypeId)) (off N : Nat) (S : List PV → Prop) : Prop := ∀ (H : Type) (enc : TypeId × Value → H) (w : World) (base : Nat) (spare : Nat → Bool) (held : Bool) (fuel : Nat) (cs : List Value), cs.length = N →
  (∀ p ∈ fs, ∃ y, DataW.trod enc P w base spare held fuel p.2 ((cs.drop p.1).take (P.cellsOf p.2)) = some y) → ∃ ps, RdL P w ps (cs.drop off) ∧ S ps
theorem opnF_nil (P : Program) (N : Nat) : OpnF P [] N N (fun ps => ps = []) := fun H enc w base spare held fuel cs hl _ => ⟨[], by rw [List.drop_of_length_le (by omega)]; trivial, rfl⟩
theorem opnF_cons {P : Program} {t : TypeId} {off k N : Nat} {fs : List (Nat × TypeId)} {S1 S2 : List PV → Prop} (h1 : Opn P t S1) (hk : P.cellsOf t = k) (h2 : OpnF P fs (off + k) N S2) : OpnF P ((off, t) :: fs) off N (fun ps => ∃ a b, ps = a ++ b ∧ S1 a ∧ S2 b) := fun H enc w base spare held fuel cs hl hf => by
  obtain ⟨y, hy⟩ := hf _ (List.mem_cons_self ..)
  obtain ⟨a, ha, hs⟩ := h1 H enc w base spare held fuel _ _ hy
  obtain ⟨b, hb, hs'⟩ := h2 H enc w base spare held fuel cs hl (fun p hp => hf p (List.mem_cons_of_mem _ hp))
  refine ⟨a ++ b, ?_, a, b, rfl, hs, hs'⟩
  have := ha.append hb
  rw [hk, ← List.drop_drop, List.take_append_drop] at this
  exact this
theorem opn_struct {P : Program} {t : TypeId} {fs : Array Field} {l : List (Nat × TypeId)} {N : Nat} {S : List PV → Prop} (ht : P.underlying t = some (.struct fs)) (hl : fs.toList.map (fun f => (f.offset, f.type)) = l) (hN : P.cellsOf t = N) (hf : OpnF P l 0 N S) : Opn P t S := fun H enc w base spare held fuel cs x h => by
  obtain ⟨ys, n, _, _, hlen, hys, hat⟩ := DataW.trod_struct ht h
  obtain ⟨ps, h1, h2⟩ := hf H enc w base spare held n cs (hlen.trans hN) (fun p hp => by
    rw [← hl] at hp
    obtain ⟨f, hfm, rfl⟩ := List.mem_map.1 hp
    obtain ⟨i, hi, rfl⟩ := List.getElem_of_mem hfm
    have hi' : i < fs.size := by simpa using hi
    have := hat i fs[i] (Array.getElem?_eq_getElem hi')
    rw [List.getElem?_eq_getElem (by omega)] at this
    exact ⟨_, this⟩)
  exact ⟨ps, h1, h2⟩
theorem Opn.mono {P : Program} {t : TypeId} {S S' : List PV → Prop} (h : Opn P t S) (hS : ∀ ps, S ps → S' ps) : Opn P t S' := fun H enc w base spare held fuel cs x hx => by
  obtain ⟨ps, h1, h2⟩ := h H enc w base spare held fuel cs x hx
  exact ⟨ps, h1, hS ps h2⟩
/-- a struct that came in -/
theorem opn_arg {P : Program} {t : TypeId} {fs : Array Field} {S : List PV → Prop} (ho : Opn P t S) (ht : P.underlying t = some (.struct fs)) {H : Type} {enc : TypeId × Value → H} {w : World} {base b0 : Nat} {r : Reach} {spare : Nat → Bool} {held : Bool} {v : Value} {d : DataW H} {p : List MemPlace}
    (hv : Value.okWide P w r b0 t v) (h : DataW.Trod enc P w base spare held t v d p) : ∃ ps, Rd P w (fun _ => False) (.agg ps) v ∧ S ps := by
  obtain ⟨cs, rfl, _⟩ := okWide_struct ht hv
  obtain ⟨fuel, hf⟩ := h
  obtain ⟨ps, h1, h2⟩ := ho H enc w base spare held fuel _ _ hf
  refine ⟨ps, ?_, h2⟩
  have h3 : RdL P w ps cs.toList := h1
  have := Rd.agg (P := P) (w := w) (M := fun _ => False) ps cs.toList h3.len (fun i hi => h3.at i hi _)
  simpa using this
/-- a slice that came in -/
theorem opn_argS {P : Program} {t e : TypeId} {S : List PV → Prop} (ho : Opn P t (fun ps => ∃ R : List (List PV), ps = [.lst e R] ∧ R.length ≤ maxLen ∧ ∀ r ∈ R, S r)) (ht : P.underlying t = some (.slice e)) {H : Type} {enc : TypeId × Value → H} {w : World} {base b0 : Nat} {r : Reach} {spare : Nat → Bool} {held : Bool} {v : Value} {d : DataW H} {p : List MemPlace}
    (hv : Value.okWide P w r b0 t v) (h : DataW.Trod enc P w base spare held t v d p) : ∃ R : List (List PV), Rd P w (fun _ => False) (.lst e R) v ∧ R.length ≤ maxLen ∧ ∀ r ∈ R, S r := by
  obtain ⟨a, q, z, rfl⟩ := okWide_slice ht hv
  obtain ⟨fuel, hf⟩ := h
  obtain ⟨ps, h1, R, rfl, h2, h3⟩ := ho H enc w base spare held fuel _ _ hf
  exact ⟨R, h1.1, h2, h3⟩
end Av
end Go.Proofs.Ytbkbppllcjcmhaa
