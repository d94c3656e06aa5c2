/-
  Slices of structs of integers that came in, opened to their cells: over any program.
  The frame of every law's proof: a law that is called with whatever its parameters' types allow, answers true and turns nothing that was there, keeps the row 'true, and each argument reads as it did'. No function of the program is named here.
  Two closed facts on the program, which every law's proof wants.
-/
import Derived.WalkKit
import Derived.ProofKit
import Derived.Deep.Slices
import Derived.Deep.Fields
import Derived.Handed
import Derived.OpenShut
import Derived.Test.YtbkbppllcjcmhaaRows
namespace Go.Proofs.Ytbkbppllcjcmhaa
open Go.ChangeShapes Go.WideShapes Go.ChangeAt Go.RowKit Go.Deep

section
variable {H : Type} {enc : TypeId × Value → H} {P : Program} {w : World} {base : Nat} {spare : Nat → Bool} {held : Bool}

/-- every field is an int -/
def intFields (P : Program) (fs : Array Field) : Bool := fs.all fun f => match P.underlying f.type with
  | some (.int .i64) => true
  | _ => false
theorem intFields_at {P : Program} {fs : Array Field} (h : intFields P fs = true) {j : Nat} {f : Field} (hj : fs[j]? = some f) : P.underlying f.type = some (.int .i64) := by
  unfold intFields at h
  rw [Array.all_eq_true_iff_forall_mem] at h
  have h1 := h f (Array.mem_of_getElem? hj)
  split at h1
  · assumption
  · cases h1

/-- every integer field of every element lies in its cell -/
theorem open_rows {t e : TypeId} {fs : Array Field} {fuel : Nat} {cs : List Value} {x : DataW H × List MemPlace} (ht : P.underlying t = some (.slice e)) (he : P.underlying e = some (.struct fs))
    (hone : oneCellFields P fs = true) (hC : P.cellsOf e = fs.size) (hint : intFields P fs = true) (h : DataW.trod enc P w base spare held fuel t cs = some x) :
    cs = [.slice none 0 0] ∨ ∃ (a : Addr) (len cap : Nat) (z : Nat → Nat → Int), cs = [.slice (some a) len cap] ∧ len ≤ cap ∧ cap ≤ maxLen ∧
      ∀ i, i < len → ∀ j, j < fs.size → w.cell? (a.add (i * fs.size + j)) = some (.int .i64 (z i j)) := by
  rcases open_slice ht h with ⟨h0, _⟩ | ⟨a, len, cap, m, n, D, Pl, hcs, _, hl, hm, hmm, _, hi⟩
  · exact .inl h0
  · refine .inr ?_
    have hle : len ≤ m := by rw [hmm]; split <;> omega
    have hcell : ∀ i j, i < len ∧ j < fs.size → ∃ q : Int, w.cell? (a.add (i * fs.size + j)) = some (.int .i64 q) := by
      intro i j ⟨hil, hjl⟩
      obtain ⟨cs', hc, ht'⟩ := hi i (by omega)
      rw [hC] at hc
      obtain ⟨ys, n', _, _, hlen, _, hf⟩ := DataW.trod_struct he ht'
      obtain ⟨_, hcl, hat⟩ := World.cells?_some hc
      have hj : fs[j]? = some fs[j] := Array.getElem?_eq_getElem hjl
      obtain ⟨ho, hk⟩ := hone_of hone j _ hj
      have h1 := hf j _ hj
      rw [ho, hk] at h1
      have h2 : (cs'.drop j).take 1 = [cs'[j]'(by omega)] := by
        rw [List.drop_eq_getElem_cons (by omega)]; rfl
      rw [h2] at h1
      obtain ⟨y, hy⟩ : ∃ y, ys[j]? = some y := by
        cases hys : ys[j]? with
        | none =>
          rename_i hyl
          rw [List.getElem?_eq_none_iff] at hys
          omega
        | some y => exact ⟨y, rfl⟩
      rw [hy] at h1
      obtain ⟨q, e0, _, _⟩ := DataW.trod_int (intFields_at hint hj) h1
      simp only [List.cons.injEq, and_true] at e0
      refine ⟨q, ?_⟩
      rw [← add_add, hat j hjl, List.getElem?_eq_getElem (by omega), e0]
    refine ⟨a, len, cap, fun i j => if hij : i < len ∧ j < fs.size then (hcell i j hij).choose else 0, hcs, hl, hm, fun i hil j hjl => ?_⟩
    show w.cell? (a.add (i * fs.size + j)) = some (.int .i64 (if hij : i < len ∧ j < fs.size then (hcell i j hij).choose else 0))
    rw [dif_pos (show i < len ∧ j < fs.size from ⟨hil, hjl⟩)]
    exact (hcell i j ⟨hil, hjl⟩).choose_spec

/-- a cell that holds something has a plain address -/
theorem plain_addr {a : Addr} {v : Value} (h : w.cell? a = some v) : ∃ b o, a = ⟨b, o, none⟩ := by
  obtain ⟨b, o, e⟩ := a
  cases e with
  | none => exact ⟨b, o, rfl⟩
  | some e =>
    unfold World.cell? at h
    split at h
    · simp at h
    · cases h
theorem add_zero (a : Addr) : a.add 0 = a := rfl
theorem add_plain (b o n : Nat) : (⟨b, o, none⟩ : Addr).add n = ⟨b, o + n, none⟩ := by
  unfold Addr.add
  split
  · rename_i h; subst h; rfl
  · rfl
end
end Go.Proofs.Ytbkbppllcjcmhaa

namespace Go.Proofs.Ytbkbppllcjcmhaa
open Go.ChangeShapes Go.WideShapes Go.ChangeAt Go.RowKit

/-- what was read reads as it did, argument by argument, where nothing below the old heap's end has turned -/
theorem all_stay {H : Type} {enc : TypeId × Value → H} {P : Program} (hl : laidOutB P = true) {W W' : World} (hb : Below W.heap.size W W') :
    ∀ {ts : List TypeId} {vs : List Value} {ds : List (DataW H)} {ps : List MemPlace}, (∀ t ∈ ts, P.readableRec t = true ∧ t < P.types.size) →
      DataW.TrodAll enc P W 0 (fun _ => true) true ts vs ds ps → DataW.TrodAll enc P W' 0 (fun b => decide (b < W.heap.size)) true ts vs ds ps
  | [], _, _, _, _, h => by
    obtain ⟨rfl, rfl, rfl⟩ := trodAll_nil h
    exact trodAll_mk0
  | t :: ts, _, _, _, hr, h => by
    have hlt := DataW.TrodAll.lt h
    obtain ⟨v, vs1, d, ds1, p1, p2, rfl, rfl, rfl, h1, h2⟩ := trodAll_cons h
    obtain ⟨hr1, hr2⟩ := hr t (List.mem_cons_self ..)
    exact trodAll_cons_mk (Below.trod hl hr1 hr2 h1 hb (fun x hx => hlt x (by simp [hx]))) (all_stay hl hb (fun u hu => hr u (List.mem_cons_of_mem _ hu)) h2)

theorem law_lifted {C : Checked} {H : Type} {enc : TypeId × Value → H} {os : Os} {f : FuncId} {fn : Func} {s : ChangeSpec} {tb : TypeId}
    (own : ownKnob C.prog.godebug = none) (started : os.Started) (noInit : C.prog.inits.idxOf? f = none) (hfn : C.prog.funcs[f]? = some fn)
    (witness : ∃ (w : World) (tape : Tape) (i : Input), w.os = os ∧ (w.forCall tape i).Shaped C.prog ∧ i.vars = [] ∧ Input.okWide C.prog (w.forCall tape i) .any w.heap.size f i ∧
      s.pre6 enc C.prog fn [] false (w.forCall tape i).memory i.args ∧ ({} : Assume).holds C.prog (lone (Frame.enter C.prog f i.args .normal) [] (w.forCall tape i)))
    (hlaid : laidOutB C.prog = true) (hread : ∀ t ∈ fn.params.toList, C.prog.readableRec t = true ∧ t < C.prog.types.size)
    (hres : fn.resultTypes = #[tb]) (htb : C.prog.underlying tb = some .bool) (hvars : s.vars = [])
    (hspec : ∀ ds : List (DataW H), ds.length = fn.params.toList.length → s.fn H ds = { results := [.lit (.bool true)], args := ds })
    (walk : ∀ (W : World) (base : Nat) (args : Array Value) (ds : List (DataW H)) (p : List MemPlace),
      (∀ (j : Nat) t v, fn.params[j]? = some t → args[j]? = some v → Value.okWide C.prog W .any base t v) →
      DataW.TrodAll enc C.prog W 0 (fun _ => true) true fn.params.toList args.toList ds p →
      Calls C.prog f args W fun e W' => e = .returned (.bool true) ∧ Below W.heap.size W W') :
    ReturnsInHanded {} C os f .any (s.pre6 enc C.prog fn [] false) (s.post enc C.prog fn false true false false) := by
  refine returnsInHanded_of_change (C := C) own started noInit hfn witness ?_
  intro W base args ds gs before hval hW _ _
  have hW' := hW
  obtain ⟨p, q, hA, hV, rfl, _, _⟩ := hW
  rw [hvars] at hV
  obtain ⟨rfl, rfl⟩ := trodVars_none hV
  have hlen : ∀ {ts : List TypeId} {vs : List Value} {xs : List (DataW H)} {ps : List MemPlace}, DataW.TrodAll enc C.prog W 0 (fun _ => true) true ts vs xs ps → xs.length = ts.length := by
    intro ts
    induction ts with
    | nil => intro vs xs ps h; obtain ⟨_, rfl, _⟩ := trodAll_nil h; rfl
    | cons t ts ih =>
      intro vs xs ps h
      obtain ⟨v, vs1, d, ds1, p1, p2, _, rfl, _, _, h2⟩ := trodAll_cons h
      simp [ih h2]
  have e1 : s.fn H (ds ++ []) = { results := [.lit (.bool true)], args := ds } := by rw [List.append_nil]; exact hspec ds (hlen hA)
  refine (walk W base args ds p hval hA).mono fun e W' ⟨he, hb⟩ => ⟨_, he, ?_⟩
  refine ⟨ds, [], p ++ [], [], p, [], hW', ?_, ?_, ?_, World.keptBut_mono (fun x hx => ?_) (hb.frame (· ∈ p)), fun h => by cases h⟩
  · rw [e1, hres]
    exact trodAll_mk1 (shut_bool htb true)
  · rw [e1]
    exact all_stay hlaid hb hread hA
  · rw [e1, hvars]
    rfl
  · exact ⟨by simpa using hx, .inr (.inl hx)⟩
end Go.Proofs.Ytbkbppllcjcmhaa

namespace Go.Proofs.Ytbkbppllcjcmhaa
open Go.ChangeShapes Go.WideShapes Go.ChangeAt Go.RowKit

theorem own : ownKnob Try.prog.godebug = none := by kernel_rfl
theorem laidOut : laidOutB Try.prog = true := by kernel_rfl
end Go.Proofs.Ytbkbppllcjcmhaa
