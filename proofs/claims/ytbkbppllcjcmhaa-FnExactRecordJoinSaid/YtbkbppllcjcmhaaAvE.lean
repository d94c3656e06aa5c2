/-
  Values told plainly: what a value reads as (Rd), and what reads so in memory of a call's own (Ow). Over any program.
  A plain machine: what an operation does to values told plainly, what it looks at, and what is asked of it. Over any program.
  When memory is as a plain machine tells: the relation, and what keeps it. Over any program.
  One operation: memory turns as the plain machine tells. Operations that only look.
  One operation that only looks: memory stays as the plain machine tells.
-/
import Derived.Test.YtbkbppllcjcmhaaKit
import Derived.Orders
import Derived.Laws.OwnMore
import Derived.Laws.Cells
import Derived.Laws.Small
set_option linter.unusedSimpArgs false
set_option linter.unusedVariables false
namespace Go.Proofs.Ytbkbppllcjcmhaa
open Go.RowKit
namespace Av

/-- a value, told plainly; a slice: its element type, and the cells of each element; a struct: its cells -/
inductive PV where
  | int (k : IntKind) (n : Int)
  | bool (b : Bool)
  | str (s : ByteArray)
  | lst (e : TypeId) (rows : List (List PV))
  | agg (cs : List PV)
  | tup (vs : List PV)
instance : Inhabited PV := ⟨.bool false⟩

/-- a byte, told plainly -/
def pB (b : UInt8) : List PV := [.int .u8 (b.toNat : Int)]
/-- the cells are a byte -/
def isByte : List PV → Bool
  | [.int .u8 n] => decide (0 ≤ n) && decide (n ≤ 255)
  | _ => false
def byteOf : List PV → Int
  | [.int _ n] => n
  | _ => 0
def allBy (rows : List (List PV)) : Bool := rows.all isByte
/-- rows of bytes as a text -/
def strOf (rows : List (List PV)) : ByteArray := ⟨(rows.map fun r => UInt8.ofNat (byteOf r).toNat).toArray⟩

/-- the value reads so, from blocks that are not in M -/
inductive Rd (P : Program) (w : World) (M : Nat → Prop) : PV → Value → Prop
  | int (k : IntKind) (n : Int) : Rd P w M (.int k n) (.int k n)
  | bool (b : Bool) : Rd P w M (.bool b) (.bool b)
  | str (s : ByteArray) : Rd P w M (.str s) (.string s)
  | nil (e : TypeId) (a : Option Addr) (cap : Nat) : Rd P w M (.lst e []) (.slice a 0 cap)
  | lst (e : TypeId) (rows : List (List PV)) (b o cap : Nat) (f : Nat → Value) (hb : b < w.heap.size) (hc : rows.length ≤ cap) (hM : ¬ M b) (hs : ∀ r ∈ rows, r.length = P.cellsOf e)
      (hcell : ∀ k, k < rows.length * P.cellsOf e → w.cell? ⟨b, o + k, none⟩ = some (f k))
      (hr : ∀ i (hi : i < rows.length) j (hj : j < rows[i].length), Rd P w M rows[i][j] (f (i * P.cellsOf e + j))) : Rd P w M (.lst e rows) (.slice (some ⟨b, o, none⟩) rows.length cap)
  | agg (cs : List PV) (vs : List Value) (hl : vs.length = cs.length) (h : ∀ i (hi : i < cs.length), Rd P w M cs[i] (vs[i]'(by omega))) : Rd P w M (.agg cs) (.agg vs.toArray)
  | tup (cs : List PV) (vs : List Value) (hl : vs.length = cs.length) (h : ∀ i (hi : i < cs.length), Rd P w M cs[i] (vs[i]'(by omega))) : Rd P w M (.tup cs) (.tuple vs.toArray)

/-- the value reads so from memory that is all in S, each block of it once -/
inductive Ow (P : Program) (w : World) : (Nat → Prop) → PV → Value → Prop
  | int (S : Nat → Prop) (k : IntKind) (n : Int) : Ow P w S (.int k n) (.int k n)
  | bool (S : Nat → Prop) (b : Bool) : Ow P w S (.bool b) (.bool b)
  | str (S : Nat → Prop) (s : ByteArray) : Ow P w S (.str s) (.string s)
  | lst (S : Nat → Prop) (e : TypeId) (rows : List (List PV)) (v : Value) (xs : List Value) (f : Nat → Value) (T : Nat → Nat → Prop) (ho : w.ownsRow 0 e (P.cellsOf e) v rows.length xs) (hs : ∀ r ∈ rows, r.length = P.cellsOf e)
      (hS : ∀ g, v.ownBlock = some g → S g) (hT : ∀ k g, T k g → S g ∧ v.ownBlock ≠ some g) (hd : ∀ k k' g, T k g → T k' g → k = k') (hf : ∀ k, k < rows.length * P.cellsOf e → xs[k]? = some (f k))
      (hr : ∀ i (hi : i < rows.length) j (hj : j < rows[i].length), Ow P w (T (i * P.cellsOf e + j)) rows[i][j] (f (i * P.cellsOf e + j))) : Ow P w S (.lst e rows) v
  | agg (S : Nat → Prop) (cs : List PV) (vs : List Value) (T : Nat → Nat → Prop) (hl : vs.length = cs.length) (hT : ∀ k g, T k g → S g) (hd : ∀ k k' g, T k g → T k' g → k = k')
      (h : ∀ i (hi : i < cs.length), Ow P w (T i) cs[i] (vs[i]'(by omega))) : Ow P w S (.agg cs) (.agg vs.toArray)
  | tup (S : Nat → Prop) (cs : List PV) (vs : List Value) (T : Nat → Nat → Prop) (hl : vs.length = cs.length) (hT : ∀ k g, T k g → S g) (hd : ∀ k k' g, T k g → T k' g → k = k')
      (h : ∀ i (hi : i < cs.length), Ow P w (T i) cs[i] (vs[i]'(by omega))) : Ow P w S (.tup cs) (.tuple vs.toArray)

/-- blocks that are not in M are as they were -/
def Keeps (M : Nat → Prop) (w w' : World) : Prop := w.heap.size ≤ w'.heap.size ∧ ∀ b, b < w.heap.size → ¬ M b → w'.heap[b]? = w.heap[b]?
theorem Keeps.refl (M : Nat → Prop) (w : World) : Keeps M w w := ⟨Nat.le_refl _, fun _ _ _ => rfl⟩
theorem Keeps.of_below {M : Nat → Prop} {w w' : World} (h : Below w.heap.size w w') : Keeps M w w' := ⟨h.size, fun b hb _ => h.block b hb⟩

section
variable {P : Program} {w w' : World} {M M' : Nat → Prop}
theorem Rd.keep {p : PV} {v : Value} (h : Rd P w M p v) (hk : Keeps M w w') (hM : ∀ b, b < w.heap.size → M' b → M b) : Rd P w' M' p v := by
  induction h with
  | int k n => exact .int k n
  | bool b => exact .bool b
  | str s => exact .str s
  | nil e a cap => exact .nil e a cap
  | lst e rows b o cap f hb hc hMb hs hcell hr ih =>
    refine .lst e rows b o cap f (Nat.lt_of_lt_of_le hb hk.1) hc (fun h => hMb (hM b hb h)) hs (fun k hk' => ?_) (fun i hi j hj => ih i hi j hj)
    rw [World.cell?_of_block (a := ⟨b, o + k, none⟩) (hk.2 b hb hMb)]
    exact hcell k hk'
  | agg cs vs hl h ih => exact .agg cs vs hl ih
  | tup cs vs hl h ih => exact .tup cs vs hl ih
/-- any reading will do where nothing may turn -/
theorem Rd.weak {p : PV} {v : Value} (h : Rd P w M p v) (hM : ∀ b, M' b → M b) : Rd P w M' p v := h.keep (Keeps.refl _ _) (fun b _ => hM b)
theorem Ow.mono {S S' : Nat → Prop} {p : PV} {v : Value} (h : Ow P w S p v) (hS : ∀ g, S g → S' g) : Ow P w S' p v := by
  cases h with
  | int => exact .int _ _ _
  | bool => exact .bool _ _
  | str => exact .str _ _
  | lst _ e rows _ xs f T ho hs hSv hT hd hf hr => exact .lst _ e rows v xs f T ho hs (fun g hg => hS g (hSv g hg)) (fun k g hk => ⟨hS g (hT k g hk).1, (hT k g hk).2⟩) hd hf hr
  | agg _ cs vs T hl hT hd h => exact .agg _ cs vs T hl (fun k g hk => hS g (hT k g hk)) hd h
  | tup _ cs vs T hl hT hd h => exact .tup _ cs vs T hl (fun k g hk => hS g (hT k g hk)) hd h
theorem Ow.keep {S : Nat → Prop} {p : PV} {v : Value} (h : Ow P w S p v) (hk : ∀ g, S g → g < w.heap.size → w'.heap[g]? = w.heap[g]?) : Ow P w' S p v := by
  induction h with
  | int _ k n => exact .int _ k n
  | bool _ b => exact .bool _ b
  | str _ s => exact .str _ s
  | lst S e rows v xs f T ho hs hSv hT hd hf hr ih =>
    refine .lst _ e rows v xs f T ?_ hs hSv hT hd hf (fun i hi j hj => ih i hi j hj (fun g hg => hk g (hT _ g hg).1))
    refine ⟨ho.1, ?_⟩
    rcases ho.2 with h0 | ⟨g, cap, cur, hv, hb, hg, rest⟩
    · exact .inl h0
    · refine .inr ⟨g, cap, cur, hv, hb, ?_, rest⟩
      rw [hk g (hSv g (by rw [hv]; rfl)) (Array.getElem?_eq_some_iff.1 hg).1]
      exact hg
  | agg _ cs vs T hl hT hd h ih => exact .agg _ cs vs T hl hT hd (fun i hi => ih i hi (fun g hg => hk g (hT _ g hg)))
  | tup _ cs vs T hl hT hd h ih => exact .tup _ cs vs T hl hT hd (fun i hi => ih i hi (fun g hg => hk g (hT _ g hg)))
theorem row_cells {e : TypeId} {s n : Nat} {v : Value} {xs : List Value} {B : Nat} (ho : w.ownsRow B e s v n xs) {f : Nat → Value} (hf : ∀ k, k < n * s → xs[k]? = some (f k)) :
    (v = .slice none 0 0 ∧ n = 0) ∨ ∃ g cap, v = .slice (some ⟨g, 0, none⟩) n cap ∧ B ≤ g ∧ g < w.heap.size ∧ n ≤ cap ∧ ∀ k, k < n * s → w.cell? ⟨g, k, none⟩ = some (f k) := by
  have ho' := ho
  rcases ho.2 with h0 | ⟨g, cap, cur, hv, hb, hg, hn, _⟩
  · exact .inl h0
  · subst hv
    exact .inr ⟨g, cap, rfl, hb, (Array.getElem?_eq_some_iff.1 hg).1, hn, fun k hk => by rw [World.ownsRow.cellAt ho' k hk]; exact hf k hk⟩
theorem Ow.rd {S : Nat → Prop} {p : PV} {v : Value} (h : Ow P w S p v) (hM : ∀ g, S g → ¬ M g) : Rd P w M p v := by
  induction h with
  | int _ k n => exact .int k n
  | bool _ b => exact .bool b
  | str _ s => exact .str s
  | lst S e rows v xs f T ho hs hSv hT hd hf hr ih =>
    rcases row_cells ho hf with ⟨rfl, h0⟩ | ⟨g, cap, rfl, _, hlt, hn, hc⟩
    · obtain rfl := List.eq_nil_of_length_eq_zero h0
      exact .nil _ _ _
    · refine .lst e rows g 0 cap f hlt hn (hM g (hSv g rfl)) hs (fun k hk => ?_) (fun i hi j hj => ih i hi j hj (fun g' hg' => hM g' (hT _ g' hg').1))
      rw [Nat.zero_add]
      exact hc k hk
  | agg _ cs vs T hl hT hd h ih => exact .agg cs vs hl (fun i hi => ih i hi (fun g hg => hM g (hT _ g hg)))
  | tup _ cs vs T hl hT hd h ih => exact .tup cs vs hl (fun i hi => ih i hi (fun g hg => hM g (hT _ g hg)))
end

/-- the value holds no slice -/
def PV.flat : PV → Bool
  | .int .. | .bool _ | .str _ => true
  | _ => false
theorem Rd.flat_ow {P : Program} {w : World} {M S : Nat → Prop} {p : PV} {v : Value} (h : Rd P w M p v) (hf : p.flat = true) : Ow P w S p v := by
  cases h with
  | int => exact .int _ _ _
  | bool => exact .bool _ _
  | str => exact .str _ _
  | nil | lst | agg | tup => cases hf
/-- a leaf is one cell -/
def PV.leaf : PV → Bool
  | .int .. | .bool _ | .str _ | .lst .. => true
  | _ => false
theorem Rd.cells_leaf {P : Program} {w : World} {M : Nat → Prop} {p : PV} {v : Value} (h : Rd P w M p v) (hl : p.leaf = true) : v.cells = #[v] := by
  cases h <;> first | rfl | cases hl
end Av
end Go.Proofs.Ytbkbppllcjcmhaa

namespace Go.Proofs.Ytbkbppllcjcmhaa
open Go.RowKit
namespace Av

/-- what is known of a slot: nothing; a plain value; no slice; a row of the call's own; a place of a box; a place of an element of a row, or of a plain slice; a struct; a tuple -/
inductive AV where
  | und
  | pv (p : PV)
  | nil (e : TypeId)
  | sl (b : Nat)
  | ptr (b o : Nat)
  | eltS (b : Nat) (e : TypeId) (i o : Nat)
  | eltP (e : TypeId) (rows : List (List PV)) (i o : Nat)
  | agg (cs : List AV)
  | tup (vs : List AV)
  /-- an operation that was left out -/
  | out
instance : Inhabited AV := ⟨.und⟩
/-- what is known of a block -/
inductive Blk where
  | none
  | dead
  | box (cs : List AV)
  | row (own : Bool) (e : TypeId) (rows : List (List PV))
  | frz (e : TypeId) (rows : List (List PV))
  /-- all of it, down to the last block, is the call's own, and nothing else is known of it -/
  | tree (e : TypeId) (rows : List (List PV))
  /-- a tree whose element i is told of cell by cell: what is left out there is as it was; others are rows of their own, or plain -/
  | opn (e : TypeId) (rows : List (List PV)) (i : Nat) (cs : List AV)
structure ASt where
  t : Nat → AV
  h : Nat → Blk
def upd {α : Type} (f : Nat → α) (k : Nat) (v : α) (x : Nat) : α := if x = k then v else f x
def updL {α : Type} (f : Nat → α) : List (Nat × α) → Nat → α
  | [] => f
  | (k, v) :: l => updL (upd f k v) l

/-- what kind of type it is -/
inductive TK where
  | int (k : IntKind)
  | bool
  | str
  | slice (e : TypeId)
  | struct (fs : List (Nat × TypeId))
  | arr (e : TypeId) (n size : Nat) (fs : List (Nat × TypeId))
/-- what is known of a type -/
structure TI where
  kind : TK
  size : Nat
  bytes : Nat
  zero : List AV
def TI.agg (x : TI) : Bool := match x.kind with
  | .struct _ | .arr .. => true
  | _ => false
def TI.elem (x : TI) : TypeId := match x.kind with
  | .slice e => e
  | _ => 0
/-- what a zero cell is -/
def zv : AV → Option Value
  | .pv (.int k n) => some (.int k n)
  | .pv (.bool b) => some (.bool b)
  | .pv (.str s) => some (.string s)
  | .nil _ => some (.slice none 0 0)
  | _ => none
structure TFits (P : Program) (t : TypeId) (x : TI) : Prop where
  info : ∃ i z, P.info? t = some i ∧ i.zero = some z ∧ i.size = x.size ∧ i.bytes = x.bytes ∧ z.cells.toList.map some = x.zero.map zv ∧ z.cells.size = x.size
  kind : match x.kind with
    | .int k => P.underlying t = some (.int k)
    | .bool => P.underlying t = some .bool
    | .str => P.underlying t = some .string
    | .slice e => P.underlying t = some (.slice e)
    | .arr e n size fs => P.underlying t = some (.array n e) ∧ (∃ i, P.info? e = some i ∧ i.size = size) ∧ size ≠ 0 ∧ fs = (List.range n).map fun i => (i * size, e)
    | .struct fs => ∃ gs : Array Field, P.underlying t = some (.struct gs) ∧ gs.toList.map (fun f => (f.offset, f.type)) = fs ∧ ∀ f ∈ gs.toList, (P.info? f.type).isSome = true
/-- the table of types -/
structure Tab where
  P : Program
  tb : TypeId → Option TI
  fits : ∀ t x, tb t = some x → TFits P t x
  /-- in a law memory of its own is told of as trees -/
  md : Bool
  /-- sums are told wrapped -/
  wr : Bool

/-- what an operation leaves: what its slot holds, and the blocks that are others -/
structure ARes where
  av : AV
  upd : List (Nat × Blk)
/-- looks at slots and blocks, with what is asked on the way -/
inductive Rq where
  | ret (r : ARes)
  | getT (t : Nat) (k : AV → Rq)
  | getH (b : Nat) (k : Blk → Rq)
  | need (p : Prop) (k : Rq)
  | cond (c : Bool) (a b : Rq)
  | row (rows : List (List PV)) (i : Nat) (k : List PV → Rq)
  | call (p : PV → Bool → Prop) (k : PV → Bool → Rq)
  | fail
/-- what is looked at: slots, blocks -/
structure Seen where
  ts : List Nat
  hs : List Nat
def Rq.run (S : ASt) : Rq → Seen → (ARes → Seen → Prop) → Prop
  | .ret r, s, K => K r s
  | .getT t k, s, K => (k (S.t t)).run S ⟨t :: s.ts, s.hs⟩ K
  | .getH b k, s, K => (k (S.h b)).run S ⟨s.ts, b :: s.hs⟩ K
  | .need p k, s, K => p ∧ k.run S s K
  | .cond c a b, s, K => (c = true → a.run S s K) ∧ (c = false → b.run S s K)
  | .row rows i k, s, K => ∃ r, rows[i]? = some r ∧ (k r).run S s K
  | .call p k, s, K => ∃ r own, p r own ∧ (k r own).run S s K
  | .fail, _, _ => False
/-- the answer and what was looked at are just these -/
def isRes (r : ARes) (s : Seen) (r' : ARes) (s' : Seen) : Prop := r' = r ∧ s' = s
theorem Rq.elim {S : ASt} {K : ARes → Seen → Prop} : ∀ {q : Rq} {s : Seen}, q.run S s K → ∃ r s', q.run S s (isRes r s') ∧ K r s'
  | .ret r, s, h => ⟨r, s, ⟨rfl, rfl⟩, h⟩
  | .getT t k, s, h => elim (q := k (S.t t)) h
  | .getH b k, s, h => elim (q := k (S.h b)) h
  | .need p k, s, h => let ⟨r, s', h1, h2⟩ := elim (q := k) h.2; ⟨r, s', ⟨h.1, h1⟩, h2⟩
  | .cond true a b, s, h => let ⟨r, s', h1, h2⟩ := elim (q := a) (h.1 rfl); ⟨r, s', ⟨fun _ => h1, fun e => by cases e⟩, h2⟩
  | .cond false a b, s, h => let ⟨r, s', h1, h2⟩ := elim (q := b) (h.2 rfl); ⟨r, s', ⟨(fun e => by cases e), fun _ => h1⟩, h2⟩
  | .row rows i k, s, ⟨x, hx, h⟩ => let ⟨r, s', h1, h2⟩ := elim (q := k x) h; ⟨r, s', ⟨x, hx, h1⟩, h2⟩
  | .call p k, s, ⟨x, own, hx, h⟩ => let ⟨r, s', h1, h2⟩ := elim (q := k x own) h; ⟨r, s', ⟨x, own, hx, h1⟩, h2⟩
theorem Rq.seen_mono {S : ASt} {r : ARes} {s' : Seen} : ∀ {q : Rq} {s : Seen}, q.run S s (isRes r s') → (∀ t ∈ s.ts, t ∈ s'.ts) ∧ ∀ b ∈ s.hs, b ∈ s'.hs
  | .ret _, s, h => by obtain ⟨_, e⟩ := h; subst e; exact ⟨fun _ h => h, fun _ h => h⟩
  | .getT t k, s, h => by
    have := seen_mono (q := k (S.t t)) h
    exact ⟨fun x hx => this.1 x (List.mem_cons_of_mem _ hx), this.2⟩
  | .getH b k, s, h => by
    have := seen_mono (q := k (S.h b)) h
    exact ⟨this.1, fun x hx => this.2 x (List.mem_cons_of_mem _ hx)⟩
  | .need p k, s, h => seen_mono (q := k) h.2
  | .cond true a b, s, h => seen_mono (q := a) (h.1 rfl)
  | .cond false a b, s, h => seen_mono (q := b) (h.2 rfl)
  | .row rows i k, s, ⟨x, _, h⟩ => seen_mono (q := k x) h
  | .call p k, s, ⟨x, own, _, h⟩ => seen_mono (q := k x own) h
/-- where all that was looked at is the same the answer is the same -/
theorem Rq.near {S S' : ASt} {r : ARes} {s' : Seen} (ht : ∀ t ∈ s'.ts, S'.t t = S.t t) (hh : ∀ b ∈ s'.hs, S'.h b = S.h b) : ∀ {q : Rq} {s : Seen}, q.run S s (isRes r s') → q.run S' s (isRes r s')
  | .ret _, s, h => h
  | .getT t k, s, h => by
    have hm := (seen_mono (q := k (S.t t)) h).1 t (List.mem_cons_self ..)
    show (k (S'.t t)).run S' _ _
    rw [ht t hm]
    exact Rq.near ht hh (q := k (S.t t)) h
  | .getH b k, s, h => by
    have hm := (seen_mono (q := k (S.h b)) h).2 b (List.mem_cons_self ..)
    show (k (S'.h b)).run S' _ _
    rw [hh b hm]
    exact Rq.near ht hh (q := k (S.h b)) h
  | .need p k, s, h => ⟨h.1, Rq.near ht hh (q := k) h.2⟩
  | .cond true a b, s, h => ⟨fun _ => Rq.near ht hh (q := a) (h.1 rfl), fun e => by cases e⟩
  | .cond false a b, s, h => ⟨(fun e => by cases e), fun _ => Rq.near ht hh (q := b) (h.2 rfl)⟩
  | .row rows i k, s, ⟨x, hx, h⟩ => ⟨x, hx, Rq.near ht hh (q := k x) h⟩
  | .call p k, s, ⟨x, own, hx, h⟩ => ⟨x, own, hx, Rq.near ht hh (q := k x own) h⟩

/-- a function with a text -/
def Ent (P : Program) (f : FuncId) : Prop := ∃ fn, P.funcs[f]? = some fn ∧ (fn.name == "runtime.NumGoroutine") = false ∧ fn.body.isNone = false
/-- a call answers so: whatever memory the arguments lie in -/
def FnOk (P : Program) (f : FuncId) (ps : List PV) (r : PV) (own : Bool) : Prop := Ent P f ∧
  ∀ (w : World) (M : Nat → Prop) (vs : List Value), vs.length = ps.length → (∀ i (hi : i < ps.length) (hj : i < vs.length), Rd P w M ps[i] vs[i]) →
    Calls P f vs.toArray w fun e w' => ∃ v, e = .returned v ∧ Below w.heap.size w w' ∧
      if own then Ow P w' (fun g => w.heap.size ≤ g ∧ g < w'.heap.size) r v else Rd P w' (fun g => M g ∧ g < w.heap.size) r v

/-- a value, or each cell of a struct, lies in memory of its own -/
def OwA (P : Program) (w : World) (Q : Nat → Nat → Prop) (p : PV) (v : Value) : Prop := match p with
  | .agg cs => ∃ vs : List Value, v = .agg vs.toArray ∧ ∃ hl : vs.length = cs.length, ∀ i (hi : i < cs.length), Ow P w (Q i) cs[i] (vs[i]'(by omega))
  | p => Ow P w (Q 0) p v
/-- of what was there only these blocks have turned -/
structure Turned (Q : Nat → Prop) (w w' : World) : Prop where
  os : w'.os = w.os
  tape : w'.tape = w.tape
  output : w'.output = w.output
  size : w.heap.size ≤ w'.heap.size
  block : ∀ b, b < w.heap.size → ¬ Q b → w'.heap[b]? = w.heap[b]?
/-- a call writes its first argument, a tree, and answers so -/
def MutOk (P : Program) (f : FuncId) (p : PV) (n : Int) (p' : PV) (r : Int) : Prop := Ent P f ∧
  ∀ (w : World) (v : Value) (Q : Nat → Nat → Prop), OwA P w Q p v → (∀ i j g, Q i g → Q j g → i = j) → (∀ i g, Q i g → g < w.heap.size) →
    Calls P f #[v, .int .i64 n] w fun e w' => e = .returned (.int .i64 r) ∧ Turned (fun g => ∃ i, Q i g) w w' ∧ OwA P w' Q p' v

/-- a constant, told plainly -/
def ofV (e : TypeId) : Value → AV
  | .int k n => .pv (.int k n)
  | .bool b => .pv (.bool b)
  | .string s => .pv (.str s)
  | .slice none 0 0 => .nil e
  | _ => .und
section
variable (E : Tab) (m : Nat)
/-- the element type of a slice type -/
def elemOf (t : TypeId) : TypeId := match E.tb t with
  | some x => x.elem
  | none => 0
def ev (t : TypeId) (x : Operand) (k : AV → Rq) : Rq := match x with
  | .tmp i => .getT i k
  | .const v => k (ofV (elemOf E t) v)
  | _ => .fail
/-- what reads so now -/
def snap (x : AV) (k : PV → Rq) : Rq := match x with
  | .pv p => k p
  | .nil e => k (.lst e [])
  | .sl b => .getH b fun
    | .row _ e rows => k (.lst e rows)
    | .frz e rows => k (.lst e rows)
    | _ => .fail
  | _ => .fail
def snaps : List AV → (List PV → Rq) → Rq
  | [], k => k []
  | x :: l, k => snap x fun p => snaps l fun ps => k (p :: ps)
/-- an argument: one cell, or a struct -/
def snapA (x : AV) (k : PV → Rq) : Rq := match x with
  | .agg cs => snaps cs fun ps => k (.agg ps)
  | x => snap x k
def snapAs : List AV → (List PV → Rq) → Rq
  | [], k => k []
  | x :: l, k => snapA x fun p => snapAs l fun ps => k (p :: ps)
/-- in a law: what reads so now -/
def snapT (x : AV) (k : PV → Rq) : Rq := match x with
  | .pv p => k p
  | .nil e => k (.lst e [])
  | .sl b => .getH b fun
    | .tree e rows => k (.lst e rows)
    | _ => .fail
  | _ => .fail
def snapTs : List AV → (List PV → Rq) → Rq
  | [], k => k []
  | x :: l, k => snapT x fun p => snapTs l fun ps => k (p :: ps)
def snapTA (x : AV) (k : PV → Rq) : Rq := match x with
  | .agg cs => snapTs cs fun ps => k (.agg ps)
  | x => snapT x k
def snapTAs : List AV → (List PV → Rq) → Rq
  | [], k => k []
  | x :: l, k => snapTA x fun p => snapTAs l fun ps => k (p :: ps)
/-- trees in place of rows -/
def treeU : List (Nat × Blk) → List (Nat × Blk)
  | [] => []
  | (b, .row _ e rows) :: l => (b, .tree e rows) :: treeU l
  | x :: l => x :: treeU l
/-- the trees of an argument, told of anew -/
def putL : List AV → List PV → List (Nat × Blk)
  | .sl b :: l, .lst e rows :: k => (b, .tree e rows) :: putL l k
  | _ :: l, _ :: k => putL l k
  | _, _ => []
def putT : AV → PV → List (Nat × Blk)
  | .agg cs, .agg qs => putL cs qs
  | .sl b, .lst e rows => [(b, .tree e rows)]
  | _, _ => []
/-- the cells of a value -/
def cellsOf (x : AV) (k : List AV → Rq) : Rq := match x with
  | .agg cs => k cs
  | .pv p => if p.leaf then k [.pv p] else .fail
  | .nil e => k [.nil e]
  | .sl b => .getH b fun
    | .row .. => k [.sl b]
    | .frz .. => k [.sl b]
    | .tree .. => k [.sl b]
    | _ => .fail
  | _ => .fail
def AV.rowOf : AV → Option Nat
  | .sl c => some c
  | _ => none
def AV.leaf : AV → Bool
  | .pv p => p.leaf
  | .nil _ | .sl _ => true
  | _ => false
/-- the rows among these are rows -/
def rowsChk : List AV → Rq → Rq
  | [], k => k
  | .sl b :: l, k => .getH b fun
    | .row .. => rowsChk l k
    | .frz .. => rowsChk l k
    | .tree .. => rowsChk l k
    | .opn .. => rowsChk l k
    | _ => .fail
  | _ :: l, k => rowsChk l k
def setL {α : Type} (cs : List α) (o : Nat) : List α → List α
  | [] => cs
  | x :: l => setL (cs.set o x) (o + 1) l
/-- a variable of a type in cells -/
def ldv (x : TI) (cs : List AV) (k : AV → Rq) : Rq :=
  if x.agg then .need (x.size ≤ cs.length) (k (.agg (cs.take x.size))) else match cs with
    | c :: _ => k c
    | [] => .fail
/-- what is known of what a call hands back: its slices are rows -/
def introL (m : Nat) : List PV → List AV × List (Nat × Blk) × Nat
  | [] => ([], [], m)
  | .lst e rows :: l => let r := introL (m + 1) l; (.sl m :: r.1, (m, .row true e rows) :: r.2.1, r.2.2)
  | p :: l => let r := introL m l; (.pv p :: r.1, r.2.1, r.2.2)
def intro1 (m : Nat) : PV → AV × List (Nat × Blk) × Nat
  | .agg cs => let r := introL m cs; (.agg r.1, r.2.1, r.2.2)
  | p => match introL m [p] with
    | (x :: _, u, n) => (x, u, n)
    | (_, u, n) => (.und, u, n)
def intros (m : Nat) : List PV → List AV × List (Nat × Blk) × Nat
  | [] => ([], [], m)
  | p :: l => let a := intro1 m p; let r := intros a.2.2 l; (a.1 :: r.1, a.2.1 ++ r.2.1, r.2.2)
def introT (m : Nat) : PV → AV × List (Nat × Blk) × Nat
  | .tup vs => let r := intros m vs; (.tup r.1, r.2.1, r.2.2)
  | p => intro1 m p
/-- plain values of a call that does not own them -/
def plain1 : PV → AV
  | .agg cs => .agg (cs.map .pv)
  | p => .pv p
def plainT : PV → AV
  | .tup vs => .tup (vs.map plain1)
  | p => plain1 p
/-- the rows among these -/
def slots : List AV → List Nat
  | [] => []
  | .sl b :: l => b :: slots l
  | .agg cs :: l => slots cs ++ slots l
  | _ :: l => slots l
/-- rows that are handed on are not written any more -/
def freeze : List Nat → (List (Nat × Blk) → Rq) → Rq
  | [], k => k []
  | b :: l, k => .getH b fun B => freeze l fun u => match B with
    | .row _ e rows => k ((b, .frz e rows) :: u)
    | .opn .. => .fail
    | _ => k u
/-- trees that are handed on are not written any more -/
def freezeT : List Nat → (List (Nat × Blk) → Rq) → Rq
  | [], k => k []
  | b :: l, k => .getH b fun B => freezeT l fun u => match B with
    | .tree e rows => k ((b, .frz e rows) :: u)
    | _ => .fail
/-- whether cells are of memory of the call's own -/
def ownQ : List AV → (Bool → Rq) → Rq
  | [], k => k true
  | .pv p :: l, k => ownQ l fun q => k (p.flat && q)
  | .nil _ :: l, k => ownQ l k
  | .sl b :: l, k => .getH b fun B => ownQ l fun q => k ((match B with | .row own _ _ => own | _ => false) && q)
  | _ :: _, k => k false
def nodupB : List Nat → Bool
  | [] => true
  | b :: l => !l.contains b && nodupB l
/-- what a law's calls hand back: numbers, slices, structs of these, and tuples of these -/
def PV.leafT : PV → Bool
  | .int .. | .bool _ | .str _ | .lst .. => true
  | _ => false
def PV.oneT : PV → Bool
  | .agg cs => cs.all PV.leafT
  | p => p.leafT
def PV.allT : PV → Bool
  | .tup ps => ps.all PV.oneT
  | p => p.oneT
/-- what a law's call may write -/
def AV.ownLeaf : AV → Bool
  | .pv p => p.flat
  | .sl _ => true
  | _ => false
def AV.ownArg : AV → Bool
  | .agg cs => cs.all AV.ownLeaf
  | x => x.ownLeaf
def leafRows (rows : List (List PV)) : Bool := rows.all fun r => r.all PV.leaf
def flatRows (rows : List (List PV)) : Bool := rows.all fun r => r.all PV.flat
def intB (k : IntKind) (n : Int) : Prop := match k with
  | .i64 => -9223372036854775808 ≤ n ∧ n ≤ 9223372036854775807
  | .u8 => 0 ≤ n ∧ n ≤ 255
  | .i32 => -2147483648 ≤ n ∧ n ≤ 2147483647
  | .u32 => 0 ≤ n ∧ n ≤ 4294967295
  | .u64 => 0 ≤ n ∧ n ≤ 18446744073709551615
  | _ => False
/-- a product as a number of a kind -/
def mulW (k : IntKind) (a b : Int) : Int := k.wrap (a * b)
/-- a sum as a number of a kind -/
def addW (k : IntKind) (a b : Int) : Int := k.wrap (a + b)
/-- two numbers of a kind, bit by bit -/
def andW (k : IntKind) (a b : Int) : Int := k.wrap ((BitVec.ofInt k.bits a &&& BitVec.ofInt k.bits b).toNat : Int)
def ret (a : AV) : Rq := .ret ⟨a, []⟩
def isBool (t : TypeId) : Bool := match E.tb t with
  | some x => match x.kind with
    | .bool => true
    | _ => false
  | none => false
def addR : Bool → IntKind → Int → Int → Rq
  | true, k, a, b => ret (.pv (.int k (addW k a b)))
  | false, k, a, b => .need (intB k (a + b)) (ret (.pv (.int k (a + b))))
def binA (isB wr : Bool) (op : BinOp) (x y : AV) : Rq := match x, y with
  | .pv (.int k a), .pv (.int k' b) => if k ≠ k' then .fail else match op with
    | .add => addR wr k a b
    | .sub => .need (intB k (a - b)) (ret (.pv (.int k (a - b))))
    | .mul => ret (.pv (.int k (mulW k a b)))
    | .quo => .need (b ≠ 0 ∧ intB k (a.tdiv b)) (ret (.pv (.int k (a.tdiv b))))
    | .rem => .need (b ≠ 0) (ret (.pv (.int k (a.tmod b))))
    | .eql => ret (.pv (.bool (a == b)))
    | .neq => ret (.pv (.bool (a != b)))
    | .lss => ret (.pv (.bool (decide (a < b))))
    | .leq => ret (.pv (.bool (decide (a ≤ b))))
    | .gtr => ret (.pv (.bool (decide (a > b))))
    | .geq => ret (.pv (.bool (decide (a ≥ b))))
    | .and => ret (.pv (.int k (andW k a b)))
    | _ => .fail
  | .pv (.str a), .pv (.str b) => match op with
    | .add => .need (a.size + b.size ≤ 9223372036854775807) (ret (.pv (.str (a ++ b))))
    | .eql => ret (.pv (.bool (a.toList == b.toList)))
    | .neq => ret (.pv (.bool (!(a.toList == b.toList))))
    | _ => .fail
  | .pv (.bool a), .pv (.bool b) => match isB, op with
    | true, .eql => ret (.pv (.bool (a == b)))
    | true, .neq => ret (.pv (.bool (!(a == b))))
    | _, _ => .fail
  | _, _ => .fail
def lenQ (k : TK) (x : AV) : Rq := match k, x with
  | .str, .pv (.str s) => ret (.pv (.int .i64 s.size))
  | .slice _, x => snap x fun
    | .lst _ rows => ret (.pv (.int .i64 rows.length))
    | _ => .fail
  | _, _ => .fail
/-- the elements of a slice that is copied from, and whether they are of the call's own -/
def srcQ (x : AV) (k : TypeId → List (List PV) → Bool → List (Nat × Blk) → Rq) : Rq := match x with
  | .pv (.lst e rows) => k e rows (flatRows rows) []
  | .nil e => k e [] true []
  | .sl c => .getH c fun
    | .row own e rows => k e rows (own || flatRows rows) [(c, .frz e rows)]
    | .frz e rows => k e rows (flatRows rows) []
    | _ => .fail
  | _ => .fail
def appQ (bytes : Nat) (et : TypeId) (x y : AV) : Rq := srcQ y fun e2 rows2 own2 u2 => match x with
  | .nil e => .need (e = e2 ∧ e = et ∧ rows2.length ≤ 4294967296 ∧ bytes ≤ 32768 ∧ leafRows rows2 = true) (.ret ⟨.sl m, u2 ++ [(m, .row own2 e rows2)]⟩)
  | .sl b => .getH b fun
    | .row own e rows => .need (e = e2 ∧ e = et ∧ rows.length + rows2.length ≤ 4294967296 ∧ bytes ≤ 32768 ∧ leafRows rows2 = true ∧ y.rowOf ≠ some b) (.ret ⟨.sl m, u2 ++ [(b, .dead), (m, .row (own && own2) e (rows ++ rows2))]⟩)
    | _ => .fail
  | _ => .fail
end
/-- what is known of operands, with their types -/
def evs (E : Tab) : List TypeId → List Operand → (List AV → Rq) → Rq
  | _, [], k => k []
  | ts, x :: l, k => ev E (ts.headD 0) x fun a => evs E ts.tail l fun as => k (a :: as)
/-- a struct of its parts -/
def buildQ (E : Tab) (fs : List (Nat × TypeId)) : List (Nat × Operand) → List AV → (List AV → Rq) → Rq
  | [], cs, k => k cs
  | (i, x) :: l, cs, k => match fs[i]? with
    | some (off, ft) => match E.tb ft with
      | some y => ev E ft x fun a => cellsOf a fun xs => .need (xs.length = y.size ∧ off + xs.length ≤ cs.length) (buildQ E fs l (setL cs off xs) k)
      | none => .fail
    | none => .fail
/-- the elements of a slice that is written out -/
def rowsQ (E : Tab) (e size : Nat) : Nat → List (Nat × Operand) → (Nat → List (List PV) → List AV → Rq) → Rq
  | i, [], k => k i [] []
  | i, (j, x) :: l, k => if i = j then ev E e x fun a => cellsOf a fun xs => .need (xs.length = size ∧ xs.all AV.leaf = true) (snaps xs fun ps => rowsQ E e size (i + 1) l fun n rows cs => k n (ps :: rows) (xs ++ cs)) else .fail
/-- a zero cell, told plainly -/
def zp : AV → PV
  | .pv p => p
  | .nil e => .lst e []
  | _ => .bool false
/-- a byte of a string -/
def byteAt (s : ByteArray) (i : Nat) : Nat := ((s[i]?).map (·.toNat)).getD 0
def boundQ (y : Option AV) (d : Int) (k : Int → Rq) : Rq := match y with
  | none => k d
  | some (.pv (.int _ n)) => k n
  | _ => .fail
def sliceP (e : TypeId) (rows : List (List PV)) (lo hi : Option AV) : Rq := boundQ lo 0 fun l => boundQ hi rows.length fun h => .need (0 ≤ l ∧ l ≤ h ∧ h ≤ rows.length) (ret (.pv (.lst e ((rows.take h.toNat).drop l.toNat))))
/-- a part of a string -/
def sliceStr (x : AV) (lo hi : Option AV) : Rq := match x with
  | .pv (.str s) => boundQ lo 0 fun l => boundQ hi s.size fun h => .need (0 ≤ l ∧ l ≤ h ∧ h ≤ s.size) (ret (.pv (.str (s.extract l.toNat h.toNat))))
  | _ => .fail
/-- a part of a slice of elements of a type -/
def sliceRow (et : TypeId) (m : Nat) (x : AV) (lo hi : Option AV) : Rq := match x with
  | .pv (.lst e rows) => .need (e = et) (sliceP e rows lo hi)
  | .sl b => .getH b fun
    | .row own e rows => match lo with
      | none => boundQ hi rows.length fun h => .need (e = et ∧ 0 ≤ h ∧ h ≤ rows.length) (.ret ⟨.sl m, [(b, .dead), (m, .row own e (rows.take h.toNat))]⟩)
      | _ => .fail
    | .frz e rows => .need (e = et) (sliceP e rows lo hi)
    | _ => .fail
  | _ => .fail
def evO (E : Tab) : Option Operand → (Option AV → Rq) → Rq
  | none, k => k none
  | some x, k => ev E 0 x fun a => k (some a)
/-- a call in a law: what it hands back is told of as trees, or it writes its first argument -/
def lawQ (E : Tab) (m : Nat) (f : FuncId) (as : List AV) : Rq := snapTAs as fun ps => .call (fun r own => if own then FnOk E.P f ps r true ∧ (introT m r).2.2 ≤ m + 16 ∧ r.allT = true else (∃ p n p' z, ps = [p, .int .i64 n] ∧ r = .tup [.tup [p', .int .i64 z]] ∧ MutOk E.P f p n p' z ∧ nodupB (slots as) = true ∧ (as.headD .und).ownArg = true) ∨ ∃ q, r = .agg [q] ∧ FnOk E.P f ps q false) fun r own =>
  .cond own (.ret ⟨(introT m r).1, treeU (introT m r).2.1⟩) (match as, r with
    | [x, _], .tup [.tup [p', z]] => .ret ⟨.pv z, putT x p'⟩
    | _, .agg [q] => freezeT (slots as) fun u => .ret ⟨plainT q, u⟩
    | _, _ => .fail)
/-- what an operation does -/
def aop (E : Tab) (m : Nat) (o : Oper) : Rq := match o.op with
  | .move x | .assign x => ev E o.type x ret
  | .pick c a b => ev E 0 c fun
    | .pv (.bool t) => .cond t (ev E o.type a ret) (ev E o.type b ret)
    | _ => .fail
  | .alloc t => match E.tb t with
    | some x => .ret ⟨.ptr m 0, [(m, .box x.zero)]⟩
    | none => .fail
  | .box t x => ev E t x fun a => cellsOf a fun cs => .ret ⟨.ptr m 0, [(m, .box cs)]⟩
  | .build t parts => match E.tb t with
    | some x => match x.kind with
      | .struct fs => buildQ E fs parts.toList x.zero fun cs => ret (.agg cs)
      | .arr _ _ _ fs => buildQ E fs parts.toList x.zero fun cs => ret (.agg cs)
      | _ => .fail
    | none => .fail
  | .buildSlice t len parts => match E.tb t with
    | some x => match x.kind with
      | .slice e => match E.tb e with
        | some y => .need (0 < y.size ∧ len * y.size ≤ 16777216) (rowsQ E e y.size 0 parts.toList fun n rows cs => .need (n = len) (ownQ cs fun own => freeze (slots cs) fun u => .ret ⟨.sl m, u ++ [(m, .row (own && nodupB (slots cs)) e rows)]⟩))
        | none => .fail
      | _ => .fail
    | none => .fail
  | .load t a => match E.tb t with
    | some x => ev E 0 a fun
      | .ptr b o => .getH b fun
        | .box cs => ldv x (cs.drop o) ret
        | _ => .fail
      | .eltS b e i o => .getH b fun
        | .row _ e' rows => .need (e = e') (.row rows i fun r => ldv x ((r.drop o).map .pv) ret)
        | .opn e' _ i' cs => .need (e = e' ∧ i = i' ∧ cs.all AV.leaf = true) (ldv x (cs.drop o) ret)
        | _ => .fail
      | .eltP _ rows i o => .row rows i fun r => ldv x ((r.drop o).map .pv) ret
      | _ => .fail
    | none => .fail
  | .store t a x => match E.tb t with
    | some y => ev E 0 a fun p => ev E t x fun v => cellsOf v fun xs => .need (xs.length = y.size ∧ xs.all AV.leaf = true) (match p with
      | .ptr b o => .getH b fun
        | .box cs => .need (o + xs.length ≤ cs.length) (rowsChk xs (.ret ⟨.und, [(b, .box (setL cs o xs))]⟩))
        | _ => .fail
      | .eltS b e i o => snaps xs fun ps => .getH b fun
        | .row own e' rows => .need (e = e') (.row rows i fun r => .need (o + ps.length ≤ r.length) (.cond (ps.all PV.flat) (.ret ⟨.und, [(b, .row own e' (rows.set i (setL r o ps)))]⟩) (ownQ xs fun q => .need (own = true ∧ q = true ∧ nodupB (slots xs) = true ∧ (slots xs).contains b = false) (freeze (slots xs) fun u => .ret ⟨.und, u ++ [(b, .row own e' (rows.set i (setL r o ps)))]⟩))))
        | .opn e' rows i' cs => .need (e = e' ∧ i = i' ∧ o + xs.length ≤ cs.length) (rowsChk xs (.ret ⟨.und, [(b, .opn e' rows i' (setL cs o xs))]⟩))
        | _ => .fail
      | _ => .fail)
    | none => .fail
  | .binOp op t x y _ => ev E t x fun a => ev E t y fun b => binA (isBool E t) E.wr op a b
  | .unOp op _ x => ev E o.type x fun
    | .pv (.bool b) => match op with
      | .not => ret (.pv (.bool (!b)))
      | _ => .fail
    | .pv (.int k n) => match op with
      | .neg => .need (intB k (0 - n)) (ret (.pv (.int k (0 - n))))
      | _ => .fail
    | _ => .fail
  | .convert s t x => match E.tb s, E.tb t with
    | some y0, some y => match y.kind with
      | .int k => ev E s x fun
        | .pv (.int _ n) => .need (intB k n) (ret (.pv (.int k n)))
        | _ => .fail
      | .str => match y0.kind with
        | .slice e => match E.tb e with
          | some z => match z.kind with
            | .int .u8 => ev E s x fun a => snap a fun
              | .lst _ rows => .need (allBy rows = true) (ret (.pv (.str (strOf rows))))
              | _ => .fail
            | _ => .fail
          | none => .fail
        | _ => ev E s x fun
          | .pv (.str b) => ret (.pv (.str b))
          | _ => .fail
      | _ => .fail
    | _, _ => .fail
  | .makeSlice t l c => match E.tb t with
    | some x => match x.kind with
      | .slice e => match E.tb e with
        | some y => ev E 0 l fun
          | .pv (.int .i64 n) => ev E 0 c fun
            | .pv (.int .i64 n') => .need (0 < y.size ∧ y.bytes ≤ 32768 ∧ n = n' ∧ 0 ≤ n ∧ n ≤ 4294967296) (.ret ⟨.sl m, [(m, .row true e (List.replicate n.toNat (y.zero.map zp)))]⟩)
            | _ => .fail
          | _ => .fail
        | none => .fail
      | _ => .fail
    | none => .fail
  | .slice t x lo hi mx => match E.tb t, mx with
    | some y, none => match y.kind with
      | .slice e => match E.tb e with
        | some _ => ev E t x fun a => evO E lo fun l => evO E hi fun h => sliceRow e m a l h
        | none => .fail
      | .str => ev E t x fun a => evO E lo fun l => evO E hi fun h => sliceStr a l h
      | _ => .fail
    | _, _ => .fail
  | .fieldAddr t x f => match E.tb t with
    | some y => match y.kind with
      | .struct fs => match fs[f]? with
        | some (off, ft) => match E.tb ft with
          | some z => .need (z.size ≠ 0) (ev E 0 x fun
            | .ptr b o => ret (.ptr b (o + off))
            | .eltS b e i o => ret (.eltS b e i (o + off))
            | .eltP e rows i o => ret (.eltP e rows i (o + off))
            | _ => .fail)
          | none => .fail
        | none => .fail
      | _ => .fail
    | none => .fail
  | .field t x f => match E.tb t with
    | some y => match y.kind with
      | .struct fs => match fs[f]? with
        | some (off, ft) => match E.tb ft with
          | some z => ev E t x fun
            | .agg cs => ldv z (cs.drop off) ret
            | _ => .fail
          | none => .fail
        | none => .fail
      | _ => .fail
    | none => .fail
  | .indexAddr t x i => match E.tb t with
    | some y => match y.kind with
      | .arr _ l size _ => ev E 0 x fun a => ev E 0 i fun
        | .pv (.int _ n) => match a with
          | .ptr b o => .need (0 ≤ n ∧ n < l) (ret (.ptr b (o + n.toNat * size)))
          | _ => .fail
        | _ => .fail
      | .slice e => match E.tb e with
        | some z => .need (0 < z.size) (ev E t x fun a => ev E 0 i fun
          | .pv (.int _ n) => match a with
            | .sl b => .getH b fun
              | .row _ e' rows => .need (e = e' ∧ 0 ≤ n ∧ n < rows.length) (ret (.eltS b e n.toNat 0))
              | .frz e' rows => .need (e = e' ∧ 0 ≤ n ∧ n < rows.length) (ret (.eltP e rows n.toNat 0))
              | .opn e' rows _ _ => .need (e = e' ∧ 0 ≤ n ∧ n < rows.length) (ret (.eltS b e n.toNat 0))
              | _ => .fail
            | .pv (.lst e' rows) => .need (e = e' ∧ 0 ≤ n ∧ n < rows.length) (ret (.eltP e rows n.toNat 0))
            | _ => .fail
          | _ => .fail)
        | none => .fail
      | _ => .fail
    | none => .fail
  | .index t x i => match E.tb t with
    | some y => match y.kind with
      | .str => ev E t x fun a => ev E 0 i fun b => match a, b with
        | .pv (.str s), .pv (.int _ n) => .need (0 ≤ n ∧ n < s.size) (ret (.pv (.int .u8 (byteAt s n.toNat))))
        | _, _ => .fail
      | _ => .fail
    | none => .fail
  | .extract x i => ev E 0 x fun
    | .tup vs => match vs[i]? with
      | some a => ret a
      | none => .fail
    | _ => .fail
  | .call c => match c.callee with
    | .value (.func f) => evs E c.argTypes.toList c.args.toList fun as => if E.md then lawQ E m f as else snapAs as fun ps => .call (fun r own => FnOk E.P f ps r own ∧ (introT m r).2.2 ≤ m + 16) fun r own =>
      .cond own (.ret ⟨(introT m r).1, (introT m r).2.1⟩) (freeze (slots as) fun u => .ret ⟨plainT r, u⟩)
    | .builtin .len => match c.args.toList, c.argTypes.toList with
      | [x], [t] => match E.tb t with
        | some z => ev E t x (lenQ z.kind)
        | none => .fail
      | _, _ => .fail
    | .builtin .append => match c.args.toList, c.argTypes.toList with
      | [x, y], [t, t'] => match E.tb t with
        | some z => match z.kind with
          | .slice e => match E.tb e with
            | some q => .need (t = t' ∧ 0 < q.size) (ev E t x fun a => ev E t y fun b => appQ m q.bytes e a b)
            | none => .fail
          | _ => .fail
        | none => .fail
      | _, _ => .fail
    | .builtin .min => match c.args.toList with
      | [x, y] => ev E 0 x fun a => ev E 0 y fun b => match a, b with
        | .pv (.int k p), .pv (.int _ q) => ret (.pv (.int k (if q < p then q else p)))
        | _, _ => .fail
      | _ => .fail
    | .builtin .max => match c.args.toList with
      | [x, y] => ev E 0 x fun a => ev E 0 y fun b => match a, b with
        | .pv (.int k p), .pv (.int _ q) => ret (.pv (.int k (if p < q then q else p)))
        | _, _ => .fail
      | _ => .fail
    | _ => .fail
  | _ => .fail
/-- what hangs on a slot -/
def guardQ (d : Option Tmp) (want : Bool) (q : Rq) : Rq := match d with
  | some d => .getT d fun
    | .pv (.bool t) => .cond (t == want) q (ret .out)
    | .out => ret .out
    | _ => .fail
  | none => .fail
/-- an operation with its guard -/
def aopG (E : Tab) (ops : List Oper) (m : Nat) (o : Oper) : Rq := match o.guard with
  | none => aop E m o
  | some (g, want) => guardQ ((ops[g]?).bind (·.dst)) want (aop E m o)
end Av
end Go.Proofs.Ytbkbppllcjcmhaa

namespace Go.Proofs.Ytbkbppllcjcmhaa
open Go.RowKit
namespace Av

/-- the block of a slice or of a place -/
def blk : Value → Option Nat
  | .slice (some a) _ _ => some a.block
  | .pointer (some a) => some a.block
  | _ => none
def Blk.live : Blk → Bool
  | .box _ | .row .. | .opn .. => true
  | _ => false
def Blk.isTree : Blk → Bool
  | .tree .. | .opn .. => true
  | _ => false
def Blk.known : Blk → Bool
  | .none => false
  | _ => true
def sl1 (a : Act) (t : Nat) : Value := a.tmps.getD t undef

/-- what a slot holds is as it is told -/
inductive Ra (P : Program) (w : World) (M : Nat → Prop) (φ : Nat → Value) (L : Nat → Prop) : AV → Value → Prop
  | und (v : Value) : Ra P w M φ L .und v
  | out : Ra P w M φ L .out undef
  | pv (p : PV) (v : Value) (h : Rd P w M p v) : Ra P w M φ L (.pv p) v
  | nil (e : TypeId) : Ra P w M φ L (.nil e) (.slice none 0 0)
  | sl (b : Nat) (h : L b) : Ra P w M φ L (.sl b) (φ b)
  | ptr (b o g : Nat) (h : L b) (e : φ b = .pointer (some ⟨g, 0, none⟩)) : Ra P w M φ L (.ptr b o) (.pointer (some ⟨g, o, none⟩))
  | eltS (b : Nat) (e : TypeId) (i o g n cap : Nat) (h : L b) (hv : φ b = .slice (some ⟨g, 0, none⟩) n cap) : Ra P w M φ L (.eltS b e i o) (.pointer (some ⟨g, i * P.cellsOf e + o, none⟩))
  | eltP (e : TypeId) (rows : List (List PV)) (i o b q cap : Nat) (h : Rd P w M (.lst e rows) (.slice (some ⟨b, q, none⟩) rows.length cap)) (hi : i < rows.length) : Ra P w M φ L (.eltP e rows i o) (.pointer (some ⟨b, q + (i * P.cellsOf e + o), none⟩))
  | agg (cs : List AV) (vs : List Value) (hl : vs.length = cs.length) (h : ∀ i (hi : i < cs.length), Ra P w M φ L cs[i] (vs[i]'(by omega))) : Ra P w M φ L (.agg cs) (.agg vs.toArray)
  | tup (cs : List AV) (vs : List Value) (hl : vs.length = cs.length) (h : ∀ i (hi : i < cs.length), Ra P w M φ L cs[i] (vs[i]'(by omega))) : Ra P w M φ L (.tup cs) (.tuple vs.toArray)
theorem Ra.keep {P : Program} {w w' : World} {M M' : Nat → Prop} {φ φ' : Nat → Value} {L L' : Nat → Prop} (hR : ∀ p v, Rd P w M p v → Rd P w' M' p v) (hL : ∀ b, L b → L' b ∧ φ' b = φ b) {x : AV} {v : Value} (h : Ra P w M φ L x v) : Ra P w' M' φ' L' x v := by
  induction h with
  | und v => exact .und v
  | out => exact .out
  | pv p v h => exact .pv p v (hR p v h)
  | nil e => exact .nil e
  | sl b h => rw [← (hL b h).2]; exact .sl b (hL b h).1
  | ptr b o g h e => exact .ptr b o g (hL b h).1 (by rw [(hL b h).2]; exact e)
  | eltS b e i o g n cap h hv => exact .eltS b e i o g n cap (hL b h).1 (by rw [(hL b h).2]; exact hv)
  | eltP e rows i o b q cap h hi => exact .eltP e rows i o b q cap (hR _ _ h) hi
  | agg cs vs hl h ih => exact .agg cs vs hl ih
  | tup cs vs hl h ih => exact .tup cs vs hl ih

/-- the world at the beginning, and memory that is read alone -/
structure W0 where
  w : World
  A : Nat → Prop
def W0.heap (x : W0) : Array Obj := x.w.heap
/-- what is told of a block holds -/
def BlkOk (P : Program) (w0 : W0) (w : World) (M : Nat → Prop) (φ : Nat → Value) (L : Nat → Prop) (v : Value) (Tb : Nat → Nat → Prop) : Blk → Prop
  | .none | .dead => True
  | .box cs => ∃ g cur ty, v = .pointer (some ⟨g, 0, none⟩) ∧ w0.heap.size ≤ g ∧ w.heap[g]? = some (.cells cur ty) ∧ cur.size = cs.length ∧ ∀ i (hi : i < cs.length) (hj : i < cur.size), Ra P w M φ L cs[i] cur[i]
  | .row own e rows => ∃ (xs : List Value) (f : Nat → Value), w.ownsRow w0.heap.size e (P.cellsOf e) v rows.length xs ∧ (∀ r ∈ rows, r.length = P.cellsOf e) ∧ (∀ k, k < rows.length * P.cellsOf e → xs[k]? = some (f k)) ∧
      ∀ i (hi : i < rows.length) j (hj : j < rows[i].length), if own then Ow P w (Tb (i * P.cellsOf e + j)) rows[i][j] (f (i * P.cellsOf e + j)) else Rd P w M rows[i][j] (f (i * P.cellsOf e + j))
  | .frz e rows => Rd P w M (.lst e rows) v
  | .tree e rows => Ow P w (Tb 0) (.lst e rows) v
  | .opn e rows i cs => ∃ (xs : List Value) (f : Nat → Value), w.ownsRow w0.heap.size e (P.cellsOf e) v rows.length xs ∧ (∀ r ∈ rows, r.length = P.cellsOf e) ∧ (∀ k, k < rows.length * P.cellsOf e → xs[k]? = some (f k)) ∧ i < rows.length ∧ cs.length = P.cellsOf e ∧
      (∀ i' (hi : i' < rows.length) j (hj : j < rows[i'].length), (i' = i → cs[j]? = some .out) → Ow P w (Tb (i' * P.cellsOf e + j)) rows[i'][j] (f (i' * P.cellsOf e + j))) ∧
      ∀ j (hj : j < cs.length), cs[j] ≠ .out → Ra P w M φ L cs[j] (f (i * P.cellsOf e + j))

/-- memory is as the plain machine tells -/
structure Rel (P : Program) (w0 : W0) (N : Nat) (S : ASt) (φ : Nat → Value) (T : Nat → Nat → Nat → Prop) (M : Nat → Prop) (a : Act) (w : World) : Prop where
  below : Below w0.heap.size w0.w w
  defers : a.defers = []
  size : a.tmps.size = N
  slots : ∀ t, Ra P w M φ (fun b => (S.h b).known = true) (S.t t) (sl1 a t)
  blks : ∀ b, BlkOk P w0 w M φ (fun b => (S.h b).known = true) (φ b) (T b) (S.h b)
  mutb : ∀ b g, (S.h b).live = true → blk (φ b) = some g → M g
  mlt : ∀ g, M g → g < w.heap.size
  amb : ∀ g, w0.A g → g < w0.heap.size → M g
  disj : ∀ b b' g, (S.h b).live = true → (S.h b').live = true → blk (φ b) = some g → blk (φ b') = some g → b = b'
  own : ∀ b k g, T b k g → w0.heap.size ≤ g ∧ g < w.heap.size ∧ ((S.h b).isTree = false → ¬ M g)
  tree : ∀ b k g, T b k g → (S.h b).isTree = true → M g ∧ ∀ b', (S.h b').live = true → blk (φ b') ≠ some g
  apart : ∀ b k b' k' g, T b k g → T b' k' g → b = b' ∧ k = k'

section
variable {P : Program} {w0 : W0} {w w' : World} {N : Nat} {S : ASt} {φ : Nat → Value} {T : Nat → Nat → Nat → Prop} {M M' : Nat → Prop} {a : Act}
theorem BlkOk.keep {φ' : Nat → Value} {L L' : Nat → Prop} {v : Value} {Tb : Nat → Nat → Prop} {B : Blk} (hR : ∀ p v, Rd P w M p v → Rd P w' M' p v) (hO : ∀ k p v, Ow P w (Tb k) p v → Ow P w' (Tb k) p v) (hL : ∀ b, L b → L' b ∧ φ' b = φ b)
    (hb : B.live = true → ∀ g, blk v = some g → w'.heap[g]? = w.heap[g]?) (h : BlkOk P w0 w M φ L v Tb B) : BlkOk P w0 w' M' φ' L' v Tb B := by
  cases B with
  | none => trivial
  | dead => trivial
  | box cs =>
    obtain ⟨g, cur, ty, hv, hg, hh, hs, hc⟩ := h
    exact ⟨g, cur, ty, hv, hg, by rw [hb rfl g (by rw [hv]; rfl)]; exact hh, hs, fun i hi hj => (hc i hi hj).keep hR hL⟩
  | row own e rows =>
    obtain ⟨xs, f, ho, hs, hf, hc⟩ := h
    refine ⟨xs, f, ⟨ho.1, ?_⟩, hs, hf, fun i hi j hj => ?_⟩
    · rcases ho.2 with h0 | ⟨g, cap, cur, hv, hbb, hg, rest⟩
      · exact .inl h0
      · exact .inr ⟨g, cap, cur, hv, hbb, by rw [hb rfl g (by rw [hv]; rfl)]; exact hg, rest⟩
    · have := hc i hi j hj
      cases own with
      | true => exact hO _ _ _ this
      | false => exact hR _ _ this
  | frz e rows => exact hR _ _ h
  | tree e rows => exact hO 0 _ _ h
  | opn e rows i cs =>
    obtain ⟨xs, f, ho, hs, hf, hi, hcl, hc, hcs⟩ := h
    refine ⟨xs, f, ⟨ho.1, ?_⟩, hs, hf, hi, hcl, fun i' hi' j hj hx => hO _ _ _ (hc i' hi' j hj hx), fun j hj hne => (hcs j hj hne).keep hR hL⟩
    rcases ho.2 with h0 | ⟨g, cap, cur, hv, hbb, hg, rest⟩
    · exact .inl h0
    · exact .inr ⟨g, cap, cur, hv, hbb, by rw [hb rfl g (by rw [hv]; rfl)]; exact hg, rest⟩
theorem sl1_put {d : Nat} {v : Value} (hd : d < a.tmps.size) (t : Nat) : sl1 (a.put (some d) v) t = if t = d then v else sl1 a t := by
  by_cases h : t = d
  · subst h
    rw [if_pos rfl]
    simp [sl1, Act.put, hd]
  · rw [if_neg h]
    simp [sl1, Act.put, Array.getElem?_setIfInBounds_ne (Ne.symm h)]
/-- what is written was made here -/
theorem Rel.low (h : Rel P w0 N S φ T M a w) (b g : Nat) (hl : (S.h b).live = true) (e : blk (φ b) = some g) : w0.heap.size ≤ g := by
  have hb := h.blks b
  cases hB : S.h b with
  | box cs =>
    rw [hB] at hb
    obtain ⟨g', _, _, hv, hg, _⟩ := hb
    rw [hv] at e
    injection e with e
    subst e; exact hg
  | row own e' rows =>
    rw [hB] at hb
    obtain ⟨xs, f, ho, _⟩ := hb
    rcases ho.2 with ⟨hv, _⟩ | ⟨g', cap, cur, hv, hg, _⟩
    · rw [hv] at e; cases e
    · rw [hv] at e
      injection e with e
      subst e; exact hg
  | none => rw [hB] at hl; cases hl
  | dead => rw [hB] at hl; cases hl
  | frz => rw [hB] at hl; cases hl
  | tree => rw [hB] at hl; cases hl
  | opn e' rows i cs =>
    rw [hB] at hb
    obtain ⟨xs, f, ho, _⟩ := hb
    rcases ho.2 with ⟨hv, _⟩ | ⟨g', cap, cur, hv, hg, _⟩
    · rw [hv] at e; cases e
    · rw [hv] at e
      injection e with e
      subst e; exact hg
/-- what lies below a row is no row that is written -/
theorem Rel.far (h : Rel P w0 N S φ T M a w) {x k g c : Nat} (ht : T x k g) (hc : (S.h c).live = true) (e : blk (φ c) = some g) : False := by
  cases hx : (S.h x).isTree with
  | false => exact (h.own x k g ht).2.2 hx (h.mutb c g hc e)
  | true => exact (h.tree x k g ht hx).2 c hc e
/-- a slot is set -/
theorem Rel.put (h : Rel P w0 N S φ T M a w) {d : Nat} (hd : d < N) {x : AV} {v : Value} (hx : Ra P w M φ (fun b => (S.h b).known = true) x v) : Rel P w0 N ⟨upd S.t d x, S.h⟩ φ T M (a.put (some d) v) w := by
  refine ⟨h.below, h.defers, by simp [Act.put, h.size], fun t => ?_, h.blks, h.mutb, h.mlt, h.amb, h.disj, h.own, h.tree, h.apart⟩
  rw [sl1_put (by rw [h.size]; exact hd)]
  unfold upd
  by_cases e : t = d
  · simp only [e, if_true]; exact hx
  · simp only [e, if_false]; exact h.slots t
/-- a block is told of no more -/
theorem Rel.kill (h : Rel P w0 N S φ T M a w) (b : Nat) (hnt : (S.h b).isTree = false) : Rel P w0 N ⟨S.t, upd S.h b .dead⟩ φ T M a w := by
  have hk : ∀ x, (S.h x).known = true → ((upd S.h b .dead x).known = true) ∧ φ x = φ x := fun x hx => by
    unfold upd; split
    · exact ⟨rfl, rfl⟩
    · exact ⟨hx, rfl⟩
  have hl : ∀ x, ((upd S.h b .dead x).live = true) → (S.h x).live = true := fun x hx => by
    unfold upd at hx; split at hx
    · cases hx
    · exact hx
  refine ⟨h.below, h.defers, h.size, fun t => (h.slots t).keep (fun _ _ h => h) hk, fun x => ?_, fun x g hx => h.mutb x g (hl x hx), h.mlt, h.amb, fun x y g hx hy => h.disj x y g (hl x hx) (hl y hy), fun x k g ht => ⟨(h.own x k g ht).1, (h.own x k g ht).2.1, fun hx => (h.own x k g ht).2.2 (by
    by_cases e : x = b
    · rw [e]; exact hnt
    · simpa only [upd, e, if_false] using hx)⟩, fun x k g ht hx => ?_, h.apart⟩
  rotate_left
  · have hx' : (S.h x).isTree = true := by
      by_cases e : x = b
      · simp only [upd, e, if_true] at hx; cases hx
      · simpa only [upd, e, if_false] using hx
    exact ⟨(h.tree x k g ht hx').1, fun b' hb' => (h.tree x k g ht hx').2 b' (hl b' hb')⟩
  show BlkOk _ _ _ _ _ _ _ _ (upd S.h b .dead x)
  unfold upd
  split
  · trivial
  · exact (h.blks x).keep (fun _ _ h => h) (fun _ _ _ h => h) hk (fun _ _ _ => rfl)
/-- a row is handed on, and is not written any more -/
theorem Rel.freeze (h : Rel P w0 N S φ T M a w) {b : Nat} {own : Bool} {e : TypeId} {rows : List (List PV)} (hb : S.h b = .row own e rows) :
    Rel P w0 N ⟨S.t, upd S.h b (.frz e rows)⟩ φ T (fun g => M g ∧ blk (φ b) ≠ some g) a w := by
  have hbk : (S.h b).known = true := by rw [hb]; rfl
  have hbl : (S.h b).live = true := by rw [hb]; rfl
  have hk : ∀ x, (S.h x).known = true → ((upd S.h b (.frz e rows) x).known = true) ∧ φ x = φ x := fun x hx => by
    unfold upd; split
    · exact ⟨rfl, rfl⟩
    · exact ⟨hx, rfl⟩
  have hl : ∀ x, ((upd S.h b (.frz e rows) x).live = true) → (S.h x).live = true ∧ x ≠ b := fun x hx => by
    unfold upd at hx; split at hx
    · cases hx
    · exact ⟨hx, by assumption⟩
  have hR : ∀ p v, Rd P w M p v → Rd P w (fun g => M g ∧ blk (φ b) ≠ some g) p v := fun p v hr => hr.weak (fun g hg => hg.1)
  refine ⟨h.below, h.defers, h.size, fun t => (h.slots t).keep hR hk, fun x => ?_, fun x g hx e => ⟨h.mutb x g (hl x hx).1 e, fun e' => (hl x hx).2 (h.disj x b g (hl x hx).1 hbl e e')⟩, fun g hg => h.mlt g hg.1, fun g hA hg => ⟨h.amb g hA hg, fun e' => by have := h.low b g hbl e'; omega⟩,
    fun x y g hx hy => h.disj x y g (hl x hx).1 (hl y hy).1, fun x k g hx => ⟨(h.own x k g hx).1, (h.own x k g hx).2.1, fun ht hm => (h.own x k g hx).2.2 (by
      by_cases e1 : x = b
      · rw [e1, hb]; rfl
      · simpa only [upd, e1, if_false] using ht) hm.1⟩, fun x k g hx ht => ?_, h.apart⟩
  rotate_left
  · have hx' : (S.h x).isTree = true := by
      by_cases e1 : x = b
      · simp only [upd, e1, if_true] at ht; cases ht
      · simpa only [upd, e1, if_false] using ht
    have h1 := h.tree x k g hx hx'
    exact ⟨⟨h1.1, h1.2 b hbl⟩, fun b' hb' => h1.2 b' (hl b' hb').1⟩
  show BlkOk _ _ _ _ _ _ _ _ (upd S.h b (.frz e rows) x)
  unfold upd
  split
  · rename_i e1
    subst e1
    have hB := h.blks x
    rw [hb] at hB
    obtain ⟨xs, f, ho, hs, hf, hc⟩ := hB
    show Rd _ _ _ _ _
    rcases row_cells ho hf with ⟨hv, h0⟩ | ⟨g, cap, hv, hge, hlt, hn, hcell⟩
    · obtain rfl := List.eq_nil_of_length_eq_zero h0
      rw [hv]
      exact .nil _ _ _
    · rw [hv]
      refine .lst e rows g 0 cap f hlt hn (fun hm => hm.2 rfl) hs (fun k hk => by rw [Nat.zero_add]; exact hcell k hk) (fun i hi j hj => ?_)
      have := hc i hi j hj
      cases own with
      | true => exact Ow.rd this (fun g' hg' hm => (h.own x _ g' hg').2.2 (by rw [hb]; rfl) hm.1)
      | false => exact Rd.weak this (fun g hg => hg.1)
  · exact (h.blks x).keep hR (fun _ _ _ h => h) hk (fun _ _ _ => rfl)
/-- memory grows, and a block that nothing is told of turns -/
theorem Rel.grown (h : Rel P w0 N S φ T M a w) {row : Option Nat} (hg : w.grownBy w' row) (hrow : ∀ g, row = some g → M g ∧ w0.heap.size ≤ g ∧ (∀ b, (S.h b).live = true → blk (φ b) ≠ some g) ∧ ∀ b k, (S.h b).isTree = true → ¬ T b k g) (X : Nat → Prop) (hX : ∀ g, X g → w.heap.size ≤ g ∧ g < w'.heap.size) :
    Rel P w0 N S φ T (fun g => M g ∨ X g) a w' := by
  have hR : ∀ p v, Rd P w M p v → Rd P w' (fun g => M g ∨ X g) p v := fun p v hr => hr.keep ⟨hg.size, fun b hb hm => hg.block b hb (fun e => hm (hrow b e.symm).1)⟩ (fun b hb hm => hm.resolve_right (fun hx => by have := (hX b hx).1; omega))
  have hM : ∀ g, row = some g → M g := fun g e => (hrow g e).1
  refine ⟨⟨hg.os.trans h.below.os, hg.tape.trans h.below.tape, hg.output.trans h.below.output, Nat.le_trans h.below.size hg.size, fun k hk => ?_⟩, h.defers, h.size, fun t => (h.slots t).keep hR (fun b hb => ⟨hb, rfl⟩), fun b => ?_, fun b g hb e => .inl (h.mutb b g hb e), fun g hm => ?_, fun g hA hg => .inl (h.amb g hA hg), h.disj, fun b k g ht => ?_, fun b k g ht hb => ⟨.inl (h.tree b k g ht hb).1, (h.tree b k g ht hb).2⟩, h.apart⟩
  · rw [hg.block k (Nat.lt_of_lt_of_le hk h.below.size) (fun e => by have := (hrow k e.symm).2.1; omega)]
    exact h.below.block k hk
  · refine (h.blks b).keep hR (fun k p v ho => ho.keep (fun g ht _ => ?_)) (fun b hb => ⟨hb, rfl⟩) (fun hl g e => ?_)
    · refine hg.block g (h.own b k g ht).2.1 (fun e => ?_)
      cases hbt : (S.h b).isTree with
      | false => exact (h.own b k g ht).2.2 hbt (hM g e.symm)
      | true => exact (hrow g e.symm).2.2.2 b k hbt ht
    · exact hg.block g (h.mlt g (h.mutb b g hl e)) (fun e' => (hrow g e'.symm).2.2.1 b hl e)
  · rcases hm with hm | hx
    · exact Nat.lt_of_lt_of_le (h.mlt g hm) hg.size
    · exact (hX g hx).2
  · obtain ⟨h1, h2, h3⟩ := h.own b k g ht
    exact ⟨h1, Nat.lt_of_lt_of_le h2 hg.size, fun hb hm => hm.elim (h3 hb) (fun hx => by have := (hX g hx).1; omega)⟩
/-- a block is told of anew -/
theorem Rel.set (h : Rel P w0 N S φ T M a w) (b : Nat) (B : Blk) (v : Value) (T' : Nat → Nat → Nat → Prop) (hB : B.known = true) (hn : (S.h b).live = false) (hv : (S.h b).known = true → φ b = v) (hk : BlkOk P w0 w M (upd φ b v) (fun x => (upd S.h b B x).known = true) v (T' b) B)
    (hm : B.live = true → ∀ g, blk v = some g → M g ∧ (∀ b', b' ≠ b → (S.h b').live = true → blk (φ b') ≠ some g) ∧ ∀ x k, x ≠ b → (S.h x).isTree = true → ¬ T x k g)
    (hT : ∀ x k g, T' x k g → x ≠ b → T x k g) (hTl : ∀ x, x ≠ b → (∃ e rows, S.h x = .row true e rows ∨ S.h x = .tree e rows ∨ ∃ i cs, S.h x = .opn e rows i cs) → T' x = T x) (hTb : ∀ k g, T' b k g → (w0.heap.size ≤ g ∧ g < w.heap.size ∧ (B.isTree = false → ¬ M g) ∧ (B.isTree = true → M g ∧ ∀ b', b' ≠ b → (S.h b').live = true → blk (φ b') ≠ some g)) ∧ (∀ k', T' b k' g → k = k') ∧ ∀ x k', x ≠ b → ¬ T' x k' g)
    (h5 : B.live = true → B.isTree = true → ∀ k g, T' b k g → blk v ≠ some g := by first | (intro h; cases h; done) | (intro _ h; cases h; done)) :
    Rel P w0 N ⟨S.t, upd S.h b B⟩ (upd φ b v) T' M a w := by
  have hL : ∀ x, (S.h x).known = true → ((upd S.h b B x).known = true) ∧ upd φ b v x = φ x := fun x hx => by
    unfold upd; split
    · rename_i e; subst e; exact ⟨hB, (hv hx).symm⟩
    · exact ⟨hx, rfl⟩
  refine ⟨h.below, h.defers, h.size, fun t => (h.slots t).keep (fun _ _ h => h) hL, fun x => ?_, fun x g hx e => ?_, h.mlt, h.amb, fun x y g hx hy e e' => ?_, fun x k g ht => ?_, fun x k g ht hx => ?_, fun x k y k' g ht ht' => ?_⟩
  · by_cases e : x = b
    · subst e
      show BlkOk _ _ _ _ _ _ (upd φ x v x) _ (upd S.h x B x)
      have e1 : upd φ x v x = v := by simp [upd]
      have e2 : upd S.h x B x = B := by simp [upd]
      rw [e1, e2]
      exact hk
    · show BlkOk _ _ _ _ _ _ (upd φ b v x) _ (upd S.h b B x)
      have e1 : upd φ b v x = φ x := by simp [upd, e]
      have e2 : upd S.h b B x = S.h x := by simp [upd, e]
      rw [e1, e2]
      have hx := h.blks x
      cases hBx : S.h x with
      | none => trivial
      | dead => trivial
      | box cs => rw [hBx] at hx; exact BlkOk.keep (B := .box cs) (Tb := T' x) (fun _ _ h => h) (fun _ _ _ h => h) hL (fun _ _ _ => rfl) hx
      | frz e rows => rw [hBx] at hx; exact hx
      | tree e' rows =>
        rw [hBx] at hx
        show Ow P w (T' x 0) _ _
        rw [hTl x e ⟨_, _, .inr (.inl hBx)⟩]
        exact hx
      | opn e' rows i cs =>
        rw [hBx] at hx
        have := BlkOk.keep (B := .opn e' rows i cs) (Tb := T x) (fun _ _ h => h) (fun _ _ _ h => h) hL (fun _ _ _ => rfl) hx
        rw [← hTl x e ⟨_, _, .inr (.inr ⟨_, _, hBx⟩)⟩] at this
        exact this
      | row own e' rows =>
        rw [hBx] at hx
        obtain ⟨xs, f, ho, hs, hf, hc⟩ := hx
        refine ⟨xs, f, ho, hs, hf, fun i hi j hj => ?_⟩
        have := hc i hi j hj
        cases own with
        | true =>
          rw [hTl x e ⟨_, _, .inl hBx⟩]
          exact this
        | false => exact this
  · by_cases e1 : x = b
    · subst e1
      simp only [upd, if_true] at hx e
      exact (hm hx g e).1
    · simp only [upd, e1, if_false] at hx e
      exact h.mutb x g hx e
  · by_cases e1 : x = b
    · by_cases e2 : y = b
      · rw [e1, e2]
      · subst e1
        simp only [upd, if_true] at hx e
        simp only [upd, e2, if_false] at hy e'
        exact absurd e' ((hm hx g e).2.1 y e2 hy)
    · by_cases e2 : y = b
      · subst e2
        simp only [upd, if_true] at hy e'
        simp only [upd, e1, if_false] at hx e
        exact absurd e ((hm hy g e').2.1 x e1 hx)
      · simp only [upd, e1, if_false] at hx e
        simp only [upd, e2, if_false] at hy e'
        exact h.disj x y g hx hy e e'
  · by_cases e : x = b
    · subst e
      obtain ⟨h1, h2, h3, _⟩ := (hTb k g ht).1
      exact ⟨h1, h2, fun hx => h3 (by simpa only [upd, if_true] using hx)⟩
    · obtain ⟨h1, h2, h3⟩ := h.own x k g (hT x k g ht e)
      exact ⟨h1, h2, fun hx => h3 (by simpa only [upd, e, if_false] using hx)⟩
  · by_cases e : x = b
    · subst e
      have hBt : B.isTree = true := by simpa only [upd, if_true] using hx
      obtain ⟨_, _, _, h4⟩ := (hTb k g ht).1
      refine ⟨(h4 hBt).1, fun b' hb' => ?_⟩
      by_cases e1 : b' = x
      · subst e1
        simp only [upd, if_true] at hb'
        simp only [upd, if_true]
        exact h5 hb' hBt k g ht
      · simp only [upd, e1, if_false] at hb' ⊢
        exact (h4 hBt).2 b' e1 hb'
    · have hx' : (S.h x).isTree = true := by simpa only [upd, e, if_false] using hx
      have h1 := h.tree x k g (hT x k g ht e) hx'
      refine ⟨h1.1, fun b' hb' e2 => ?_⟩
      by_cases e1 : b' = b
      · subst e1
        simp only [upd, if_true] at hb' e2
        exact (hm hb' g e2).2.2 x k e hx' (hT x k g ht e)
      · simp only [upd, e1, if_false] at hb' e2
        exact h1.2 b' hb' e2
  · by_cases e1 : x = b
    · by_cases e2 : y = b
      · subst e1; subst e2; exact ⟨rfl, (hTb k g ht).2.1 k' ht'⟩
      · subst e1; exact absurd ht' ((hTb k g ht).2.2 y k' e2)
    · by_cases e2 : y = b
      · subst e2; exact absurd ht ((hTb k' g ht').2.2 x k e1)
      · exact h.apart x k y k' g (hT x k g ht e1) (hT y k' g ht' e2)
end
end Av
end Go.Proofs.Ytbkbppllcjcmhaa

namespace Go.Proofs.Ytbkbppllcjcmhaa
open Go.RowKit
namespace Av

/-- an operation goes through, and of what it hands back, and of the world behind it, R holds -/
def sure (P : Program) (o : Oper) (a : Act) (w : World) (R : Value → World → Prop) : Prop :=
  ∀ (K : Act → World → Prop) (Q : Exit → Act → World → Prop), (∀ v w', R v w' → K (a.put o.dst v) w') → o.wp P a w K Q
section
variable {P : Program} {o : Oper} {a : Act} {w w' : World} {R : Value → World → Prop}
theorem sure_value {v : Value} (h : (execOp a.eval o).run P w = .ok (.value v) w') (hr : R v w') : sure P o a w R := fun K Q hK => by
  unfold Oper.wp
  rw [h]
  exact hK _ _ hr
theorem sure_skip (h : (execOp a.eval o).run P w = .ok .skip w') (hr : R undef w') : sure P o a w R := fun K Q hK => by
  unfold Oper.wp
  rw [h]
  exact hK _ _ hr
theorem sure_call {f : FuncId} {args : Array Value} (h : (execOp a.eval o).run P w = .ok (.enter f args) w') (hr : Calls P f args w' fun e w'' => ∃ v, e = .returned v ∧ R v w'') : sure P o a w R := fun K Q hK => by
  unfold Oper.wp
  rw [h]
  exact hr.mono fun e w'' ⟨v, he, hv⟩ => by subst he; exact hK _ _ hv
theorem sure_mono {R' : Value → World → Prop} (h : sure P o a w R) (hr : ∀ v w', R v w' → R' v w') : sure P o a w R' := fun K Q hK => h K Q (fun v w' hv => hK v w' (hr v w' hv))
end

section
variable {E : Tab} {w0 : W0} {w : World} {N : Nat} {S : ASt} {φ : Nat → Value} {T : Nat → Nat → Nat → Prop} {M : Nat → Prop} {a : Act}
/-- slots hold what is told -/
abbrev RaS (E : Tab) (w : World) (M : Nat → Prop) (φ : Nat → Value) (S : ASt) (x : AV) (v : Value) : Prop := Ra E.P w M φ (fun b => (S.h b).known = true) x v
theorem ofV_ra {e : TypeId} (v : Value) : RaS E w M φ S (ofV e v) v := by
  unfold ofV
  split
  · exact .pv _ _ (.int _ _)
  · exact .pv _ _ (.bool _)
  · exact .pv _ _ (.str _)
  · exact .nil e
  · exact .und _
theorem ev_sound {t : TypeId} {x : Operand} {k : AV → Rq} {s : Seen} {K : ARes → Seen → Prop} (h : Rel E.P w0 N S φ T M a w) (hr : (ev E t x k).run S s K) : ∃ y s1, (k y).run S s1 K ∧ RaS E w M φ S y (a.eval x) := by
  unfold ev at hr
  split at hr
  · exact ⟨_, _, hr, h.slots _⟩
  · exact ⟨_, _, hr, ofV_ra _⟩
  · exact hr.elim
theorem evs_sound {K : ARes → Seen → Prop} (h : Rel E.P w0 N S φ T M a w) : ∀ {ts : List TypeId} {xs : List Operand} {k : List AV → Rq} {s : Seen}, (evs E ts xs k).run S s K →
    ∃ ys s1, (k ys).run S s1 K ∧ ys.length = xs.length ∧ ∀ i (hi : i < ys.length) (hj : i < xs.length), RaS E w M φ S ys[i] (a.eval xs[i])
  | _, [], k, s, hr => ⟨[], s, hr, rfl, fun i hi => absurd hi (by simp)⟩
  | ts, x :: l, k, s, hr => by
    obtain ⟨y, s1, hr1, hy⟩ := ev_sound h hr
    obtain ⟨ys, s2, hr2, hl, hys⟩ := evs_sound (xs := l) (k := fun as => k (y :: as)) h hr1
    refine ⟨y :: ys, s2, hr2, by simp [hl], fun i hi hj => ?_⟩
    cases i with
    | zero => exact hy
    | succ i => exact hys i (by simpa using hi) (by simpa using hj)
/-- a row reads as it is told, now -/
theorem row_rd {own : Bool} {e : TypeId} {rows : List (List PV)} {b : Nat} (h : Rel E.P w0 N S φ T M a w) (hb : S.h b = .row own e rows) : Rd E.P w (fun _ => False) (.lst e rows) (φ b) := by
  have h1 := (h.freeze hb).blks b
  simp only [upd, if_true] at h1
  exact Rd.weak (p := .lst e rows) h1 (fun _ hg => hg.elim)
theorem snap_sound {x : AV} {v : Value} {k : PV → Rq} {s : Seen} {K : ARes → Seen → Prop} (h : Rel E.P w0 N S φ T M a w) (hx : RaS E w M φ S x v) (hr : (snap x k).run S s K) : ∃ p s1, (k p).run S s1 K ∧ Rd E.P w (fun _ => False) p v := by
  unfold snap at hr
  split at hr
  · cases hx with
    | pv _ _ hp => exact ⟨_, _, hr, hp.weak (fun _ hg => hg.elim)⟩
  · cases hx with
    | nil => exact ⟨_, _, hr, .nil _ _ _⟩
  · rename_i b
    cases hx with
    | sl _ hb =>
      simp only [Rq.run] at hr
      split at hr
      · rename_i own e rows hB
        exact ⟨_, _, hr, row_rd h hB⟩
      · rename_i e rows hB
        have h1 := h.blks b
        rw [hB] at h1
        exact ⟨_, _, hr, Rd.weak (p := .lst e rows) h1 (fun _ hg => hg.elim)⟩
      · exact hr.elim
  · exact hr.elim
theorem snaps_sound {K : ARes → Seen → Prop} (h : Rel E.P w0 N S φ T M a w) : ∀ {xs : List AV} {vs : List Value} {k : List PV → Rq} {s : Seen}, (hl : vs.length = xs.length) → (∀ i (hi : i < xs.length), RaS E w M φ S xs[i] (vs[i]'(by omega))) → (snaps xs k).run S s K →
    ∃ ps s1, (k ps).run S s1 K ∧ ∃ he : ps.length = xs.length, ∀ i (hi : i < ps.length), Rd E.P w (fun _ => False) ps[i] (vs[i]'(by omega))
  | [], _, k, s, _, _, hr => ⟨[], s, hr, rfl, fun i hi => absurd hi (by simp)⟩
  | x :: l, [], k, s, hl, _, hr => by simp at hl
  | x :: l, v :: vs, k, s, hl, hx, hr => by
    obtain ⟨p, s1, hr1, hp⟩ := snap_sound h (hx 0 (by simp)) hr
    obtain ⟨ps, s2, hr2, he, hps⟩ := snaps_sound (xs := l) (vs := vs) (k := fun ps => k (p :: ps)) h (by simpa using hl) (fun i hi => hx (i + 1) (by simpa using hi)) hr1
    refine ⟨p :: ps, s2, hr2, by simp [he], fun i hi => ?_⟩
    cases i with
    | zero => exact hp
    | succ i => exact hps i (by simpa using hi)
theorem snapA_sound {x : AV} {v : Value} {k : PV → Rq} {s : Seen} {K : ARes → Seen → Prop} (h : Rel E.P w0 N S φ T M a w) (hx : RaS E w M φ S x v) (hr : (snapA x k).run S s K) : ∃ p s1, (k p).run S s1 K ∧ Rd E.P w (fun _ => False) p v := by
  unfold snapA at hr
  split at hr
  · cases hx with
    | agg cs vs hl hc =>
      obtain ⟨ps, s1, hr1, he, hps⟩ := snaps_sound h hl hc hr
      exact ⟨_, _, hr1, .agg ps vs (by omega) hps⟩
  · exact snap_sound h hx hr
theorem snapAs_sound {K : ARes → Seen → Prop} (h : Rel E.P w0 N S φ T M a w) : ∀ {xs : List AV} {vs : List Value} {k : List PV → Rq} {s : Seen}, (hl : vs.length = xs.length) → (∀ i (hi : i < xs.length), RaS E w M φ S xs[i] (vs[i]'(by omega))) → (snapAs xs k).run S s K →
    ∃ ps s1, (k ps).run S s1 K ∧ ∃ he : ps.length = xs.length, ∀ i (hi : i < ps.length), Rd E.P w (fun _ => False) ps[i] (vs[i]'(by omega))
  | [], _, k, s, _, _, hr => ⟨[], s, hr, rfl, fun i hi => absurd hi (by simp)⟩
  | x :: l, [], k, s, hl, _, hr => by simp at hl
  | x :: l, v :: vs, k, s, hl, hx, hr => by
    obtain ⟨p, s1, hr1, hp⟩ := snapA_sound h (hx 0 (by simp)) hr
    obtain ⟨ps, s2, hr2, he, hps⟩ := snapAs_sound (xs := l) (vs := vs) (k := fun ps => k (p :: ps)) h (by simpa using hl) (fun i hi => hx (i + 1) (by simpa using hi)) hr1
    refine ⟨p :: ps, s2, hr2, by simp [he], fun i hi => ?_⟩
    cases i with
    | zero => exact hp
    | succ i => exact hps i (by simpa using hi)
/-- the cells of a value are as they are told -/
def CellsRa (E : Tab) (w : World) (M : Nat → Prop) (φ : Nat → Value) (S : ASt) (cs : List AV) (v : Value) : Prop := ∃ he : v.cells.size = cs.length, ∀ i (hi : i < cs.length), RaS E w M φ S cs[i] (v.cells[i]'(by omega))
theorem rd_slice {P : Program} {e : TypeId} {rows : List (List PV)} {v : Value} (h : Rd P w M (.lst e rows) v) : ∃ A c, v = .slice A rows.length c := by
  cases h with
  | nil _ A c => exact ⟨A, c, rfl⟩
  | lst _ _ b q c => exact ⟨_, c, rfl⟩
theorem cellsOf_sound {x : AV} {v : Value} {k : List AV → Rq} {s : Seen} {K : ARes → Seen → Prop} (h : Rel E.P w0 N S φ T M a w) (hx : RaS E w M φ S x v) (hr : (cellsOf x k).run S s K) : ∃ cs s1, (k cs).run S s1 K ∧ CellsRa E w M φ S cs v := by
  have one : ∀ {y : AV} {u : Value}, RaS E w M φ S y u → u.cells = #[u] → CellsRa E w M φ S [y] u := fun {y u} hy hu => ⟨by rw [hu]; rfl, fun i hi => by
    obtain rfl : i = 0 := by simpa using hi
    simp only [List.getElem_cons_zero, hu]
    exact hy⟩
  unfold cellsOf at hr
  split at hr
  · cases hx with
    | agg cs vs hl hc => exact ⟨_, _, hr, by simp [Value.cells, hl], fun i hi => by simpa [Value.cells] using hc i hi⟩
  · rename_i p
    split at hr
    · rename_i hpl
      cases hx with
      | pv _ _ hp => exact ⟨_, _, hr, one (.pv _ _ hp) (hp.cells_leaf hpl)⟩
    · exact hr.elim
  · cases hx with
    | nil => exact ⟨_, _, hr, one (.nil _) rfl⟩
  · rename_i b
    cases hx with
    | sl _ hb =>
      simp only [Rq.run] at hr
      split at hr
      · rename_i own e rows hB
        obtain ⟨A, c, e1⟩ := rd_slice (row_rd h hB)
        exact ⟨_, _, hr, one (.sl b hb) (by rw [e1]; rfl)⟩
      · rename_i e rows hB
        have h1 := h.blks b
        rw [hB] at h1
        obtain ⟨A, c, e1⟩ := rd_slice (e := e) (rows := rows) h1
        exact ⟨_, _, hr, one (.sl b hb) (by rw [e1]; rfl)⟩
      · rename_i e rows hB
        have h1 := h.blks b
        rw [hB] at h1
        obtain ⟨A, c, e1⟩ := rd_slice (Ow.rd (M := fun _ => False) (show Ow E.P w (T b 0) (.lst e rows) (φ b) from h1) (fun _ _ hf => hf))
        exact ⟨_, _, hr, one (.sl b hb) (by rw [e1]; rfl)⟩
      · exact hr.elim
  · exact hr.elim
end
end Av
end Go.Proofs.Ytbkbppllcjcmhaa

namespace Go.Proofs.Ytbkbppllcjcmhaa
open Go.RowKit
namespace Av

section
variable {E : Tab} {m : Nat} {o : Oper} {w0 : W0} {w : World} {N : Nat} {S : ASt} {φ : Nat → Value} {T : Nat → Nat → Nat → Prop} {M : Nat → Prop} {a : Act} {r : ARes} {s s' : Seen}

/-- memory behind an operation, and what it hands back -/
def After (E : Tab) (w0 : W0) (N : Nat) (S : ASt) (r : ARes) (a : Act) (v : Value) (w' : World) : Prop :=
  ∃ φ' T' M', Rel E.P w0 N ⟨S.t, updL S.h r.upd⟩ φ' T' M' a w' ∧ RaS E w' M' φ' ⟨S.t, updL S.h r.upd⟩ r.av v
theorem after_ret (h : Rel E.P w0 N S φ T M a w) {x : AV} {v : Value} (hx : RaS E w M φ S x v) (hr : (ret x).run S s (isRes r s')) : After E w0 N S r a v w := by
  obtain ⟨rfl, _⟩ := hr
  exact ⟨φ, T, M, h, hx⟩
theorem tab_info {t : TypeId} {x : TI} (h : E.tb t = some x) : ∃ i z, E.P.info? t = some i ∧ i.zero = some z ∧ i.size = x.size ∧ i.bytes = x.bytes ∧ z.cells.toList.map some = x.zero.map zv ∧ z.cells.size = x.size := (E.fits t x h).info
theorem tab_size {t : TypeId} {x : TI} (h : E.tb t = some x) : E.P.cellsOf t = x.size := by
  obtain ⟨i, z, hi, _, hs, _⟩ := tab_info h
  simp [Program.cellsOf, hi, hs]
theorem tab_agg {t : TypeId} {x : TI} (h : E.tb t = some x) (W : World) : (isAgg t).run E.P W = .ok x.agg W := by
  have hk := (E.fits t x h).kind
  unfold isAgg TI.agg
  rw [Sem.run_bind]
  cases e : x.kind with
  | int k => rw [e] at hk; rw [run_underlying hk]; rfl
  | bool => rw [e] at hk; rw [run_underlying hk]; rfl
  | str => rw [e] at hk; rw [run_underlying hk]; rfl
  | slice t => rw [e] at hk; rw [run_underlying hk]; rfl
  | struct fs =>
    rw [e] at hk
    obtain ⟨gs, hk, _⟩ := hk
    rw [run_underlying hk]; rfl
  | arr e0 n size fs => rw [e] at hk; rw [run_underlying hk.1]; rfl
theorem tab_slice {t e : TypeId} {x : TI} (h : E.tb t = some x) (hk : x.kind = .slice e) : E.P.underlying t = some (.slice e) := by
  have := (E.fits t x h).kind
  rw [hk] at this
  exact this
theorem tab_str {t : TypeId} {x : TI} (h : E.tb t = some x) (hk : x.kind = .str) : E.P.underlying t = some .string := by
  have := (E.fits t x h).kind
  rw [hk] at this
  exact this
theorem tab_struct {t : TypeId} {x : TI} {fs : List (Nat × TypeId)} (h : E.tb t = some x) (hk : x.kind = .struct fs) : ∃ gs : Array Field, E.P.underlying t = some (.struct gs) ∧ gs.toList.map (fun f => (f.offset, f.type)) = fs ∧ ∀ f ∈ gs.toList, (E.P.info? f.type).isSome = true := by
  have := (E.fits t x h).kind
  rw [hk] at this
  exact this
theorem add_at (b o n : Nat) : (⟨b, o, none⟩ : Addr).add n = ⟨b, o + n, none⟩ := by
  unfold Addr.add
  split
  · rename_i h; subst h; rfl
  · rfl

theorem op_move {x : Operand} (ho : o.op = .move x ∨ o.op = .assign x) (h : Rel E.P w0 N S φ T M a w) (hr : (ev E o.type x ret).run S s (isRes r s')) : sure E.P o a w (After E w0 N S r a) := by
  obtain ⟨y, s1, hr1, hy⟩ := ev_sound h hr
  refine sure_value (v := a.eval x) ?_ (after_ret h hy hr1)
  unfold execOp
  rcases ho with ho | ho <;> rw [ho] <;> rfl
theorem rd_int {P : Program} {w : World} {M : Nat → Prop} {k : IntKind} {n : Int} {v : Value} (h : Rd P w M (.int k n) v) : v = .int k n := by cases h; rfl
theorem rd_bool {P : Program} {w : World} {M : Nat → Prop} {b : Bool} {v : Value} (h : Rd P w M (.bool b) v) : v = .bool b := by cases h; rfl
theorem rd_str {P : Program} {w : World} {M : Nat → Prop} {b : ByteArray} {v : Value} (h : Rd P w M (.str b) v) : v = .string b := by cases h; rfl
theorem ra_pv {p : PV} {v : Value} (h : RaS E w M φ S (.pv p) v) : Rd E.P w M p v := by cases h; assumption
theorem op_pick {c x y : Operand} (ho : o.op = .pick c x y) (h : Rel E.P w0 N S φ T M a w) (hr : (aop E m o).run S s (isRes r s')) : sure E.P o a w (After E w0 N S r a) := by
  unfold aop at hr
  rw [ho] at hr
  obtain ⟨cv, s1, hr1, hc⟩ := ev_sound h hr
  split at hr1
  · rename_i t
    have hcv := rd_bool (ra_pv hc)
    cases t with
    | true =>
      obtain ⟨z, s2, hr2, hz⟩ := ev_sound h (hr1.1 rfl)
      exact sure_value (v := a.eval x) (by unfold execOp; rw [ho]; simp [hcv, asBool]) (after_ret h hz hr2)
    | false =>
      obtain ⟨z, s2, hr2, hz⟩ := ev_sound h (hr1.2 rfl)
      exact sure_value (v := a.eval y) (by unfold execOp; rw [ho]; simp [hcv, asBool]) (after_ret h hz hr2)
  · exact hr1.elim

theorem wrap_in {k : IntKind} {n : Int} (h : intB k n) : k.wrap n = n := by
  unfold intB at h
  unfold IntKind.wrap
  cases k <;> simp only [IntKind.bits, IntKind.signed] at h ⊢
  all_goals first | exact h.elim | skip
  all_goals obtain ⟨h1, h2⟩ := h
  all_goals simp
  all_goals omega
/-- a sum that is in range is told as it is -/
theorem addW_in {k : IntKind} {a b : Int} (h : intB k (a + b)) : addW k a b = a + b := wrap_in h
/-- a product that is in range is told as it is -/
theorem mulW_in {k : IntKind} {a b : Int} (h : intB k (a * b)) : mulW k a b = a * b := wrap_in h
theorem bin_sound {op : BinOp} {t : TypeId} {x y : AV} {u v : Value} (hx : RaS E w M φ S x u) (hy : RaS E w M φ S y v) (h : Rel E.P w0 N S φ T M a w) (hr : (binA (isBool E t) E.wr op x y).run S s (isRes r s')) :
    ∃ z, (binOp op t u v).run E.P w = .ok z w ∧ After E w0 N S r a z w ∧ (∀ p q, (eqGuard op t p q u v).run E.P w = .ok () w) := by
  unfold binA at hr
  split at hr
  · rename_i k n k' n'
    obtain rfl := rd_int (ra_pv hx)
    obtain rfl := rd_int (ra_pv hy)
    have hg : ∀ p q, (eqGuard op t p q (.int k n) (.int k' n')).run E.P w = .ok () w := fun p q => by unfold eqGuard; split <;> rfl
    split at hr
    · exact hr.elim
    · rename_i hk
      have hk : k = k' := by simpa using hk
      subst hk
      split at hr
      · unfold addR at hr
        split at hr
        · exact ⟨_, by simp [binOp, Op.intArith, addW], after_ret h (.pv _ _ (.int _ _)) hr, hg⟩
        · exact ⟨_, by simp [binOp, Op.intArith, wrap_in hr.1], after_ret h (.pv _ _ (.int _ _)) hr.2, hg⟩
      · exact ⟨_, by simp [binOp, Op.intArith, wrap_in hr.1], after_ret h (.pv _ _ (.int _ _)) hr.2, hg⟩
      · exact ⟨_, by simp [binOp, Op.intArith, mulW], after_ret h (.pv _ _ (.int _ _)) hr, hg⟩
      · exact ⟨_, by simp [binOp, Op.intDiv, hr.1.1, wrap_in hr.1.2], after_ret h (.pv _ _ (.int _ _)) hr.2, hg⟩
      · exact ⟨_, by simp [binOp, Op.intDiv, hr.1], after_ret h (.pv _ _ (.int _ _)) hr.2, hg⟩
      · exact ⟨_, by simp [binOp, Op.intCmp], after_ret h (.pv _ _ (.bool _)) hr, hg⟩
      · exact ⟨_, by simp [binOp, Op.intCmp], after_ret h (.pv _ _ (.bool _)) hr, hg⟩
      · exact ⟨_, by simp [binOp, Op.intCmp], after_ret h (.pv _ _ (.bool _)) hr, hg⟩
      · exact ⟨_, by simp [binOp, Op.intCmp], after_ret h (.pv _ _ (.bool _)) hr, hg⟩
      · exact ⟨_, by simp [binOp, Op.intCmp], after_ret h (.pv _ _ (.bool _)) hr, hg⟩
      · exact ⟨_, by simp [binOp, Op.intCmp], after_ret h (.pv _ _ (.bool _)) hr, hg⟩
      · exact ⟨_, by simp [binOp, Op.intBits, andW], after_ret h (.pv _ _ (.int _ _)) hr, hg⟩
      · exact hr.elim
  · rename_i b b'
    obtain rfl := rd_str (ra_pv hx)
    obtain rfl := rd_str (ra_pv hy)
    have hg : ∀ p q, (eqGuard op t p q (.string b) (.string b')).run E.P w = .ok () w := fun p q => by unfold eqGuard; split <;> rfl
    split at hr
    · refine ⟨_, ?_, after_ret h (.pv _ _ (.str _)) hr.2, hg⟩
      have h1 : ¬ (((b.size + b'.size : Nat) : Int) > IntKind.i64.max) := by
        have := hr.1
        simp [IntKind.max, IntKind.bits, IntKind.signed]
        omega
      simp only [binOp, Op.stringOp, if_neg h1]
      rfl
    · exact ⟨_, by simp [binOp, Op.stringOp], after_ret h (.pv _ _ (.bool _)) hr, hg⟩
    · exact ⟨_, by simp [binOp, Op.stringOp], after_ret h (.pv _ _ (.bool _)) hr, hg⟩
    · exact hr.elim
  · rename_i b b'
    obtain rfl := rd_bool (ra_pv hx)
    obtain rfl := rd_bool (ra_pv hy)
    have hg : ∀ p q, (eqGuard op t p q (.bool b) (.bool b')).run E.P w = .ok () w := fun p q => by unfold eqGuard; split <;> rfl
    have key : isBool E t = true → E.P.underlying t = some .bool := fun e => by
      unfold isBool at e
      split at e
      · rename_i q hq
        split at e
        · rename_i hk
          have := (E.fits t q hq).kind
          rw [hk] at this
          exact this
        · cases e
      · cases e
    split at hr
    · rename_i e
      exact ⟨_, by simp only [binOp, Sem.run_bind, run_equal_bool w t b b' (key e)]; rfl, after_ret h (.pv _ _ (.bool _)) hr, hg⟩
    · rename_i e
      exact ⟨_, by simp only [binOp, Sem.run_bind, run_equal_bool w t b b' (key e)]; rfl, after_ret h (.pv _ _ (.bool _)) hr, hg⟩
    · exact hr.elim
  · exact hr.elim
theorem op_bin {op : BinOp} {t t' : TypeId} {x y : Operand} (ho : o.op = .binOp op t x y t') (h : Rel E.P w0 N S φ T M a w) (hr : (aop E m o).run S s (isRes r s')) : sure E.P o a w (After E w0 N S r a) := by
  unfold aop at hr
  rw [ho] at hr
  obtain ⟨u, s1, hr1, hu⟩ := ev_sound h hr
  obtain ⟨v, s2, hr2, hv⟩ := ev_sound h hr1
  obtain ⟨z, hz, haf, hg⟩ := bin_sound (t := t) hu hv h hr2
  exact sure_value (v := z) (by unfold execOp; rw [ho]; simp [hz, hg]) haf
end
end Av
end Go.Proofs.Ytbkbppllcjcmhaa
