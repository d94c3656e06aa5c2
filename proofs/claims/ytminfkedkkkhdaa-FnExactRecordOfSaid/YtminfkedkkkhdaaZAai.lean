/-
  Part of a proof: Law, Start, Tab. No condition.
-/
import Derived.WalkKit
import Derived.ProofKit
import Derived.Handed
import Derived.OpenShut
import Derived.Test.YtminfkedkkkhdaaRows
import Derived.Test.YtminfkedkkkhdaaZAaf
section
namespace Go.Proofs.Ytminfkedkkkhdaa
open Go.ChangeShapes Go.WideShapes Go.ChangeAt Go.RowKit
theorem all_stay {H : Type} {enc : TypeId × Value → H} {P : Program} (hl : laidOutB P = true) {W W' : World} (hb : Below W.heap.size W W') :
  ∀ {ts : List TypeId} {vs : List Value} {ds : List (DataW H)} {ps : List MemPlace}, (∀ t ∈ ts, P.readableRec t = true ∧ t < P.types.size) →
   DataW.TrodAll enc P W 0 (fun _ => true) true ts vs ds ps → DataW.TrodAll enc P W' 0 (fun b => decide (b < W.heap.size)) true ts vs ds ps
 | [], _, _, _, _, h => by
  obtain ⟨rfl, rfl, rfl⟩ := trodAll_nil h
  exact trodAll_mk0
 | t :: ts, _, _, _, hr, h => by
  have hlt := DataW.TrodAll.lt h
  obtain ⟨v, vs1, d, ds1, p1, p2, rfl, rfl, rfl, h1, h2⟩ := trodAll_cons h
  obtain ⟨hr1, hr2⟩ := hr t (List.mem_cons_self ..)
  exact trodAll_cons_mk (Below.trod hl hr1 hr2 h1 hb (fun x hx => hlt x (by simp [hx]))) (all_stay hl hb (fun u hu => hr u (List.mem_cons_of_mem _ hu)) h2)
theorem law_lifted {C : Checked} {H : Type} {enc : TypeId × Value → H} {os : Os} {f : FuncId} {fn : Func} {s : ChangeSpec} {tb : TypeId}
  (own : ownKnob C.prog.godebug = none) (started : os.Started) (noInit : C.prog.inits.idxOf? f = none) (hfn : C.prog.funcs[f]? = some fn)
  (witness : ∃ (w : World) (tape : Tape) (i : Input), w.os = os ∧ (w.forCall tape i).Shaped C.prog ∧ i.vars = [] ∧ Input.okWide C.prog (w.forCall tape i) .any w.heap.size f i ∧
   s.pre6 enc C.prog fn [] false (w.forCall tape i).memory i.args ∧ ({} : Assume).holds C.prog (lone (Frame.enter C.prog f i.args .normal) [] (w.forCall tape i)))
  (hlaid : laidOutB C.prog = true) (hread : ∀ t ∈ fn.params.toList, C.prog.readableRec t = true ∧ t < C.prog.types.size)
  (hres : fn.resultTypes = #[tb]) (htb : C.prog.underlying tb = some .bool) (hvars : s.vars = [])
  (hspec : ∀ ds : List (DataW H), ds.length = fn.params.toList.length → s.fn H ds = { results := [.lit (.bool true)], args := ds })
  (walk : ∀ (W : World) (base : Nat) (args : Array Value) (ds : List (DataW H)) (p : List MemPlace),
   (∀ (j : Nat) t v, fn.params[j]? = some t → args[j]? = some v → Value.okWide C.prog W .any base t v) →
   DataW.TrodAll enc C.prog W 0 (fun _ => true) true fn.params.toList args.toList ds p →
   Calls C.prog f args W fun e W' => e = .returned (.bool true) ∧ Below W.heap.size W W') :
  ReturnsInHanded {} C os f .any (s.pre6 enc C.prog fn [] false) (s.post enc C.prog fn false true false false) := by
 refine returnsInHanded_of_change (C := C) own started noInit hfn witness ?_
 intro W base args ds gs before hval hW _ _
 have hW' := hW
 obtain ⟨p, q, hA, hV, rfl, _, _⟩ := hW
 rw [hvars] at hV
 obtain ⟨rfl, rfl⟩ := trodVars_none hV
 have hlen : ∀ {ts : List TypeId} {vs : List Value} {xs : List (DataW H)} {ps : List MemPlace}, DataW.TrodAll enc C.prog W 0 (fun _ => true) true ts vs xs ps → xs.length = ts.length := by
  intro ts
  induction ts with
  | nil => intro vs xs ps h; obtain ⟨_, rfl, _⟩ := trodAll_nil h; rfl
  | cons t ts ih =>
   intro vs xs ps h
   obtain ⟨v, vs1, d, ds1, p1, p2, _, rfl, _, _, h2⟩ := trodAll_cons h
   simp [ih h2]
 have e1 : s.fn H (ds ++ []) = { results := [.lit (.bool true)], args := ds } := by rw [List.append_nil]; exact hspec ds (hlen hA)
 refine (walk W base args ds p hval hA).mono fun e W' ⟨he, hb⟩ => ⟨_, he, ?_⟩
 refine ⟨ds, [], p ++ [], [], p, [], hW', ?_, ?_, ?_, World.keptBut_mono (fun x hx => ?_) (hb.frame (· ∈ p)), fun h => by cases h⟩
 ·rw [e1, hres]
  exact trodAll_mk1 (shut_bool htb true)
 ·rw [e1]
  exact all_stay hlaid hb hread hA
 ·rw [e1, hvars]
  rfl
 ·exact ⟨by simpa using hx, .inr (.inl hx)⟩
end Go.Proofs.Ytminfkedkkkhdaa
end
section
namespace Go.Proofs.Ytminfkedkkkhdaa
open Go.ChangeShapes Go.WideShapes Go.ChangeAt Go.RowKit
theorem own : ownKnob Try.prog.godebug = none := by kernel_rfl
theorem laidOut : laidOutB Try.prog = true := by kernel_rfl
end Go.Proofs.Ytminfkedkkkhdaa
end
section
set_option linter.unusedSimpArgs false
set_option linter.unusedVariables false
set_option linter.defProp false
namespace Go.Proofs.Ytminfkedkkkhdaa
open Go.RowKit
namespace Av
theorem fits_of {P : Program} {t : TypeId} {x : TI} {z : Value} (h : (P.info? t).map (fun i => (i.zero, i.size, i.bytes)) = some (some z, x.size, x.bytes)) (h1 : z.cells.toList.map some = x.zero.map zv) (h2 : z.cells.size = x.size) (hk : match x.kind with
  | .int k => P.underlying t = some (.int k)
  | .bool => P.underlying t = some .bool
  | .str => P.underlying t = some .string
  | .slice e => P.underlying t = some (.slice e)
  | .struct fs => ∃ gs : Array Field, P.underlying t = some (.struct gs) ∧ gs.toList.map (fun f => (f.offset, f.type)) = fs ∧ ∀ f ∈ gs.toList, (P.info? f.type).isSome = true) : TFits P t x := by
 obtain ⟨i, hi, hz⟩ := Option.map_eq_some_iff.1 h
 simp only [Prod.mk.injEq] at hz
 exact ⟨⟨i, z, hi, hz.1, hz.2.1, hz.2.2, h1, h2⟩, hk⟩
theorem fits_struct {P : Program} {t : TypeId} {fs : List (Nat × TypeId)} {size bytes : Nat} {zero : List AV} {z : Value} {gs : Array Field} (h : (P.info? t).map (fun i => (i.zero, i.size, i.bytes)) = some (some z, size, bytes)) (h1 : z.cells.toList.map some = zero.map zv) (h2 : z.cells.size = size)
  (hu : P.underlying t = some (.struct gs)) (hf : gs.toList.map (fun f => (f.offset, f.type)) = fs) (hin : (gs.toList.all fun f => (P.info? f.type).isSome) = true) : TFits P t ⟨.struct fs, size, bytes, zero⟩ :=
 fits_of h h1 h2 (x := ⟨.struct fs, size, bytes, zero⟩) ⟨gs, hu, hf, List.all_eq_true.1 hin⟩
theorem info_0 : (Try.prog.info? 2).map (fun i => (i.zero, i.size, i.bytes)) = some (some (.int .i64 0 : Value), 1, 8) := by kernel_rfl
theorem und_0 : Try.prog.underlying 2 = some (.int .i64) := by kernel_rfl
theorem info_1 : (Try.prog.info? 3).map (fun i => (i.zero, i.size, i.bytes)) = some (some (.int .i64 0 : Value), 1, 8) := by kernel_rfl
theorem und_1 : Try.prog.underlying 3 = some (.int .i64) := by kernel_rfl
theorem info_2 : (Try.prog.info? 4).map (fun i => (i.zero, i.size, i.bytes)) = some (some (.bool false : Value), 1, 1) := by kernel_rfl
theorem und_2 : Try.prog.underlying 4 = some (.bool) := by kernel_rfl
theorem info_3 : (Try.prog.info? 5).map (fun i => (i.zero, i.size, i.bytes)) = some (some (.int .u8 0 : Value), 1, 1) := by kernel_rfl
theorem und_3 : Try.prog.underlying 5 = some (.int .u8) := by kernel_rfl
theorem info_4 : (Try.prog.info? 9).map (fun i => (i.zero, i.size, i.bytes)) = some (some (.string ByteArray.empty : Value), 1, 16) := by kernel_rfl
theorem und_4 : Try.prog.underlying 9 = some (.string) := by kernel_rfl
theorem info_5 : (Try.prog.info? 21).map (fun i => (i.zero, i.size, i.bytes)) = some (some (.int .i32 0 : Value), 1, 4) := by kernel_rfl
theorem und_5 : Try.prog.underlying 21 = some (.int .i32) := by kernel_rfl
theorem info_6 : (Try.prog.info? 22).map (fun i => (i.zero, i.size, i.bytes)) = some (some (.slice none 0 0 : Value), 1, 24) := by kernel_rfl
theorem und_6 : Try.prog.underlying 22 = some (.slice 120) := by kernel_rfl
theorem info_7 : (Try.prog.info? 24).map (fun i => (i.zero, i.size, i.bytes)) = some (some (.agg #[.slice none 0 0, .int .i64 0] : Value), 2, 32) := by kernel_rfl
theorem fld_7 : (Try.prog.fieldsOf 24).toList.map (fun f => (f.offset, f.type)) = [(0, 22), (1, 3)] := by kernel_rfl
theorem fin_7 : ((Try.prog.fieldsOf 24).toList.all fun f => (Try.prog.info? f.type).isSome) = true := by kernel_rfl
theorem und_7 : Try.prog.underlying 24 = some (.struct (Try.prog.fieldsOf 24)) := by kernel_rfl
theorem info_8 : (Try.prog.info? 25).map (fun i => (i.zero, i.size, i.bytes)) = some (some (.slice none 0 0 : Value), 1, 24) := by kernel_rfl
theorem und_8 : Try.prog.underlying 25 = some (.slice 82) := by kernel_rfl
theorem info_9 : (Try.prog.info? 28).map (fun i => (i.zero, i.size, i.bytes)) = some (some (.slice none 0 0 : Value), 1, 24) := by kernel_rfl
theorem und_9 : Try.prog.underlying 28 = some (.slice 123) := by kernel_rfl
theorem info_10 : (Try.prog.info? 29).map (fun i => (i.zero, i.size, i.bytes)) = some (some (.slice none 0 0 : Value), 1, 24) := by kernel_rfl
theorem und_10 : Try.prog.underlying 29 = some (.slice 3) := by kernel_rfl
theorem info_11 : (Try.prog.info? 31).map (fun i => (i.zero, i.size, i.bytes)) = some (some (.agg #[.slice none 0 0, .slice none 0 0, .slice none 0 0, .slice none 0 0] : Value), 4, 96) := by kernel_rfl
theorem fld_11 : (Try.prog.fieldsOf 31).toList.map (fun f => (f.offset, f.type)) = [(0, 28), (1, 29), (2, 29), (3, 29)] := by kernel_rfl
theorem fin_11 : ((Try.prog.fieldsOf 31).toList.all fun f => (Try.prog.info? f.type).isSome) = true := by kernel_rfl
theorem und_11 : Try.prog.underlying 31 = some (.struct (Try.prog.fieldsOf 31)) := by kernel_rfl
theorem info_12 : (Try.prog.info? 34).map (fun i => (i.zero, i.size, i.bytes)) = some (some (.slice none 0 0 : Value), 1, 24) := by kernel_rfl
theorem und_12 : Try.prog.underlying 34 = some (.slice 96) := by kernel_rfl
theorem info_13 : (Try.prog.info? 36).map (fun i => (i.zero, i.size, i.bytes)) = some (some (.agg #[.slice none 0 0, .int .i64 0] : Value), 2, 32) := by kernel_rfl
theorem fld_13 : (Try.prog.fieldsOf 36).toList.map (fun f => (f.offset, f.type)) = [(0, 34), (1, 3)] := by kernel_rfl
theorem fin_13 : ((Try.prog.fieldsOf 36).toList.all fun f => (Try.prog.info? f.type).isSome) = true := by kernel_rfl
theorem und_13 : Try.prog.underlying 36 = some (.struct (Try.prog.fieldsOf 36)) := by kernel_rfl
theorem info_14 : (Try.prog.info? 38).map (fun i => (i.zero, i.size, i.bytes)) = some (some (.slice none 0 0 : Value), 1, 24) := by kernel_rfl
theorem und_14 : Try.prog.underlying 38 = some (.slice 80) := by kernel_rfl
theorem info_15 : (Try.prog.info? 47).map (fun i => (i.zero, i.size, i.bytes)) = some (some (.slice none 0 0 : Value), 1, 24) := by kernel_rfl
theorem und_15 : Try.prog.underlying 47 = some (.slice 31) := by kernel_rfl
theorem info_16 : (Try.prog.info? 55).map (fun i => (i.zero, i.size, i.bytes)) = some (some (.slice none 0 0 : Value), 1, 24) := by kernel_rfl
theorem und_16 : Try.prog.underlying 55 = some (.slice 102) := by kernel_rfl
theorem info_17 : (Try.prog.info? 57).map (fun i => (i.zero, i.size, i.bytes)) = some (some (.agg #[.slice none 0 0, .slice none 0 0] : Value), 2, 48) := by kernel_rfl
theorem fld_17 : (Try.prog.fieldsOf 57).toList.map (fun f => (f.offset, f.type)) = [(0, 55), (1, 29)] := by kernel_rfl
theorem fin_17 : ((Try.prog.fieldsOf 57).toList.all fun f => (Try.prog.info? f.type).isSome) = true := by kernel_rfl
theorem und_17 : Try.prog.underlying 57 = some (.struct (Try.prog.fieldsOf 57)) := by kernel_rfl
theorem info_18 : (Try.prog.info? 62).map (fun i => (i.zero, i.size, i.bytes)) = some (some (.slice none 0 0 : Value), 1, 24) := by kernel_rfl
theorem und_18 : Try.prog.underlying 62 = some (.slice 144) := by kernel_rfl
theorem info_19 : (Try.prog.info? 64).map (fun i => (i.zero, i.size, i.bytes)) = some (some (.agg #[.slice none 0 0, .slice none 0 0] : Value), 2, 48) := by kernel_rfl
theorem fld_19 : (Try.prog.fieldsOf 64).toList.map (fun f => (f.offset, f.type)) = [(0, 62), (1, 29)] := by kernel_rfl
theorem fin_19 : ((Try.prog.fieldsOf 64).toList.all fun f => (Try.prog.info? f.type).isSome) = true := by kernel_rfl
theorem und_19 : Try.prog.underlying 64 = some (.struct (Try.prog.fieldsOf 64)) := by kernel_rfl
theorem info_20 : (Try.prog.info? 80).map (fun i => (i.zero, i.size, i.bytes)) = some (some (.agg #[.int .i64 0, .int .i64 0, .int .i64 0] : Value), 3, 24) := by kernel_rfl
theorem fld_20 : (Try.prog.fieldsOf 80).toList.map (fun f => (f.offset, f.type)) = [(0, 3), (1, 3), (2, 3)] := by kernel_rfl
theorem fin_20 : ((Try.prog.fieldsOf 80).toList.all fun f => (Try.prog.info? f.type).isSome) = true := by kernel_rfl
theorem und_20 : Try.prog.underlying 80 = some (.struct (Try.prog.fieldsOf 80)) := by kernel_rfl
theorem info_21 : (Try.prog.info? 82).map (fun i => (i.zero, i.size, i.bytes)) = some (some (.agg #[.int .i64 0, .int .i64 0, .int .i64 0] : Value), 3, 24) := by kernel_rfl
theorem fld_21 : (Try.prog.fieldsOf 82).toList.map (fun f => (f.offset, f.type)) = [(0, 3), (1, 3), (2, 3)] := by kernel_rfl
theorem fin_21 : ((Try.prog.fieldsOf 82).toList.all fun f => (Try.prog.info? f.type).isSome) = true := by kernel_rfl
theorem und_21 : Try.prog.underlying 82 = some (.struct (Try.prog.fieldsOf 82)) := by kernel_rfl
theorem info_22 : (Try.prog.info? 96).map (fun i => (i.zero, i.size, i.bytes)) = some (some (.agg #[.int .i64 0, .int .i64 0, .int .i64 0, .int .i64 0] : Value), 4, 32) := by kernel_rfl
theorem fld_22 : (Try.prog.fieldsOf 96).toList.map (fun f => (f.offset, f.type)) = [(0, 3), (1, 3), (2, 3), (3, 3)] := by kernel_rfl
theorem fin_22 : ((Try.prog.fieldsOf 96).toList.all fun f => (Try.prog.info? f.type).isSome) = true := by kernel_rfl
theorem und_22 : Try.prog.underlying 96 = some (.struct (Try.prog.fieldsOf 96)) := by kernel_rfl
theorem info_23 : (Try.prog.info? 102).map (fun i => (i.zero, i.size, i.bytes)) = some (some (.agg #[.int .i64 0, .int .i64 0, .int .i64 0] : Value), 3, 24) := by kernel_rfl
theorem fld_23 : (Try.prog.fieldsOf 102).toList.map (fun f => (f.offset, f.type)) = [(0, 3), (1, 3), (2, 3)] := by kernel_rfl
theorem fin_23 : ((Try.prog.fieldsOf 102).toList.all fun f => (Try.prog.info? f.type).isSome) = true := by kernel_rfl
theorem und_23 : Try.prog.underlying 102 = some (.struct (Try.prog.fieldsOf 102)) := by kernel_rfl
theorem info_24 : (Try.prog.info? 120).map (fun i => (i.zero, i.size, i.bytes)) = some (some (.agg #[.int .i64 0, .int .i64 0, .int .i64 0, .int .i64 0] : Value), 4, 32) := by kernel_rfl
theorem fld_24 : (Try.prog.fieldsOf 120).toList.map (fun f => (f.offset, f.type)) = [(0, 3), (1, 3), (2, 3), (3, 3)] := by kernel_rfl
theorem fin_24 : ((Try.prog.fieldsOf 120).toList.all fun f => (Try.prog.info? f.type).isSome) = true := by kernel_rfl
theorem und_24 : Try.prog.underlying 120 = some (.struct (Try.prog.fieldsOf 120)) := by kernel_rfl
theorem info_25 : (Try.prog.info? 123).map (fun i => (i.zero, i.size, i.bytes)) = some (some (.agg #[.int .i64 0, .slice none 0 0, .slice none 0 0, .int .i64 0] : Value), 4, 64) := by kernel_rfl
theorem fld_25 : (Try.prog.fieldsOf 123).toList.map (fun f => (f.offset, f.type)) = [(0, 3), (1, 29), (2, 29), (3, 3)] := by kernel_rfl
theorem fin_25 : ((Try.prog.fieldsOf 123).toList.all fun f => (Try.prog.info? f.type).isSome) = true := by kernel_rfl
theorem und_25 : Try.prog.underlying 123 = some (.struct (Try.prog.fieldsOf 123)) := by kernel_rfl
theorem info_26 : (Try.prog.info? 133).map (fun i => (i.zero, i.size, i.bytes)) = some (some (.agg #[.string ByteArray.empty, .int .i64 0, .int .i64 0, .int .i64 0] : Value), 4, 40) := by kernel_rfl
theorem fld_26 : (Try.prog.fieldsOf 133).toList.map (fun f => (f.offset, f.type)) = [(0, 9), (1, 3), (2, 3), (3, 3)] := by kernel_rfl
theorem fin_26 : ((Try.prog.fieldsOf 133).toList.all fun f => (Try.prog.info? f.type).isSome) = true := by kernel_rfl
theorem und_26 : Try.prog.underlying 133 = some (.struct (Try.prog.fieldsOf 133)) := by kernel_rfl
theorem info_27 : (Try.prog.info? 144).map (fun i => (i.zero, i.size, i.bytes)) = some (some (.agg #[.int .i64 0, .int .i64 0, .int .i64 0] : Value), 3, 24) := by kernel_rfl
theorem fld_27 : (Try.prog.fieldsOf 144).toList.map (fun f => (f.offset, f.type)) = [(0, 3), (1, 3), (2, 3)] := by kernel_rfl
theorem fin_27 : ((Try.prog.fieldsOf 144).toList.all fun f => (Try.prog.info? f.type).isSome) = true := by kernel_rfl
theorem und_27 : Try.prog.underlying 144 = some (.struct (Try.prog.fieldsOf 144)) := by kernel_rfl
theorem info_28 : (Try.prog.info? 172).map (fun i => (i.zero, i.size, i.bytes)) = some (some (.int .u32 0 : Value), 1, 4) := by kernel_rfl
theorem und_28 : Try.prog.underlying 172 = some (.int .u32) := by kernel_rfl
noncomputable def tb : TypeId → Option TI
 | 2 => some ⟨.int .i64, 1, 8, [.pv (.int .i64 0)]⟩
 | 3 => some ⟨.int .i64, 1, 8, [.pv (.int .i64 0)]⟩
 | 4 => some ⟨.bool, 1, 1, [.pv (.bool false)]⟩
 | 5 => some ⟨.int .u8, 1, 1, [.pv (.int .u8 0)]⟩
 | 9 => some ⟨.str, 1, 16, [.pv (.str ByteArray.empty)]⟩
 | 21 => some ⟨.int .i32, 1, 4, [.pv (.int .i32 0)]⟩
 | 22 => some ⟨.slice 120, 1, 24, [.nil 120]⟩
 | 24 => some ⟨.struct [(0, 22), (1, 3)], 2, 32, [.nil 120, .pv (.int .i64 0)]⟩
 | 25 => some ⟨.slice 82, 1, 24, [.nil 82]⟩
 | 28 => some ⟨.slice 123, 1, 24, [.nil 123]⟩
 | 29 => some ⟨.slice 3, 1, 24, [.nil 3]⟩
 | 31 => some ⟨.struct [(0, 28), (1, 29), (2, 29), (3, 29)], 4, 96, [.nil 123, .nil 3, .nil 3, .nil 3]⟩
 | 34 => some ⟨.slice 96, 1, 24, [.nil 96]⟩
 | 36 => some ⟨.struct [(0, 34), (1, 3)], 2, 32, [.nil 96, .pv (.int .i64 0)]⟩
 | 38 => some ⟨.slice 80, 1, 24, [.nil 80]⟩
 | 47 => some ⟨.slice 31, 1, 24, [.nil 31]⟩
 | 55 => some ⟨.slice 102, 1, 24, [.nil 102]⟩
 | 57 => some ⟨.struct [(0, 55), (1, 29)], 2, 48, [.nil 102, .nil 3]⟩
 | 62 => some ⟨.slice 144, 1, 24, [.nil 144]⟩
 | 64 => some ⟨.struct [(0, 62), (1, 29)], 2, 48, [.nil 144, .nil 3]⟩
 | 80 => some ⟨.struct [(0, 3), (1, 3), (2, 3)], 3, 24, [.pv (.int .i64 0), .pv (.int .i64 0), .pv (.int .i64 0)]⟩
 | 82 => some ⟨.struct [(0, 3), (1, 3), (2, 3)], 3, 24, [.pv (.int .i64 0), .pv (.int .i64 0), .pv (.int .i64 0)]⟩
 | 96 => some ⟨.struct [(0, 3), (1, 3), (2, 3), (3, 3)], 4, 32, [.pv (.int .i64 0), .pv (.int .i64 0), .pv (.int .i64 0), .pv (.int .i64 0)]⟩
 | 102 => some ⟨.struct [(0, 3), (1, 3), (2, 3)], 3, 24, [.pv (.int .i64 0), .pv (.int .i64 0), .pv (.int .i64 0)]⟩
 | 120 => some ⟨.struct [(0, 3), (1, 3), (2, 3), (3, 3)], 4, 32, [.pv (.int .i64 0), .pv (.int .i64 0), .pv (.int .i64 0), .pv (.int .i64 0)]⟩
 | 123 => some ⟨.struct [(0, 3), (1, 29), (2, 29), (3, 3)], 4, 64, [.pv (.int .i64 0), .nil 3, .nil 3, .pv (.int .i64 0)]⟩
 | 133 => some ⟨.struct [(0, 9), (1, 3), (2, 3), (3, 3)], 4, 40, [.pv (.str ByteArray.empty), .pv (.int .i64 0), .pv (.int .i64 0), .pv (.int .i64 0)]⟩
 | 144 => some ⟨.struct [(0, 3), (1, 3), (2, 3)], 3, 24, [.pv (.int .i64 0), .pv (.int .i64 0), .pv (.int .i64 0)]⟩
 | 172 => some ⟨.int .u32, 1, 4, [.pv (.int .u32 0)]⟩
 | _ => none
theorem fit_0 : TFits Try.prog 2 ⟨.int .i64, 1, 8, [.pv (.int .i64 0)]⟩ := fits_of info_0 rfl rfl (und_0)
theorem fit_1 : TFits Try.prog 3 ⟨.int .i64, 1, 8, [.pv (.int .i64 0)]⟩ := fits_of info_1 rfl rfl (und_1)
theorem fit_2 : TFits Try.prog 4 ⟨.bool, 1, 1, [.pv (.bool false)]⟩ := fits_of info_2 rfl rfl (und_2)
theorem fit_3 : TFits Try.prog 5 ⟨.int .u8, 1, 1, [.pv (.int .u8 0)]⟩ := fits_of info_3 rfl rfl (und_3)
theorem fit_4 : TFits Try.prog 9 ⟨.str, 1, 16, [.pv (.str ByteArray.empty)]⟩ := fits_of info_4 rfl rfl (und_4)
theorem fit_5 : TFits Try.prog 21 ⟨.int .i32, 1, 4, [.pv (.int .i32 0)]⟩ := fits_of info_5 rfl rfl (und_5)
theorem fit_6 : TFits Try.prog 22 ⟨.slice 120, 1, 24, [.nil 120]⟩ := fits_of info_6 rfl rfl (und_6)
theorem fit_7 : TFits Try.prog 24 ⟨.struct [(0, 22), (1, 3)], 2, 32, [.nil 120, .pv (.int .i64 0)]⟩ := fits_struct (gs := Try.prog.fieldsOf 24) info_7 rfl rfl und_7 fld_7 fin_7
theorem fit_8 : TFits Try.prog 25 ⟨.slice 82, 1, 24, [.nil 82]⟩ := fits_of info_8 rfl rfl (und_8)
theorem fit_9 : TFits Try.prog 28 ⟨.slice 123, 1, 24, [.nil 123]⟩ := fits_of info_9 rfl rfl (und_9)
theorem fit_10 : TFits Try.prog 29 ⟨.slice 3, 1, 24, [.nil 3]⟩ := fits_of info_10 rfl rfl (und_10)
theorem fit_11 : TFits Try.prog 31 ⟨.struct [(0, 28), (1, 29), (2, 29), (3, 29)], 4, 96, [.nil 123, .nil 3, .nil 3, .nil 3]⟩ := fits_struct (gs := Try.prog.fieldsOf 31) info_11 rfl rfl und_11 fld_11 fin_11
theorem fit_12 : TFits Try.prog 34 ⟨.slice 96, 1, 24, [.nil 96]⟩ := fits_of info_12 rfl rfl (und_12)
theorem fit_13 : TFits Try.prog 36 ⟨.struct [(0, 34), (1, 3)], 2, 32, [.nil 96, .pv (.int .i64 0)]⟩ := fits_struct (gs := Try.prog.fieldsOf 36) info_13 rfl rfl und_13 fld_13 fin_13
theorem fit_14 : TFits Try.prog 38 ⟨.slice 80, 1, 24, [.nil 80]⟩ := fits_of info_14 rfl rfl (und_14)
theorem fit_15 : TFits Try.prog 47 ⟨.slice 31, 1, 24, [.nil 31]⟩ := fits_of info_15 rfl rfl (und_15)
theorem fit_16 : TFits Try.prog 55 ⟨.slice 102, 1, 24, [.nil 102]⟩ := fits_of info_16 rfl rfl (und_16)
theorem fit_17 : TFits Try.prog 57 ⟨.struct [(0, 55), (1, 29)], 2, 48, [.nil 102, .nil 3]⟩ := fits_struct (gs := Try.prog.fieldsOf 57) info_17 rfl rfl und_17 fld_17 fin_17
theorem fit_18 : TFits Try.prog 62 ⟨.slice 144, 1, 24, [.nil 144]⟩ := fits_of info_18 rfl rfl (und_18)
theorem fit_19 : TFits Try.prog 64 ⟨.struct [(0, 62), (1, 29)], 2, 48, [.nil 144, .nil 3]⟩ := fits_struct (gs := Try.prog.fieldsOf 64) info_19 rfl rfl und_19 fld_19 fin_19
theorem fit_20 : TFits Try.prog 80 ⟨.struct [(0, 3), (1, 3), (2, 3)], 3, 24, [.pv (.int .i64 0), .pv (.int .i64 0), .pv (.int .i64 0)]⟩ := fits_struct (gs := Try.prog.fieldsOf 80) info_20 rfl rfl und_20 fld_20 fin_20
theorem fit_21 : TFits Try.prog 82 ⟨.struct [(0, 3), (1, 3), (2, 3)], 3, 24, [.pv (.int .i64 0), .pv (.int .i64 0), .pv (.int .i64 0)]⟩ := fits_struct (gs := Try.prog.fieldsOf 82) info_21 rfl rfl und_21 fld_21 fin_21
theorem fit_22 : TFits Try.prog 96 ⟨.struct [(0, 3), (1, 3), (2, 3), (3, 3)], 4, 32, [.pv (.int .i64 0), .pv (.int .i64 0), .pv (.int .i64 0), .pv (.int .i64 0)]⟩ := fits_struct (gs := Try.prog.fieldsOf 96) info_22 rfl rfl und_22 fld_22 fin_22
theorem fit_23 : TFits Try.prog 102 ⟨.struct [(0, 3), (1, 3), (2, 3)], 3, 24, [.pv (.int .i64 0), .pv (.int .i64 0), .pv (.int .i64 0)]⟩ := fits_struct (gs := Try.prog.fieldsOf 102) info_23 rfl rfl und_23 fld_23 fin_23
theorem fit_24 : TFits Try.prog 120 ⟨.struct [(0, 3), (1, 3), (2, 3), (3, 3)], 4, 32, [.pv (.int .i64 0), .pv (.int .i64 0), .pv (.int .i64 0), .pv (.int .i64 0)]⟩ := fits_struct (gs := Try.prog.fieldsOf 120) info_24 rfl rfl und_24 fld_24 fin_24
theorem fit_25 : TFits Try.prog 123 ⟨.struct [(0, 3), (1, 29), (2, 29), (3, 3)], 4, 64, [.pv (.int .i64 0), .nil 3, .nil 3, .pv (.int .i64 0)]⟩ := fits_struct (gs := Try.prog.fieldsOf 123) info_25 rfl rfl und_25 fld_25 fin_25
theorem fit_26 : TFits Try.prog 133 ⟨.struct [(0, 9), (1, 3), (2, 3), (3, 3)], 4, 40, [.pv (.str ByteArray.empty), .pv (.int .i64 0), .pv (.int .i64 0), .pv (.int .i64 0)]⟩ := fits_struct (gs := Try.prog.fieldsOf 133) info_26 rfl rfl und_26 fld_26 fin_26
theorem fit_27 : TFits Try.prog 144 ⟨.struct [(0, 3), (1, 3), (2, 3)], 3, 24, [.pv (.int .i64 0), .pv (.int .i64 0), .pv (.int .i64 0)]⟩ := fits_struct (gs := Try.prog.fieldsOf 144) info_27 rfl rfl und_27 fld_27 fin_27
theorem fit_28 : TFits Try.prog 172 ⟨.int .u32, 1, 4, [.pv (.int .u32 0)]⟩ := fits_of info_28 rfl rfl (und_28)
theorem tb_fits (t : TypeId) (x : TI) (h : tb t = some x) : TFits Try.prog t x := by
 unfold tb at h
 split at h
 ·cases h; exact fit_0
 ·cases h; exact fit_1
 ·cases h; exact fit_2
 ·cases h; exact fit_3
 ·cases h; exact fit_4
 ·cases h; exact fit_5
 ·cases h; exact fit_6
 ·cases h; exact fit_7
 ·cases h; exact fit_8
 ·cases h; exact fit_9
 ·cases h; exact fit_10
 ·cases h; exact fit_11
 ·cases h; exact fit_12
 ·cases h; exact fit_13
 ·cases h; exact fit_14
 ·cases h; exact fit_15
 ·cases h; exact fit_16
 ·cases h; exact fit_17
 ·cases h; exact fit_18
 ·cases h; exact fit_19
 ·cases h; exact fit_20
 ·cases h; exact fit_21
 ·cases h; exact fit_22
 ·cases h; exact fit_23
 ·cases h; exact fit_24
 ·cases h; exact fit_25
 ·cases h; exact fit_26
 ·cases h; exact fit_27
 ·cases h; exact fit_28
 ·cases h
noncomputable def E : Tab := ⟨Try.prog, tb, tb_fits, false⟩
theorem mixed : E.P.follows .mixedOrders = true := by kernel_rfl
theorem tb_0 : E.tb 2 = some ⟨.int .i64, 1, 8, [.pv (.int .i64 0)]⟩ := rfl
theorem tb_1 : E.tb 3 = some ⟨.int .i64, 1, 8, [.pv (.int .i64 0)]⟩ := rfl
theorem tb_2 : E.tb 4 = some ⟨.bool, 1, 1, [.pv (.bool false)]⟩ := rfl
theorem tb_3 : E.tb 5 = some ⟨.int .u8, 1, 1, [.pv (.int .u8 0)]⟩ := rfl
theorem tb_4 : E.tb 9 = some ⟨.str, 1, 16, [.pv (.str ByteArray.empty)]⟩ := rfl
theorem tb_5 : E.tb 21 = some ⟨.int .i32, 1, 4, [.pv (.int .i32 0)]⟩ := rfl
theorem tb_6 : E.tb 22 = some ⟨.slice 120, 1, 24, [.nil 120]⟩ := rfl
theorem tb_7 : E.tb 24 = some ⟨.struct [(0, 22), (1, 3)], 2, 32, [.nil 120, .pv (.int .i64 0)]⟩ := rfl
theorem tb_8 : E.tb 25 = some ⟨.slice 82, 1, 24, [.nil 82]⟩ := rfl
theorem tb_9 : E.tb 28 = some ⟨.slice 123, 1, 24, [.nil 123]⟩ := rfl
theorem tb_10 : E.tb 29 = some ⟨.slice 3, 1, 24, [.nil 3]⟩ := rfl
theorem tb_11 : E.tb 31 = some ⟨.struct [(0, 28), (1, 29), (2, 29), (3, 29)], 4, 96, [.nil 123, .nil 3, .nil 3, .nil 3]⟩ := rfl
theorem tb_12 : E.tb 34 = some ⟨.slice 96, 1, 24, [.nil 96]⟩ := rfl
theorem tb_13 : E.tb 36 = some ⟨.struct [(0, 34), (1, 3)], 2, 32, [.nil 96, .pv (.int .i64 0)]⟩ := rfl
theorem tb_14 : E.tb 38 = some ⟨.slice 80, 1, 24, [.nil 80]⟩ := rfl
theorem tb_15 : E.tb 47 = some ⟨.slice 31, 1, 24, [.nil 31]⟩ := rfl
theorem tb_16 : E.tb 55 = some ⟨.slice 102, 1, 24, [.nil 102]⟩ := rfl
theorem tb_17 : E.tb 57 = some ⟨.struct [(0, 55), (1, 29)], 2, 48, [.nil 102, .nil 3]⟩ := rfl
theorem tb_18 : E.tb 62 = some ⟨.slice 144, 1, 24, [.nil 144]⟩ := rfl
theorem tb_19 : E.tb 64 = some ⟨.struct [(0, 62), (1, 29)], 2, 48, [.nil 144, .nil 3]⟩ := rfl
theorem tb_20 : E.tb 80 = some ⟨.struct [(0, 3), (1, 3), (2, 3)], 3, 24, [.pv (.int .i64 0), .pv (.int .i64 0), .pv (.int .i64 0)]⟩ := rfl
theorem tb_21 : E.tb 82 = some ⟨.struct [(0, 3), (1, 3), (2, 3)], 3, 24, [.pv (.int .i64 0), .pv (.int .i64 0), .pv (.int .i64 0)]⟩ := rfl
theorem tb_22 : E.tb 96 = some ⟨.struct [(0, 3), (1, 3), (2, 3), (3, 3)], 4, 32, [.pv (.int .i64 0), .pv (.int .i64 0), .pv (.int .i64 0), .pv (.int .i64 0)]⟩ := rfl
theorem tb_23 : E.tb 102 = some ⟨.struct [(0, 3), (1, 3), (2, 3)], 3, 24, [.pv (.int .i64 0), .pv (.int .i64 0), .pv (.int .i64 0)]⟩ := rfl
theorem tb_24 : E.tb 120 = some ⟨.struct [(0, 3), (1, 3), (2, 3), (3, 3)], 4, 32, [.pv (.int .i64 0), .pv (.int .i64 0), .pv (.int .i64 0), .pv (.int .i64 0)]⟩ := rfl
theorem tb_25 : E.tb 123 = some ⟨.struct [(0, 3), (1, 29), (2, 29), (3, 3)], 4, 64, [.pv (.int .i64 0), .nil 3, .nil 3, .pv (.int .i64 0)]⟩ := rfl
theorem tb_26 : E.tb 133 = some ⟨.struct [(0, 9), (1, 3), (2, 3), (3, 3)], 4, 40, [.pv (.str ByteArray.empty), .pv (.int .i64 0), .pv (.int .i64 0), .pv (.int .i64 0)]⟩ := rfl
theorem tb_27 : E.tb 144 = some ⟨.struct [(0, 3), (1, 3), (2, 3)], 3, 24, [.pv (.int .i64 0), .pv (.int .i64 0), .pv (.int .i64 0)]⟩ := rfl
theorem tb_28 : E.tb 172 = some ⟨.int .u32, 1, 4, [.pv (.int .u32 0)]⟩ := rfl
def tbs := (And.intro (And.intro (And.intro (And.intro @tb_0 (And.intro @tb_1 @tb_2)) (And.intro (And.intro @tb_3 @tb_4) (And.intro @tb_5 @tb_6))) (And.intro (And.intro @tb_7 (And.intro @tb_8 @tb_9)) (And.intro (And.intro @tb_10 @tb_11) (And.intro @tb_12 @tb_13)))) (And.intro (And.intro (And.intro @tb_14 (And.intro @tb_15 @tb_16)) (And.intro (And.intro @tb_17 @tb_18) (And.intro @tb_19 @tb_20))) (And.intro (And.intro (And.intro @tb_21 @tb_22) (And.intro @tb_23 @tb_24)) (And.intro (And.intro @tb_25 @tb_26) (And.intro @tb_27 @tb_28)))))
end Av
end Go.Proofs.Ytminfkedkkkhdaa
end
