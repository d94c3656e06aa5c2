/-
  The table of the program's types.
-/
import Derived.Test.YtemogjmghgfdfaaAvY
import Derived.Test.YtemogjmghgfdfaaStart
set_option linter.unusedSimpArgs false
set_option linter.unusedVariables false
set_option linter.defProp false
namespace Go.Proofs.Ytemogjmghgfdfaa
open Go.RowKit
namespace Av
theorem info_size {P : Program} {t : TypeId} {s : Nat} (h : (P.info? t).map (fun i => i.size) = some s) : ∃ i, P.info? t = some i ∧ i.size = s := Option.map_eq_some_iff.1 h
theorem fits_of {P : Program} {t : TypeId} {x : TI} {z : Value} (h : (P.info? t).map (fun i => (i.zero, i.size, i.bytes)) = some (some z, x.size, x.bytes)) (h1 : z.cells.toList.map some = x.zero.map zv) (h2 : z.cells.size = x.size) (hk : match x.kind with
    | .int k => P.underlying t = some (.int k)
    | .bool => P.underlying t = some .bool
    | .str => P.underlying t = some .string
    | .slice e => P.underlying t = some (.slice e)
    | .arr e n size fs => P.underlying t = some (.array n e) ∧ (∃ i, P.info? e = some i ∧ i.size = size) ∧ size ≠ 0 ∧ fs = (List.range n).map fun i => (i * size, e)
    | .struct fs => ∃ gs : Array Field, P.underlying t = some (.struct gs) ∧ gs.toList.map (fun f => (f.offset, f.type)) = fs ∧ ∀ f ∈ gs.toList, (P.info? f.type).isSome = true) : TFits P t x := by
  obtain ⟨i, hi, hz⟩ := Option.map_eq_some_iff.1 h
  simp only [Prod.mk.injEq] at hz
  exact ⟨⟨i, z, hi, hz.1, hz.2.1, hz.2.2, h1, h2⟩, hk⟩
theorem fits_struct {P : Program} {t : TypeId} {fs : List (Nat × TypeId)} {size bytes : Nat} {zero : List AV} {z : Value} {gs : Array Field} (h : (P.info? t).map (fun i => (i.zero, i.size, i.bytes)) = some (some z, size, bytes)) (h1 : z.cells.toList.map some = zero.map zv) (h2 : z.cells.size = size)
    (hu : P.underlying t = some (.struct gs)) (hf : gs.toList.map (fun f => (f.offset, f.type)) = fs) (hin : (gs.toList.all fun f => (P.info? f.type).isSome) = true) : TFits P t ⟨.struct fs, size, bytes, zero⟩ :=
  fits_of h h1 h2 (x := ⟨.struct fs, size, bytes, zero⟩) ⟨gs, hu, hf, List.all_eq_true.1 hin⟩
theorem info_0 : (Try.prog.info? 2).map (fun i => (i.zero, i.size, i.bytes)) = some (some (.int .i64 0 : Value), 1, 8) := by kernel_rfl
theorem und_0 : Try.prog.underlying 2 = some (.int .i64) := by kernel_rfl
theorem info_1 : (Try.prog.info? 3).map (fun i => (i.zero, i.size, i.bytes)) = some (some (.int .i64 0 : Value), 1, 8) := by kernel_rfl
theorem und_1 : Try.prog.underlying 3 = some (.int .i64) := by kernel_rfl
theorem info_2 : (Try.prog.info? 4).map (fun i => (i.zero, i.size, i.bytes)) = some (some (.bool false : Value), 1, 1) := by kernel_rfl
theorem und_2 : Try.prog.underlying 4 = some (.bool) := by kernel_rfl
theorem info_3 : (Try.prog.info? 5).map (fun i => (i.zero, i.size, i.bytes)) = some (some (.int .u8 0 : Value), 1, 1) := by kernel_rfl
theorem und_3 : Try.prog.underlying 5 = some (.int .u8) := by kernel_rfl
theorem info_4 : (Try.prog.info? 9).map (fun i => (i.zero, i.size, i.bytes)) = some (some (.string ByteArray.empty : Value), 1, 16) := by kernel_rfl
theorem und_4 : Try.prog.underlying 9 = some (.string) := by kernel_rfl
theorem info_5 : (Try.prog.info? 21).map (fun i => (i.zero, i.size, i.bytes)) = some (some (.int .i32 0 : Value), 1, 4) := by kernel_rfl
theorem und_5 : Try.prog.underlying 21 = some (.int .i32) := by kernel_rfl
theorem info_6 : (Try.prog.info? 22).map (fun i => (i.zero, i.size, i.bytes)) = some (some (.slice none 0 0 : Value), 1, 24) := by kernel_rfl
theorem und_6 : Try.prog.underlying 22 = some (.slice 146) := by kernel_rfl
theorem info_7 : (Try.prog.info? 24).map (fun i => (i.zero, i.size, i.bytes)) = some (some (.agg #[.slice none 0 0, .int .i64 0] : Value), 2, 32) := by kernel_rfl
theorem fld_7 : (Try.prog.fieldsOf 24).toList.map (fun f => (f.offset, f.type)) = [(0, 22), (1, 3)] := by kernel_rfl
theorem fin_7 : ((Try.prog.fieldsOf 24).toList.all fun f => (Try.prog.info? f.type).isSome) = true := by kernel_rfl
theorem und_7 : Try.prog.underlying 24 = some (.struct (Try.prog.fieldsOf 24)) := by kernel_rfl
theorem info_8 : (Try.prog.info? 25).map (fun i => (i.zero, i.size, i.bytes)) = some (some (.slice none 0 0 : Value), 1, 24) := by kernel_rfl
theorem und_8 : Try.prog.underlying 25 = some (.slice 148) := by kernel_rfl
theorem info_9 : (Try.prog.info? 26).map (fun i => (i.zero, i.size, i.bytes)) = some (some (.slice none 0 0 : Value), 1, 24) := by kernel_rfl
theorem und_9 : Try.prog.underlying 26 = some (.slice 3) := by kernel_rfl
theorem info_10 : (Try.prog.info? 28).map (fun i => (i.zero, i.size, i.bytes)) = some (some (.agg #[.slice none 0 0, .slice none 0 0] : Value), 2, 48) := by kernel_rfl
theorem fld_10 : (Try.prog.fieldsOf 28).toList.map (fun f => (f.offset, f.type)) = [(0, 25), (1, 26)] := by kernel_rfl
theorem fin_10 : ((Try.prog.fieldsOf 28).toList.all fun f => (Try.prog.info? f.type).isSome) = true := by kernel_rfl
theorem und_10 : Try.prog.underlying 28 = some (.struct (Try.prog.fieldsOf 28)) := by kernel_rfl
theorem info_11 : (Try.prog.info? 32).map (fun i => (i.zero, i.size, i.bytes)) = some (some (.slice none 0 0 : Value), 1, 24) := by kernel_rfl
theorem und_11 : Try.prog.underlying 32 = some (.slice 143) := by kernel_rfl
theorem info_12 : (Try.prog.info? 34).map (fun i => (i.zero, i.size, i.bytes)) = some (some (.agg #[.slice none 0 0, .int .i64 0] : Value), 2, 32) := by kernel_rfl
theorem fld_12 : (Try.prog.fieldsOf 34).toList.map (fun f => (f.offset, f.type)) = [(0, 32), (1, 3)] := by kernel_rfl
theorem fin_12 : ((Try.prog.fieldsOf 34).toList.all fun f => (Try.prog.info? f.type).isSome) = true := by kernel_rfl
theorem und_12 : Try.prog.underlying 34 = some (.struct (Try.prog.fieldsOf 34)) := by kernel_rfl
theorem info_13 : (Try.prog.info? 36).map (fun i => (i.zero, i.size, i.bytes)) = some (some (.slice none 0 0 : Value), 1, 24) := by kernel_rfl
theorem und_13 : Try.prog.underlying 36 = some (.slice 81) := by kernel_rfl
theorem info_14 : (Try.prog.info? 38).map (fun i => (i.zero, i.size, i.bytes)) = some (some (.agg #[.slice none 0 0, .slice none 0 0] : Value), 2, 48) := by kernel_rfl
theorem fld_14 : (Try.prog.fieldsOf 38).toList.map (fun f => (f.offset, f.type)) = [(0, 36), (1, 26)] := by kernel_rfl
theorem fin_14 : ((Try.prog.fieldsOf 38).toList.all fun f => (Try.prog.info? f.type).isSome) = true := by kernel_rfl
theorem und_14 : Try.prog.underlying 38 = some (.struct (Try.prog.fieldsOf 38)) := by kernel_rfl
theorem info_15 : (Try.prog.info? 43).map (fun i => (i.zero, i.size, i.bytes)) = some (some (.slice none 0 0 : Value), 1, 24) := by kernel_rfl
theorem und_15 : Try.prog.underlying 43 = some (.slice 98) := by kernel_rfl
theorem info_16 : (Try.prog.info? 61).map (fun i => (i.zero, i.size, i.bytes)) = some (some (.slice none 0 0 : Value), 1, 24) := by kernel_rfl
theorem und_16 : Try.prog.underlying 61 = some (.slice 133) := by kernel_rfl
theorem info_17 : (Try.prog.info? 62).map (fun i => (i.zero, i.size, i.bytes)) = some (some (.slice none 0 0 : Value), 1, 24) := by kernel_rfl
theorem und_17 : Try.prog.underlying 62 = some (.slice 126) := by kernel_rfl
theorem info_18 : (Try.prog.info? 67).map (fun i => (i.zero, i.size, i.bytes)) = some (some (.slice none 0 0 : Value), 1, 24) := by kernel_rfl
theorem und_18 : Try.prog.underlying 67 = some (.slice 129) := by kernel_rfl
theorem info_19 : (Try.prog.info? 81).map (fun i => (i.zero, i.size, i.bytes)) = some (some (.agg #[.int .i64 0, .int .i64 0, .int .i64 0] : Value), 3, 24) := by kernel_rfl
theorem fld_19 : (Try.prog.fieldsOf 81).toList.map (fun f => (f.offset, f.type)) = [(0, 3), (1, 3), (2, 3)] := by kernel_rfl
theorem fin_19 : ((Try.prog.fieldsOf 81).toList.all fun f => (Try.prog.info? f.type).isSome) = true := by kernel_rfl
theorem und_19 : Try.prog.underlying 81 = some (.struct (Try.prog.fieldsOf 81)) := by kernel_rfl
theorem info_20 : (Try.prog.info? 98).map (fun i => (i.zero, i.size, i.bytes)) = some (some (.agg #[.int .i64 0, .int .i64 0, .int .i64 0] : Value), 3, 24) := by kernel_rfl
theorem fld_20 : (Try.prog.fieldsOf 98).toList.map (fun f => (f.offset, f.type)) = [(0, 3), (1, 3), (2, 3)] := by kernel_rfl
theorem fin_20 : ((Try.prog.fieldsOf 98).toList.all fun f => (Try.prog.info? f.type).isSome) = true := by kernel_rfl
theorem und_20 : Try.prog.underlying 98 = some (.struct (Try.prog.fieldsOf 98)) := by kernel_rfl
theorem info_21 : (Try.prog.info? 103).map (fun i => (i.zero, i.size, i.bytes)) = some (some (.slice none 0 0 : Value), 1, 24) := by kernel_rfl
theorem und_21 : Try.prog.underlying 103 = some (.slice 155) := by kernel_rfl
theorem info_22 : (Try.prog.info? 105).map (fun i => (i.zero, i.size, i.bytes)) = some (some (.agg #[.slice none 0 0, .slice none 0 0, .slice none 0 0, .slice none 0 0] : Value), 4, 96) := by kernel_rfl
theorem fld_22 : (Try.prog.fieldsOf 105).toList.map (fun f => (f.offset, f.type)) = [(0, 103), (1, 26), (2, 26), (3, 26)] := by kernel_rfl
theorem fin_22 : ((Try.prog.fieldsOf 105).toList.all fun f => (Try.prog.info? f.type).isSome) = true := by kernel_rfl
theorem und_22 : Try.prog.underlying 105 = some (.struct (Try.prog.fieldsOf 105)) := by kernel_rfl
theorem info_23 : (Try.prog.info? 111).map (fun i => (i.zero, i.size, i.bytes)) = some (some (.slice none 0 0 : Value), 1, 24) := by kernel_rfl
theorem und_23 : Try.prog.underlying 111 = some (.slice 105) := by kernel_rfl
theorem info_24 : (Try.prog.info? 122).map (fun i => (i.zero, i.size, i.bytes)) = some (some (.slice none 0 0 : Value), 1, 24) := by kernel_rfl
theorem und_24 : Try.prog.underlying 122 = some (.slice 194) := by kernel_rfl
theorem info_25 : (Try.prog.info? 124).map (fun i => (i.zero, i.size, i.bytes)) = some (some (.agg #[.slice none 0 0, .slice none 0 0, .slice none 0 0, .slice none 0 0] : Value), 4, 96) := by kernel_rfl
theorem fld_25 : (Try.prog.fieldsOf 124).toList.map (fun f => (f.offset, f.type)) = [(0, 122), (1, 26), (2, 26), (3, 26)] := by kernel_rfl
theorem fin_25 : ((Try.prog.fieldsOf 124).toList.all fun f => (Try.prog.info? f.type).isSome) = true := by kernel_rfl
theorem und_25 : Try.prog.underlying 124 = some (.struct (Try.prog.fieldsOf 124)) := by kernel_rfl
theorem info_26 : (Try.prog.info? 126).map (fun i => (i.zero, i.size, i.bytes)) = some (some (.agg #[.int .i64 0, .slice none 0 0, .slice none 0 0, .slice none 0 0, .slice none 0 0] : Value), 5, 104) := by kernel_rfl
theorem fld_26 : (Try.prog.fieldsOf 126).toList.map (fun f => (f.offset, f.type)) = [(0, 3), (1, 124)] := by kernel_rfl
theorem fin_26 : ((Try.prog.fieldsOf 126).toList.all fun f => (Try.prog.info? f.type).isSome) = true := by kernel_rfl
theorem und_26 : Try.prog.underlying 126 = some (.struct (Try.prog.fieldsOf 126)) := by kernel_rfl
theorem info_27 : (Try.prog.info? 129).map (fun i => (i.zero, i.size, i.bytes)) = some (some (.agg #[.int .i64 0, .slice none 0 0, .slice none 0 0, .slice none 0 0, .slice none 0 0] : Value), 5, 104) := by kernel_rfl
theorem fld_27 : (Try.prog.fieldsOf 129).toList.map (fun f => (f.offset, f.type)) = [(0, 3), (1, 105)] := by kernel_rfl
theorem fin_27 : ((Try.prog.fieldsOf 129).toList.all fun f => (Try.prog.info? f.type).isSome) = true := by kernel_rfl
theorem und_27 : Try.prog.underlying 129 = some (.struct (Try.prog.fieldsOf 129)) := by kernel_rfl
theorem info_28 : (Try.prog.info? 133).map (fun i => (i.zero, i.size, i.bytes)) = some (some (.agg #[.int .i64 0, .int .i64 0, .int .i64 0] : Value), 3, 24) := by kernel_rfl
theorem fld_28 : (Try.prog.fieldsOf 133).toList.map (fun f => (f.offset, f.type)) = [(0, 3), (1, 3), (2, 3)] := by kernel_rfl
theorem fin_28 : ((Try.prog.fieldsOf 133).toList.all fun f => (Try.prog.info? f.type).isSome) = true := by kernel_rfl
theorem und_28 : Try.prog.underlying 133 = some (.struct (Try.prog.fieldsOf 133)) := by kernel_rfl
theorem info_29 : (Try.prog.info? 143).map (fun i => (i.zero, i.size, i.bytes)) = some (some (.agg #[.int .i64 0, .int .i64 0, .int .i64 0, .int .i64 0] : Value), 4, 32) := by kernel_rfl
theorem fld_29 : (Try.prog.fieldsOf 143).toList.map (fun f => (f.offset, f.type)) = [(0, 3), (1, 3), (2, 3), (3, 3)] := by kernel_rfl
theorem fin_29 : ((Try.prog.fieldsOf 143).toList.all fun f => (Try.prog.info? f.type).isSome) = true := by kernel_rfl
theorem und_29 : Try.prog.underlying 143 = some (.struct (Try.prog.fieldsOf 143)) := by kernel_rfl
theorem info_30 : (Try.prog.info? 146).map (fun i => (i.zero, i.size, i.bytes)) = some (some (.agg #[.int .i64 0, .int .i64 0, .int .i64 0, .int .i64 0] : Value), 4, 32) := by kernel_rfl
theorem fld_30 : (Try.prog.fieldsOf 146).toList.map (fun f => (f.offset, f.type)) = [(0, 3), (1, 3), (2, 3), (3, 3)] := by kernel_rfl
theorem fin_30 : ((Try.prog.fieldsOf 146).toList.all fun f => (Try.prog.info? f.type).isSome) = true := by kernel_rfl
theorem und_30 : Try.prog.underlying 146 = some (.struct (Try.prog.fieldsOf 146)) := by kernel_rfl
theorem info_31 : (Try.prog.info? 148).map (fun i => (i.zero, i.size, i.bytes)) = some (some (.agg #[.int .i64 0, .int .i64 0, .int .i64 0] : Value), 3, 24) := by kernel_rfl
theorem fld_31 : (Try.prog.fieldsOf 148).toList.map (fun f => (f.offset, f.type)) = [(0, 3), (1, 3), (2, 3)] := by kernel_rfl
theorem fin_31 : ((Try.prog.fieldsOf 148).toList.all fun f => (Try.prog.info? f.type).isSome) = true := by kernel_rfl
theorem und_31 : Try.prog.underlying 148 = some (.struct (Try.prog.fieldsOf 148)) := by kernel_rfl
theorem info_32 : (Try.prog.info? 152).map (fun i => (i.zero, i.size, i.bytes)) = some (some (.agg #[.string ByteArray.empty, .int .i64 0, .int .i64 0, .int .i64 0] : Value), 4, 40) := by kernel_rfl
theorem fld_32 : (Try.prog.fieldsOf 152).toList.map (fun f => (f.offset, f.type)) = [(0, 9), (1, 3), (2, 3), (3, 3)] := by kernel_rfl
theorem fin_32 : ((Try.prog.fieldsOf 152).toList.all fun f => (Try.prog.info? f.type).isSome) = true := by kernel_rfl
theorem und_32 : Try.prog.underlying 152 = some (.struct (Try.prog.fieldsOf 152)) := by kernel_rfl
theorem info_33 : (Try.prog.info? 155).map (fun i => (i.zero, i.size, i.bytes)) = some (some (.agg #[.int .i64 0, .slice none 0 0, .slice none 0 0, .int .i64 0] : Value), 4, 64) := by kernel_rfl
theorem fld_33 : (Try.prog.fieldsOf 155).toList.map (fun f => (f.offset, f.type)) = [(0, 3), (1, 26), (2, 26), (3, 3)] := by kernel_rfl
theorem fin_33 : ((Try.prog.fieldsOf 155).toList.all fun f => (Try.prog.info? f.type).isSome) = true := by kernel_rfl
theorem und_33 : Try.prog.underlying 155 = some (.struct (Try.prog.fieldsOf 155)) := by kernel_rfl
theorem info_34 : (Try.prog.info? 156).map (fun i => (i.zero, i.size, i.bytes)) = some (some (.slice none 0 0 : Value), 1, 24) := by kernel_rfl
theorem und_34 : Try.prog.underlying 156 = some (.slice 5) := by kernel_rfl
theorem info_35 : (Try.prog.info? 174).map (fun i => (i.zero, i.size, i.bytes)) = some (some (.agg #[.int .i64 0, .int .i64 0, .int .i64 0, .int .i64 0, .int .i64 0] : Value), 5, 40) := by kernel_rfl
theorem und_35 : Try.prog.underlying 174 = some (.array 5 3) := by kernel_rfl
theorem aif_35 : (Try.prog.info? 3).map (fun i => i.size) = some 1 := by kernel_rfl
theorem info_36 : (Try.prog.info? 194).map (fun i => (i.zero, i.size, i.bytes)) = some (some (.agg #[.int .i64 0, .slice none 0 0, .slice none 0 0, .int .i64 0] : Value), 4, 64) := by kernel_rfl
theorem fld_36 : (Try.prog.fieldsOf 194).toList.map (fun f => (f.offset, f.type)) = [(0, 3), (1, 26), (2, 26), (3, 3)] := by kernel_rfl
theorem fin_36 : ((Try.prog.fieldsOf 194).toList.all fun f => (Try.prog.info? f.type).isSome) = true := by kernel_rfl
theorem und_36 : Try.prog.underlying 194 = some (.struct (Try.prog.fieldsOf 194)) := by kernel_rfl
theorem info_37 : (Try.prog.info? 207).map (fun i => (i.zero, i.size, i.bytes)) = some (some (.int .u32 0 : Value), 1, 4) := by kernel_rfl
theorem und_37 : Try.prog.underlying 207 = some (.int .u32) := by kernel_rfl
/-- the types -/
noncomputable def tb : TypeId → Option TI
  | 2 => some ⟨.int .i64, 1, 8, [.pv (.int .i64 0)]⟩
  | 3 => some ⟨.int .i64, 1, 8, [.pv (.int .i64 0)]⟩
  | 4 => some ⟨.bool, 1, 1, [.pv (.bool false)]⟩
  | 5 => some ⟨.int .u8, 1, 1, [.pv (.int .u8 0)]⟩
  | 9 => some ⟨.str, 1, 16, [.pv (.str ByteArray.empty)]⟩
  | 21 => some ⟨.int .i32, 1, 4, [.pv (.int .i32 0)]⟩
  | 22 => some ⟨.slice 146, 1, 24, [.nil 146]⟩
  | 24 => some ⟨.struct [(0, 22), (1, 3)], 2, 32, [.nil 146, .pv (.int .i64 0)]⟩
  | 25 => some ⟨.slice 148, 1, 24, [.nil 148]⟩
  | 26 => some ⟨.slice 3, 1, 24, [.nil 3]⟩
  | 28 => some ⟨.struct [(0, 25), (1, 26)], 2, 48, [.nil 148, .nil 3]⟩
  | 32 => some ⟨.slice 143, 1, 24, [.nil 143]⟩
  | 34 => some ⟨.struct [(0, 32), (1, 3)], 2, 32, [.nil 143, .pv (.int .i64 0)]⟩
  | 36 => some ⟨.slice 81, 1, 24, [.nil 81]⟩
  | 38 => some ⟨.struct [(0, 36), (1, 26)], 2, 48, [.nil 81, .nil 3]⟩
  | 43 => some ⟨.slice 98, 1, 24, [.nil 98]⟩
  | 61 => some ⟨.slice 133, 1, 24, [.nil 133]⟩
  | 62 => some ⟨.slice 126, 1, 24, [.nil 126]⟩
  | 67 => some ⟨.slice 129, 1, 24, [.nil 129]⟩
  | 81 => some ⟨.struct [(0, 3), (1, 3), (2, 3)], 3, 24, [.pv (.int .i64 0), .pv (.int .i64 0), .pv (.int .i64 0)]⟩
  | 98 => some ⟨.struct [(0, 3), (1, 3), (2, 3)], 3, 24, [.pv (.int .i64 0), .pv (.int .i64 0), .pv (.int .i64 0)]⟩
  | 103 => some ⟨.slice 155, 1, 24, [.nil 155]⟩
  | 105 => some ⟨.struct [(0, 103), (1, 26), (2, 26), (3, 26)], 4, 96, [.nil 155, .nil 3, .nil 3, .nil 3]⟩
  | 111 => some ⟨.slice 105, 1, 24, [.nil 105]⟩
  | 122 => some ⟨.slice 194, 1, 24, [.nil 194]⟩
  | 124 => some ⟨.struct [(0, 122), (1, 26), (2, 26), (3, 26)], 4, 96, [.nil 194, .nil 3, .nil 3, .nil 3]⟩
  | 126 => some ⟨.struct [(0, 3), (1, 124)], 5, 104, [.pv (.int .i64 0), .nil 194, .nil 3, .nil 3, .nil 3]⟩
  | 129 => some ⟨.struct [(0, 3), (1, 105)], 5, 104, [.pv (.int .i64 0), .nil 155, .nil 3, .nil 3, .nil 3]⟩
  | 133 => some ⟨.struct [(0, 3), (1, 3), (2, 3)], 3, 24, [.pv (.int .i64 0), .pv (.int .i64 0), .pv (.int .i64 0)]⟩
  | 143 => some ⟨.struct [(0, 3), (1, 3), (2, 3), (3, 3)], 4, 32, [.pv (.int .i64 0), .pv (.int .i64 0), .pv (.int .i64 0), .pv (.int .i64 0)]⟩
  | 146 => some ⟨.struct [(0, 3), (1, 3), (2, 3), (3, 3)], 4, 32, [.pv (.int .i64 0), .pv (.int .i64 0), .pv (.int .i64 0), .pv (.int .i64 0)]⟩
  | 148 => some ⟨.struct [(0, 3), (1, 3), (2, 3)], 3, 24, [.pv (.int .i64 0), .pv (.int .i64 0), .pv (.int .i64 0)]⟩
  | 152 => some ⟨.struct [(0, 9), (1, 3), (2, 3), (3, 3)], 4, 40, [.pv (.str ByteArray.empty), .pv (.int .i64 0), .pv (.int .i64 0), .pv (.int .i64 0)]⟩
  | 155 => some ⟨.struct [(0, 3), (1, 26), (2, 26), (3, 3)], 4, 64, [.pv (.int .i64 0), .nil 3, .nil 3, .pv (.int .i64 0)]⟩
  | 156 => some ⟨.slice 5, 1, 24, [.nil 5]⟩
  | 174 => some ⟨.arr 3 5 1 [(0, 3), (1, 3), (2, 3), (3, 3), (4, 3)], 5, 40, [.pv (.int .i64 0), .pv (.int .i64 0), .pv (.int .i64 0), .pv (.int .i64 0), .pv (.int .i64 0)]⟩
  | 194 => some ⟨.struct [(0, 3), (1, 26), (2, 26), (3, 3)], 4, 64, [.pv (.int .i64 0), .nil 3, .nil 3, .pv (.int .i64 0)]⟩
  | 207 => some ⟨.int .u32, 1, 4, [.pv (.int .u32 0)]⟩
  | _ => none
theorem fit_0 : TFits Try.prog 2 ⟨.int .i64, 1, 8, [.pv (.int .i64 0)]⟩ := fits_of info_0 rfl rfl (und_0)
theorem fit_1 : TFits Try.prog 3 ⟨.int .i64, 1, 8, [.pv (.int .i64 0)]⟩ := fits_of info_1 rfl rfl (und_1)
theorem fit_2 : TFits Try.prog 4 ⟨.bool, 1, 1, [.pv (.bool false)]⟩ := fits_of info_2 rfl rfl (und_2)
theorem fit_3 : TFits Try.prog 5 ⟨.int .u8, 1, 1, [.pv (.int .u8 0)]⟩ := fits_of info_3 rfl rfl (und_3)
theorem fit_4 : TFits Try.prog 9 ⟨.str, 1, 16, [.pv (.str ByteArray.empty)]⟩ := fits_of info_4 rfl rfl (und_4)
theorem fit_5 : TFits Try.prog 21 ⟨.int .i32, 1, 4, [.pv (.int .i32 0)]⟩ := fits_of info_5 rfl rfl (und_5)
theorem fit_6 : TFits Try.prog 22 ⟨.slice 146, 1, 24, [.nil 146]⟩ := fits_of info_6 rfl rfl (und_6)
theorem fit_7 : TFits Try.prog 24 ⟨.struct [(0, 22), (1, 3)], 2, 32, [.nil 146, .pv (.int .i64 0)]⟩ := fits_struct (gs := Try.prog.fieldsOf 24) info_7 rfl rfl und_7 fld_7 fin_7
theorem fit_8 : TFits Try.prog 25 ⟨.slice 148, 1, 24, [.nil 148]⟩ := fits_of info_8 rfl rfl (und_8)
theorem fit_9 : TFits Try.prog 26 ⟨.slice 3, 1, 24, [.nil 3]⟩ := fits_of info_9 rfl rfl (und_9)
theorem fit_10 : TFits Try.prog 28 ⟨.struct [(0, 25), (1, 26)], 2, 48, [.nil 148, .nil 3]⟩ := fits_struct (gs := Try.prog.fieldsOf 28) info_10 rfl rfl und_10 fld_10 fin_10
theorem fit_11 : TFits Try.prog 32 ⟨.slice 143, 1, 24, [.nil 143]⟩ := fits_of info_11 rfl rfl (und_11)
theorem fit_12 : TFits Try.prog 34 ⟨.struct [(0, 32), (1, 3)], 2, 32, [.nil 143, .pv (.int .i64 0)]⟩ := fits_struct (gs := Try.prog.fieldsOf 34) info_12 rfl rfl und_12 fld_12 fin_12
theorem fit_13 : TFits Try.prog 36 ⟨.slice 81, 1, 24, [.nil 81]⟩ := fits_of info_13 rfl rfl (und_13)
theorem fit_14 : TFits Try.prog 38 ⟨.struct [(0, 36), (1, 26)], 2, 48, [.nil 81, .nil 3]⟩ := fits_struct (gs := Try.prog.fieldsOf 38) info_14 rfl rfl und_14 fld_14 fin_14
theorem fit_15 : TFits Try.prog 43 ⟨.slice 98, 1, 24, [.nil 98]⟩ := fits_of info_15 rfl rfl (und_15)
theorem fit_16 : TFits Try.prog 61 ⟨.slice 133, 1, 24, [.nil 133]⟩ := fits_of info_16 rfl rfl (und_16)
theorem fit_17 : TFits Try.prog 62 ⟨.slice 126, 1, 24, [.nil 126]⟩ := fits_of info_17 rfl rfl (und_17)
theorem fit_18 : TFits Try.prog 67 ⟨.slice 129, 1, 24, [.nil 129]⟩ := fits_of info_18 rfl rfl (und_18)
theorem fit_19 : TFits Try.prog 81 ⟨.struct [(0, 3), (1, 3), (2, 3)], 3, 24, [.pv (.int .i64 0), .pv (.int .i64 0), .pv (.int .i64 0)]⟩ := fits_struct (gs := Try.prog.fieldsOf 81) info_19 rfl rfl und_19 fld_19 fin_19
theorem fit_20 : TFits Try.prog 98 ⟨.struct [(0, 3), (1, 3), (2, 3)], 3, 24, [.pv (.int .i64 0), .pv (.int .i64 0), .pv (.int .i64 0)]⟩ := fits_struct (gs := Try.prog.fieldsOf 98) info_20 rfl rfl und_20 fld_20 fin_20
theorem fit_21 : TFits Try.prog 103 ⟨.slice 155, 1, 24, [.nil 155]⟩ := fits_of info_21 rfl rfl (und_21)
theorem fit_22 : TFits Try.prog 105 ⟨.struct [(0, 103), (1, 26), (2, 26), (3, 26)], 4, 96, [.nil 155, .nil 3, .nil 3, .nil 3]⟩ := fits_struct (gs := Try.prog.fieldsOf 105) info_22 rfl rfl und_22 fld_22 fin_22
theorem fit_23 : TFits Try.prog 111 ⟨.slice 105, 1, 24, [.nil 105]⟩ := fits_of info_23 rfl rfl (und_23)
theorem fit_24 : TFits Try.prog 122 ⟨.slice 194, 1, 24, [.nil 194]⟩ := fits_of info_24 rfl rfl (und_24)
theorem fit_25 : TFits Try.prog 124 ⟨.struct [(0, 122), (1, 26), (2, 26), (3, 26)], 4, 96, [.nil 194, .nil 3, .nil 3, .nil 3]⟩ := fits_struct (gs := Try.prog.fieldsOf 124) info_25 rfl rfl und_25 fld_25 fin_25
theorem fit_26 : TFits Try.prog 126 ⟨.struct [(0, 3), (1, 124)], 5, 104, [.pv (.int .i64 0), .nil 194, .nil 3, .nil 3, .nil 3]⟩ := fits_struct (gs := Try.prog.fieldsOf 126) info_26 rfl rfl und_26 fld_26 fin_26
theorem fit_27 : TFits Try.prog 129 ⟨.struct [(0, 3), (1, 105)], 5, 104, [.pv (.int .i64 0), .nil 155, .nil 3, .nil 3, .nil 3]⟩ := fits_struct (gs := Try.prog.fieldsOf 129) info_27 rfl rfl und_27 fld_27 fin_27
theorem fit_28 : TFits Try.prog 133 ⟨.struct [(0, 3), (1, 3), (2, 3)], 3, 24, [.pv (.int .i64 0), .pv (.int .i64 0), .pv (.int .i64 0)]⟩ := fits_struct (gs := Try.prog.fieldsOf 133) info_28 rfl rfl und_28 fld_28 fin_28
theorem fit_29 : TFits Try.prog 143 ⟨.struct [(0, 3), (1, 3), (2, 3), (3, 3)], 4, 32, [.pv (.int .i64 0), .pv (.int .i64 0), .pv (.int .i64 0), .pv (.int .i64 0)]⟩ := fits_struct (gs := Try.prog.fieldsOf 143) info_29 rfl rfl und_29 fld_29 fin_29
theorem fit_30 : TFits Try.prog 146 ⟨.struct [(0, 3), (1, 3), (2, 3), (3, 3)], 4, 32, [.pv (.int .i64 0), .pv (.int .i64 0), .pv (.int .i64 0), .pv (.int .i64 0)]⟩ := fits_struct (gs := Try.prog.fieldsOf 146) info_30 rfl rfl und_30 fld_30 fin_30
theorem fit_31 : TFits Try.prog 148 ⟨.struct [(0, 3), (1, 3), (2, 3)], 3, 24, [.pv (.int .i64 0), .pv (.int .i64 0), .pv (.int .i64 0)]⟩ := fits_struct (gs := Try.prog.fieldsOf 148) info_31 rfl rfl und_31 fld_31 fin_31
theorem fit_32 : TFits Try.prog 152 ⟨.struct [(0, 9), (1, 3), (2, 3), (3, 3)], 4, 40, [.pv (.str ByteArray.empty), .pv (.int .i64 0), .pv (.int .i64 0), .pv (.int .i64 0)]⟩ := fits_struct (gs := Try.prog.fieldsOf 152) info_32 rfl rfl und_32 fld_32 fin_32
theorem fit_33 : TFits Try.prog 155 ⟨.struct [(0, 3), (1, 26), (2, 26), (3, 3)], 4, 64, [.pv (.int .i64 0), .nil 3, .nil 3, .pv (.int .i64 0)]⟩ := fits_struct (gs := Try.prog.fieldsOf 155) info_33 rfl rfl und_33 fld_33 fin_33
theorem fit_34 : TFits Try.prog 156 ⟨.slice 5, 1, 24, [.nil 5]⟩ := fits_of info_34 rfl rfl (und_34)
theorem fit_35 : TFits Try.prog 174 ⟨.arr 3 5 1 [(0, 3), (1, 3), (2, 3), (3, 3), (4, 3)], 5, 40, [.pv (.int .i64 0), .pv (.int .i64 0), .pv (.int .i64 0), .pv (.int .i64 0), .pv (.int .i64 0)]⟩ := fits_of info_35 rfl rfl (⟨und_35, info_size aif_35, by decide, rfl⟩)
theorem fit_36 : TFits Try.prog 194 ⟨.struct [(0, 3), (1, 26), (2, 26), (3, 3)], 4, 64, [.pv (.int .i64 0), .nil 3, .nil 3, .pv (.int .i64 0)]⟩ := fits_struct (gs := Try.prog.fieldsOf 194) info_36 rfl rfl und_36 fld_36 fin_36
theorem fit_37 : TFits Try.prog 207 ⟨.int .u32, 1, 4, [.pv (.int .u32 0)]⟩ := fits_of info_37 rfl rfl (und_37)
theorem tb_fits (t : TypeId) (x : TI) (h : tb t = some x) : TFits Try.prog t x := by
  unfold tb at h
  split at h
  · cases h; exact fit_0
  · cases h; exact fit_1
  · cases h; exact fit_2
  · cases h; exact fit_3
  · cases h; exact fit_4
  · cases h; exact fit_5
  · cases h; exact fit_6
  · cases h; exact fit_7
  · cases h; exact fit_8
  · cases h; exact fit_9
  · cases h; exact fit_10
  · cases h; exact fit_11
  · cases h; exact fit_12
  · cases h; exact fit_13
  · cases h; exact fit_14
  · cases h; exact fit_15
  · cases h; exact fit_16
  · cases h; exact fit_17
  · cases h; exact fit_18
  · cases h; exact fit_19
  · cases h; exact fit_20
  · cases h; exact fit_21
  · cases h; exact fit_22
  · cases h; exact fit_23
  · cases h; exact fit_24
  · cases h; exact fit_25
  · cases h; exact fit_26
  · cases h; exact fit_27
  · cases h; exact fit_28
  · cases h; exact fit_29
  · cases h; exact fit_30
  · cases h; exact fit_31
  · cases h; exact fit_32
  · cases h; exact fit_33
  · cases h; exact fit_34
  · cases h; exact fit_35
  · cases h; exact fit_36
  · cases h; exact fit_37
  · cases h
noncomputable def E : Tab := ⟨Try.prog, tb, tb_fits, false, false⟩
theorem e_wr : E.wr = false := rfl
theorem mixed : E.P.follows .mixedOrders = true := by kernel_rfl
theorem tb_0 : E.tb 2 = some ⟨.int .i64, 1, 8, [.pv (.int .i64 0)]⟩ := rfl
theorem tb_1 : E.tb 3 = some ⟨.int .i64, 1, 8, [.pv (.int .i64 0)]⟩ := rfl
theorem tb_2 : E.tb 4 = some ⟨.bool, 1, 1, [.pv (.bool false)]⟩ := rfl
theorem tb_3 : E.tb 5 = some ⟨.int .u8, 1, 1, [.pv (.int .u8 0)]⟩ := rfl
theorem tb_4 : E.tb 9 = some ⟨.str, 1, 16, [.pv (.str ByteArray.empty)]⟩ := rfl
theorem tb_5 : E.tb 21 = some ⟨.int .i32, 1, 4, [.pv (.int .i32 0)]⟩ := rfl
theorem tb_6 : E.tb 22 = some ⟨.slice 146, 1, 24, [.nil 146]⟩ := rfl
theorem tb_7 : E.tb 24 = some ⟨.struct [(0, 22), (1, 3)], 2, 32, [.nil 146, .pv (.int .i64 0)]⟩ := rfl
theorem tb_8 : E.tb 25 = some ⟨.slice 148, 1, 24, [.nil 148]⟩ := rfl
theorem tb_9 : E.tb 26 = some ⟨.slice 3, 1, 24, [.nil 3]⟩ := rfl
theorem tb_10 : E.tb 28 = some ⟨.struct [(0, 25), (1, 26)], 2, 48, [.nil 148, .nil 3]⟩ := rfl
theorem tb_11 : E.tb 32 = some ⟨.slice 143, 1, 24, [.nil 143]⟩ := rfl
theorem tb_12 : E.tb 34 = some ⟨.struct [(0, 32), (1, 3)], 2, 32, [.nil 143, .pv (.int .i64 0)]⟩ := rfl
theorem tb_13 : E.tb 36 = some ⟨.slice 81, 1, 24, [.nil 81]⟩ := rfl
theorem tb_14 : E.tb 38 = some ⟨.struct [(0, 36), (1, 26)], 2, 48, [.nil 81, .nil 3]⟩ := rfl
theorem tb_15 : E.tb 43 = some ⟨.slice 98, 1, 24, [.nil 98]⟩ := rfl
theorem tb_16 : E.tb 61 = some ⟨.slice 133, 1, 24, [.nil 133]⟩ := rfl
theorem tb_17 : E.tb 62 = some ⟨.slice 126, 1, 24, [.nil 126]⟩ := rfl
theorem tb_18 : E.tb 67 = some ⟨.slice 129, 1, 24, [.nil 129]⟩ := rfl
theorem tb_19 : E.tb 81 = some ⟨.struct [(0, 3), (1, 3), (2, 3)], 3, 24, [.pv (.int .i64 0), .pv (.int .i64 0), .pv (.int .i64 0)]⟩ := rfl
theorem tb_20 : E.tb 98 = some ⟨.struct [(0, 3), (1, 3), (2, 3)], 3, 24, [.pv (.int .i64 0), .pv (.int .i64 0), .pv (.int .i64 0)]⟩ := rfl
theorem tb_21 : E.tb 103 = some ⟨.slice 155, 1, 24, [.nil 155]⟩ := rfl
theorem tb_22 : E.tb 105 = some ⟨.struct [(0, 103), (1, 26), (2, 26), (3, 26)], 4, 96, [.nil 155, .nil 3, .nil 3, .nil 3]⟩ := rfl
theorem tb_23 : E.tb 111 = some ⟨.slice 105, 1, 24, [.nil 105]⟩ := rfl
theorem tb_24 : E.tb 122 = some ⟨.slice 194, 1, 24, [.nil 194]⟩ := rfl
theorem tb_25 : E.tb 124 = some ⟨.struct [(0, 122), (1, 26), (2, 26), (3, 26)], 4, 96, [.nil 194, .nil 3, .nil 3, .nil 3]⟩ := rfl
theorem tb_26 : E.tb 126 = some ⟨.struct [(0, 3), (1, 124)], 5, 104, [.pv (.int .i64 0), .nil 194, .nil 3, .nil 3, .nil 3]⟩ := rfl
theorem tb_27 : E.tb 129 = some ⟨.struct [(0, 3), (1, 105)], 5, 104, [.pv (.int .i64 0), .nil 155, .nil 3, .nil 3, .nil 3]⟩ := rfl
theorem tb_28 : E.tb 133 = some ⟨.struct [(0, 3), (1, 3), (2, 3)], 3, 24, [.pv (.int .i64 0), .pv (.int .i64 0), .pv (.int .i64 0)]⟩ := rfl
theorem tb_29 : E.tb 143 = some ⟨.struct [(0, 3), (1, 3), (2, 3), (3, 3)], 4, 32, [.pv (.int .i64 0), .pv (.int .i64 0), .pv (.int .i64 0), .pv (.int .i64 0)]⟩ := rfl
theorem tb_30 : E.tb 146 = some ⟨.struct [(0, 3), (1, 3), (2, 3), (3, 3)], 4, 32, [.pv (.int .i64 0), .pv (.int .i64 0), .pv (.int .i64 0), .pv (.int .i64 0)]⟩ := rfl
theorem tb_31 : E.tb 148 = some ⟨.struct [(0, 3), (1, 3), (2, 3)], 3, 24, [.pv (.int .i64 0), .pv (.int .i64 0), .pv (.int .i64 0)]⟩ := rfl
theorem tb_32 : E.tb 152 = some ⟨.struct [(0, 9), (1, 3), (2, 3), (3, 3)], 4, 40, [.pv (.str ByteArray.empty), .pv (.int .i64 0), .pv (.int .i64 0), .pv (.int .i64 0)]⟩ := rfl
theorem tb_33 : E.tb 155 = some ⟨.struct [(0, 3), (1, 26), (2, 26), (3, 3)], 4, 64, [.pv (.int .i64 0), .nil 3, .nil 3, .pv (.int .i64 0)]⟩ := rfl
theorem tb_34 : E.tb 156 = some ⟨.slice 5, 1, 24, [.nil 5]⟩ := rfl
theorem tb_35 : E.tb 174 = some ⟨.arr 3 5 1 [(0, 3), (1, 3), (2, 3), (3, 3), (4, 3)], 5, 40, [.pv (.int .i64 0), .pv (.int .i64 0), .pv (.int .i64 0), .pv (.int .i64 0), .pv (.int .i64 0)]⟩ := rfl
theorem tb_36 : E.tb 194 = some ⟨.struct [(0, 3), (1, 26), (2, 26), (3, 3)], 4, 64, [.pv (.int .i64 0), .nil 3, .nil 3, .pv (.int .i64 0)]⟩ := rfl
theorem tb_37 : E.tb 207 = some ⟨.int .u32, 1, 4, [.pv (.int .u32 0)]⟩ := rfl
/-- the table, said for simp -/
def tbs := (And.intro (And.intro (And.intro (And.intro (And.intro @tb_0 @tb_1) (And.intro @tb_2 @tb_3)) (And.intro (And.intro @tb_4 @tb_5) (And.intro @tb_6 (And.intro @tb_7 @tb_8)))) (And.intro (And.intro (And.intro @tb_9 @tb_10) (And.intro @tb_11 (And.intro @tb_12 @tb_13))) (And.intro (And.intro @tb_14 @tb_15) (And.intro @tb_16 (And.intro @tb_17 @tb_18))))) (And.intro (And.intro (And.intro (And.intro @tb_19 @tb_20) (And.intro @tb_21 (And.intro @tb_22 @tb_23))) (And.intro (And.intro @tb_24 @tb_25) (And.intro @tb_26 (And.intro @tb_27 @tb_28)))) (And.intro (And.intro (And.intro @tb_29 @tb_30) (And.intro @tb_31 (And.intro @tb_32 @tb_33))) (And.intro (And.intro @tb_34 @tb_35) (And.intro @tb_36 (And.intro @tb_37 @e_wr))))))
end Av
end Go.Proofs.Ytemogjmghgfdfaa
