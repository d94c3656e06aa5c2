/-
  The table of the program's types.
-/
import Derived.Test.YtdjenlnomibniaaAvY
import Derived.Test.YtdjenlnomibniaaStart
set_option linter.unusedSimpArgs false
set_option linter.unusedVariables false
set_option linter.defProp false
namespace Go.Proofs.Ytdjenlnomibniaa
open Go.RowKit
namespace Av
theorem info_size {P : Program} {t : TypeId} {s : Nat} (h : (P.info? t).map (fun i => i.size) = some s) : ∃ i, P.info? t = some i ∧ i.size = s := Option.map_eq_some_iff.1 h
theorem fits_of {P : Program} {t : TypeId} {x : TI} {z : Value} (h : (P.info? t).map (fun i => (i.zero, i.size, i.bytes)) = some (some z, x.size, x.bytes)) (h1 : z.cells.toList.map some = x.zero.map zv) (h2 : z.cells.size = x.size) (hk : match x.kind with
    | .int k => P.underlying t = some (.int k)
    | .bool => P.underlying t = some .bool
    | .str => P.underlying t = some .string
    | .slice e => P.underlying t = some (.slice e)
    | .arr e n size fs => P.underlying t = some (.array n e) ∧ (∃ i, P.info? e = some i ∧ i.size = size) ∧ size ≠ 0 ∧ fs = (List.range n).map fun i => (i * size, e)
    | .struct fs => ∃ gs : Array Field, P.underlying t = some (.struct gs) ∧ gs.toList.map (fun f => (f.offset, f.type)) = fs ∧ ∀ f ∈ gs.toList, (P.info? f.type).isSome = true) : TFits P t x := by
  obtain ⟨i, hi, hz⟩ := Option.map_eq_some_iff.1 h
  simp only [Prod.mk.injEq] at hz
  exact ⟨⟨i, z, hi, hz.1, hz.2.1, hz.2.2, h1, h2⟩, hk⟩
theorem fits_struct {P : Program} {t : TypeId} {fs : List (Nat × TypeId)} {size bytes : Nat} {zero : List AV} {z : Value} {gs : Array Field} (h : (P.info? t).map (fun i => (i.zero, i.size, i.bytes)) = some (some z, size, bytes)) (h1 : z.cells.toList.map some = zero.map zv) (h2 : z.cells.size = size)
    (hu : P.underlying t = some (.struct gs)) (hf : gs.toList.map (fun f => (f.offset, f.type)) = fs) (hin : (gs.toList.all fun f => (P.info? f.type).isSome) = true) : TFits P t ⟨.struct fs, size, bytes, zero⟩ :=
  fits_of h h1 h2 (x := ⟨.struct fs, size, bytes, zero⟩) ⟨gs, hu, hf, List.all_eq_true.1 hin⟩
theorem info_0 : (Try.prog.info? 2).map (fun i => (i.zero, i.size, i.bytes)) = some (some (.int .i64 0 : Value), 1, 8) := by kernel_rfl
theorem und_0 : Try.prog.underlying 2 = some (.int .i64) := by kernel_rfl
theorem info_1 : (Try.prog.info? 3).map (fun i => (i.zero, i.size, i.bytes)) = some (some (.int .i64 0 : Value), 1, 8) := by kernel_rfl
theorem und_1 : Try.prog.underlying 3 = some (.int .i64) := by kernel_rfl
theorem info_2 : (Try.prog.info? 4).map (fun i => (i.zero, i.size, i.bytes)) = some (some (.bool false : Value), 1, 1) := by kernel_rfl
theorem und_2 : Try.prog.underlying 4 = some (.bool) := by kernel_rfl
theorem info_3 : (Try.prog.info? 5).map (fun i => (i.zero, i.size, i.bytes)) = some (some (.int .u8 0 : Value), 1, 1) := by kernel_rfl
theorem und_3 : Try.prog.underlying 5 = some (.int .u8) := by kernel_rfl
theorem info_4 : (Try.prog.info? 9).map (fun i => (i.zero, i.size, i.bytes)) = some (some (.string ByteArray.empty : Value), 1, 16) := by kernel_rfl
theorem und_4 : Try.prog.underlying 9 = some (.string) := by kernel_rfl
theorem info_5 : (Try.prog.info? 21).map (fun i => (i.zero, i.size, i.bytes)) = some (some (.int .i32 0 : Value), 1, 4) := by kernel_rfl
theorem und_5 : Try.prog.underlying 21 = some (.int .i32) := by kernel_rfl
theorem info_6 : (Try.prog.info? 22).map (fun i => (i.zero, i.size, i.bytes)) = some (some (.slice none 0 0 : Value), 1, 24) := by kernel_rfl
theorem und_6 : Try.prog.underlying 22 = some (.slice 3) := by kernel_rfl
theorem info_7 : (Try.prog.info? 24).map (fun i => (i.zero, i.size, i.bytes)) = some (some (.agg #[.int .i64 0, .slice none 0 0, .slice none 0 0, .int .i64 0] : Value), 4, 64) := by kernel_rfl
theorem fld_7 : (Try.prog.fieldsOf 24).toList.map (fun f => (f.offset, f.type)) = [(0, 3), (1, 22), (2, 22), (3, 3)] := by kernel_rfl
theorem fin_7 : ((Try.prog.fieldsOf 24).toList.all fun f => (Try.prog.info? f.type).isSome) = true := by kernel_rfl
theorem und_7 : Try.prog.underlying 24 = some (.struct (Try.prog.fieldsOf 24)) := by kernel_rfl
theorem info_8 : (Try.prog.info? 26).map (fun i => (i.zero, i.size, i.bytes)) = some (some (.agg #[.int .i64 0, .int .i64 0, .slice none 0 0, .slice none 0 0, .int .i64 0, .int .i64 0, .int .i64 0, .int .i64 0, .int .i64 0, .bool false, .bool false] : Value), 11, 112) := by kernel_rfl
theorem fld_8 : (Try.prog.fieldsOf 26).toList.map (fun f => (f.offset, f.type)) = [(0, 3), (1, 24), (5, 3), (6, 3), (7, 3), (8, 3), (9, 4), (10, 4)] := by kernel_rfl
theorem fin_8 : ((Try.prog.fieldsOf 26).toList.all fun f => (Try.prog.info? f.type).isSome) = true := by kernel_rfl
theorem und_8 : Try.prog.underlying 26 = some (.struct (Try.prog.fieldsOf 26)) := by kernel_rfl
theorem info_9 : (Try.prog.info? 29).map (fun i => (i.zero, i.size, i.bytes)) = some (some (.agg #[.int .i64 0, .slice none 0 0, .slice none 0 0, .int .i64 0] : Value), 4, 64) := by kernel_rfl
theorem fld_9 : (Try.prog.fieldsOf 29).toList.map (fun f => (f.offset, f.type)) = [(0, 3), (1, 22), (2, 22), (3, 3)] := by kernel_rfl
theorem fin_9 : ((Try.prog.fieldsOf 29).toList.all fun f => (Try.prog.info? f.type).isSome) = true := by kernel_rfl
theorem und_9 : Try.prog.underlying 29 = some (.struct (Try.prog.fieldsOf 29)) := by kernel_rfl
theorem info_10 : (Try.prog.info? 31).map (fun i => (i.zero, i.size, i.bytes)) = some (some (.agg #[.int .i64 0, .int .i64 0, .slice none 0 0, .slice none 0 0, .int .i64 0, .int .i64 0, .int .i64 0, .int .i64 0, .int .i64 0, .bool false, .bool false] : Value), 11, 112) := by kernel_rfl
theorem fld_10 : (Try.prog.fieldsOf 31).toList.map (fun f => (f.offset, f.type)) = [(0, 3), (1, 29), (5, 3), (6, 3), (7, 3), (8, 3), (9, 4), (10, 4)] := by kernel_rfl
theorem fin_10 : ((Try.prog.fieldsOf 31).toList.all fun f => (Try.prog.info? f.type).isSome) = true := by kernel_rfl
theorem und_10 : Try.prog.underlying 31 = some (.struct (Try.prog.fieldsOf 31)) := by kernel_rfl
theorem info_11 : (Try.prog.info? 35).map (fun i => (i.zero, i.size, i.bytes)) = some (some (.slice none 0 0 : Value), 1, 24) := by kernel_rfl
theorem und_11 : Try.prog.underlying 35 = some (.slice 24) := by kernel_rfl
theorem info_12 : (Try.prog.info? 37).map (fun i => (i.zero, i.size, i.bytes)) = some (some (.agg #[.slice none 0 0, .slice none 0 0, .slice none 0 0, .slice none 0 0] : Value), 4, 96) := by kernel_rfl
theorem fld_12 : (Try.prog.fieldsOf 37).toList.map (fun f => (f.offset, f.type)) = [(0, 35), (1, 22), (2, 22), (3, 22)] := by kernel_rfl
theorem fin_12 : ((Try.prog.fieldsOf 37).toList.all fun f => (Try.prog.info? f.type).isSome) = true := by kernel_rfl
theorem und_12 : Try.prog.underlying 37 = some (.struct (Try.prog.fieldsOf 37)) := by kernel_rfl
theorem info_13 : (Try.prog.info? 39).map (fun i => (i.zero, i.size, i.bytes)) = some (some (.slice none 0 0 : Value), 1, 24) := by kernel_rfl
theorem und_13 : Try.prog.underlying 39 = some (.slice 29) := by kernel_rfl
theorem info_14 : (Try.prog.info? 41).map (fun i => (i.zero, i.size, i.bytes)) = some (some (.agg #[.slice none 0 0, .slice none 0 0, .slice none 0 0, .slice none 0 0] : Value), 4, 96) := by kernel_rfl
theorem fld_14 : (Try.prog.fieldsOf 41).toList.map (fun f => (f.offset, f.type)) = [(0, 39), (1, 22), (2, 22), (3, 22)] := by kernel_rfl
theorem fin_14 : ((Try.prog.fieldsOf 41).toList.all fun f => (Try.prog.info? f.type).isSome) = true := by kernel_rfl
theorem und_14 : Try.prog.underlying 41 = some (.struct (Try.prog.fieldsOf 41)) := by kernel_rfl
theorem info_15 : (Try.prog.info? 49).map (fun i => (i.zero, i.size, i.bytes)) = some (some (.slice none 0 0 : Value), 1, 24) := by kernel_rfl
theorem und_15 : Try.prog.underlying 49 = some (.slice 168) := by kernel_rfl
theorem info_16 : (Try.prog.info? 51).map (fun i => (i.zero, i.size, i.bytes)) = some (some (.agg #[.slice none 0 0, .int .i64 0] : Value), 2, 32) := by kernel_rfl
theorem fld_16 : (Try.prog.fieldsOf 51).toList.map (fun f => (f.offset, f.type)) = [(0, 49), (1, 3)] := by kernel_rfl
theorem fin_16 : ((Try.prog.fieldsOf 51).toList.all fun f => (Try.prog.info? f.type).isSome) = true := by kernel_rfl
theorem und_16 : Try.prog.underlying 51 = some (.struct (Try.prog.fieldsOf 51)) := by kernel_rfl
theorem info_17 : (Try.prog.info? 54).map (fun i => (i.zero, i.size, i.bytes)) = some (some (.slice none 0 0 : Value), 1, 24) := by kernel_rfl
theorem und_17 : Try.prog.underlying 54 = some (.slice 153) := by kernel_rfl
theorem info_18 : (Try.prog.info? 56).map (fun i => (i.zero, i.size, i.bytes)) = some (some (.agg #[.slice none 0 0, .int .i64 0] : Value), 2, 32) := by kernel_rfl
theorem fld_18 : (Try.prog.fieldsOf 56).toList.map (fun f => (f.offset, f.type)) = [(0, 54), (1, 3)] := by kernel_rfl
theorem fin_18 : ((Try.prog.fieldsOf 56).toList.all fun f => (Try.prog.info? f.type).isSome) = true := by kernel_rfl
theorem und_18 : Try.prog.underlying 56 = some (.struct (Try.prog.fieldsOf 56)) := by kernel_rfl
theorem info_19 : (Try.prog.info? 61).map (fun i => (i.zero, i.size, i.bytes)) = some (some (.slice none 0 0 : Value), 1, 24) := by kernel_rfl
theorem und_19 : Try.prog.underlying 61 = some (.slice 180) := by kernel_rfl
theorem info_20 : (Try.prog.info? 63).map (fun i => (i.zero, i.size, i.bytes)) = some (some (.agg #[.slice none 0 0, .slice none 0 0] : Value), 2, 48) := by kernel_rfl
theorem fld_20 : (Try.prog.fieldsOf 63).toList.map (fun f => (f.offset, f.type)) = [(0, 61), (1, 22)] := by kernel_rfl
theorem fin_20 : ((Try.prog.fieldsOf 63).toList.all fun f => (Try.prog.info? f.type).isSome) = true := by kernel_rfl
theorem und_20 : Try.prog.underlying 63 = some (.struct (Try.prog.fieldsOf 63)) := by kernel_rfl
theorem info_21 : (Try.prog.info? 65).map (fun i => (i.zero, i.size, i.bytes)) = some (some (.slice none 0 0 : Value), 1, 24) := by kernel_rfl
theorem und_21 : Try.prog.underlying 65 = some (.slice 131) := by kernel_rfl
theorem info_22 : (Try.prog.info? 67).map (fun i => (i.zero, i.size, i.bytes)) = some (some (.agg #[.slice none 0 0, .slice none 0 0] : Value), 2, 48) := by kernel_rfl
theorem fld_22 : (Try.prog.fieldsOf 67).toList.map (fun f => (f.offset, f.type)) = [(0, 65), (1, 22)] := by kernel_rfl
theorem fin_22 : ((Try.prog.fieldsOf 67).toList.all fun f => (Try.prog.info? f.type).isSome) = true := by kernel_rfl
theorem und_22 : Try.prog.underlying 67 = some (.struct (Try.prog.fieldsOf 67)) := by kernel_rfl
theorem info_23 : (Try.prog.info? 75).map (fun i => (i.zero, i.size, i.bytes)) = some (some (.slice none 0 0 : Value), 1, 24) := by kernel_rfl
theorem und_23 : Try.prog.underlying 75 = some (.slice 88) := by kernel_rfl
theorem info_24 : (Try.prog.info? 76).map (fun i => (i.zero, i.size, i.bytes)) = some (some (.slice none 0 0 : Value), 1, 24) := by kernel_rfl
theorem und_24 : Try.prog.underlying 76 = some (.slice 141) := by kernel_rfl
theorem info_25 : (Try.prog.info? 80).map (fun i => (i.zero, i.size, i.bytes)) = some (some (.slice none 0 0 : Value), 1, 24) := by kernel_rfl
theorem und_25 : Try.prog.underlying 80 = some (.slice 91) := by kernel_rfl
theorem info_26 : (Try.prog.info? 82).map (fun i => (i.zero, i.size, i.bytes)) = some (some (.slice none 0 0 : Value), 1, 24) := by kernel_rfl
theorem und_26 : Try.prog.underlying 82 = some (.slice 143) := by kernel_rfl
theorem info_27 : (Try.prog.info? 88).map (fun i => (i.zero, i.size, i.bytes)) = some (some (.agg #[.int .i64 0, .int .i64 0, .int .i64 0] : Value), 3, 24) := by kernel_rfl
theorem fld_27 : (Try.prog.fieldsOf 88).toList.map (fun f => (f.offset, f.type)) = [(0, 3), (1, 3), (2, 3)] := by kernel_rfl
theorem fin_27 : ((Try.prog.fieldsOf 88).toList.all fun f => (Try.prog.info? f.type).isSome) = true := by kernel_rfl
theorem und_27 : Try.prog.underlying 88 = some (.struct (Try.prog.fieldsOf 88)) := by kernel_rfl
theorem info_28 : (Try.prog.info? 91).map (fun i => (i.zero, i.size, i.bytes)) = some (some (.agg #[.int .i64 0, .int .i64 0, .int .i64 0] : Value), 3, 24) := by kernel_rfl
theorem fld_28 : (Try.prog.fieldsOf 91).toList.map (fun f => (f.offset, f.type)) = [(0, 3), (1, 3), (2, 3)] := by kernel_rfl
theorem fin_28 : ((Try.prog.fieldsOf 91).toList.all fun f => (Try.prog.info? f.type).isSome) = true := by kernel_rfl
theorem und_28 : Try.prog.underlying 91 = some (.struct (Try.prog.fieldsOf 91)) := by kernel_rfl
theorem info_29 : (Try.prog.info? 94).map (fun i => (i.zero, i.size, i.bytes)) = some (some (.slice none 0 0 : Value), 1, 24) := by kernel_rfl
theorem und_29 : Try.prog.underlying 94 = some (.slice 31) := by kernel_rfl
theorem info_30 : (Try.prog.info? 131).map (fun i => (i.zero, i.size, i.bytes)) = some (some (.agg #[.int .i64 0, .int .i64 0, .int .i64 0] : Value), 3, 24) := by kernel_rfl
theorem fld_30 : (Try.prog.fieldsOf 131).toList.map (fun f => (f.offset, f.type)) = [(0, 3), (1, 3), (2, 3)] := by kernel_rfl
theorem fin_30 : ((Try.prog.fieldsOf 131).toList.all fun f => (Try.prog.info? f.type).isSome) = true := by kernel_rfl
theorem und_30 : Try.prog.underlying 131 = some (.struct (Try.prog.fieldsOf 131)) := by kernel_rfl
theorem info_31 : (Try.prog.info? 141).map (fun i => (i.zero, i.size, i.bytes)) = some (some (.agg #[.int .i64 0, .slice none 0 0, .slice none 0 0, .slice none 0 0, .slice none 0 0] : Value), 5, 104) := by kernel_rfl
theorem fld_31 : (Try.prog.fieldsOf 141).toList.map (fun f => (f.offset, f.type)) = [(0, 3), (1, 37)] := by kernel_rfl
theorem fin_31 : ((Try.prog.fieldsOf 141).toList.all fun f => (Try.prog.info? f.type).isSome) = true := by kernel_rfl
theorem und_31 : Try.prog.underlying 141 = some (.struct (Try.prog.fieldsOf 141)) := by kernel_rfl
theorem info_32 : (Try.prog.info? 143).map (fun i => (i.zero, i.size, i.bytes)) = some (some (.agg #[.int .i64 0, .slice none 0 0, .slice none 0 0, .slice none 0 0, .slice none 0 0] : Value), 5, 104) := by kernel_rfl
theorem fld_32 : (Try.prog.fieldsOf 143).toList.map (fun f => (f.offset, f.type)) = [(0, 3), (1, 41)] := by kernel_rfl
theorem fin_32 : ((Try.prog.fieldsOf 143).toList.all fun f => (Try.prog.info? f.type).isSome) = true := by kernel_rfl
theorem und_32 : Try.prog.underlying 143 = some (.struct (Try.prog.fieldsOf 143)) := by kernel_rfl
theorem info_33 : (Try.prog.info? 146).map (fun i => (i.zero, i.size, i.bytes)) = some (some (.slice none 0 0 : Value), 1, 24) := by kernel_rfl
theorem und_33 : Try.prog.underlying 146 = some (.slice 41) := by kernel_rfl
theorem info_34 : (Try.prog.info? 153).map (fun i => (i.zero, i.size, i.bytes)) = some (some (.agg #[.int .i64 0, .int .i64 0, .int .i64 0, .int .i64 0] : Value), 4, 32) := by kernel_rfl
theorem fld_34 : (Try.prog.fieldsOf 153).toList.map (fun f => (f.offset, f.type)) = [(0, 3), (1, 3), (2, 3), (3, 3)] := by kernel_rfl
theorem fin_34 : ((Try.prog.fieldsOf 153).toList.all fun f => (Try.prog.info? f.type).isSome) = true := by kernel_rfl
theorem und_34 : Try.prog.underlying 153 = some (.struct (Try.prog.fieldsOf 153)) := by kernel_rfl
theorem info_35 : (Try.prog.info? 168).map (fun i => (i.zero, i.size, i.bytes)) = some (some (.agg #[.int .i64 0, .int .i64 0, .int .i64 0, .int .i64 0] : Value), 4, 32) := by kernel_rfl
theorem fld_35 : (Try.prog.fieldsOf 168).toList.map (fun f => (f.offset, f.type)) = [(0, 3), (1, 3), (2, 3), (3, 3)] := by kernel_rfl
theorem fin_35 : ((Try.prog.fieldsOf 168).toList.all fun f => (Try.prog.info? f.type).isSome) = true := by kernel_rfl
theorem und_35 : Try.prog.underlying 168 = some (.struct (Try.prog.fieldsOf 168)) := by kernel_rfl
theorem info_36 : (Try.prog.info? 180).map (fun i => (i.zero, i.size, i.bytes)) = some (some (.agg #[.int .i64 0, .int .i64 0, .int .i64 0] : Value), 3, 24) := by kernel_rfl
theorem fld_36 : (Try.prog.fieldsOf 180).toList.map (fun f => (f.offset, f.type)) = [(0, 3), (1, 3), (2, 3)] := by kernel_rfl
theorem fin_36 : ((Try.prog.fieldsOf 180).toList.all fun f => (Try.prog.info? f.type).isSome) = true := by kernel_rfl
theorem und_36 : Try.prog.underlying 180 = some (.struct (Try.prog.fieldsOf 180)) := by kernel_rfl
theorem info_37 : (Try.prog.info? 193).map (fun i => (i.zero, i.size, i.bytes)) = some (some (.slice none 0 0 : Value), 1, 24) := by kernel_rfl
theorem und_37 : Try.prog.underlying 193 = some (.slice 5) := by kernel_rfl
theorem info_38 : (Try.prog.info? 195).map (fun i => (i.zero, i.size, i.bytes)) = some (some (.agg #[.string ByteArray.empty, .int .i64 0, .int .i64 0, .int .i64 0] : Value), 4, 40) := by kernel_rfl
theorem fld_38 : (Try.prog.fieldsOf 195).toList.map (fun f => (f.offset, f.type)) = [(0, 9), (1, 3), (2, 3), (3, 3)] := by kernel_rfl
theorem fin_38 : ((Try.prog.fieldsOf 195).toList.all fun f => (Try.prog.info? f.type).isSome) = true := by kernel_rfl
theorem und_38 : Try.prog.underlying 195 = some (.struct (Try.prog.fieldsOf 195)) := by kernel_rfl
theorem info_39 : (Try.prog.info? 206).map (fun i => (i.zero, i.size, i.bytes)) = some (some (.agg #[.int .i64 0, .int .i64 0, .int .i64 0, .int .i64 0, .int .i64 0] : Value), 5, 40) := by kernel_rfl
theorem und_39 : Try.prog.underlying 206 = some (.array 5 3) := by kernel_rfl
theorem aif_39 : (Try.prog.info? 3).map (fun i => i.size) = some 1 := by kernel_rfl
theorem info_40 : (Try.prog.info? 226).map (fun i => (i.zero, i.size, i.bytes)) = some (some (.int .u32 0 : Value), 1, 4) := by kernel_rfl
theorem und_40 : Try.prog.underlying 226 = some (.int .u32) := by kernel_rfl
/-- the types -/
noncomputable def tb : TypeId → Option TI
  | 2 => some ⟨.int .i64, 1, 8, [.pv (.int .i64 0)]⟩
  | 3 => some ⟨.int .i64, 1, 8, [.pv (.int .i64 0)]⟩
  | 4 => some ⟨.bool, 1, 1, [.pv (.bool false)]⟩
  | 5 => some ⟨.int .u8, 1, 1, [.pv (.int .u8 0)]⟩
  | 9 => some ⟨.str, 1, 16, [.pv (.str ByteArray.empty)]⟩
  | 21 => some ⟨.int .i32, 1, 4, [.pv (.int .i32 0)]⟩
  | 22 => some ⟨.slice 3, 1, 24, [.nil 3]⟩
  | 24 => some ⟨.struct [(0, 3), (1, 22), (2, 22), (3, 3)], 4, 64, [.pv (.int .i64 0), .nil 3, .nil 3, .pv (.int .i64 0)]⟩
  | 26 => some ⟨.struct [(0, 3), (1, 24), (5, 3), (6, 3), (7, 3), (8, 3), (9, 4), (10, 4)], 11, 112, [.pv (.int .i64 0), .pv (.int .i64 0), .nil 3, .nil 3, .pv (.int .i64 0), .pv (.int .i64 0), .pv (.int .i64 0), .pv (.int .i64 0), .pv (.int .i64 0), .pv (.bool false), .pv (.bool false)]⟩
  | 29 => some ⟨.struct [(0, 3), (1, 22), (2, 22), (3, 3)], 4, 64, [.pv (.int .i64 0), .nil 3, .nil 3, .pv (.int .i64 0)]⟩
  | 31 => some ⟨.struct [(0, 3), (1, 29), (5, 3), (6, 3), (7, 3), (8, 3), (9, 4), (10, 4)], 11, 112, [.pv (.int .i64 0), .pv (.int .i64 0), .nil 3, .nil 3, .pv (.int .i64 0), .pv (.int .i64 0), .pv (.int .i64 0), .pv (.int .i64 0), .pv (.int .i64 0), .pv (.bool false), .pv (.bool false)]⟩
  | 35 => some ⟨.slice 24, 1, 24, [.nil 24]⟩
  | 37 => some ⟨.struct [(0, 35), (1, 22), (2, 22), (3, 22)], 4, 96, [.nil 24, .nil 3, .nil 3, .nil 3]⟩
  | 39 => some ⟨.slice 29, 1, 24, [.nil 29]⟩
  | 41 => some ⟨.struct [(0, 39), (1, 22), (2, 22), (3, 22)], 4, 96, [.nil 29, .nil 3, .nil 3, .nil 3]⟩
  | 49 => some ⟨.slice 168, 1, 24, [.nil 168]⟩
  | 51 => some ⟨.struct [(0, 49), (1, 3)], 2, 32, [.nil 168, .pv (.int .i64 0)]⟩
  | 54 => some ⟨.slice 153, 1, 24, [.nil 153]⟩
  | 56 => some ⟨.struct [(0, 54), (1, 3)], 2, 32, [.nil 153, .pv (.int .i64 0)]⟩
  | 61 => some ⟨.slice 180, 1, 24, [.nil 180]⟩
  | 63 => some ⟨.struct [(0, 61), (1, 22)], 2, 48, [.nil 180, .nil 3]⟩
  | 65 => some ⟨.slice 131, 1, 24, [.nil 131]⟩
  | 67 => some ⟨.struct [(0, 65), (1, 22)], 2, 48, [.nil 131, .nil 3]⟩
  | 75 => some ⟨.slice 88, 1, 24, [.nil 88]⟩
  | 76 => some ⟨.slice 141, 1, 24, [.nil 141]⟩
  | 80 => some ⟨.slice 91, 1, 24, [.nil 91]⟩
  | 82 => some ⟨.slice 143, 1, 24, [.nil 143]⟩
  | 88 => some ⟨.struct [(0, 3), (1, 3), (2, 3)], 3, 24, [.pv (.int .i64 0), .pv (.int .i64 0), .pv (.int .i64 0)]⟩
  | 91 => some ⟨.struct [(0, 3), (1, 3), (2, 3)], 3, 24, [.pv (.int .i64 0), .pv (.int .i64 0), .pv (.int .i64 0)]⟩
  | 94 => some ⟨.slice 31, 1, 24, [.nil 31]⟩
  | 131 => some ⟨.struct [(0, 3), (1, 3), (2, 3)], 3, 24, [.pv (.int .i64 0), .pv (.int .i64 0), .pv (.int .i64 0)]⟩
  | 141 => some ⟨.struct [(0, 3), (1, 37)], 5, 104, [.pv (.int .i64 0), .nil 24, .nil 3, .nil 3, .nil 3]⟩
  | 143 => some ⟨.struct [(0, 3), (1, 41)], 5, 104, [.pv (.int .i64 0), .nil 29, .nil 3, .nil 3, .nil 3]⟩
  | 146 => some ⟨.slice 41, 1, 24, [.nil 41]⟩
  | 153 => some ⟨.struct [(0, 3), (1, 3), (2, 3), (3, 3)], 4, 32, [.pv (.int .i64 0), .pv (.int .i64 0), .pv (.int .i64 0), .pv (.int .i64 0)]⟩
  | 168 => some ⟨.struct [(0, 3), (1, 3), (2, 3), (3, 3)], 4, 32, [.pv (.int .i64 0), .pv (.int .i64 0), .pv (.int .i64 0), .pv (.int .i64 0)]⟩
  | 180 => some ⟨.struct [(0, 3), (1, 3), (2, 3)], 3, 24, [.pv (.int .i64 0), .pv (.int .i64 0), .pv (.int .i64 0)]⟩
  | 193 => some ⟨.slice 5, 1, 24, [.nil 5]⟩
  | 195 => some ⟨.struct [(0, 9), (1, 3), (2, 3), (3, 3)], 4, 40, [.pv (.str ByteArray.empty), .pv (.int .i64 0), .pv (.int .i64 0), .pv (.int .i64 0)]⟩
  | 206 => some ⟨.arr 3 5 1 [(0, 3), (1, 3), (2, 3), (3, 3), (4, 3)], 5, 40, [.pv (.int .i64 0), .pv (.int .i64 0), .pv (.int .i64 0), .pv (.int .i64 0), .pv (.int .i64 0)]⟩
  | 226 => some ⟨.int .u32, 1, 4, [.pv (.int .u32 0)]⟩
  | _ => none
theorem fit_0 : TFits Try.prog 2 ⟨.int .i64, 1, 8, [.pv (.int .i64 0)]⟩ := fits_of info_0 rfl rfl (und_0)
theorem fit_1 : TFits Try.prog 3 ⟨.int .i64, 1, 8, [.pv (.int .i64 0)]⟩ := fits_of info_1 rfl rfl (und_1)
theorem fit_2 : TFits Try.prog 4 ⟨.bool, 1, 1, [.pv (.bool false)]⟩ := fits_of info_2 rfl rfl (und_2)
theorem fit_3 : TFits Try.prog 5 ⟨.int .u8, 1, 1, [.pv (.int .u8 0)]⟩ := fits_of info_3 rfl rfl (und_3)
theorem fit_4 : TFits Try.prog 9 ⟨.str, 1, 16, [.pv (.str ByteArray.empty)]⟩ := fits_of info_4 rfl rfl (und_4)
theorem fit_5 : TFits Try.prog 21 ⟨.int .i32, 1, 4, [.pv (.int .i32 0)]⟩ := fits_of info_5 rfl rfl (und_5)
theorem fit_6 : TFits Try.prog 22 ⟨.slice 3, 1, 24, [.nil 3]⟩ := fits_of info_6 rfl rfl (und_6)
theorem fit_7 : TFits Try.prog 24 ⟨.struct [(0, 3), (1, 22), (2, 22), (3, 3)], 4, 64, [.pv (.int .i64 0), .nil 3, .nil 3, .pv (.int .i64 0)]⟩ := fits_struct (gs := Try.prog.fieldsOf 24) info_7 rfl rfl und_7 fld_7 fin_7
theorem fit_8 : TFits Try.prog 26 ⟨.struct [(0, 3), (1, 24), (5, 3), (6, 3), (7, 3), (8, 3), (9, 4), (10, 4)], 11, 112, [.pv (.int .i64 0), .pv (.int .i64 0), .nil 3, .nil 3, .pv (.int .i64 0), .pv (.int .i64 0), .pv (.int .i64 0), .pv (.int .i64 0), .pv (.int .i64 0), .pv (.bool false), .pv (.bool false)]⟩ := fits_struct (gs := Try.prog.fieldsOf 26) info_8 rfl rfl und_8 fld_8 fin_8
theorem fit_9 : TFits Try.prog 29 ⟨.struct [(0, 3), (1, 22), (2, 22), (3, 3)], 4, 64, [.pv (.int .i64 0), .nil 3, .nil 3, .pv (.int .i64 0)]⟩ := fits_struct (gs := Try.prog.fieldsOf 29) info_9 rfl rfl und_9 fld_9 fin_9
theorem fit_10 : TFits Try.prog 31 ⟨.struct [(0, 3), (1, 29), (5, 3), (6, 3), (7, 3), (8, 3), (9, 4), (10, 4)], 11, 112, [.pv (.int .i64 0), .pv (.int .i64 0), .nil 3, .nil 3, .pv (.int .i64 0), .pv (.int .i64 0), .pv (.int .i64 0), .pv (.int .i64 0), .pv (.int .i64 0), .pv (.bool false), .pv (.bool false)]⟩ := fits_struct (gs := Try.prog.fieldsOf 31) info_10 rfl rfl und_10 fld_10 fin_10
theorem fit_11 : TFits Try.prog 35 ⟨.slice 24, 1, 24, [.nil 24]⟩ := fits_of info_11 rfl rfl (und_11)
theorem fit_12 : TFits Try.prog 37 ⟨.struct [(0, 35), (1, 22), (2, 22), (3, 22)], 4, 96, [.nil 24, .nil 3, .nil 3, .nil 3]⟩ := fits_struct (gs := Try.prog.fieldsOf 37) info_12 rfl rfl und_12 fld_12 fin_12
theorem fit_13 : TFits Try.prog 39 ⟨.slice 29, 1, 24, [.nil 29]⟩ := fits_of info_13 rfl rfl (und_13)
theorem fit_14 : TFits Try.prog 41 ⟨.struct [(0, 39), (1, 22), (2, 22), (3, 22)], 4, 96, [.nil 29, .nil 3, .nil 3, .nil 3]⟩ := fits_struct (gs := Try.prog.fieldsOf 41) info_14 rfl rfl und_14 fld_14 fin_14
theorem fit_15 : TFits Try.prog 49 ⟨.slice 168, 1, 24, [.nil 168]⟩ := fits_of info_15 rfl rfl (und_15)
theorem fit_16 : TFits Try.prog 51 ⟨.struct [(0, 49), (1, 3)], 2, 32, [.nil 168, .pv (.int .i64 0)]⟩ := fits_struct (gs := Try.prog.fieldsOf 51) info_16 rfl rfl und_16 fld_16 fin_16
theorem fit_17 : TFits Try.prog 54 ⟨.slice 153, 1, 24, [.nil 153]⟩ := fits_of info_17 rfl rfl (und_17)
theorem fit_18 : TFits Try.prog 56 ⟨.struct [(0, 54), (1, 3)], 2, 32, [.nil 153, .pv (.int .i64 0)]⟩ := fits_struct (gs := Try.prog.fieldsOf 56) info_18 rfl rfl und_18 fld_18 fin_18
theorem fit_19 : TFits Try.prog 61 ⟨.slice 180, 1, 24, [.nil 180]⟩ := fits_of info_19 rfl rfl (und_19)
theorem fit_20 : TFits Try.prog 63 ⟨.struct [(0, 61), (1, 22)], 2, 48, [.nil 180, .nil 3]⟩ := fits_struct (gs := Try.prog.fieldsOf 63) info_20 rfl rfl und_20 fld_20 fin_20
theorem fit_21 : TFits Try.prog 65 ⟨.slice 131, 1, 24, [.nil 131]⟩ := fits_of info_21 rfl rfl (und_21)
theorem fit_22 : TFits Try.prog 67 ⟨.struct [(0, 65), (1, 22)], 2, 48, [.nil 131, .nil 3]⟩ := fits_struct (gs := Try.prog.fieldsOf 67) info_22 rfl rfl und_22 fld_22 fin_22
theorem fit_23 : TFits Try.prog 75 ⟨.slice 88, 1, 24, [.nil 88]⟩ := fits_of info_23 rfl rfl (und_23)
theorem fit_24 : TFits Try.prog 76 ⟨.slice 141, 1, 24, [.nil 141]⟩ := fits_of info_24 rfl rfl (und_24)
theorem fit_25 : TFits Try.prog 80 ⟨.slice 91, 1, 24, [.nil 91]⟩ := fits_of info_25 rfl rfl (und_25)
theorem fit_26 : TFits Try.prog 82 ⟨.slice 143, 1, 24, [.nil 143]⟩ := fits_of info_26 rfl rfl (und_26)
theorem fit_27 : TFits Try.prog 88 ⟨.struct [(0, 3), (1, 3), (2, 3)], 3, 24, [.pv (.int .i64 0), .pv (.int .i64 0), .pv (.int .i64 0)]⟩ := fits_struct (gs := Try.prog.fieldsOf 88) info_27 rfl rfl und_27 fld_27 fin_27
theorem fit_28 : TFits Try.prog 91 ⟨.struct [(0, 3), (1, 3), (2, 3)], 3, 24, [.pv (.int .i64 0), .pv (.int .i64 0), .pv (.int .i64 0)]⟩ := fits_struct (gs := Try.prog.fieldsOf 91) info_28 rfl rfl und_28 fld_28 fin_28
theorem fit_29 : TFits Try.prog 94 ⟨.slice 31, 1, 24, [.nil 31]⟩ := fits_of info_29 rfl rfl (und_29)
theorem fit_30 : TFits Try.prog 131 ⟨.struct [(0, 3), (1, 3), (2, 3)], 3, 24, [.pv (.int .i64 0), .pv (.int .i64 0), .pv (.int .i64 0)]⟩ := fits_struct (gs := Try.prog.fieldsOf 131) info_30 rfl rfl und_30 fld_30 fin_30
theorem fit_31 : TFits Try.prog 141 ⟨.struct [(0, 3), (1, 37)], 5, 104, [.pv (.int .i64 0), .nil 24, .nil 3, .nil 3, .nil 3]⟩ := fits_struct (gs := Try.prog.fieldsOf 141) info_31 rfl rfl und_31 fld_31 fin_31
theorem fit_32 : TFits Try.prog 143 ⟨.struct [(0, 3), (1, 41)], 5, 104, [.pv (.int .i64 0), .nil 29, .nil 3, .nil 3, .nil 3]⟩ := fits_struct (gs := Try.prog.fieldsOf 143) info_32 rfl rfl und_32 fld_32 fin_32
theorem fit_33 : TFits Try.prog 146 ⟨.slice 41, 1, 24, [.nil 41]⟩ := fits_of info_33 rfl rfl (und_33)
theorem fit_34 : TFits Try.prog 153 ⟨.struct [(0, 3), (1, 3), (2, 3), (3, 3)], 4, 32, [.pv (.int .i64 0), .pv (.int .i64 0), .pv (.int .i64 0), .pv (.int .i64 0)]⟩ := fits_struct (gs := Try.prog.fieldsOf 153) info_34 rfl rfl und_34 fld_34 fin_34
theorem fit_35 : TFits Try.prog 168 ⟨.struct [(0, 3), (1, 3), (2, 3), (3, 3)], 4, 32, [.pv (.int .i64 0), .pv (.int .i64 0), .pv (.int .i64 0), .pv (.int .i64 0)]⟩ := fits_struct (gs := Try.prog.fieldsOf 168) info_35 rfl rfl und_35 fld_35 fin_35
theorem fit_36 : TFits Try.prog 180 ⟨.struct [(0, 3), (1, 3), (2, 3)], 3, 24, [.pv (.int .i64 0), .pv (.int .i64 0), .pv (.int .i64 0)]⟩ := fits_struct (gs := Try.prog.fieldsOf 180) info_36 rfl rfl und_36 fld_36 fin_36
theorem fit_37 : TFits Try.prog 193 ⟨.slice 5, 1, 24, [.nil 5]⟩ := fits_of info_37 rfl rfl (und_37)
theorem fit_38 : TFits Try.prog 195 ⟨.struct [(0, 9), (1, 3), (2, 3), (3, 3)], 4, 40, [.pv (.str ByteArray.empty), .pv (.int .i64 0), .pv (.int .i64 0), .pv (.int .i64 0)]⟩ := fits_struct (gs := Try.prog.fieldsOf 195) info_38 rfl rfl und_38 fld_38 fin_38
theorem fit_39 : TFits Try.prog 206 ⟨.arr 3 5 1 [(0, 3), (1, 3), (2, 3), (3, 3), (4, 3)], 5, 40, [.pv (.int .i64 0), .pv (.int .i64 0), .pv (.int .i64 0), .pv (.int .i64 0), .pv (.int .i64 0)]⟩ := fits_of info_39 rfl rfl (⟨und_39, info_size aif_39, by decide, rfl⟩)
theorem fit_40 : TFits Try.prog 226 ⟨.int .u32, 1, 4, [.pv (.int .u32 0)]⟩ := fits_of info_40 rfl rfl (und_40)
theorem tb_fits (t : TypeId) (x : TI) (h : tb t = some x) : TFits Try.prog t x := by
  unfold tb at h
  split at h
  · cases h; exact fit_0
  · cases h; exact fit_1
  · cases h; exact fit_2
  · cases h; exact fit_3
  · cases h; exact fit_4
  · cases h; exact fit_5
  · cases h; exact fit_6
  · cases h; exact fit_7
  · cases h; exact fit_8
  · cases h; exact fit_9
  · cases h; exact fit_10
  · cases h; exact fit_11
  · cases h; exact fit_12
  · cases h; exact fit_13
  · cases h; exact fit_14
  · cases h; exact fit_15
  · cases h; exact fit_16
  · cases h; exact fit_17
  · cases h; exact fit_18
  · cases h; exact fit_19
  · cases h; exact fit_20
  · cases h; exact fit_21
  · cases h; exact fit_22
  · cases h; exact fit_23
  · cases h; exact fit_24
  · cases h; exact fit_25
  · cases h; exact fit_26
  · cases h; exact fit_27
  · cases h; exact fit_28
  · cases h; exact fit_29
  · cases h; exact fit_30
  · cases h; exact fit_31
  · cases h; exact fit_32
  · cases h; exact fit_33
  · cases h; exact fit_34
  · cases h; exact fit_35
  · cases h; exact fit_36
  · cases h; exact fit_37
  · cases h; exact fit_38
  · cases h; exact fit_39
  · cases h; exact fit_40
  · cases h
noncomputable def E : Tab := ⟨Try.prog, tb, tb_fits, false, false⟩
theorem e_wr : E.wr = false := rfl
theorem mixed : E.P.follows .mixedOrders = true := by kernel_rfl
theorem tb_0 : E.tb 2 = some ⟨.int .i64, 1, 8, [.pv (.int .i64 0)]⟩ := rfl
theorem tb_1 : E.tb 3 = some ⟨.int .i64, 1, 8, [.pv (.int .i64 0)]⟩ := rfl
theorem tb_2 : E.tb 4 = some ⟨.bool, 1, 1, [.pv (.bool false)]⟩ := rfl
theorem tb_3 : E.tb 5 = some ⟨.int .u8, 1, 1, [.pv (.int .u8 0)]⟩ := rfl
theorem tb_4 : E.tb 9 = some ⟨.str, 1, 16, [.pv (.str ByteArray.empty)]⟩ := rfl
theorem tb_5 : E.tb 21 = some ⟨.int .i32, 1, 4, [.pv (.int .i32 0)]⟩ := rfl
theorem tb_6 : E.tb 22 = some ⟨.slice 3, 1, 24, [.nil 3]⟩ := rfl
theorem tb_7 : E.tb 24 = some ⟨.struct [(0, 3), (1, 22), (2, 22), (3, 3)], 4, 64, [.pv (.int .i64 0), .nil 3, .nil 3, .pv (.int .i64 0)]⟩ := rfl
theorem tb_8 : E.tb 26 = some ⟨.struct [(0, 3), (1, 24), (5, 3), (6, 3), (7, 3), (8, 3), (9, 4), (10, 4)], 11, 112, [.pv (.int .i64 0), .pv (.int .i64 0), .nil 3, .nil 3, .pv (.int .i64 0), .pv (.int .i64 0), .pv (.int .i64 0), .pv (.int .i64 0), .pv (.int .i64 0), .pv (.bool false), .pv (.bool false)]⟩ := rfl
theorem tb_9 : E.tb 29 = some ⟨.struct [(0, 3), (1, 22), (2, 22), (3, 3)], 4, 64, [.pv (.int .i64 0), .nil 3, .nil 3, .pv (.int .i64 0)]⟩ := rfl
theorem tb_10 : E.tb 31 = some ⟨.struct [(0, 3), (1, 29), (5, 3), (6, 3), (7, 3), (8, 3), (9, 4), (10, 4)], 11, 112, [.pv (.int .i64 0), .pv (.int .i64 0), .nil 3, .nil 3, .pv (.int .i64 0), .pv (.int .i64 0), .pv (.int .i64 0), .pv (.int .i64 0), .pv (.int .i64 0), .pv (.bool false), .pv (.bool false)]⟩ := rfl
theorem tb_11 : E.tb 35 = some ⟨.slice 24, 1, 24, [.nil 24]⟩ := rfl
theorem tb_12 : E.tb 37 = some ⟨.struct [(0, 35), (1, 22), (2, 22), (3, 22)], 4, 96, [.nil 24, .nil 3, .nil 3, .nil 3]⟩ := rfl
theorem tb_13 : E.tb 39 = some ⟨.slice 29, 1, 24, [.nil 29]⟩ := rfl
theorem tb_14 : E.tb 41 = some ⟨.struct [(0, 39), (1, 22), (2, 22), (3, 22)], 4, 96, [.nil 29, .nil 3, .nil 3, .nil 3]⟩ := rfl
theorem tb_15 : E.tb 49 = some ⟨.slice 168, 1, 24, [.nil 168]⟩ := rfl
theorem tb_16 : E.tb 51 = some ⟨.struct [(0, 49), (1, 3)], 2, 32, [.nil 168, .pv (.int .i64 0)]⟩ := rfl
theorem tb_17 : E.tb 54 = some ⟨.slice 153, 1, 24, [.nil 153]⟩ := rfl
theorem tb_18 : E.tb 56 = some ⟨.struct [(0, 54), (1, 3)], 2, 32, [.nil 153, .pv (.int .i64 0)]⟩ := rfl
theorem tb_19 : E.tb 61 = some ⟨.slice 180, 1, 24, [.nil 180]⟩ := rfl
theorem tb_20 : E.tb 63 = some ⟨.struct [(0, 61), (1, 22)], 2, 48, [.nil 180, .nil 3]⟩ := rfl
theorem tb_21 : E.tb 65 = some ⟨.slice 131, 1, 24, [.nil 131]⟩ := rfl
theorem tb_22 : E.tb 67 = some ⟨.struct [(0, 65), (1, 22)], 2, 48, [.nil 131, .nil 3]⟩ := rfl
theorem tb_23 : E.tb 75 = some ⟨.slice 88, 1, 24, [.nil 88]⟩ := rfl
theorem tb_24 : E.tb 76 = some ⟨.slice 141, 1, 24, [.nil 141]⟩ := rfl
theorem tb_25 : E.tb 80 = some ⟨.slice 91, 1, 24, [.nil 91]⟩ := rfl
theorem tb_26 : E.tb 82 = some ⟨.slice 143, 1, 24, [.nil 143]⟩ := rfl
theorem tb_27 : E.tb 88 = some ⟨.struct [(0, 3), (1, 3), (2, 3)], 3, 24, [.pv (.int .i64 0), .pv (.int .i64 0), .pv (.int .i64 0)]⟩ := rfl
theorem tb_28 : E.tb 91 = some ⟨.struct [(0, 3), (1, 3), (2, 3)], 3, 24, [.pv (.int .i64 0), .pv (.int .i64 0), .pv (.int .i64 0)]⟩ := rfl
theorem tb_29 : E.tb 94 = some ⟨.slice 31, 1, 24, [.nil 31]⟩ := rfl
theorem tb_30 : E.tb 131 = some ⟨.struct [(0, 3), (1, 3), (2, 3)], 3, 24, [.pv (.int .i64 0), .pv (.int .i64 0), .pv (.int .i64 0)]⟩ := rfl
theorem tb_31 : E.tb 141 = some ⟨.struct [(0, 3), (1, 37)], 5, 104, [.pv (.int .i64 0), .nil 24, .nil 3, .nil 3, .nil 3]⟩ := rfl
theorem tb_32 : E.tb 143 = some ⟨.struct [(0, 3), (1, 41)], 5, 104, [.pv (.int .i64 0), .nil 29, .nil 3, .nil 3, .nil 3]⟩ := rfl
theorem tb_33 : E.tb 146 = some ⟨.slice 41, 1, 24, [.nil 41]⟩ := rfl
theorem tb_34 : E.tb 153 = some ⟨.struct [(0, 3), (1, 3), (2, 3), (3, 3)], 4, 32, [.pv (.int .i64 0), .pv (.int .i64 0), .pv (.int .i64 0), .pv (.int .i64 0)]⟩ := rfl
theorem tb_35 : E.tb 168 = some ⟨.struct [(0, 3), (1, 3), (2, 3), (3, 3)], 4, 32, [.pv (.int .i64 0), .pv (.int .i64 0), .pv (.int .i64 0), .pv (.int .i64 0)]⟩ := rfl
theorem tb_36 : E.tb 180 = some ⟨.struct [(0, 3), (1, 3), (2, 3)], 3, 24, [.pv (.int .i64 0), .pv (.int .i64 0), .pv (.int .i64 0)]⟩ := rfl
theorem tb_37 : E.tb 193 = some ⟨.slice 5, 1, 24, [.nil 5]⟩ := rfl
theorem tb_38 : E.tb 195 = some ⟨.struct [(0, 9), (1, 3), (2, 3), (3, 3)], 4, 40, [.pv (.str ByteArray.empty), .pv (.int .i64 0), .pv (.int .i64 0), .pv (.int .i64 0)]⟩ := rfl
theorem tb_39 : E.tb 206 = some ⟨.arr 3 5 1 [(0, 3), (1, 3), (2, 3), (3, 3), (4, 3)], 5, 40, [.pv (.int .i64 0), .pv (.int .i64 0), .pv (.int .i64 0), .pv (.int .i64 0), .pv (.int .i64 0)]⟩ := rfl
theorem tb_40 : E.tb 226 = some ⟨.int .u32, 1, 4, [.pv (.int .u32 0)]⟩ := rfl
/-- the table, said for simp -/
def tbs := (And.intro (And.intro (And.intro (And.intro (And.intro @tb_0 @tb_1) (And.intro @tb_2 (And.intro @tb_3 @tb_4))) (And.intro (And.intro @tb_5 @tb_6) (And.intro @tb_7 (And.intro @tb_8 @tb_9)))) (And.intro (And.intro (And.intro @tb_10 @tb_11) (And.intro @tb_12 (And.intro @tb_13 @tb_14))) (And.intro (And.intro @tb_15 (And.intro @tb_16 @tb_17)) (And.intro @tb_18 (And.intro @tb_19 @tb_20))))) (And.intro (And.intro (And.intro (And.intro @tb_21 @tb_22) (And.intro @tb_23 (And.intro @tb_24 @tb_25))) (And.intro (And.intro @tb_26 @tb_27) (And.intro @tb_28 (And.intro @tb_29 @tb_30)))) (And.intro (And.intro (And.intro @tb_31 @tb_32) (And.intro @tb_33 (And.intro @tb_34 @tb_35))) (And.intro (And.intro @tb_36 (And.intro @tb_37 @tb_38)) (And.intro @tb_39 (And.intro @tb_40 @e_wr))))))
def tvs := (And.intro vcs tbs)
def tvl := (And.intro tvs @List.length_map.{0, 0})
end Av
end Go.Proofs.Ytdjenlnomibniaa
