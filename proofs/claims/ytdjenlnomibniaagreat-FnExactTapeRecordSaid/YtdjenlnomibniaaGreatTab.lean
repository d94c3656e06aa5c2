/-
  The table of the program's types.
-/
import Derived.Test.YtdjenlnomibniaaGreatAvY
import Derived.Test.YtdjenlnomibniaaGreatStart
set_option linter.unusedSimpArgs false
set_option linter.unusedVariables false
set_option linter.defProp false
namespace Go.Proofs.YtdjenlnomibniaaGreat
open Go.RowKit
namespace Av
theorem info_size {P : Program} {t : TypeId} {s : Nat} (h : (P.info? t).map (fun i => i.size) = some s) : ∃ i, P.info? t = some i ∧ i.size = s := Option.map_eq_some_iff.1 h
theorem fits_of {P : Program} {t : TypeId} {x : TI} {z : Value} (h : (P.info? t).map (fun i => (i.zero, i.size, i.bytes)) = some (some z, x.size, x.bytes)) (h1 : z.cells.toList.map some = x.zero.map zv) (h2 : z.cells.size = x.size) (hk : match x.kind with
    | .int k => P.underlying t = some (.int k)
    | .bool => P.underlying t = some .bool
    | .str => P.underlying t = some .string
    | .slice e => P.underlying t = some (.slice e)
    | .arr e n size fs => P.underlying t = some (.array n e) ∧ (∃ i, P.info? e = some i ∧ i.size = size) ∧ size ≠ 0 ∧ fs = (List.range n).map fun i => (i * size, e)
    | .struct fs => ∃ gs : Array Field, P.underlying t = some (.struct gs) ∧ gs.toList.map (fun f => (f.offset, f.type)) = fs ∧ ∀ f ∈ gs.toList, (P.info? f.type).isSome = true) : TFits P t x := by
  obtain ⟨i, hi, hz⟩ := Option.map_eq_some_iff.1 h
  simp only [Prod.mk.injEq] at hz
  exact ⟨⟨i, z, hi, hz.1, hz.2.1, hz.2.2, h1, h2⟩, hk⟩
theorem fits_struct {P : Program} {t : TypeId} {fs : List (Nat × TypeId)} {size bytes : Nat} {zero : List AV} {z : Value} {gs : Array Field} (h : (P.info? t).map (fun i => (i.zero, i.size, i.bytes)) = some (some z, size, bytes)) (h1 : z.cells.toList.map some = zero.map zv) (h2 : z.cells.size = size)
    (hu : P.underlying t = some (.struct gs)) (hf : gs.toList.map (fun f => (f.offset, f.type)) = fs) (hin : (gs.toList.all fun f => (P.info? f.type).isSome) = true) : TFits P t ⟨.struct fs, size, bytes, zero⟩ :=
  fits_of h h1 h2 (x := ⟨.struct fs, size, bytes, zero⟩) ⟨gs, hu, hf, List.all_eq_true.1 hin⟩
theorem info_0 : (Tryz.prog.info? 2).map (fun i => (i.zero, i.size, i.bytes)) = some (some (.int .i64 0 : Value), 1, 8) := by kernel_rfl
theorem und_0 : Tryz.prog.underlying 2 = some (.int .i64) := by kernel_rfl
theorem info_1 : (Tryz.prog.info? 3).map (fun i => (i.zero, i.size, i.bytes)) = some (some (.int .i64 0 : Value), 1, 8) := by kernel_rfl
theorem und_1 : Tryz.prog.underlying 3 = some (.int .i64) := by kernel_rfl
theorem info_2 : (Tryz.prog.info? 4).map (fun i => (i.zero, i.size, i.bytes)) = some (some (.bool false : Value), 1, 1) := by kernel_rfl
theorem und_2 : Tryz.prog.underlying 4 = some (.bool) := by kernel_rfl
theorem info_3 : (Tryz.prog.info? 5).map (fun i => (i.zero, i.size, i.bytes)) = some (some (.int .u8 0 : Value), 1, 1) := by kernel_rfl
theorem und_3 : Tryz.prog.underlying 5 = some (.int .u8) := by kernel_rfl
theorem info_4 : (Tryz.prog.info? 9).map (fun i => (i.zero, i.size, i.bytes)) = some (some (.string ByteArray.empty : Value), 1, 16) := by kernel_rfl
theorem und_4 : Tryz.prog.underlying 9 = some (.string) := by kernel_rfl
theorem info_5 : (Tryz.prog.info? 21).map (fun i => (i.zero, i.size, i.bytes)) = some (some (.int .i32 0 : Value), 1, 4) := by kernel_rfl
theorem und_5 : Tryz.prog.underlying 21 = some (.int .i32) := by kernel_rfl
theorem info_6 : (Tryz.prog.info? 22).map (fun i => (i.zero, i.size, i.bytes)) = some (some (.slice none 0 0 : Value), 1, 24) := by kernel_rfl
theorem und_6 : Tryz.prog.underlying 22 = some (.slice 118) := by kernel_rfl
theorem info_7 : (Tryz.prog.info? 24).map (fun i => (i.zero, i.size, i.bytes)) = some (some (.agg #[.slice none 0 0, .int .i64 0] : Value), 2, 32) := by kernel_rfl
theorem fld_7 : (Tryz.prog.fieldsOf 24).toList.map (fun f => (f.offset, f.type)) = [(0, 22), (1, 3)] := by kernel_rfl
theorem fin_7 : ((Tryz.prog.fieldsOf 24).toList.all fun f => (Tryz.prog.info? f.type).isSome) = true := by kernel_rfl
theorem und_7 : Tryz.prog.underlying 24 = some (.struct (Tryz.prog.fieldsOf 24)) := by kernel_rfl
theorem info_8 : (Tryz.prog.info? 25).map (fun i => (i.zero, i.size, i.bytes)) = some (some (.slice none 0 0 : Value), 1, 24) := by kernel_rfl
theorem und_8 : Tryz.prog.underlying 25 = some (.slice 120) := by kernel_rfl
theorem info_9 : (Tryz.prog.info? 26).map (fun i => (i.zero, i.size, i.bytes)) = some (some (.slice none 0 0 : Value), 1, 24) := by kernel_rfl
theorem und_9 : Tryz.prog.underlying 26 = some (.slice 3) := by kernel_rfl
theorem info_10 : (Tryz.prog.info? 28).map (fun i => (i.zero, i.size, i.bytes)) = some (some (.agg #[.slice none 0 0, .slice none 0 0] : Value), 2, 48) := by kernel_rfl
theorem fld_10 : (Tryz.prog.fieldsOf 28).toList.map (fun f => (f.offset, f.type)) = [(0, 25), (1, 26)] := by kernel_rfl
theorem fin_10 : ((Tryz.prog.fieldsOf 28).toList.all fun f => (Tryz.prog.info? f.type).isSome) = true := by kernel_rfl
theorem und_10 : Tryz.prog.underlying 28 = some (.struct (Tryz.prog.fieldsOf 28)) := by kernel_rfl
theorem info_11 : (Tryz.prog.info? 31).map (fun i => (i.zero, i.size, i.bytes)) = some (some (.slice none 0 0 : Value), 1, 24) := by kernel_rfl
theorem und_11 : Tryz.prog.underlying 31 = some (.slice 114) := by kernel_rfl
theorem info_12 : (Tryz.prog.info? 33).map (fun i => (i.zero, i.size, i.bytes)) = some (some (.agg #[.slice none 0 0, .slice none 0 0] : Value), 2, 48) := by kernel_rfl
theorem fld_12 : (Tryz.prog.fieldsOf 33).toList.map (fun f => (f.offset, f.type)) = [(0, 31), (1, 26)] := by kernel_rfl
theorem fin_12 : ((Tryz.prog.fieldsOf 33).toList.all fun f => (Tryz.prog.info? f.type).isSome) = true := by kernel_rfl
theorem und_12 : Tryz.prog.underlying 33 = some (.struct (Tryz.prog.fieldsOf 33)) := by kernel_rfl
theorem info_13 : (Tryz.prog.info? 36).map (fun i => (i.zero, i.size, i.bytes)) = some (some (.slice none 0 0 : Value), 1, 24) := by kernel_rfl
theorem und_13 : Tryz.prog.underlying 36 = some (.slice 116) := by kernel_rfl
theorem info_14 : (Tryz.prog.info? 38).map (fun i => (i.zero, i.size, i.bytes)) = some (some (.agg #[.slice none 0 0, .int .i64 0] : Value), 2, 32) := by kernel_rfl
theorem fld_14 : (Tryz.prog.fieldsOf 38).toList.map (fun f => (f.offset, f.type)) = [(0, 36), (1, 3)] := by kernel_rfl
theorem fin_14 : ((Tryz.prog.fieldsOf 38).toList.all fun f => (Tryz.prog.info? f.type).isSome) = true := by kernel_rfl
theorem und_14 : Tryz.prog.underlying 38 = some (.struct (Tryz.prog.fieldsOf 38)) := by kernel_rfl
theorem info_15 : (Tryz.prog.info? 48).map (fun i => (i.zero, i.size, i.bytes)) = some (some (.slice none 0 0 : Value), 1, 24) := by kernel_rfl
theorem und_15 : Tryz.prog.underlying 48 = some (.slice 101) := by kernel_rfl
theorem info_16 : (Tryz.prog.info? 49).map (fun i => (i.zero, i.size, i.bytes)) = some (some (.slice none 0 0 : Value), 1, 24) := by kernel_rfl
theorem und_16 : Tryz.prog.underlying 49 = some (.slice 90) := by kernel_rfl
theorem info_17 : (Tryz.prog.info? 52).map (fun i => (i.zero, i.size, i.bytes)) = some (some (.slice none 0 0 : Value), 1, 24) := by kernel_rfl
theorem und_17 : Tryz.prog.underlying 52 = some (.slice 144) := by kernel_rfl
theorem info_18 : (Tryz.prog.info? 54).map (fun i => (i.zero, i.size, i.bytes)) = some (some (.agg #[.slice none 0 0, .slice none 0 0, .slice none 0 0, .slice none 0 0] : Value), 4, 96) := by kernel_rfl
theorem fld_18 : (Tryz.prog.fieldsOf 54).toList.map (fun f => (f.offset, f.type)) = [(0, 52), (1, 26), (2, 26), (3, 26)] := by kernel_rfl
theorem fin_18 : ((Tryz.prog.fieldsOf 54).toList.all fun f => (Tryz.prog.info? f.type).isSome) = true := by kernel_rfl
theorem und_18 : Tryz.prog.underlying 54 = some (.struct (Tryz.prog.fieldsOf 54)) := by kernel_rfl
theorem info_19 : (Tryz.prog.info? 57).map (fun i => (i.zero, i.size, i.bytes)) = some (some (.slice none 0 0 : Value), 1, 24) := by kernel_rfl
theorem und_19 : Tryz.prog.underlying 57 = some (.slice 99) := by kernel_rfl
theorem info_20 : (Tryz.prog.info? 59).map (fun i => (i.zero, i.size, i.bytes)) = some (some (.slice none 0 0 : Value), 1, 24) := by kernel_rfl
theorem und_20 : Tryz.prog.underlying 59 = some (.slice 95) := by kernel_rfl
theorem info_21 : (Tryz.prog.info? 86).map (fun i => (i.zero, i.size, i.bytes)) = some (some (.slice none 0 0 : Value), 1, 24) := by kernel_rfl
theorem und_21 : Tryz.prog.underlying 86 = some (.slice 182) := by kernel_rfl
theorem info_22 : (Tryz.prog.info? 88).map (fun i => (i.zero, i.size, i.bytes)) = some (some (.agg #[.slice none 0 0, .slice none 0 0, .slice none 0 0, .slice none 0 0] : Value), 4, 96) := by kernel_rfl
theorem fld_22 : (Tryz.prog.fieldsOf 88).toList.map (fun f => (f.offset, f.type)) = [(0, 86), (1, 26), (2, 26), (3, 26)] := by kernel_rfl
theorem fin_22 : ((Tryz.prog.fieldsOf 88).toList.all fun f => (Tryz.prog.info? f.type).isSome) = true := by kernel_rfl
theorem und_22 : Tryz.prog.underlying 88 = some (.struct (Tryz.prog.fieldsOf 88)) := by kernel_rfl
theorem info_23 : (Tryz.prog.info? 90).map (fun i => (i.zero, i.size, i.bytes)) = some (some (.agg #[.int .i64 0, .slice none 0 0, .slice none 0 0, .slice none 0 0, .slice none 0 0] : Value), 5, 104) := by kernel_rfl
theorem fld_23 : (Tryz.prog.fieldsOf 90).toList.map (fun f => (f.offset, f.type)) = [(0, 3), (1, 88)] := by kernel_rfl
theorem fin_23 : ((Tryz.prog.fieldsOf 90).toList.all fun f => (Tryz.prog.info? f.type).isSome) = true := by kernel_rfl
theorem und_23 : Tryz.prog.underlying 90 = some (.struct (Tryz.prog.fieldsOf 90)) := by kernel_rfl
theorem info_24 : (Tryz.prog.info? 95).map (fun i => (i.zero, i.size, i.bytes)) = some (some (.agg #[.int .i64 0, .slice none 0 0, .slice none 0 0, .slice none 0 0, .slice none 0 0] : Value), 5, 104) := by kernel_rfl
theorem fld_24 : (Tryz.prog.fieldsOf 95).toList.map (fun f => (f.offset, f.type)) = [(0, 3), (1, 54)] := by kernel_rfl
theorem fin_24 : ((Tryz.prog.fieldsOf 95).toList.all fun f => (Tryz.prog.info? f.type).isSome) = true := by kernel_rfl
theorem und_24 : Tryz.prog.underlying 95 = some (.struct (Tryz.prog.fieldsOf 95)) := by kernel_rfl
theorem info_25 : (Tryz.prog.info? 99).map (fun i => (i.zero, i.size, i.bytes)) = some (some (.agg #[.int .i64 0, .int .i64 0, .int .i64 0] : Value), 3, 24) := by kernel_rfl
theorem fld_25 : (Tryz.prog.fieldsOf 99).toList.map (fun f => (f.offset, f.type)) = [(0, 3), (1, 3), (2, 3)] := by kernel_rfl
theorem fin_25 : ((Tryz.prog.fieldsOf 99).toList.all fun f => (Tryz.prog.info? f.type).isSome) = true := by kernel_rfl
theorem und_25 : Tryz.prog.underlying 99 = some (.struct (Tryz.prog.fieldsOf 99)) := by kernel_rfl
theorem info_26 : (Tryz.prog.info? 101).map (fun i => (i.zero, i.size, i.bytes)) = some (some (.agg #[.int .i64 0, .int .i64 0, .int .i64 0] : Value), 3, 24) := by kernel_rfl
theorem fld_26 : (Tryz.prog.fieldsOf 101).toList.map (fun f => (f.offset, f.type)) = [(0, 3), (1, 3), (2, 3)] := by kernel_rfl
theorem fin_26 : ((Tryz.prog.fieldsOf 101).toList.all fun f => (Tryz.prog.info? f.type).isSome) = true := by kernel_rfl
theorem und_26 : Tryz.prog.underlying 101 = some (.struct (Tryz.prog.fieldsOf 101)) := by kernel_rfl
theorem info_27 : (Tryz.prog.info? 114).map (fun i => (i.zero, i.size, i.bytes)) = some (some (.agg #[.int .i64 0, .int .i64 0, .int .i64 0] : Value), 3, 24) := by kernel_rfl
theorem fld_27 : (Tryz.prog.fieldsOf 114).toList.map (fun f => (f.offset, f.type)) = [(0, 3), (1, 3), (2, 3)] := by kernel_rfl
theorem fin_27 : ((Tryz.prog.fieldsOf 114).toList.all fun f => (Tryz.prog.info? f.type).isSome) = true := by kernel_rfl
theorem und_27 : Tryz.prog.underlying 114 = some (.struct (Tryz.prog.fieldsOf 114)) := by kernel_rfl
theorem info_28 : (Tryz.prog.info? 116).map (fun i => (i.zero, i.size, i.bytes)) = some (some (.agg #[.int .i64 0, .int .i64 0, .int .i64 0, .int .i64 0] : Value), 4, 32) := by kernel_rfl
theorem fld_28 : (Tryz.prog.fieldsOf 116).toList.map (fun f => (f.offset, f.type)) = [(0, 3), (1, 3), (2, 3), (3, 3)] := by kernel_rfl
theorem fin_28 : ((Tryz.prog.fieldsOf 116).toList.all fun f => (Tryz.prog.info? f.type).isSome) = true := by kernel_rfl
theorem und_28 : Tryz.prog.underlying 116 = some (.struct (Tryz.prog.fieldsOf 116)) := by kernel_rfl
theorem info_29 : (Tryz.prog.info? 118).map (fun i => (i.zero, i.size, i.bytes)) = some (some (.agg #[.int .i64 0, .int .i64 0, .int .i64 0, .int .i64 0] : Value), 4, 32) := by kernel_rfl
theorem fld_29 : (Tryz.prog.fieldsOf 118).toList.map (fun f => (f.offset, f.type)) = [(0, 3), (1, 3), (2, 3), (3, 3)] := by kernel_rfl
theorem fin_29 : ((Tryz.prog.fieldsOf 118).toList.all fun f => (Tryz.prog.info? f.type).isSome) = true := by kernel_rfl
theorem und_29 : Tryz.prog.underlying 118 = some (.struct (Tryz.prog.fieldsOf 118)) := by kernel_rfl
theorem info_30 : (Tryz.prog.info? 120).map (fun i => (i.zero, i.size, i.bytes)) = some (some (.agg #[.int .i64 0, .int .i64 0, .int .i64 0] : Value), 3, 24) := by kernel_rfl
theorem fld_30 : (Tryz.prog.fieldsOf 120).toList.map (fun f => (f.offset, f.type)) = [(0, 3), (1, 3), (2, 3)] := by kernel_rfl
theorem fin_30 : ((Tryz.prog.fieldsOf 120).toList.all fun f => (Tryz.prog.info? f.type).isSome) = true := by kernel_rfl
theorem und_30 : Tryz.prog.underlying 120 = some (.struct (Tryz.prog.fieldsOf 120)) := by kernel_rfl
theorem info_31 : (Tryz.prog.info? 127).map (fun i => (i.zero, i.size, i.bytes)) = some (some (.slice none 0 0 : Value), 1, 24) := by kernel_rfl
theorem und_31 : Tryz.prog.underlying 127 = some (.slice 54) := by kernel_rfl
theorem info_32 : (Tryz.prog.info? 144).map (fun i => (i.zero, i.size, i.bytes)) = some (some (.agg #[.int .i64 0, .slice none 0 0, .slice none 0 0, .int .i64 0] : Value), 4, 64) := by kernel_rfl
theorem fld_32 : (Tryz.prog.fieldsOf 144).toList.map (fun f => (f.offset, f.type)) = [(0, 3), (1, 26), (2, 26), (3, 3)] := by kernel_rfl
theorem fin_32 : ((Tryz.prog.fieldsOf 144).toList.all fun f => (Tryz.prog.info? f.type).isSome) = true := by kernel_rfl
theorem und_32 : Tryz.prog.underlying 144 = some (.struct (Tryz.prog.fieldsOf 144)) := by kernel_rfl
theorem info_33 : (Tryz.prog.info? 162).map (fun i => (i.zero, i.size, i.bytes)) = some (some (.agg #[.string ByteArray.empty, .int .i64 0, .int .i64 0, .int .i64 0] : Value), 4, 40) := by kernel_rfl
theorem fld_33 : (Tryz.prog.fieldsOf 162).toList.map (fun f => (f.offset, f.type)) = [(0, 9), (1, 3), (2, 3), (3, 3)] := by kernel_rfl
theorem fin_33 : ((Tryz.prog.fieldsOf 162).toList.all fun f => (Tryz.prog.info? f.type).isSome) = true := by kernel_rfl
theorem und_33 : Tryz.prog.underlying 162 = some (.struct (Tryz.prog.fieldsOf 162)) := by kernel_rfl
theorem info_34 : (Tryz.prog.info? 166).map (fun i => (i.zero, i.size, i.bytes)) = some (some (.slice none 0 0 : Value), 1, 24) := by kernel_rfl
theorem und_34 : Tryz.prog.underlying 166 = some (.slice 5) := by kernel_rfl
theorem info_35 : (Tryz.prog.info? 178).map (fun i => (i.zero, i.size, i.bytes)) = some (some (.agg #[.int .i64 0, .int .i64 0, .int .i64 0, .int .i64 0, .int .i64 0] : Value), 5, 40) := by kernel_rfl
theorem und_35 : Tryz.prog.underlying 178 = some (.array 5 3) := by kernel_rfl
theorem aif_35 : (Tryz.prog.info? 3).map (fun i => i.size) = some 1 := by kernel_rfl
theorem info_36 : (Tryz.prog.info? 182).map (fun i => (i.zero, i.size, i.bytes)) = some (some (.agg #[.int .i64 0, .slice none 0 0, .slice none 0 0, .int .i64 0] : Value), 4, 64) := by kernel_rfl
theorem fld_36 : (Tryz.prog.fieldsOf 182).toList.map (fun f => (f.offset, f.type)) = [(0, 3), (1, 26), (2, 26), (3, 3)] := by kernel_rfl
theorem fin_36 : ((Tryz.prog.fieldsOf 182).toList.all fun f => (Tryz.prog.info? f.type).isSome) = true := by kernel_rfl
theorem und_36 : Tryz.prog.underlying 182 = some (.struct (Tryz.prog.fieldsOf 182)) := by kernel_rfl
theorem info_37 : (Tryz.prog.info? 203).map (fun i => (i.zero, i.size, i.bytes)) = some (some (.int .u32 0 : Value), 1, 4) := by kernel_rfl
theorem und_37 : Tryz.prog.underlying 203 = some (.int .u32) := by kernel_rfl
/-- the types -/
noncomputable def tb : TypeId → Option TI
  | 2 => some ⟨.int .i64, 1, 8, [.pv (.int .i64 0)]⟩
  | 3 => some ⟨.int .i64, 1, 8, [.pv (.int .i64 0)]⟩
  | 4 => some ⟨.bool, 1, 1, [.pv (.bool false)]⟩
  | 5 => some ⟨.int .u8, 1, 1, [.pv (.int .u8 0)]⟩
  | 9 => some ⟨.str, 1, 16, [.pv (.str ByteArray.empty)]⟩
  | 21 => some ⟨.int .i32, 1, 4, [.pv (.int .i32 0)]⟩
  | 22 => some ⟨.slice 118, 1, 24, [.nil 118]⟩
  | 24 => some ⟨.struct [(0, 22), (1, 3)], 2, 32, [.nil 118, .pv (.int .i64 0)]⟩
  | 25 => some ⟨.slice 120, 1, 24, [.nil 120]⟩
  | 26 => some ⟨.slice 3, 1, 24, [.nil 3]⟩
  | 28 => some ⟨.struct [(0, 25), (1, 26)], 2, 48, [.nil 120, .nil 3]⟩
  | 31 => some ⟨.slice 114, 1, 24, [.nil 114]⟩
  | 33 => some ⟨.struct [(0, 31), (1, 26)], 2, 48, [.nil 114, .nil 3]⟩
  | 36 => some ⟨.slice 116, 1, 24, [.nil 116]⟩
  | 38 => some ⟨.struct [(0, 36), (1, 3)], 2, 32, [.nil 116, .pv (.int .i64 0)]⟩
  | 48 => some ⟨.slice 101, 1, 24, [.nil 101]⟩
  | 49 => some ⟨.slice 90, 1, 24, [.nil 90]⟩
  | 52 => some ⟨.slice 144, 1, 24, [.nil 144]⟩
  | 54 => some ⟨.struct [(0, 52), (1, 26), (2, 26), (3, 26)], 4, 96, [.nil 144, .nil 3, .nil 3, .nil 3]⟩
  | 57 => some ⟨.slice 99, 1, 24, [.nil 99]⟩
  | 59 => some ⟨.slice 95, 1, 24, [.nil 95]⟩
  | 86 => some ⟨.slice 182, 1, 24, [.nil 182]⟩
  | 88 => some ⟨.struct [(0, 86), (1, 26), (2, 26), (3, 26)], 4, 96, [.nil 182, .nil 3, .nil 3, .nil 3]⟩
  | 90 => some ⟨.struct [(0, 3), (1, 88)], 5, 104, [.pv (.int .i64 0), .nil 182, .nil 3, .nil 3, .nil 3]⟩
  | 95 => some ⟨.struct [(0, 3), (1, 54)], 5, 104, [.pv (.int .i64 0), .nil 144, .nil 3, .nil 3, .nil 3]⟩
  | 99 => some ⟨.struct [(0, 3), (1, 3), (2, 3)], 3, 24, [.pv (.int .i64 0), .pv (.int .i64 0), .pv (.int .i64 0)]⟩
  | 101 => some ⟨.struct [(0, 3), (1, 3), (2, 3)], 3, 24, [.pv (.int .i64 0), .pv (.int .i64 0), .pv (.int .i64 0)]⟩
  | 114 => some ⟨.struct [(0, 3), (1, 3), (2, 3)], 3, 24, [.pv (.int .i64 0), .pv (.int .i64 0), .pv (.int .i64 0)]⟩
  | 116 => some ⟨.struct [(0, 3), (1, 3), (2, 3), (3, 3)], 4, 32, [.pv (.int .i64 0), .pv (.int .i64 0), .pv (.int .i64 0), .pv (.int .i64 0)]⟩
  | 118 => some ⟨.struct [(0, 3), (1, 3), (2, 3), (3, 3)], 4, 32, [.pv (.int .i64 0), .pv (.int .i64 0), .pv (.int .i64 0), .pv (.int .i64 0)]⟩
  | 120 => some ⟨.struct [(0, 3), (1, 3), (2, 3)], 3, 24, [.pv (.int .i64 0), .pv (.int .i64 0), .pv (.int .i64 0)]⟩
  | 127 => some ⟨.slice 54, 1, 24, [.nil 54]⟩
  | 144 => some ⟨.struct [(0, 3), (1, 26), (2, 26), (3, 3)], 4, 64, [.pv (.int .i64 0), .nil 3, .nil 3, .pv (.int .i64 0)]⟩
  | 162 => some ⟨.struct [(0, 9), (1, 3), (2, 3), (3, 3)], 4, 40, [.pv (.str ByteArray.empty), .pv (.int .i64 0), .pv (.int .i64 0), .pv (.int .i64 0)]⟩
  | 166 => some ⟨.slice 5, 1, 24, [.nil 5]⟩
  | 178 => some ⟨.arr 3 5 1 [(0, 3), (1, 3), (2, 3), (3, 3), (4, 3)], 5, 40, [.pv (.int .i64 0), .pv (.int .i64 0), .pv (.int .i64 0), .pv (.int .i64 0), .pv (.int .i64 0)]⟩
  | 182 => some ⟨.struct [(0, 3), (1, 26), (2, 26), (3, 3)], 4, 64, [.pv (.int .i64 0), .nil 3, .nil 3, .pv (.int .i64 0)]⟩
  | 203 => some ⟨.int .u32, 1, 4, [.pv (.int .u32 0)]⟩
  | _ => none
theorem fit_0 : TFits Tryz.prog 2 ⟨.int .i64, 1, 8, [.pv (.int .i64 0)]⟩ := fits_of info_0 rfl rfl (und_0)
theorem fit_1 : TFits Tryz.prog 3 ⟨.int .i64, 1, 8, [.pv (.int .i64 0)]⟩ := fits_of info_1 rfl rfl (und_1)
theorem fit_2 : TFits Tryz.prog 4 ⟨.bool, 1, 1, [.pv (.bool false)]⟩ := fits_of info_2 rfl rfl (und_2)
theorem fit_3 : TFits Tryz.prog 5 ⟨.int .u8, 1, 1, [.pv (.int .u8 0)]⟩ := fits_of info_3 rfl rfl (und_3)
theorem fit_4 : TFits Tryz.prog 9 ⟨.str, 1, 16, [.pv (.str ByteArray.empty)]⟩ := fits_of info_4 rfl rfl (und_4)
theorem fit_5 : TFits Tryz.prog 21 ⟨.int .i32, 1, 4, [.pv (.int .i32 0)]⟩ := fits_of info_5 rfl rfl (und_5)
theorem fit_6 : TFits Tryz.prog 22 ⟨.slice 118, 1, 24, [.nil 118]⟩ := fits_of info_6 rfl rfl (und_6)
theorem fit_7 : TFits Tryz.prog 24 ⟨.struct [(0, 22), (1, 3)], 2, 32, [.nil 118, .pv (.int .i64 0)]⟩ := fits_struct (gs := Tryz.prog.fieldsOf 24) info_7 rfl rfl und_7 fld_7 fin_7
theorem fit_8 : TFits Tryz.prog 25 ⟨.slice 120, 1, 24, [.nil 120]⟩ := fits_of info_8 rfl rfl (und_8)
theorem fit_9 : TFits Tryz.prog 26 ⟨.slice 3, 1, 24, [.nil 3]⟩ := fits_of info_9 rfl rfl (und_9)
theorem fit_10 : TFits Tryz.prog 28 ⟨.struct [(0, 25), (1, 26)], 2, 48, [.nil 120, .nil 3]⟩ := fits_struct (gs := Tryz.prog.fieldsOf 28) info_10 rfl rfl und_10 fld_10 fin_10
theorem fit_11 : TFits Tryz.prog 31 ⟨.slice 114, 1, 24, [.nil 114]⟩ := fits_of info_11 rfl rfl (und_11)
theorem fit_12 : TFits Tryz.prog 33 ⟨.struct [(0, 31), (1, 26)], 2, 48, [.nil 114, .nil 3]⟩ := fits_struct (gs := Tryz.prog.fieldsOf 33) info_12 rfl rfl und_12 fld_12 fin_12
theorem fit_13 : TFits Tryz.prog 36 ⟨.slice 116, 1, 24, [.nil 116]⟩ := fits_of info_13 rfl rfl (und_13)
theorem fit_14 : TFits Tryz.prog 38 ⟨.struct [(0, 36), (1, 3)], 2, 32, [.nil 116, .pv (.int .i64 0)]⟩ := fits_struct (gs := Tryz.prog.fieldsOf 38) info_14 rfl rfl und_14 fld_14 fin_14
theorem fit_15 : TFits Tryz.prog 48 ⟨.slice 101, 1, 24, [.nil 101]⟩ := fits_of info_15 rfl rfl (und_15)
theorem fit_16 : TFits Tryz.prog 49 ⟨.slice 90, 1, 24, [.nil 90]⟩ := fits_of info_16 rfl rfl (und_16)
theorem fit_17 : TFits Tryz.prog 52 ⟨.slice 144, 1, 24, [.nil 144]⟩ := fits_of info_17 rfl rfl (und_17)
theorem fit_18 : TFits Tryz.prog 54 ⟨.struct [(0, 52), (1, 26), (2, 26), (3, 26)], 4, 96, [.nil 144, .nil 3, .nil 3, .nil 3]⟩ := fits_struct (gs := Tryz.prog.fieldsOf 54) info_18 rfl rfl und_18 fld_18 fin_18
theorem fit_19 : TFits Tryz.prog 57 ⟨.slice 99, 1, 24, [.nil 99]⟩ := fits_of info_19 rfl rfl (und_19)
theorem fit_20 : TFits Tryz.prog 59 ⟨.slice 95, 1, 24, [.nil 95]⟩ := fits_of info_20 rfl rfl (und_20)
theorem fit_21 : TFits Tryz.prog 86 ⟨.slice 182, 1, 24, [.nil 182]⟩ := fits_of info_21 rfl rfl (und_21)
theorem fit_22 : TFits Tryz.prog 88 ⟨.struct [(0, 86), (1, 26), (2, 26), (3, 26)], 4, 96, [.nil 182, .nil 3, .nil 3, .nil 3]⟩ := fits_struct (gs := Tryz.prog.fieldsOf 88) info_22 rfl rfl und_22 fld_22 fin_22
theorem fit_23 : TFits Tryz.prog 90 ⟨.struct [(0, 3), (1, 88)], 5, 104, [.pv (.int .i64 0), .nil 182, .nil 3, .nil 3, .nil 3]⟩ := fits_struct (gs := Tryz.prog.fieldsOf 90) info_23 rfl rfl und_23 fld_23 fin_23
theorem fit_24 : TFits Tryz.prog 95 ⟨.struct [(0, 3), (1, 54)], 5, 104, [.pv (.int .i64 0), .nil 144, .nil 3, .nil 3, .nil 3]⟩ := fits_struct (gs := Tryz.prog.fieldsOf 95) info_24 rfl rfl und_24 fld_24 fin_24
theorem fit_25 : TFits Tryz.prog 99 ⟨.struct [(0, 3), (1, 3), (2, 3)], 3, 24, [.pv (.int .i64 0), .pv (.int .i64 0), .pv (.int .i64 0)]⟩ := fits_struct (gs := Tryz.prog.fieldsOf 99) info_25 rfl rfl und_25 fld_25 fin_25
theorem fit_26 : TFits Tryz.prog 101 ⟨.struct [(0, 3), (1, 3), (2, 3)], 3, 24, [.pv (.int .i64 0), .pv (.int .i64 0), .pv (.int .i64 0)]⟩ := fits_struct (gs := Tryz.prog.fieldsOf 101) info_26 rfl rfl und_26 fld_26 fin_26
theorem fit_27 : TFits Tryz.prog 114 ⟨.struct [(0, 3), (1, 3), (2, 3)], 3, 24, [.pv (.int .i64 0), .pv (.int .i64 0), .pv (.int .i64 0)]⟩ := fits_struct (gs := Tryz.prog.fieldsOf 114) info_27 rfl rfl und_27 fld_27 fin_27
theorem fit_28 : TFits Tryz.prog 116 ⟨.struct [(0, 3), (1, 3), (2, 3), (3, 3)], 4, 32, [.pv (.int .i64 0), .pv (.int .i64 0), .pv (.int .i64 0), .pv (.int .i64 0)]⟩ := fits_struct (gs := Tryz.prog.fieldsOf 116) info_28 rfl rfl und_28 fld_28 fin_28
theorem fit_29 : TFits Tryz.prog 118 ⟨.struct [(0, 3), (1, 3), (2, 3), (3, 3)], 4, 32, [.pv (.int .i64 0), .pv (.int .i64 0), .pv (.int .i64 0), .pv (.int .i64 0)]⟩ := fits_struct (gs := Tryz.prog.fieldsOf 118) info_29 rfl rfl und_29 fld_29 fin_29
theorem fit_30 : TFits Tryz.prog 120 ⟨.struct [(0, 3), (1, 3), (2, 3)], 3, 24, [.pv (.int .i64 0), .pv (.int .i64 0), .pv (.int .i64 0)]⟩ := fits_struct (gs := Tryz.prog.fieldsOf 120) info_30 rfl rfl und_30 fld_30 fin_30
theorem fit_31 : TFits Tryz.prog 127 ⟨.slice 54, 1, 24, [.nil 54]⟩ := fits_of info_31 rfl rfl (und_31)
theorem fit_32 : TFits Tryz.prog 144 ⟨.struct [(0, 3), (1, 26), (2, 26), (3, 3)], 4, 64, [.pv (.int .i64 0), .nil 3, .nil 3, .pv (.int .i64 0)]⟩ := fits_struct (gs := Tryz.prog.fieldsOf 144) info_32 rfl rfl und_32 fld_32 fin_32
theorem fit_33 : TFits Tryz.prog 162 ⟨.struct [(0, 9), (1, 3), (2, 3), (3, 3)], 4, 40, [.pv (.str ByteArray.empty), .pv (.int .i64 0), .pv (.int .i64 0), .pv (.int .i64 0)]⟩ := fits_struct (gs := Tryz.prog.fieldsOf 162) info_33 rfl rfl und_33 fld_33 fin_33
theorem fit_34 : TFits Tryz.prog 166 ⟨.slice 5, 1, 24, [.nil 5]⟩ := fits_of info_34 rfl rfl (und_34)
theorem fit_35 : TFits Tryz.prog 178 ⟨.arr 3 5 1 [(0, 3), (1, 3), (2, 3), (3, 3), (4, 3)], 5, 40, [.pv (.int .i64 0), .pv (.int .i64 0), .pv (.int .i64 0), .pv (.int .i64 0), .pv (.int .i64 0)]⟩ := fits_of info_35 rfl rfl (⟨und_35, info_size aif_35, by decide, rfl⟩)
theorem fit_36 : TFits Tryz.prog 182 ⟨.struct [(0, 3), (1, 26), (2, 26), (3, 3)], 4, 64, [.pv (.int .i64 0), .nil 3, .nil 3, .pv (.int .i64 0)]⟩ := fits_struct (gs := Tryz.prog.fieldsOf 182) info_36 rfl rfl und_36 fld_36 fin_36
theorem fit_37 : TFits Tryz.prog 203 ⟨.int .u32, 1, 4, [.pv (.int .u32 0)]⟩ := fits_of info_37 rfl rfl (und_37)
theorem tb_fits (t : TypeId) (x : TI) (h : tb t = some x) : TFits Tryz.prog t x := by
  unfold tb at h
  split at h
  · cases h; exact fit_0
  · cases h; exact fit_1
  · cases h; exact fit_2
  · cases h; exact fit_3
  · cases h; exact fit_4
  · cases h; exact fit_5
  · cases h; exact fit_6
  · cases h; exact fit_7
  · cases h; exact fit_8
  · cases h; exact fit_9
  · cases h; exact fit_10
  · cases h; exact fit_11
  · cases h; exact fit_12
  · cases h; exact fit_13
  · cases h; exact fit_14
  · cases h; exact fit_15
  · cases h; exact fit_16
  · cases h; exact fit_17
  · cases h; exact fit_18
  · cases h; exact fit_19
  · cases h; exact fit_20
  · cases h; exact fit_21
  · cases h; exact fit_22
  · cases h; exact fit_23
  · cases h; exact fit_24
  · cases h; exact fit_25
  · cases h; exact fit_26
  · cases h; exact fit_27
  · cases h; exact fit_28
  · cases h; exact fit_29
  · cases h; exact fit_30
  · cases h; exact fit_31
  · cases h; exact fit_32
  · cases h; exact fit_33
  · cases h; exact fit_34
  · cases h; exact fit_35
  · cases h; exact fit_36
  · cases h; exact fit_37
  · cases h
noncomputable def E : Tab := ⟨Tryz.prog, tb, tb_fits, false, false⟩
theorem e_wr : E.wr = false := rfl
theorem mixed : E.P.follows .mixedOrders = true := by kernel_rfl
theorem tb_0 : E.tb 2 = some ⟨.int .i64, 1, 8, [.pv (.int .i64 0)]⟩ := rfl
theorem tb_1 : E.tb 3 = some ⟨.int .i64, 1, 8, [.pv (.int .i64 0)]⟩ := rfl
theorem tb_2 : E.tb 4 = some ⟨.bool, 1, 1, [.pv (.bool false)]⟩ := rfl
theorem tb_3 : E.tb 5 = some ⟨.int .u8, 1, 1, [.pv (.int .u8 0)]⟩ := rfl
theorem tb_4 : E.tb 9 = some ⟨.str, 1, 16, [.pv (.str ByteArray.empty)]⟩ := rfl
theorem tb_5 : E.tb 21 = some ⟨.int .i32, 1, 4, [.pv (.int .i32 0)]⟩ := rfl
theorem tb_6 : E.tb 22 = some ⟨.slice 118, 1, 24, [.nil 118]⟩ := rfl
theorem tb_7 : E.tb 24 = some ⟨.struct [(0, 22), (1, 3)], 2, 32, [.nil 118, .pv (.int .i64 0)]⟩ := rfl
theorem tb_8 : E.tb 25 = some ⟨.slice 120, 1, 24, [.nil 120]⟩ := rfl
theorem tb_9 : E.tb 26 = some ⟨.slice 3, 1, 24, [.nil 3]⟩ := rfl
theorem tb_10 : E.tb 28 = some ⟨.struct [(0, 25), (1, 26)], 2, 48, [.nil 120, .nil 3]⟩ := rfl
theorem tb_11 : E.tb 31 = some ⟨.slice 114, 1, 24, [.nil 114]⟩ := rfl
theorem tb_12 : E.tb 33 = some ⟨.struct [(0, 31), (1, 26)], 2, 48, [.nil 114, .nil 3]⟩ := rfl
theorem tb_13 : E.tb 36 = some ⟨.slice 116, 1, 24, [.nil 116]⟩ := rfl
theorem tb_14 : E.tb 38 = some ⟨.struct [(0, 36), (1, 3)], 2, 32, [.nil 116, .pv (.int .i64 0)]⟩ := rfl
theorem tb_15 : E.tb 48 = some ⟨.slice 101, 1, 24, [.nil 101]⟩ := rfl
theorem tb_16 : E.tb 49 = some ⟨.slice 90, 1, 24, [.nil 90]⟩ := rfl
theorem tb_17 : E.tb 52 = some ⟨.slice 144, 1, 24, [.nil 144]⟩ := rfl
theorem tb_18 : E.tb 54 = some ⟨.struct [(0, 52), (1, 26), (2, 26), (3, 26)], 4, 96, [.nil 144, .nil 3, .nil 3, .nil 3]⟩ := rfl
theorem tb_19 : E.tb 57 = some ⟨.slice 99, 1, 24, [.nil 99]⟩ := rfl
theorem tb_20 : E.tb 59 = some ⟨.slice 95, 1, 24, [.nil 95]⟩ := rfl
theorem tb_21 : E.tb 86 = some ⟨.slice 182, 1, 24, [.nil 182]⟩ := rfl
theorem tb_22 : E.tb 88 = some ⟨.struct [(0, 86), (1, 26), (2, 26), (3, 26)], 4, 96, [.nil 182, .nil 3, .nil 3, .nil 3]⟩ := rfl
theorem tb_23 : E.tb 90 = some ⟨.struct [(0, 3), (1, 88)], 5, 104, [.pv (.int .i64 0), .nil 182, .nil 3, .nil 3, .nil 3]⟩ := rfl
theorem tb_24 : E.tb 95 = some ⟨.struct [(0, 3), (1, 54)], 5, 104, [.pv (.int .i64 0), .nil 144, .nil 3, .nil 3, .nil 3]⟩ := rfl
theorem tb_25 : E.tb 99 = some ⟨.struct [(0, 3), (1, 3), (2, 3)], 3, 24, [.pv (.int .i64 0), .pv (.int .i64 0), .pv (.int .i64 0)]⟩ := rfl
theorem tb_26 : E.tb 101 = some ⟨.struct [(0, 3), (1, 3), (2, 3)], 3, 24, [.pv (.int .i64 0), .pv (.int .i64 0), .pv (.int .i64 0)]⟩ := rfl
theorem tb_27 : E.tb 114 = some ⟨.struct [(0, 3), (1, 3), (2, 3)], 3, 24, [.pv (.int .i64 0), .pv (.int .i64 0), .pv (.int .i64 0)]⟩ := rfl
theorem tb_28 : E.tb 116 = some ⟨.struct [(0, 3), (1, 3), (2, 3), (3, 3)], 4, 32, [.pv (.int .i64 0), .pv (.int .i64 0), .pv (.int .i64 0), .pv (.int .i64 0)]⟩ := rfl
theorem tb_29 : E.tb 118 = some ⟨.struct [(0, 3), (1, 3), (2, 3), (3, 3)], 4, 32, [.pv (.int .i64 0), .pv (.int .i64 0), .pv (.int .i64 0), .pv (.int .i64 0)]⟩ := rfl
theorem tb_30 : E.tb 120 = some ⟨.struct [(0, 3), (1, 3), (2, 3)], 3, 24, [.pv (.int .i64 0), .pv (.int .i64 0), .pv (.int .i64 0)]⟩ := rfl
theorem tb_31 : E.tb 127 = some ⟨.slice 54, 1, 24, [.nil 54]⟩ := rfl
theorem tb_32 : E.tb 144 = some ⟨.struct [(0, 3), (1, 26), (2, 26), (3, 3)], 4, 64, [.pv (.int .i64 0), .nil 3, .nil 3, .pv (.int .i64 0)]⟩ := rfl
theorem tb_33 : E.tb 162 = some ⟨.struct [(0, 9), (1, 3), (2, 3), (3, 3)], 4, 40, [.pv (.str ByteArray.empty), .pv (.int .i64 0), .pv (.int .i64 0), .pv (.int .i64 0)]⟩ := rfl
theorem tb_34 : E.tb 166 = some ⟨.slice 5, 1, 24, [.nil 5]⟩ := rfl
theorem tb_35 : E.tb 178 = some ⟨.arr 3 5 1 [(0, 3), (1, 3), (2, 3), (3, 3), (4, 3)], 5, 40, [.pv (.int .i64 0), .pv (.int .i64 0), .pv (.int .i64 0), .pv (.int .i64 0), .pv (.int .i64 0)]⟩ := rfl
theorem tb_36 : E.tb 182 = some ⟨.struct [(0, 3), (1, 26), (2, 26), (3, 3)], 4, 64, [.pv (.int .i64 0), .nil 3, .nil 3, .pv (.int .i64 0)]⟩ := rfl
theorem tb_37 : E.tb 203 = some ⟨.int .u32, 1, 4, [.pv (.int .u32 0)]⟩ := rfl
/-- the table, said for simp -/
def tbs := (And.intro (And.intro (And.intro (And.intro (And.intro @tb_0 @tb_1) (And.intro @tb_2 @tb_3)) (And.intro (And.intro @tb_4 @tb_5) (And.intro @tb_6 (And.intro @tb_7 @tb_8)))) (And.intro (And.intro (And.intro @tb_9 @tb_10) (And.intro @tb_11 (And.intro @tb_12 @tb_13))) (And.intro (And.intro @tb_14 @tb_15) (And.intro @tb_16 (And.intro @tb_17 @tb_18))))) (And.intro (And.intro (And.intro (And.intro @tb_19 @tb_20) (And.intro @tb_21 (And.intro @tb_22 @tb_23))) (And.intro (And.intro @tb_24 @tb_25) (And.intro @tb_26 (And.intro @tb_27 @tb_28)))) (And.intro (And.intro (And.intro @tb_29 @tb_30) (And.intro @tb_31 (And.intro @tb_32 @tb_33))) (And.intro (And.intro @tb_34 @tb_35) (And.intro @tb_36 (And.intro @tb_37 @e_wr))))))
def tvs := (And.intro vcs tbs)
def tvl := (And.intro tvs @List.length_map.{0, 0})
end Av
end Go.Proofs.YtdjenlnomibniaaGreat
