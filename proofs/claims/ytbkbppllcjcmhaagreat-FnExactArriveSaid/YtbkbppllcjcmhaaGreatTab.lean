/-
  The table of the program's types.
-/
import Derived.Test.YtbkbppllcjcmhaaGreatAvY
import Derived.Test.YtbkbppllcjcmhaaGreatStart
set_option linter.unusedSimpArgs false
set_option linter.unusedVariables false
set_option linter.defProp false
namespace Go.Proofs.YtbkbppllcjcmhaaGreat
open Go.RowKit
namespace Av
theorem info_size {P : Program} {t : TypeId} {s : Nat} (h : (P.info? t).map (fun i => i.size) = some s) : ∃ i, P.info? t = some i ∧ i.size = s := Option.map_eq_some_iff.1 h
theorem fits_of {P : Program} {t : TypeId} {x : TI} {z : Value} (h : (P.info? t).map (fun i => (i.zero, i.size, i.bytes)) = some (some z, x.size, x.bytes)) (h1 : z.cells.toList.map some = x.zero.map zv) (h2 : z.cells.size = x.size) (hk : match x.kind with
    | .int k => P.underlying t = some (.int k)
    | .bool => P.underlying t = some .bool
    | .str => P.underlying t = some .string
    | .slice e => P.underlying t = some (.slice e)
    | .arr e n size fs => P.underlying t = some (.array n e) ∧ (∃ i, P.info? e = some i ∧ i.size = size) ∧ size ≠ 0 ∧ fs = (List.range n).map fun i => (i * size, e)
    | .struct fs => ∃ gs : Array Field, P.underlying t = some (.struct gs) ∧ gs.toList.map (fun f => (f.offset, f.type)) = fs ∧ ∀ f ∈ gs.toList, (P.info? f.type).isSome = true) : TFits P t x := by
  obtain ⟨i, hi, hz⟩ := Option.map_eq_some_iff.1 h
  simp only [Prod.mk.injEq] at hz
  exact ⟨⟨i, z, hi, hz.1, hz.2.1, hz.2.2, h1, h2⟩, hk⟩
theorem fits_struct {P : Program} {t : TypeId} {fs : List (Nat × TypeId)} {size bytes : Nat} {zero : List AV} {z : Value} {gs : Array Field} (h : (P.info? t).map (fun i => (i.zero, i.size, i.bytes)) = some (some z, size, bytes)) (h1 : z.cells.toList.map some = zero.map zv) (h2 : z.cells.size = size)
    (hu : P.underlying t = some (.struct gs)) (hf : gs.toList.map (fun f => (f.offset, f.type)) = fs) (hin : (gs.toList.all fun f => (P.info? f.type).isSome) = true) : TFits P t ⟨.struct fs, size, bytes, zero⟩ :=
  fits_of h h1 h2 (x := ⟨.struct fs, size, bytes, zero⟩) ⟨gs, hu, hf, List.all_eq_true.1 hin⟩
theorem info_0 : (Tryz.prog.info? 2).map (fun i => (i.zero, i.size, i.bytes)) = some (some (.int .i64 0 : Value), 1, 8) := by kernel_rfl
theorem und_0 : Tryz.prog.underlying 2 = some (.int .i64) := by kernel_rfl
theorem info_1 : (Tryz.prog.info? 3).map (fun i => (i.zero, i.size, i.bytes)) = some (some (.int .i64 0 : Value), 1, 8) := by kernel_rfl
theorem und_1 : Tryz.prog.underlying 3 = some (.int .i64) := by kernel_rfl
theorem info_2 : (Tryz.prog.info? 4).map (fun i => (i.zero, i.size, i.bytes)) = some (some (.bool false : Value), 1, 1) := by kernel_rfl
theorem und_2 : Tryz.prog.underlying 4 = some (.bool) := by kernel_rfl
theorem info_3 : (Tryz.prog.info? 5).map (fun i => (i.zero, i.size, i.bytes)) = some (some (.int .u8 0 : Value), 1, 1) := by kernel_rfl
theorem und_3 : Tryz.prog.underlying 5 = some (.int .u8) := by kernel_rfl
theorem info_4 : (Tryz.prog.info? 9).map (fun i => (i.zero, i.size, i.bytes)) = some (some (.string ByteArray.empty : Value), 1, 16) := by kernel_rfl
theorem und_4 : Tryz.prog.underlying 9 = some (.string) := by kernel_rfl
theorem info_5 : (Tryz.prog.info? 21).map (fun i => (i.zero, i.size, i.bytes)) = some (some (.int .i32 0 : Value), 1, 4) := by kernel_rfl
theorem und_5 : Tryz.prog.underlying 21 = some (.int .i32) := by kernel_rfl
theorem info_6 : (Tryz.prog.info? 22).map (fun i => (i.zero, i.size, i.bytes)) = some (some (.slice none 0 0 : Value), 1, 24) := by kernel_rfl
theorem und_6 : Tryz.prog.underlying 22 = some (.slice 107) := by kernel_rfl
theorem info_7 : (Tryz.prog.info? 24).map (fun i => (i.zero, i.size, i.bytes)) = some (some (.agg #[.slice none 0 0, .int .i64 0] : Value), 2, 32) := by kernel_rfl
theorem fld_7 : (Tryz.prog.fieldsOf 24).toList.map (fun f => (f.offset, f.type)) = [(0, 22), (1, 3)] := by kernel_rfl
theorem fin_7 : ((Tryz.prog.fieldsOf 24).toList.all fun f => (Tryz.prog.info? f.type).isSome) = true := by kernel_rfl
theorem und_7 : Tryz.prog.underlying 24 = some (.struct (Tryz.prog.fieldsOf 24)) := by kernel_rfl
theorem info_8 : (Tryz.prog.info? 25).map (fun i => (i.zero, i.size, i.bytes)) = some (some (.slice none 0 0 : Value), 1, 24) := by kernel_rfl
theorem und_8 : Tryz.prog.underlying 25 = some (.slice 73) := by kernel_rfl
theorem info_9 : (Tryz.prog.info? 26).map (fun i => (i.zero, i.size, i.bytes)) = some (some (.slice none 0 0 : Value), 1, 24) := by kernel_rfl
theorem und_9 : Tryz.prog.underlying 26 = some (.slice 77) := by kernel_rfl
theorem info_10 : (Tryz.prog.info? 30).map (fun i => (i.zero, i.size, i.bytes)) = some (some (.slice none 0 0 : Value), 1, 24) := by kernel_rfl
theorem und_10 : Tryz.prog.underlying 30 = some (.slice 4) := by kernel_rfl
theorem info_11 : (Tryz.prog.info? 32).map (fun i => (i.zero, i.size, i.bytes)) = some (some (.slice none 0 0 : Value), 1, 24) := by kernel_rfl
theorem und_11 : Tryz.prog.underlying 32 = some (.slice 105) := by kernel_rfl
theorem info_12 : (Tryz.prog.info? 34).map (fun i => (i.zero, i.size, i.bytes)) = some (some (.agg #[.slice none 0 0, .int .i64 0] : Value), 2, 32) := by kernel_rfl
theorem fld_12 : (Tryz.prog.fieldsOf 34).toList.map (fun f => (f.offset, f.type)) = [(0, 32), (1, 3)] := by kernel_rfl
theorem fin_12 : ((Tryz.prog.fieldsOf 34).toList.all fun f => (Tryz.prog.info? f.type).isSome) = true := by kernel_rfl
theorem und_12 : Tryz.prog.underlying 34 = some (.struct (Tryz.prog.fieldsOf 34)) := by kernel_rfl
theorem info_13 : (Tryz.prog.info? 36).map (fun i => (i.zero, i.size, i.bytes)) = some (some (.slice none 0 0 : Value), 1, 24) := by kernel_rfl
theorem und_13 : Tryz.prog.underlying 36 = some (.slice 71) := by kernel_rfl
theorem info_14 : (Tryz.prog.info? 38).map (fun i => (i.zero, i.size, i.bytes)) = some (some (.slice none 0 0 : Value), 1, 24) := by kernel_rfl
theorem und_14 : Tryz.prog.underlying 38 = some (.slice 75) := by kernel_rfl
theorem info_15 : (Tryz.prog.info? 49).map (fun i => (i.zero, i.size, i.bytes)) = some (some (.slice none 0 0 : Value), 1, 24) := by kernel_rfl
theorem und_15 : Tryz.prog.underlying 49 = some (.slice 87) := by kernel_rfl
theorem info_16 : (Tryz.prog.info? 51).map (fun i => (i.zero, i.size, i.bytes)) = some (some (.slice none 0 0 : Value), 1, 24) := by kernel_rfl
theorem und_16 : Tryz.prog.underlying 51 = some (.slice 115) := by kernel_rfl
theorem info_17 : (Tryz.prog.info? 52).map (fun i => (i.zero, i.size, i.bytes)) = some (some (.slice none 0 0 : Value), 1, 24) := by kernel_rfl
theorem und_17 : Tryz.prog.underlying 52 = some (.slice 3) := by kernel_rfl
theorem info_18 : (Tryz.prog.info? 54).map (fun i => (i.zero, i.size, i.bytes)) = some (some (.agg #[.slice none 0 0, .slice none 0 0, .slice none 0 0, .slice none 0 0] : Value), 4, 96) := by kernel_rfl
theorem fld_18 : (Tryz.prog.fieldsOf 54).toList.map (fun f => (f.offset, f.type)) = [(0, 51), (1, 52), (2, 52), (3, 52)] := by kernel_rfl
theorem fin_18 : ((Tryz.prog.fieldsOf 54).toList.all fun f => (Tryz.prog.info? f.type).isSome) = true := by kernel_rfl
theorem und_18 : Tryz.prog.underlying 54 = some (.struct (Tryz.prog.fieldsOf 54)) := by kernel_rfl
theorem info_19 : (Tryz.prog.info? 57).map (fun i => (i.zero, i.size, i.bytes)) = some (some (.slice none 0 0 : Value), 1, 24) := by kernel_rfl
theorem und_19 : Tryz.prog.underlying 57 = some (.slice 92) := by kernel_rfl
theorem info_20 : (Tryz.prog.info? 65).map (fun i => (i.zero, i.size, i.bytes)) = some (some (.slice none 0 0 : Value), 1, 24) := by kernel_rfl
theorem und_20 : Tryz.prog.underlying 65 = some (.slice 54) := by kernel_rfl
theorem info_21 : (Tryz.prog.info? 71).map (fun i => (i.zero, i.size, i.bytes)) = some (some (.agg #[.int .i64 0, .int .i64 0, .int .i64 0] : Value), 3, 24) := by kernel_rfl
theorem fld_21 : (Tryz.prog.fieldsOf 71).toList.map (fun f => (f.offset, f.type)) = [(0, 3), (1, 3), (2, 3)] := by kernel_rfl
theorem fin_21 : ((Tryz.prog.fieldsOf 71).toList.all fun f => (Tryz.prog.info? f.type).isSome) = true := by kernel_rfl
theorem und_21 : Tryz.prog.underlying 71 = some (.struct (Tryz.prog.fieldsOf 71)) := by kernel_rfl
theorem info_22 : (Tryz.prog.info? 73).map (fun i => (i.zero, i.size, i.bytes)) = some (some (.agg #[.int .i64 0, .int .i64 0, .int .i64 0] : Value), 3, 24) := by kernel_rfl
theorem fld_22 : (Tryz.prog.fieldsOf 73).toList.map (fun f => (f.offset, f.type)) = [(0, 3), (1, 3), (2, 3)] := by kernel_rfl
theorem fin_22 : ((Tryz.prog.fieldsOf 73).toList.all fun f => (Tryz.prog.info? f.type).isSome) = true := by kernel_rfl
theorem und_22 : Tryz.prog.underlying 73 = some (.struct (Tryz.prog.fieldsOf 73)) := by kernel_rfl
theorem info_23 : (Tryz.prog.info? 75).map (fun i => (i.zero, i.size, i.bytes)) = some (some (.agg #[.int .i64 0, .int .i64 0, .int .i64 0] : Value), 3, 24) := by kernel_rfl
theorem fld_23 : (Tryz.prog.fieldsOf 75).toList.map (fun f => (f.offset, f.type)) = [(0, 3), (1, 3), (2, 3)] := by kernel_rfl
theorem fin_23 : ((Tryz.prog.fieldsOf 75).toList.all fun f => (Tryz.prog.info? f.type).isSome) = true := by kernel_rfl
theorem und_23 : Tryz.prog.underlying 75 = some (.struct (Tryz.prog.fieldsOf 75)) := by kernel_rfl
theorem info_24 : (Tryz.prog.info? 77).map (fun i => (i.zero, i.size, i.bytes)) = some (some (.agg #[.int .i64 0, .int .i64 0, .int .i64 0] : Value), 3, 24) := by kernel_rfl
theorem fld_24 : (Tryz.prog.fieldsOf 77).toList.map (fun f => (f.offset, f.type)) = [(0, 3), (1, 3), (2, 3)] := by kernel_rfl
theorem fin_24 : ((Tryz.prog.fieldsOf 77).toList.all fun f => (Tryz.prog.info? f.type).isSome) = true := by kernel_rfl
theorem und_24 : Tryz.prog.underlying 77 = some (.struct (Tryz.prog.fieldsOf 77)) := by kernel_rfl
theorem info_25 : (Tryz.prog.info? 83).map (fun i => (i.zero, i.size, i.bytes)) = some (some (.slice none 0 0 : Value), 1, 24) := by kernel_rfl
theorem und_25 : Tryz.prog.underlying 83 = some (.slice 153) := by kernel_rfl
theorem info_26 : (Tryz.prog.info? 85).map (fun i => (i.zero, i.size, i.bytes)) = some (some (.agg #[.slice none 0 0, .slice none 0 0, .slice none 0 0, .slice none 0 0] : Value), 4, 96) := by kernel_rfl
theorem fld_26 : (Tryz.prog.fieldsOf 85).toList.map (fun f => (f.offset, f.type)) = [(0, 83), (1, 52), (2, 52), (3, 52)] := by kernel_rfl
theorem fin_26 : ((Tryz.prog.fieldsOf 85).toList.all fun f => (Tryz.prog.info? f.type).isSome) = true := by kernel_rfl
theorem und_26 : Tryz.prog.underlying 85 = some (.struct (Tryz.prog.fieldsOf 85)) := by kernel_rfl
theorem info_27 : (Tryz.prog.info? 87).map (fun i => (i.zero, i.size, i.bytes)) = some (some (.agg #[.int .i64 0, .slice none 0 0, .slice none 0 0, .slice none 0 0, .slice none 0 0] : Value), 5, 104) := by kernel_rfl
theorem fld_27 : (Tryz.prog.fieldsOf 87).toList.map (fun f => (f.offset, f.type)) = [(0, 3), (1, 85)] := by kernel_rfl
theorem fin_27 : ((Tryz.prog.fieldsOf 87).toList.all fun f => (Tryz.prog.info? f.type).isSome) = true := by kernel_rfl
theorem und_27 : Tryz.prog.underlying 87 = some (.struct (Tryz.prog.fieldsOf 87)) := by kernel_rfl
theorem info_28 : (Tryz.prog.info? 92).map (fun i => (i.zero, i.size, i.bytes)) = some (some (.agg #[.int .i64 0, .slice none 0 0, .slice none 0 0, .slice none 0 0, .slice none 0 0] : Value), 5, 104) := by kernel_rfl
theorem fld_28 : (Tryz.prog.fieldsOf 92).toList.map (fun f => (f.offset, f.type)) = [(0, 3), (1, 54)] := by kernel_rfl
theorem fin_28 : ((Tryz.prog.fieldsOf 92).toList.all fun f => (Tryz.prog.info? f.type).isSome) = true := by kernel_rfl
theorem und_28 : Tryz.prog.underlying 92 = some (.struct (Tryz.prog.fieldsOf 92)) := by kernel_rfl
theorem info_29 : (Tryz.prog.info? 105).map (fun i => (i.zero, i.size, i.bytes)) = some (some (.agg #[.int .i64 0, .int .i64 0, .int .i64 0, .int .i64 0] : Value), 4, 32) := by kernel_rfl
theorem fld_29 : (Tryz.prog.fieldsOf 105).toList.map (fun f => (f.offset, f.type)) = [(0, 3), (1, 3), (2, 3), (3, 3)] := by kernel_rfl
theorem fin_29 : ((Tryz.prog.fieldsOf 105).toList.all fun f => (Tryz.prog.info? f.type).isSome) = true := by kernel_rfl
theorem und_29 : Tryz.prog.underlying 105 = some (.struct (Tryz.prog.fieldsOf 105)) := by kernel_rfl
theorem info_30 : (Tryz.prog.info? 107).map (fun i => (i.zero, i.size, i.bytes)) = some (some (.agg #[.int .i64 0, .int .i64 0, .int .i64 0, .int .i64 0] : Value), 4, 32) := by kernel_rfl
theorem fld_30 : (Tryz.prog.fieldsOf 107).toList.map (fun f => (f.offset, f.type)) = [(0, 3), (1, 3), (2, 3), (3, 3)] := by kernel_rfl
theorem fin_30 : ((Tryz.prog.fieldsOf 107).toList.all fun f => (Tryz.prog.info? f.type).isSome) = true := by kernel_rfl
theorem und_30 : Tryz.prog.underlying 107 = some (.struct (Tryz.prog.fieldsOf 107)) := by kernel_rfl
theorem info_31 : (Tryz.prog.info? 115).map (fun i => (i.zero, i.size, i.bytes)) = some (some (.agg #[.int .i64 0, .slice none 0 0, .slice none 0 0, .int .i64 0] : Value), 4, 64) := by kernel_rfl
theorem fld_31 : (Tryz.prog.fieldsOf 115).toList.map (fun f => (f.offset, f.type)) = [(0, 3), (1, 52), (2, 52), (3, 3)] := by kernel_rfl
theorem fin_31 : ((Tryz.prog.fieldsOf 115).toList.all fun f => (Tryz.prog.info? f.type).isSome) = true := by kernel_rfl
theorem und_31 : Tryz.prog.underlying 115 = some (.struct (Tryz.prog.fieldsOf 115)) := by kernel_rfl
theorem info_32 : (Tryz.prog.info? 150).map (fun i => (i.zero, i.size, i.bytes)) = some (some (.agg #[.string ByteArray.empty, .int .i64 0, .int .i64 0, .int .i64 0] : Value), 4, 40) := by kernel_rfl
theorem fld_32 : (Tryz.prog.fieldsOf 150).toList.map (fun f => (f.offset, f.type)) = [(0, 9), (1, 3), (2, 3), (3, 3)] := by kernel_rfl
theorem fin_32 : ((Tryz.prog.fieldsOf 150).toList.all fun f => (Tryz.prog.info? f.type).isSome) = true := by kernel_rfl
theorem und_32 : Tryz.prog.underlying 150 = some (.struct (Tryz.prog.fieldsOf 150)) := by kernel_rfl
theorem info_33 : (Tryz.prog.info? 153).map (fun i => (i.zero, i.size, i.bytes)) = some (some (.agg #[.int .i64 0, .slice none 0 0, .slice none 0 0, .int .i64 0] : Value), 4, 64) := by kernel_rfl
theorem fld_33 : (Tryz.prog.fieldsOf 153).toList.map (fun f => (f.offset, f.type)) = [(0, 3), (1, 52), (2, 52), (3, 3)] := by kernel_rfl
theorem fin_33 : ((Tryz.prog.fieldsOf 153).toList.all fun f => (Tryz.prog.info? f.type).isSome) = true := by kernel_rfl
theorem und_33 : Tryz.prog.underlying 153 = some (.struct (Tryz.prog.fieldsOf 153)) := by kernel_rfl
theorem info_34 : (Tryz.prog.info? 156).map (fun i => (i.zero, i.size, i.bytes)) = some (some (.agg #[.int .i64 0, .int .i64 0, .int .i64 0, .int .i64 0, .int .i64 0] : Value), 5, 40) := by kernel_rfl
theorem und_34 : Tryz.prog.underlying 156 = some (.array 5 3) := by kernel_rfl
theorem aif_34 : (Tryz.prog.info? 3).map (fun i => i.size) = some 1 := by kernel_rfl
theorem info_35 : (Tryz.prog.info? 177).map (fun i => (i.zero, i.size, i.bytes)) = some (some (.int .u32 0 : Value), 1, 4) := by kernel_rfl
theorem und_35 : Tryz.prog.underlying 177 = some (.int .u32) := by kernel_rfl
/-- the types -/
noncomputable def tb : TypeId → Option TI
  | 2 => some ⟨.int .i64, 1, 8, [.pv (.int .i64 0)]⟩
  | 3 => some ⟨.int .i64, 1, 8, [.pv (.int .i64 0)]⟩
  | 4 => some ⟨.bool, 1, 1, [.pv (.bool false)]⟩
  | 5 => some ⟨.int .u8, 1, 1, [.pv (.int .u8 0)]⟩
  | 9 => some ⟨.str, 1, 16, [.pv (.str ByteArray.empty)]⟩
  | 21 => some ⟨.int .i32, 1, 4, [.pv (.int .i32 0)]⟩
  | 22 => some ⟨.slice 107, 1, 24, [.nil 107]⟩
  | 24 => some ⟨.struct [(0, 22), (1, 3)], 2, 32, [.nil 107, .pv (.int .i64 0)]⟩
  | 25 => some ⟨.slice 73, 1, 24, [.nil 73]⟩
  | 26 => some ⟨.slice 77, 1, 24, [.nil 77]⟩
  | 30 => some ⟨.slice 4, 1, 24, [.nil 4]⟩
  | 32 => some ⟨.slice 105, 1, 24, [.nil 105]⟩
  | 34 => some ⟨.struct [(0, 32), (1, 3)], 2, 32, [.nil 105, .pv (.int .i64 0)]⟩
  | 36 => some ⟨.slice 71, 1, 24, [.nil 71]⟩
  | 38 => some ⟨.slice 75, 1, 24, [.nil 75]⟩
  | 49 => some ⟨.slice 87, 1, 24, [.nil 87]⟩
  | 51 => some ⟨.slice 115, 1, 24, [.nil 115]⟩
  | 52 => some ⟨.slice 3, 1, 24, [.nil 3]⟩
  | 54 => some ⟨.struct [(0, 51), (1, 52), (2, 52), (3, 52)], 4, 96, [.nil 115, .nil 3, .nil 3, .nil 3]⟩
  | 57 => some ⟨.slice 92, 1, 24, [.nil 92]⟩
  | 65 => some ⟨.slice 54, 1, 24, [.nil 54]⟩
  | 71 => some ⟨.struct [(0, 3), (1, 3), (2, 3)], 3, 24, [.pv (.int .i64 0), .pv (.int .i64 0), .pv (.int .i64 0)]⟩
  | 73 => some ⟨.struct [(0, 3), (1, 3), (2, 3)], 3, 24, [.pv (.int .i64 0), .pv (.int .i64 0), .pv (.int .i64 0)]⟩
  | 75 => some ⟨.struct [(0, 3), (1, 3), (2, 3)], 3, 24, [.pv (.int .i64 0), .pv (.int .i64 0), .pv (.int .i64 0)]⟩
  | 77 => some ⟨.struct [(0, 3), (1, 3), (2, 3)], 3, 24, [.pv (.int .i64 0), .pv (.int .i64 0), .pv (.int .i64 0)]⟩
  | 83 => some ⟨.slice 153, 1, 24, [.nil 153]⟩
  | 85 => some ⟨.struct [(0, 83), (1, 52), (2, 52), (3, 52)], 4, 96, [.nil 153, .nil 3, .nil 3, .nil 3]⟩
  | 87 => some ⟨.struct [(0, 3), (1, 85)], 5, 104, [.pv (.int .i64 0), .nil 153, .nil 3, .nil 3, .nil 3]⟩
  | 92 => some ⟨.struct [(0, 3), (1, 54)], 5, 104, [.pv (.int .i64 0), .nil 115, .nil 3, .nil 3, .nil 3]⟩
  | 105 => some ⟨.struct [(0, 3), (1, 3), (2, 3), (3, 3)], 4, 32, [.pv (.int .i64 0), .pv (.int .i64 0), .pv (.int .i64 0), .pv (.int .i64 0)]⟩
  | 107 => some ⟨.struct [(0, 3), (1, 3), (2, 3), (3, 3)], 4, 32, [.pv (.int .i64 0), .pv (.int .i64 0), .pv (.int .i64 0), .pv (.int .i64 0)]⟩
  | 115 => some ⟨.struct [(0, 3), (1, 52), (2, 52), (3, 3)], 4, 64, [.pv (.int .i64 0), .nil 3, .nil 3, .pv (.int .i64 0)]⟩
  | 150 => some ⟨.struct [(0, 9), (1, 3), (2, 3), (3, 3)], 4, 40, [.pv (.str ByteArray.empty), .pv (.int .i64 0), .pv (.int .i64 0), .pv (.int .i64 0)]⟩
  | 153 => some ⟨.struct [(0, 3), (1, 52), (2, 52), (3, 3)], 4, 64, [.pv (.int .i64 0), .nil 3, .nil 3, .pv (.int .i64 0)]⟩
  | 156 => some ⟨.arr 3 5 1 [(0, 3), (1, 3), (2, 3), (3, 3), (4, 3)], 5, 40, [.pv (.int .i64 0), .pv (.int .i64 0), .pv (.int .i64 0), .pv (.int .i64 0), .pv (.int .i64 0)]⟩
  | 177 => some ⟨.int .u32, 1, 4, [.pv (.int .u32 0)]⟩
  | _ => none
theorem fit_0 : TFits Tryz.prog 2 ⟨.int .i64, 1, 8, [.pv (.int .i64 0)]⟩ := fits_of info_0 rfl rfl (und_0)
theorem fit_1 : TFits Tryz.prog 3 ⟨.int .i64, 1, 8, [.pv (.int .i64 0)]⟩ := fits_of info_1 rfl rfl (und_1)
theorem fit_2 : TFits Tryz.prog 4 ⟨.bool, 1, 1, [.pv (.bool false)]⟩ := fits_of info_2 rfl rfl (und_2)
theorem fit_3 : TFits Tryz.prog 5 ⟨.int .u8, 1, 1, [.pv (.int .u8 0)]⟩ := fits_of info_3 rfl rfl (und_3)
theorem fit_4 : TFits Tryz.prog 9 ⟨.str, 1, 16, [.pv (.str ByteArray.empty)]⟩ := fits_of info_4 rfl rfl (und_4)
theorem fit_5 : TFits Tryz.prog 21 ⟨.int .i32, 1, 4, [.pv (.int .i32 0)]⟩ := fits_of info_5 rfl rfl (und_5)
theorem fit_6 : TFits Tryz.prog 22 ⟨.slice 107, 1, 24, [.nil 107]⟩ := fits_of info_6 rfl rfl (und_6)
theorem fit_7 : TFits Tryz.prog 24 ⟨.struct [(0, 22), (1, 3)], 2, 32, [.nil 107, .pv (.int .i64 0)]⟩ := fits_struct (gs := Tryz.prog.fieldsOf 24) info_7 rfl rfl und_7 fld_7 fin_7
theorem fit_8 : TFits Tryz.prog 25 ⟨.slice 73, 1, 24, [.nil 73]⟩ := fits_of info_8 rfl rfl (und_8)
theorem fit_9 : TFits Tryz.prog 26 ⟨.slice 77, 1, 24, [.nil 77]⟩ := fits_of info_9 rfl rfl (und_9)
theorem fit_10 : TFits Tryz.prog 30 ⟨.slice 4, 1, 24, [.nil 4]⟩ := fits_of info_10 rfl rfl (und_10)
theorem fit_11 : TFits Tryz.prog 32 ⟨.slice 105, 1, 24, [.nil 105]⟩ := fits_of info_11 rfl rfl (und_11)
theorem fit_12 : TFits Tryz.prog 34 ⟨.struct [(0, 32), (1, 3)], 2, 32, [.nil 105, .pv (.int .i64 0)]⟩ := fits_struct (gs := Tryz.prog.fieldsOf 34) info_12 rfl rfl und_12 fld_12 fin_12
theorem fit_13 : TFits Tryz.prog 36 ⟨.slice 71, 1, 24, [.nil 71]⟩ := fits_of info_13 rfl rfl (und_13)
theorem fit_14 : TFits Tryz.prog 38 ⟨.slice 75, 1, 24, [.nil 75]⟩ := fits_of info_14 rfl rfl (und_14)
theorem fit_15 : TFits Tryz.prog 49 ⟨.slice 87, 1, 24, [.nil 87]⟩ := fits_of info_15 rfl rfl (und_15)
theorem fit_16 : TFits Tryz.prog 51 ⟨.slice 115, 1, 24, [.nil 115]⟩ := fits_of info_16 rfl rfl (und_16)
theorem fit_17 : TFits Tryz.prog 52 ⟨.slice 3, 1, 24, [.nil 3]⟩ := fits_of info_17 rfl rfl (und_17)
theorem fit_18 : TFits Tryz.prog 54 ⟨.struct [(0, 51), (1, 52), (2, 52), (3, 52)], 4, 96, [.nil 115, .nil 3, .nil 3, .nil 3]⟩ := fits_struct (gs := Tryz.prog.fieldsOf 54) info_18 rfl rfl und_18 fld_18 fin_18
theorem fit_19 : TFits Tryz.prog 57 ⟨.slice 92, 1, 24, [.nil 92]⟩ := fits_of info_19 rfl rfl (und_19)
theorem fit_20 : TFits Tryz.prog 65 ⟨.slice 54, 1, 24, [.nil 54]⟩ := fits_of info_20 rfl rfl (und_20)
theorem fit_21 : TFits Tryz.prog 71 ⟨.struct [(0, 3), (1, 3), (2, 3)], 3, 24, [.pv (.int .i64 0), .pv (.int .i64 0), .pv (.int .i64 0)]⟩ := fits_struct (gs := Tryz.prog.fieldsOf 71) info_21 rfl rfl und_21 fld_21 fin_21
theorem fit_22 : TFits Tryz.prog 73 ⟨.struct [(0, 3), (1, 3), (2, 3)], 3, 24, [.pv (.int .i64 0), .pv (.int .i64 0), .pv (.int .i64 0)]⟩ := fits_struct (gs := Tryz.prog.fieldsOf 73) info_22 rfl rfl und_22 fld_22 fin_22
theorem fit_23 : TFits Tryz.prog 75 ⟨.struct [(0, 3), (1, 3), (2, 3)], 3, 24, [.pv (.int .i64 0), .pv (.int .i64 0), .pv (.int .i64 0)]⟩ := fits_struct (gs := Tryz.prog.fieldsOf 75) info_23 rfl rfl und_23 fld_23 fin_23
theorem fit_24 : TFits Tryz.prog 77 ⟨.struct [(0, 3), (1, 3), (2, 3)], 3, 24, [.pv (.int .i64 0), .pv (.int .i64 0), .pv (.int .i64 0)]⟩ := fits_struct (gs := Tryz.prog.fieldsOf 77) info_24 rfl rfl und_24 fld_24 fin_24
theorem fit_25 : TFits Tryz.prog 83 ⟨.slice 153, 1, 24, [.nil 153]⟩ := fits_of info_25 rfl rfl (und_25)
theorem fit_26 : TFits Tryz.prog 85 ⟨.struct [(0, 83), (1, 52), (2, 52), (3, 52)], 4, 96, [.nil 153, .nil 3, .nil 3, .nil 3]⟩ := fits_struct (gs := Tryz.prog.fieldsOf 85) info_26 rfl rfl und_26 fld_26 fin_26
theorem fit_27 : TFits Tryz.prog 87 ⟨.struct [(0, 3), (1, 85)], 5, 104, [.pv (.int .i64 0), .nil 153, .nil 3, .nil 3, .nil 3]⟩ := fits_struct (gs := Tryz.prog.fieldsOf 87) info_27 rfl rfl und_27 fld_27 fin_27
theorem fit_28 : TFits Tryz.prog 92 ⟨.struct [(0, 3), (1, 54)], 5, 104, [.pv (.int .i64 0), .nil 115, .nil 3, .nil 3, .nil 3]⟩ := fits_struct (gs := Tryz.prog.fieldsOf 92) info_28 rfl rfl und_28 fld_28 fin_28
theorem fit_29 : TFits Tryz.prog 105 ⟨.struct [(0, 3), (1, 3), (2, 3), (3, 3)], 4, 32, [.pv (.int .i64 0), .pv (.int .i64 0), .pv (.int .i64 0), .pv (.int .i64 0)]⟩ := fits_struct (gs := Tryz.prog.fieldsOf 105) info_29 rfl rfl und_29 fld_29 fin_29
theorem fit_30 : TFits Tryz.prog 107 ⟨.struct [(0, 3), (1, 3), (2, 3), (3, 3)], 4, 32, [.pv (.int .i64 0), .pv (.int .i64 0), .pv (.int .i64 0), .pv (.int .i64 0)]⟩ := fits_struct (gs := Tryz.prog.fieldsOf 107) info_30 rfl rfl und_30 fld_30 fin_30
theorem fit_31 : TFits Tryz.prog 115 ⟨.struct [(0, 3), (1, 52), (2, 52), (3, 3)], 4, 64, [.pv (.int .i64 0), .nil 3, .nil 3, .pv (.int .i64 0)]⟩ := fits_struct (gs := Tryz.prog.fieldsOf 115) info_31 rfl rfl und_31 fld_31 fin_31
theorem fit_32 : TFits Tryz.prog 150 ⟨.struct [(0, 9), (1, 3), (2, 3), (3, 3)], 4, 40, [.pv (.str ByteArray.empty), .pv (.int .i64 0), .pv (.int .i64 0), .pv (.int .i64 0)]⟩ := fits_struct (gs := Tryz.prog.fieldsOf 150) info_32 rfl rfl und_32 fld_32 fin_32
theorem fit_33 : TFits Tryz.prog 153 ⟨.struct [(0, 3), (1, 52), (2, 52), (3, 3)], 4, 64, [.pv (.int .i64 0), .nil 3, .nil 3, .pv (.int .i64 0)]⟩ := fits_struct (gs := Tryz.prog.fieldsOf 153) info_33 rfl rfl und_33 fld_33 fin_33
theorem fit_34 : TFits Tryz.prog 156 ⟨.arr 3 5 1 [(0, 3), (1, 3), (2, 3), (3, 3), (4, 3)], 5, 40, [.pv (.int .i64 0), .pv (.int .i64 0), .pv (.int .i64 0), .pv (.int .i64 0), .pv (.int .i64 0)]⟩ := fits_of info_34 rfl rfl (⟨und_34, info_size aif_34, by decide, rfl⟩)
theorem fit_35 : TFits Tryz.prog 177 ⟨.int .u32, 1, 4, [.pv (.int .u32 0)]⟩ := fits_of info_35 rfl rfl (und_35)
theorem tb_fits (t : TypeId) (x : TI) (h : tb t = some x) : TFits Tryz.prog t x := by
  unfold tb at h
  split at h
  · cases h; exact fit_0
  · cases h; exact fit_1
  · cases h; exact fit_2
  · cases h; exact fit_3
  · cases h; exact fit_4
  · cases h; exact fit_5
  · cases h; exact fit_6
  · cases h; exact fit_7
  · cases h; exact fit_8
  · cases h; exact fit_9
  · cases h; exact fit_10
  · cases h; exact fit_11
  · cases h; exact fit_12
  · cases h; exact fit_13
  · cases h; exact fit_14
  · cases h; exact fit_15
  · cases h; exact fit_16
  · cases h; exact fit_17
  · cases h; exact fit_18
  · cases h; exact fit_19
  · cases h; exact fit_20
  · cases h; exact fit_21
  · cases h; exact fit_22
  · cases h; exact fit_23
  · cases h; exact fit_24
  · cases h; exact fit_25
  · cases h; exact fit_26
  · cases h; exact fit_27
  · cases h; exact fit_28
  · cases h; exact fit_29
  · cases h; exact fit_30
  · cases h; exact fit_31
  · cases h; exact fit_32
  · cases h; exact fit_33
  · cases h; exact fit_34
  · cases h; exact fit_35
  · cases h
noncomputable def E : Tab := ⟨Tryz.prog, tb, tb_fits, false, false⟩
theorem e_wr : E.wr = false := rfl
theorem mixed : E.P.follows .mixedOrders = true := by kernel_rfl
theorem tb_0 : E.tb 2 = some ⟨.int .i64, 1, 8, [.pv (.int .i64 0)]⟩ := rfl
theorem tb_1 : E.tb 3 = some ⟨.int .i64, 1, 8, [.pv (.int .i64 0)]⟩ := rfl
theorem tb_2 : E.tb 4 = some ⟨.bool, 1, 1, [.pv (.bool false)]⟩ := rfl
theorem tb_3 : E.tb 5 = some ⟨.int .u8, 1, 1, [.pv (.int .u8 0)]⟩ := rfl
theorem tb_4 : E.tb 9 = some ⟨.str, 1, 16, [.pv (.str ByteArray.empty)]⟩ := rfl
theorem tb_5 : E.tb 21 = some ⟨.int .i32, 1, 4, [.pv (.int .i32 0)]⟩ := rfl
theorem tb_6 : E.tb 22 = some ⟨.slice 107, 1, 24, [.nil 107]⟩ := rfl
theorem tb_7 : E.tb 24 = some ⟨.struct [(0, 22), (1, 3)], 2, 32, [.nil 107, .pv (.int .i64 0)]⟩ := rfl
theorem tb_8 : E.tb 25 = some ⟨.slice 73, 1, 24, [.nil 73]⟩ := rfl
theorem tb_9 : E.tb 26 = some ⟨.slice 77, 1, 24, [.nil 77]⟩ := rfl
theorem tb_10 : E.tb 30 = some ⟨.slice 4, 1, 24, [.nil 4]⟩ := rfl
theorem tb_11 : E.tb 32 = some ⟨.slice 105, 1, 24, [.nil 105]⟩ := rfl
theorem tb_12 : E.tb 34 = some ⟨.struct [(0, 32), (1, 3)], 2, 32, [.nil 105, .pv (.int .i64 0)]⟩ := rfl
theorem tb_13 : E.tb 36 = some ⟨.slice 71, 1, 24, [.nil 71]⟩ := rfl
theorem tb_14 : E.tb 38 = some ⟨.slice 75, 1, 24, [.nil 75]⟩ := rfl
theorem tb_15 : E.tb 49 = some ⟨.slice 87, 1, 24, [.nil 87]⟩ := rfl
theorem tb_16 : E.tb 51 = some ⟨.slice 115, 1, 24, [.nil 115]⟩ := rfl
theorem tb_17 : E.tb 52 = some ⟨.slice 3, 1, 24, [.nil 3]⟩ := rfl
theorem tb_18 : E.tb 54 = some ⟨.struct [(0, 51), (1, 52), (2, 52), (3, 52)], 4, 96, [.nil 115, .nil 3, .nil 3, .nil 3]⟩ := rfl
theorem tb_19 : E.tb 57 = some ⟨.slice 92, 1, 24, [.nil 92]⟩ := rfl
theorem tb_20 : E.tb 65 = some ⟨.slice 54, 1, 24, [.nil 54]⟩ := rfl
theorem tb_21 : E.tb 71 = some ⟨.struct [(0, 3), (1, 3), (2, 3)], 3, 24, [.pv (.int .i64 0), .pv (.int .i64 0), .pv (.int .i64 0)]⟩ := rfl
theorem tb_22 : E.tb 73 = some ⟨.struct [(0, 3), (1, 3), (2, 3)], 3, 24, [.pv (.int .i64 0), .pv (.int .i64 0), .pv (.int .i64 0)]⟩ := rfl
theorem tb_23 : E.tb 75 = some ⟨.struct [(0, 3), (1, 3), (2, 3)], 3, 24, [.pv (.int .i64 0), .pv (.int .i64 0), .pv (.int .i64 0)]⟩ := rfl
theorem tb_24 : E.tb 77 = some ⟨.struct [(0, 3), (1, 3), (2, 3)], 3, 24, [.pv (.int .i64 0), .pv (.int .i64 0), .pv (.int .i64 0)]⟩ := rfl
theorem tb_25 : E.tb 83 = some ⟨.slice 153, 1, 24, [.nil 153]⟩ := rfl
theorem tb_26 : E.tb 85 = some ⟨.struct [(0, 83), (1, 52), (2, 52), (3, 52)], 4, 96, [.nil 153, .nil 3, .nil 3, .nil 3]⟩ := rfl
theorem tb_27 : E.tb 87 = some ⟨.struct [(0, 3), (1, 85)], 5, 104, [.pv (.int .i64 0), .nil 153, .nil 3, .nil 3, .nil 3]⟩ := rfl
theorem tb_28 : E.tb 92 = some ⟨.struct [(0, 3), (1, 54)], 5, 104, [.pv (.int .i64 0), .nil 115, .nil 3, .nil 3, .nil 3]⟩ := rfl
theorem tb_29 : E.tb 105 = some ⟨.struct [(0, 3), (1, 3), (2, 3), (3, 3)], 4, 32, [.pv (.int .i64 0), .pv (.int .i64 0), .pv (.int .i64 0), .pv (.int .i64 0)]⟩ := rfl
theorem tb_30 : E.tb 107 = some ⟨.struct [(0, 3), (1, 3), (2, 3), (3, 3)], 4, 32, [.pv (.int .i64 0), .pv (.int .i64 0), .pv (.int .i64 0), .pv (.int .i64 0)]⟩ := rfl
theorem tb_31 : E.tb 115 = some ⟨.struct [(0, 3), (1, 52), (2, 52), (3, 3)], 4, 64, [.pv (.int .i64 0), .nil 3, .nil 3, .pv (.int .i64 0)]⟩ := rfl
theorem tb_32 : E.tb 150 = some ⟨.struct [(0, 9), (1, 3), (2, 3), (3, 3)], 4, 40, [.pv (.str ByteArray.empty), .pv (.int .i64 0), .pv (.int .i64 0), .pv (.int .i64 0)]⟩ := rfl
theorem tb_33 : E.tb 153 = some ⟨.struct [(0, 3), (1, 52), (2, 52), (3, 3)], 4, 64, [.pv (.int .i64 0), .nil 3, .nil 3, .pv (.int .i64 0)]⟩ := rfl
theorem tb_34 : E.tb 156 = some ⟨.arr 3 5 1 [(0, 3), (1, 3), (2, 3), (3, 3), (4, 3)], 5, 40, [.pv (.int .i64 0), .pv (.int .i64 0), .pv (.int .i64 0), .pv (.int .i64 0), .pv (.int .i64 0)]⟩ := rfl
theorem tb_35 : E.tb 177 = some ⟨.int .u32, 1, 4, [.pv (.int .u32 0)]⟩ := rfl
/-- the table, said for simp -/
def tbs := (And.intro (And.intro (And.intro (And.intro (And.intro @tb_0 @tb_1) (And.intro @tb_2 @tb_3)) (And.intro (And.intro @tb_4 @tb_5) (And.intro @tb_6 (And.intro @tb_7 @tb_8)))) (And.intro (And.intro (And.intro @tb_9 @tb_10) (And.intro @tb_11 @tb_12)) (And.intro (And.intro @tb_13 @tb_14) (And.intro @tb_15 (And.intro @tb_16 @tb_17))))) (And.intro (And.intro (And.intro (And.intro @tb_18 @tb_19) (And.intro @tb_20 @tb_21)) (And.intro (And.intro @tb_22 @tb_23) (And.intro @tb_24 (And.intro @tb_25 @tb_26)))) (And.intro (And.intro (And.intro @tb_27 @tb_28) (And.intro @tb_29 (And.intro @tb_30 @tb_31))) (And.intro (And.intro @tb_32 @tb_33) (And.intro @tb_34 (And.intro @tb_35 @e_wr))))))
def tvs := (And.intro vcs tbs)
def tvl := (And.intro tvs @List.length_map.{0, 0})
end Av
end Go.Proofs.YtbkbppllcjcmhaaGreat
