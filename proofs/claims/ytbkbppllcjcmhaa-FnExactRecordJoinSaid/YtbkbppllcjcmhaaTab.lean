/-
  The table of the program's types.
-/
import Derived.Test.YtbkbppllcjcmhaaAvY
import Derived.Test.YtbkbppllcjcmhaaStart
set_option linter.unusedSimpArgs false
set_option linter.unusedVariables false
set_option linter.defProp false
namespace Go.Proofs.Ytbkbppllcjcmhaa
open Go.RowKit
namespace Av
theorem info_size {P : Program} {t : TypeId} {s : Nat} (h : (P.info? t).map (fun i => i.size) = some s) : ∃ i, P.info? t = some i ∧ i.size = s := Option.map_eq_some_iff.1 h
theorem fits_of {P : Program} {t : TypeId} {x : TI} {z : Value} (h : (P.info? t).map (fun i => (i.zero, i.size, i.bytes)) = some (some z, x.size, x.bytes)) (h1 : z.cells.toList.map some = x.zero.map zv) (h2 : z.cells.size = x.size) (hk : match x.kind with
    | .int k => P.underlying t = some (.int k)
    | .bool => P.underlying t = some .bool
    | .str => P.underlying t = some .string
    | .slice e => P.underlying t = some (.slice e)
    | .arr e n size fs => P.underlying t = some (.array n e) ∧ (∃ i, P.info? e = some i ∧ i.size = size) ∧ size ≠ 0 ∧ fs = (List.range n).map fun i => (i * size, e)
    | .struct fs => ∃ gs : Array Field, P.underlying t = some (.struct gs) ∧ gs.toList.map (fun f => (f.offset, f.type)) = fs ∧ ∀ f ∈ gs.toList, (P.info? f.type).isSome = true) : TFits P t x := by
  obtain ⟨i, hi, hz⟩ := Option.map_eq_some_iff.1 h
  simp only [Prod.mk.injEq] at hz
  exact ⟨⟨i, z, hi, hz.1, hz.2.1, hz.2.2, h1, h2⟩, hk⟩
theorem fits_struct {P : Program} {t : TypeId} {fs : List (Nat × TypeId)} {size bytes : Nat} {zero : List AV} {z : Value} {gs : Array Field} (h : (P.info? t).map (fun i => (i.zero, i.size, i.bytes)) = some (some z, size, bytes)) (h1 : z.cells.toList.map some = zero.map zv) (h2 : z.cells.size = size)
    (hu : P.underlying t = some (.struct gs)) (hf : gs.toList.map (fun f => (f.offset, f.type)) = fs) (hin : (gs.toList.all fun f => (P.info? f.type).isSome) = true) : TFits P t ⟨.struct fs, size, bytes, zero⟩ :=
  fits_of h h1 h2 (x := ⟨.struct fs, size, bytes, zero⟩) ⟨gs, hu, hf, List.all_eq_true.1 hin⟩
theorem info_0 : (Try.prog.info? 2).map (fun i => (i.zero, i.size, i.bytes)) = some (some (.int .i64 0 : Value), 1, 8) := by kernel_rfl
theorem und_0 : Try.prog.underlying 2 = some (.int .i64) := by kernel_rfl
theorem info_1 : (Try.prog.info? 3).map (fun i => (i.zero, i.size, i.bytes)) = some (some (.int .i64 0 : Value), 1, 8) := by kernel_rfl
theorem und_1 : Try.prog.underlying 3 = some (.int .i64) := by kernel_rfl
theorem info_2 : (Try.prog.info? 4).map (fun i => (i.zero, i.size, i.bytes)) = some (some (.bool false : Value), 1, 1) := by kernel_rfl
theorem und_2 : Try.prog.underlying 4 = some (.bool) := by kernel_rfl
theorem info_3 : (Try.prog.info? 5).map (fun i => (i.zero, i.size, i.bytes)) = some (some (.int .u8 0 : Value), 1, 1) := by kernel_rfl
theorem und_3 : Try.prog.underlying 5 = some (.int .u8) := by kernel_rfl
theorem info_4 : (Try.prog.info? 9).map (fun i => (i.zero, i.size, i.bytes)) = some (some (.string ByteArray.empty : Value), 1, 16) := by kernel_rfl
theorem und_4 : Try.prog.underlying 9 = some (.string) := by kernel_rfl
theorem info_5 : (Try.prog.info? 21).map (fun i => (i.zero, i.size, i.bytes)) = some (some (.int .i32 0 : Value), 1, 4) := by kernel_rfl
theorem und_5 : Try.prog.underlying 21 = some (.int .i32) := by kernel_rfl
theorem info_6 : (Try.prog.info? 22).map (fun i => (i.zero, i.size, i.bytes)) = some (some (.slice none 0 0 : Value), 1, 24) := by kernel_rfl
theorem und_6 : Try.prog.underlying 22 = some (.slice 85) := by kernel_rfl
theorem info_7 : (Try.prog.info? 25).map (fun i => (i.zero, i.size, i.bytes)) = some (some (.slice none 0 0 : Value), 1, 24) := by kernel_rfl
theorem und_7 : Try.prog.underlying 25 = some (.slice 83) := by kernel_rfl
theorem info_8 : (Try.prog.info? 33).map (fun i => (i.zero, i.size, i.bytes)) = some (some (.slice none 0 0 : Value), 1, 24) := by kernel_rfl
theorem und_8 : Try.prog.underlying 33 = some (.slice 133) := by kernel_rfl
theorem info_9 : (Try.prog.info? 34).map (fun i => (i.zero, i.size, i.bytes)) = some (some (.slice none 0 0 : Value), 1, 24) := by kernel_rfl
theorem und_9 : Try.prog.underlying 34 = some (.slice 3) := by kernel_rfl
theorem info_10 : (Try.prog.info? 36).map (fun i => (i.zero, i.size, i.bytes)) = some (some (.agg #[.slice none 0 0, .slice none 0 0, .slice none 0 0, .slice none 0 0] : Value), 4, 96) := by kernel_rfl
theorem fld_10 : (Try.prog.fieldsOf 36).toList.map (fun f => (f.offset, f.type)) = [(0, 33), (1, 34), (2, 34), (3, 34)] := by kernel_rfl
theorem fin_10 : ((Try.prog.fieldsOf 36).toList.all fun f => (Try.prog.info? f.type).isSome) = true := by kernel_rfl
theorem und_10 : Try.prog.underlying 36 = some (.struct (Try.prog.fieldsOf 36)) := by kernel_rfl
theorem info_11 : (Try.prog.info? 39).map (fun i => (i.zero, i.size, i.bytes)) = some (some (.slice none 0 0 : Value), 1, 24) := by kernel_rfl
theorem und_11 : Try.prog.underlying 39 = some (.slice 134) := by kernel_rfl
theorem info_12 : (Try.prog.info? 41).map (fun i => (i.zero, i.size, i.bytes)) = some (some (.agg #[.slice none 0 0, .slice none 0 0, .slice none 0 0, .slice none 0 0] : Value), 4, 96) := by kernel_rfl
theorem fld_12 : (Try.prog.fieldsOf 41).toList.map (fun f => (f.offset, f.type)) = [(0, 39), (1, 34), (2, 34), (3, 34)] := by kernel_rfl
theorem fin_12 : ((Try.prog.fieldsOf 41).toList.all fun f => (Try.prog.info? f.type).isSome) = true := by kernel_rfl
theorem und_12 : Try.prog.underlying 41 = some (.struct (Try.prog.fieldsOf 41)) := by kernel_rfl
theorem info_13 : (Try.prog.info? 46).map (fun i => (i.zero, i.size, i.bytes)) = some (some (.slice none 0 0 : Value), 1, 24) := by kernel_rfl
theorem und_13 : Try.prog.underlying 46 = some (.slice 143) := by kernel_rfl
theorem info_14 : (Try.prog.info? 48).map (fun i => (i.zero, i.size, i.bytes)) = some (some (.agg #[.slice none 0 0, .int .i64 0] : Value), 2, 32) := by kernel_rfl
theorem fld_14 : (Try.prog.fieldsOf 48).toList.map (fun f => (f.offset, f.type)) = [(0, 46), (1, 3)] := by kernel_rfl
theorem fin_14 : ((Try.prog.fieldsOf 48).toList.all fun f => (Try.prog.info? f.type).isSome) = true := by kernel_rfl
theorem und_14 : Try.prog.underlying 48 = some (.struct (Try.prog.fieldsOf 48)) := by kernel_rfl
theorem info_15 : (Try.prog.info? 49).map (fun i => (i.zero, i.size, i.bytes)) = some (some (.slice none 0 0 : Value), 1, 24) := by kernel_rfl
theorem und_15 : Try.prog.underlying 49 = some (.slice 145) := by kernel_rfl
theorem info_16 : (Try.prog.info? 51).map (fun i => (i.zero, i.size, i.bytes)) = some (some (.agg #[.slice none 0 0, .slice none 0 0] : Value), 2, 48) := by kernel_rfl
theorem fld_16 : (Try.prog.fieldsOf 51).toList.map (fun f => (f.offset, f.type)) = [(0, 49), (1, 34)] := by kernel_rfl
theorem fin_16 : ((Try.prog.fieldsOf 51).toList.all fun f => (Try.prog.info? f.type).isSome) = true := by kernel_rfl
theorem und_16 : Try.prog.underlying 51 = some (.struct (Try.prog.fieldsOf 51)) := by kernel_rfl
theorem info_17 : (Try.prog.info? 54).map (fun i => (i.zero, i.size, i.bytes)) = some (some (.slice none 0 0 : Value), 1, 24) := by kernel_rfl
theorem und_17 : Try.prog.underlying 54 = some (.slice 104) := by kernel_rfl
theorem info_18 : (Try.prog.info? 56).map (fun i => (i.zero, i.size, i.bytes)) = some (some (.agg #[.slice none 0 0, .slice none 0 0] : Value), 2, 48) := by kernel_rfl
theorem fld_18 : (Try.prog.fieldsOf 56).toList.map (fun f => (f.offset, f.type)) = [(0, 54), (1, 34)] := by kernel_rfl
theorem fin_18 : ((Try.prog.fieldsOf 56).toList.all fun f => (Try.prog.info? f.type).isSome) = true := by kernel_rfl
theorem und_18 : Try.prog.underlying 56 = some (.struct (Try.prog.fieldsOf 56)) := by kernel_rfl
theorem info_19 : (Try.prog.info? 59).map (fun i => (i.zero, i.size, i.bytes)) = some (some (.slice none 0 0 : Value), 1, 24) := by kernel_rfl
theorem und_19 : Try.prog.underlying 59 = some (.slice 141) := by kernel_rfl
theorem info_20 : (Try.prog.info? 61).map (fun i => (i.zero, i.size, i.bytes)) = some (some (.agg #[.slice none 0 0, .int .i64 0] : Value), 2, 32) := by kernel_rfl
theorem fld_20 : (Try.prog.fieldsOf 61).toList.map (fun f => (f.offset, f.type)) = [(0, 59), (1, 3)] := by kernel_rfl
theorem fin_20 : ((Try.prog.fieldsOf 61).toList.all fun f => (Try.prog.info? f.type).isSome) = true := by kernel_rfl
theorem und_20 : Try.prog.underlying 61 = some (.struct (Try.prog.fieldsOf 61)) := by kernel_rfl
theorem info_21 : (Try.prog.info? 69).map (fun i => (i.zero, i.size, i.bytes)) = some (some (.slice none 0 0 : Value), 1, 24) := by kernel_rfl
theorem und_21 : Try.prog.underlying 69 = some (.slice 124) := by kernel_rfl
theorem info_22 : (Try.prog.info? 71).map (fun i => (i.zero, i.size, i.bytes)) = some (some (.slice none 0 0 : Value), 1, 24) := by kernel_rfl
theorem und_22 : Try.prog.underlying 71 = some (.slice 118) := by kernel_rfl
theorem info_23 : (Try.prog.info? 73).map (fun i => (i.zero, i.size, i.bytes)) = some (some (.slice none 0 0 : Value), 1, 24) := by kernel_rfl
theorem und_23 : Try.prog.underlying 73 = some (.slice 122) := by kernel_rfl
theorem info_24 : (Try.prog.info? 83).map (fun i => (i.zero, i.size, i.bytes)) = some (some (.agg #[.int .i64 0, .int .i64 0, .int .i64 0] : Value), 3, 24) := by kernel_rfl
theorem fld_24 : (Try.prog.fieldsOf 83).toList.map (fun f => (f.offset, f.type)) = [(0, 3), (1, 3), (2, 3)] := by kernel_rfl
theorem fin_24 : ((Try.prog.fieldsOf 83).toList.all fun f => (Try.prog.info? f.type).isSome) = true := by kernel_rfl
theorem und_24 : Try.prog.underlying 83 = some (.struct (Try.prog.fieldsOf 83)) := by kernel_rfl
theorem info_25 : (Try.prog.info? 85).map (fun i => (i.zero, i.size, i.bytes)) = some (some (.agg #[.int .i64 0, .int .i64 0, .int .i64 0] : Value), 3, 24) := by kernel_rfl
theorem fld_25 : (Try.prog.fieldsOf 85).toList.map (fun f => (f.offset, f.type)) = [(0, 3), (1, 3), (2, 3)] := by kernel_rfl
theorem fin_25 : ((Try.prog.fieldsOf 85).toList.all fun f => (Try.prog.info? f.type).isSome) = true := by kernel_rfl
theorem und_25 : Try.prog.underlying 85 = some (.struct (Try.prog.fieldsOf 85)) := by kernel_rfl
theorem info_26 : (Try.prog.info? 104).map (fun i => (i.zero, i.size, i.bytes)) = some (some (.agg #[.int .i64 0, .int .i64 0, .int .i64 0] : Value), 3, 24) := by kernel_rfl
theorem fld_26 : (Try.prog.fieldsOf 104).toList.map (fun f => (f.offset, f.type)) = [(0, 3), (1, 3), (2, 3)] := by kernel_rfl
theorem fin_26 : ((Try.prog.fieldsOf 104).toList.all fun f => (Try.prog.info? f.type).isSome) = true := by kernel_rfl
theorem und_26 : Try.prog.underlying 104 = some (.struct (Try.prog.fieldsOf 104)) := by kernel_rfl
theorem info_27 : (Try.prog.info? 118).map (fun i => (i.zero, i.size, i.bytes)) = some (some (.agg #[.int .i64 0, .slice none 0 0, .slice none 0 0, .slice none 0 0, .slice none 0 0] : Value), 5, 104) := by kernel_rfl
theorem fld_27 : (Try.prog.fieldsOf 118).toList.map (fun f => (f.offset, f.type)) = [(0, 3), (1, 41)] := by kernel_rfl
theorem fin_27 : ((Try.prog.fieldsOf 118).toList.all fun f => (Try.prog.info? f.type).isSome) = true := by kernel_rfl
theorem und_27 : Try.prog.underlying 118 = some (.struct (Try.prog.fieldsOf 118)) := by kernel_rfl
theorem info_28 : (Try.prog.info? 122).map (fun i => (i.zero, i.size, i.bytes)) = some (some (.agg #[.int .i64 0, .int .i64 0, .int .i64 0] : Value), 3, 24) := by kernel_rfl
theorem fld_28 : (Try.prog.fieldsOf 122).toList.map (fun f => (f.offset, f.type)) = [(0, 3), (1, 3), (2, 3)] := by kernel_rfl
theorem fin_28 : ((Try.prog.fieldsOf 122).toList.all fun f => (Try.prog.info? f.type).isSome) = true := by kernel_rfl
theorem und_28 : Try.prog.underlying 122 = some (.struct (Try.prog.fieldsOf 122)) := by kernel_rfl
theorem info_29 : (Try.prog.info? 124).map (fun i => (i.zero, i.size, i.bytes)) = some (some (.agg #[.int .i64 0, .int .i64 0, .int .i64 0] : Value), 3, 24) := by kernel_rfl
theorem fld_29 : (Try.prog.fieldsOf 124).toList.map (fun f => (f.offset, f.type)) = [(0, 3), (1, 3), (2, 3)] := by kernel_rfl
theorem fin_29 : ((Try.prog.fieldsOf 124).toList.all fun f => (Try.prog.info? f.type).isSome) = true := by kernel_rfl
theorem und_29 : Try.prog.underlying 124 = some (.struct (Try.prog.fieldsOf 124)) := by kernel_rfl
theorem info_30 : (Try.prog.info? 125).map (fun i => (i.zero, i.size, i.bytes)) = some (some (.slice none 0 0 : Value), 1, 24) := by kernel_rfl
theorem und_30 : Try.prog.underlying 125 = some (.slice 41) := by kernel_rfl
theorem info_31 : (Try.prog.info? 133).map (fun i => (i.zero, i.size, i.bytes)) = some (some (.agg #[.int .i64 0, .slice none 0 0, .slice none 0 0, .int .i64 0] : Value), 4, 64) := by kernel_rfl
theorem fld_31 : (Try.prog.fieldsOf 133).toList.map (fun f => (f.offset, f.type)) = [(0, 3), (1, 34), (2, 34), (3, 3)] := by kernel_rfl
theorem fin_31 : ((Try.prog.fieldsOf 133).toList.all fun f => (Try.prog.info? f.type).isSome) = true := by kernel_rfl
theorem und_31 : Try.prog.underlying 133 = some (.struct (Try.prog.fieldsOf 133)) := by kernel_rfl
theorem info_32 : (Try.prog.info? 134).map (fun i => (i.zero, i.size, i.bytes)) = some (some (.agg #[.int .i64 0, .slice none 0 0, .slice none 0 0, .int .i64 0] : Value), 4, 64) := by kernel_rfl
theorem fld_32 : (Try.prog.fieldsOf 134).toList.map (fun f => (f.offset, f.type)) = [(0, 3), (1, 34), (2, 34), (3, 3)] := by kernel_rfl
theorem fin_32 : ((Try.prog.fieldsOf 134).toList.all fun f => (Try.prog.info? f.type).isSome) = true := by kernel_rfl
theorem und_32 : Try.prog.underlying 134 = some (.struct (Try.prog.fieldsOf 134)) := by kernel_rfl
theorem info_33 : (Try.prog.info? 141).map (fun i => (i.zero, i.size, i.bytes)) = some (some (.agg #[.int .i64 0, .int .i64 0, .int .i64 0, .int .i64 0] : Value), 4, 32) := by kernel_rfl
theorem fld_33 : (Try.prog.fieldsOf 141).toList.map (fun f => (f.offset, f.type)) = [(0, 3), (1, 3), (2, 3), (3, 3)] := by kernel_rfl
theorem fin_33 : ((Try.prog.fieldsOf 141).toList.all fun f => (Try.prog.info? f.type).isSome) = true := by kernel_rfl
theorem und_33 : Try.prog.underlying 141 = some (.struct (Try.prog.fieldsOf 141)) := by kernel_rfl
theorem info_34 : (Try.prog.info? 143).map (fun i => (i.zero, i.size, i.bytes)) = some (some (.agg #[.int .i64 0, .int .i64 0, .int .i64 0, .int .i64 0] : Value), 4, 32) := by kernel_rfl
theorem fld_34 : (Try.prog.fieldsOf 143).toList.map (fun f => (f.offset, f.type)) = [(0, 3), (1, 3), (2, 3), (3, 3)] := by kernel_rfl
theorem fin_34 : ((Try.prog.fieldsOf 143).toList.all fun f => (Try.prog.info? f.type).isSome) = true := by kernel_rfl
theorem und_34 : Try.prog.underlying 143 = some (.struct (Try.prog.fieldsOf 143)) := by kernel_rfl
theorem info_35 : (Try.prog.info? 145).map (fun i => (i.zero, i.size, i.bytes)) = some (some (.agg #[.int .i64 0, .int .i64 0, .int .i64 0] : Value), 3, 24) := by kernel_rfl
theorem fld_35 : (Try.prog.fieldsOf 145).toList.map (fun f => (f.offset, f.type)) = [(0, 3), (1, 3), (2, 3)] := by kernel_rfl
theorem fin_35 : ((Try.prog.fieldsOf 145).toList.all fun f => (Try.prog.info? f.type).isSome) = true := by kernel_rfl
theorem und_35 : Try.prog.underlying 145 = some (.struct (Try.prog.fieldsOf 145)) := by kernel_rfl
theorem info_36 : (Try.prog.info? 167).map (fun i => (i.zero, i.size, i.bytes)) = some (some (.agg #[.int .i64 0, .int .i64 0, .int .i64 0, .int .i64 0, .int .i64 0] : Value), 5, 40) := by kernel_rfl
theorem und_36 : Try.prog.underlying 167 = some (.array 5 3) := by kernel_rfl
theorem aif_36 : (Try.prog.info? 3).map (fun i => i.size) = some 1 := by kernel_rfl
theorem info_37 : (Try.prog.info? 170).map (fun i => (i.zero, i.size, i.bytes)) = some (some (.agg #[.string ByteArray.empty, .int .i64 0, .int .i64 0, .int .i64 0] : Value), 4, 40) := by kernel_rfl
theorem fld_37 : (Try.prog.fieldsOf 170).toList.map (fun f => (f.offset, f.type)) = [(0, 9), (1, 3), (2, 3), (3, 3)] := by kernel_rfl
theorem fin_37 : ((Try.prog.fieldsOf 170).toList.all fun f => (Try.prog.info? f.type).isSome) = true := by kernel_rfl
theorem und_37 : Try.prog.underlying 170 = some (.struct (Try.prog.fieldsOf 170)) := by kernel_rfl
theorem info_38 : (Try.prog.info? 200).map (fun i => (i.zero, i.size, i.bytes)) = some (some (.int .u32 0 : Value), 1, 4) := by kernel_rfl
theorem und_38 : Try.prog.underlying 200 = some (.int .u32) := by kernel_rfl
/-- the types -/
noncomputable def tb : TypeId → Option TI
  | 2 => some ⟨.int .i64, 1, 8, [.pv (.int .i64 0)]⟩
  | 3 => some ⟨.int .i64, 1, 8, [.pv (.int .i64 0)]⟩
  | 4 => some ⟨.bool, 1, 1, [.pv (.bool false)]⟩
  | 5 => some ⟨.int .u8, 1, 1, [.pv (.int .u8 0)]⟩
  | 9 => some ⟨.str, 1, 16, [.pv (.str ByteArray.empty)]⟩
  | 21 => some ⟨.int .i32, 1, 4, [.pv (.int .i32 0)]⟩
  | 22 => some ⟨.slice 85, 1, 24, [.nil 85]⟩
  | 25 => some ⟨.slice 83, 1, 24, [.nil 83]⟩
  | 33 => some ⟨.slice 133, 1, 24, [.nil 133]⟩
  | 34 => some ⟨.slice 3, 1, 24, [.nil 3]⟩
  | 36 => some ⟨.struct [(0, 33), (1, 34), (2, 34), (3, 34)], 4, 96, [.nil 133, .nil 3, .nil 3, .nil 3]⟩
  | 39 => some ⟨.slice 134, 1, 24, [.nil 134]⟩
  | 41 => some ⟨.struct [(0, 39), (1, 34), (2, 34), (3, 34)], 4, 96, [.nil 134, .nil 3, .nil 3, .nil 3]⟩
  | 46 => some ⟨.slice 143, 1, 24, [.nil 143]⟩
  | 48 => some ⟨.struct [(0, 46), (1, 3)], 2, 32, [.nil 143, .pv (.int .i64 0)]⟩
  | 49 => some ⟨.slice 145, 1, 24, [.nil 145]⟩
  | 51 => some ⟨.struct [(0, 49), (1, 34)], 2, 48, [.nil 145, .nil 3]⟩
  | 54 => some ⟨.slice 104, 1, 24, [.nil 104]⟩
  | 56 => some ⟨.struct [(0, 54), (1, 34)], 2, 48, [.nil 104, .nil 3]⟩
  | 59 => some ⟨.slice 141, 1, 24, [.nil 141]⟩
  | 61 => some ⟨.struct [(0, 59), (1, 3)], 2, 32, [.nil 141, .pv (.int .i64 0)]⟩
  | 69 => some ⟨.slice 124, 1, 24, [.nil 124]⟩
  | 71 => some ⟨.slice 118, 1, 24, [.nil 118]⟩
  | 73 => some ⟨.slice 122, 1, 24, [.nil 122]⟩
  | 83 => some ⟨.struct [(0, 3), (1, 3), (2, 3)], 3, 24, [.pv (.int .i64 0), .pv (.int .i64 0), .pv (.int .i64 0)]⟩
  | 85 => some ⟨.struct [(0, 3), (1, 3), (2, 3)], 3, 24, [.pv (.int .i64 0), .pv (.int .i64 0), .pv (.int .i64 0)]⟩
  | 104 => some ⟨.struct [(0, 3), (1, 3), (2, 3)], 3, 24, [.pv (.int .i64 0), .pv (.int .i64 0), .pv (.int .i64 0)]⟩
  | 118 => some ⟨.struct [(0, 3), (1, 41)], 5, 104, [.pv (.int .i64 0), .nil 134, .nil 3, .nil 3, .nil 3]⟩
  | 122 => some ⟨.struct [(0, 3), (1, 3), (2, 3)], 3, 24, [.pv (.int .i64 0), .pv (.int .i64 0), .pv (.int .i64 0)]⟩
  | 124 => some ⟨.struct [(0, 3), (1, 3), (2, 3)], 3, 24, [.pv (.int .i64 0), .pv (.int .i64 0), .pv (.int .i64 0)]⟩
  | 125 => some ⟨.slice 41, 1, 24, [.nil 41]⟩
  | 133 => some ⟨.struct [(0, 3), (1, 34), (2, 34), (3, 3)], 4, 64, [.pv (.int .i64 0), .nil 3, .nil 3, .pv (.int .i64 0)]⟩
  | 134 => some ⟨.struct [(0, 3), (1, 34), (2, 34), (3, 3)], 4, 64, [.pv (.int .i64 0), .nil 3, .nil 3, .pv (.int .i64 0)]⟩
  | 141 => some ⟨.struct [(0, 3), (1, 3), (2, 3), (3, 3)], 4, 32, [.pv (.int .i64 0), .pv (.int .i64 0), .pv (.int .i64 0), .pv (.int .i64 0)]⟩
  | 143 => some ⟨.struct [(0, 3), (1, 3), (2, 3), (3, 3)], 4, 32, [.pv (.int .i64 0), .pv (.int .i64 0), .pv (.int .i64 0), .pv (.int .i64 0)]⟩
  | 145 => some ⟨.struct [(0, 3), (1, 3), (2, 3)], 3, 24, [.pv (.int .i64 0), .pv (.int .i64 0), .pv (.int .i64 0)]⟩
  | 167 => some ⟨.arr 3 5 1 [(0, 3), (1, 3), (2, 3), (3, 3), (4, 3)], 5, 40, [.pv (.int .i64 0), .pv (.int .i64 0), .pv (.int .i64 0), .pv (.int .i64 0), .pv (.int .i64 0)]⟩
  | 170 => some ⟨.struct [(0, 9), (1, 3), (2, 3), (3, 3)], 4, 40, [.pv (.str ByteArray.empty), .pv (.int .i64 0), .pv (.int .i64 0), .pv (.int .i64 0)]⟩
  | 200 => some ⟨.int .u32, 1, 4, [.pv (.int .u32 0)]⟩
  | _ => none
theorem fit_0 : TFits Try.prog 2 ⟨.int .i64, 1, 8, [.pv (.int .i64 0)]⟩ := fits_of info_0 rfl rfl (und_0)
theorem fit_1 : TFits Try.prog 3 ⟨.int .i64, 1, 8, [.pv (.int .i64 0)]⟩ := fits_of info_1 rfl rfl (und_1)
theorem fit_2 : TFits Try.prog 4 ⟨.bool, 1, 1, [.pv (.bool false)]⟩ := fits_of info_2 rfl rfl (und_2)
theorem fit_3 : TFits Try.prog 5 ⟨.int .u8, 1, 1, [.pv (.int .u8 0)]⟩ := fits_of info_3 rfl rfl (und_3)
theorem fit_4 : TFits Try.prog 9 ⟨.str, 1, 16, [.pv (.str ByteArray.empty)]⟩ := fits_of info_4 rfl rfl (und_4)
theorem fit_5 : TFits Try.prog 21 ⟨.int .i32, 1, 4, [.pv (.int .i32 0)]⟩ := fits_of info_5 rfl rfl (und_5)
theorem fit_6 : TFits Try.prog 22 ⟨.slice 85, 1, 24, [.nil 85]⟩ := fits_of info_6 rfl rfl (und_6)
theorem fit_7 : TFits Try.prog 25 ⟨.slice 83, 1, 24, [.nil 83]⟩ := fits_of info_7 rfl rfl (und_7)
theorem fit_8 : TFits Try.prog 33 ⟨.slice 133, 1, 24, [.nil 133]⟩ := fits_of info_8 rfl rfl (und_8)
theorem fit_9 : TFits Try.prog 34 ⟨.slice 3, 1, 24, [.nil 3]⟩ := fits_of info_9 rfl rfl (und_9)
theorem fit_10 : TFits Try.prog 36 ⟨.struct [(0, 33), (1, 34), (2, 34), (3, 34)], 4, 96, [.nil 133, .nil 3, .nil 3, .nil 3]⟩ := fits_struct (gs := Try.prog.fieldsOf 36) info_10 rfl rfl und_10 fld_10 fin_10
theorem fit_11 : TFits Try.prog 39 ⟨.slice 134, 1, 24, [.nil 134]⟩ := fits_of info_11 rfl rfl (und_11)
theorem fit_12 : TFits Try.prog 41 ⟨.struct [(0, 39), (1, 34), (2, 34), (3, 34)], 4, 96, [.nil 134, .nil 3, .nil 3, .nil 3]⟩ := fits_struct (gs := Try.prog.fieldsOf 41) info_12 rfl rfl und_12 fld_12 fin_12
theorem fit_13 : TFits Try.prog 46 ⟨.slice 143, 1, 24, [.nil 143]⟩ := fits_of info_13 rfl rfl (und_13)
theorem fit_14 : TFits Try.prog 48 ⟨.struct [(0, 46), (1, 3)], 2, 32, [.nil 143, .pv (.int .i64 0)]⟩ := fits_struct (gs := Try.prog.fieldsOf 48) info_14 rfl rfl und_14 fld_14 fin_14
theorem fit_15 : TFits Try.prog 49 ⟨.slice 145, 1, 24, [.nil 145]⟩ := fits_of info_15 rfl rfl (und_15)
theorem fit_16 : TFits Try.prog 51 ⟨.struct [(0, 49), (1, 34)], 2, 48, [.nil 145, .nil 3]⟩ := fits_struct (gs := Try.prog.fieldsOf 51) info_16 rfl rfl und_16 fld_16 fin_16
theorem fit_17 : TFits Try.prog 54 ⟨.slice 104, 1, 24, [.nil 104]⟩ := fits_of info_17 rfl rfl (und_17)
theorem fit_18 : TFits Try.prog 56 ⟨.struct [(0, 54), (1, 34)], 2, 48, [.nil 104, .nil 3]⟩ := fits_struct (gs := Try.prog.fieldsOf 56) info_18 rfl rfl und_18 fld_18 fin_18
theorem fit_19 : TFits Try.prog 59 ⟨.slice 141, 1, 24, [.nil 141]⟩ := fits_of info_19 rfl rfl (und_19)
theorem fit_20 : TFits Try.prog 61 ⟨.struct [(0, 59), (1, 3)], 2, 32, [.nil 141, .pv (.int .i64 0)]⟩ := fits_struct (gs := Try.prog.fieldsOf 61) info_20 rfl rfl und_20 fld_20 fin_20
theorem fit_21 : TFits Try.prog 69 ⟨.slice 124, 1, 24, [.nil 124]⟩ := fits_of info_21 rfl rfl (und_21)
theorem fit_22 : TFits Try.prog 71 ⟨.slice 118, 1, 24, [.nil 118]⟩ := fits_of info_22 rfl rfl (und_22)
theorem fit_23 : TFits Try.prog 73 ⟨.slice 122, 1, 24, [.nil 122]⟩ := fits_of info_23 rfl rfl (und_23)
theorem fit_24 : TFits Try.prog 83 ⟨.struct [(0, 3), (1, 3), (2, 3)], 3, 24, [.pv (.int .i64 0), .pv (.int .i64 0), .pv (.int .i64 0)]⟩ := fits_struct (gs := Try.prog.fieldsOf 83) info_24 rfl rfl und_24 fld_24 fin_24
theorem fit_25 : TFits Try.prog 85 ⟨.struct [(0, 3), (1, 3), (2, 3)], 3, 24, [.pv (.int .i64 0), .pv (.int .i64 0), .pv (.int .i64 0)]⟩ := fits_struct (gs := Try.prog.fieldsOf 85) info_25 rfl rfl und_25 fld_25 fin_25
theorem fit_26 : TFits Try.prog 104 ⟨.struct [(0, 3), (1, 3), (2, 3)], 3, 24, [.pv (.int .i64 0), .pv (.int .i64 0), .pv (.int .i64 0)]⟩ := fits_struct (gs := Try.prog.fieldsOf 104) info_26 rfl rfl und_26 fld_26 fin_26
theorem fit_27 : TFits Try.prog 118 ⟨.struct [(0, 3), (1, 41)], 5, 104, [.pv (.int .i64 0), .nil 134, .nil 3, .nil 3, .nil 3]⟩ := fits_struct (gs := Try.prog.fieldsOf 118) info_27 rfl rfl und_27 fld_27 fin_27
theorem fit_28 : TFits Try.prog 122 ⟨.struct [(0, 3), (1, 3), (2, 3)], 3, 24, [.pv (.int .i64 0), .pv (.int .i64 0), .pv (.int .i64 0)]⟩ := fits_struct (gs := Try.prog.fieldsOf 122) info_28 rfl rfl und_28 fld_28 fin_28
theorem fit_29 : TFits Try.prog 124 ⟨.struct [(0, 3), (1, 3), (2, 3)], 3, 24, [.pv (.int .i64 0), .pv (.int .i64 0), .pv (.int .i64 0)]⟩ := fits_struct (gs := Try.prog.fieldsOf 124) info_29 rfl rfl und_29 fld_29 fin_29
theorem fit_30 : TFits Try.prog 125 ⟨.slice 41, 1, 24, [.nil 41]⟩ := fits_of info_30 rfl rfl (und_30)
theorem fit_31 : TFits Try.prog 133 ⟨.struct [(0, 3), (1, 34), (2, 34), (3, 3)], 4, 64, [.pv (.int .i64 0), .nil 3, .nil 3, .pv (.int .i64 0)]⟩ := fits_struct (gs := Try.prog.fieldsOf 133) info_31 rfl rfl und_31 fld_31 fin_31
theorem fit_32 : TFits Try.prog 134 ⟨.struct [(0, 3), (1, 34), (2, 34), (3, 3)], 4, 64, [.pv (.int .i64 0), .nil 3, .nil 3, .pv (.int .i64 0)]⟩ := fits_struct (gs := Try.prog.fieldsOf 134) info_32 rfl rfl und_32 fld_32 fin_32
theorem fit_33 : TFits Try.prog 141 ⟨.struct [(0, 3), (1, 3), (2, 3), (3, 3)], 4, 32, [.pv (.int .i64 0), .pv (.int .i64 0), .pv (.int .i64 0), .pv (.int .i64 0)]⟩ := fits_struct (gs := Try.prog.fieldsOf 141) info_33 rfl rfl und_33 fld_33 fin_33
theorem fit_34 : TFits Try.prog 143 ⟨.struct [(0, 3), (1, 3), (2, 3), (3, 3)], 4, 32, [.pv (.int .i64 0), .pv (.int .i64 0), .pv (.int .i64 0), .pv (.int .i64 0)]⟩ := fits_struct (gs := Try.prog.fieldsOf 143) info_34 rfl rfl und_34 fld_34 fin_34
theorem fit_35 : TFits Try.prog 145 ⟨.struct [(0, 3), (1, 3), (2, 3)], 3, 24, [.pv (.int .i64 0), .pv (.int .i64 0), .pv (.int .i64 0)]⟩ := fits_struct (gs := Try.prog.fieldsOf 145) info_35 rfl rfl und_35 fld_35 fin_35
theorem fit_36 : TFits Try.prog 167 ⟨.arr 3 5 1 [(0, 3), (1, 3), (2, 3), (3, 3), (4, 3)], 5, 40, [.pv (.int .i64 0), .pv (.int .i64 0), .pv (.int .i64 0), .pv (.int .i64 0), .pv (.int .i64 0)]⟩ := fits_of info_36 rfl rfl (⟨und_36, info_size aif_36, by decide, rfl⟩)
theorem fit_37 : TFits Try.prog 170 ⟨.struct [(0, 9), (1, 3), (2, 3), (3, 3)], 4, 40, [.pv (.str ByteArray.empty), .pv (.int .i64 0), .pv (.int .i64 0), .pv (.int .i64 0)]⟩ := fits_struct (gs := Try.prog.fieldsOf 170) info_37 rfl rfl und_37 fld_37 fin_37
theorem fit_38 : TFits Try.prog 200 ⟨.int .u32, 1, 4, [.pv (.int .u32 0)]⟩ := fits_of info_38 rfl rfl (und_38)
theorem tb_fits (t : TypeId) (x : TI) (h : tb t = some x) : TFits Try.prog t x := by
  unfold tb at h
  split at h
  · cases h; exact fit_0
  · cases h; exact fit_1
  · cases h; exact fit_2
  · cases h; exact fit_3
  · cases h; exact fit_4
  · cases h; exact fit_5
  · cases h; exact fit_6
  · cases h; exact fit_7
  · cases h; exact fit_8
  · cases h; exact fit_9
  · cases h; exact fit_10
  · cases h; exact fit_11
  · cases h; exact fit_12
  · cases h; exact fit_13
  · cases h; exact fit_14
  · cases h; exact fit_15
  · cases h; exact fit_16
  · cases h; exact fit_17
  · cases h; exact fit_18
  · cases h; exact fit_19
  · cases h; exact fit_20
  · cases h; exact fit_21
  · cases h; exact fit_22
  · cases h; exact fit_23
  · cases h; exact fit_24
  · cases h; exact fit_25
  · cases h; exact fit_26
  · cases h; exact fit_27
  · cases h; exact fit_28
  · cases h; exact fit_29
  · cases h; exact fit_30
  · cases h; exact fit_31
  · cases h; exact fit_32
  · cases h; exact fit_33
  · cases h; exact fit_34
  · cases h; exact fit_35
  · cases h; exact fit_36
  · cases h; exact fit_37
  · cases h; exact fit_38
  · cases h
noncomputable def E : Tab := ⟨Try.prog, tb, tb_fits, false, false⟩
theorem e_wr : E.wr = false := rfl
theorem mixed : E.P.follows .mixedOrders = true := by kernel_rfl
theorem tb_0 : E.tb 2 = some ⟨.int .i64, 1, 8, [.pv (.int .i64 0)]⟩ := rfl
theorem tb_1 : E.tb 3 = some ⟨.int .i64, 1, 8, [.pv (.int .i64 0)]⟩ := rfl
theorem tb_2 : E.tb 4 = some ⟨.bool, 1, 1, [.pv (.bool false)]⟩ := rfl
theorem tb_3 : E.tb 5 = some ⟨.int .u8, 1, 1, [.pv (.int .u8 0)]⟩ := rfl
theorem tb_4 : E.tb 9 = some ⟨.str, 1, 16, [.pv (.str ByteArray.empty)]⟩ := rfl
theorem tb_5 : E.tb 21 = some ⟨.int .i32, 1, 4, [.pv (.int .i32 0)]⟩ := rfl
theorem tb_6 : E.tb 22 = some ⟨.slice 85, 1, 24, [.nil 85]⟩ := rfl
theorem tb_7 : E.tb 25 = some ⟨.slice 83, 1, 24, [.nil 83]⟩ := rfl
theorem tb_8 : E.tb 33 = some ⟨.slice 133, 1, 24, [.nil 133]⟩ := rfl
theorem tb_9 : E.tb 34 = some ⟨.slice 3, 1, 24, [.nil 3]⟩ := rfl
theorem tb_10 : E.tb 36 = some ⟨.struct [(0, 33), (1, 34), (2, 34), (3, 34)], 4, 96, [.nil 133, .nil 3, .nil 3, .nil 3]⟩ := rfl
theorem tb_11 : E.tb 39 = some ⟨.slice 134, 1, 24, [.nil 134]⟩ := rfl
theorem tb_12 : E.tb 41 = some ⟨.struct [(0, 39), (1, 34), (2, 34), (3, 34)], 4, 96, [.nil 134, .nil 3, .nil 3, .nil 3]⟩ := rfl
theorem tb_13 : E.tb 46 = some ⟨.slice 143, 1, 24, [.nil 143]⟩ := rfl
theorem tb_14 : E.tb 48 = some ⟨.struct [(0, 46), (1, 3)], 2, 32, [.nil 143, .pv (.int .i64 0)]⟩ := rfl
theorem tb_15 : E.tb 49 = some ⟨.slice 145, 1, 24, [.nil 145]⟩ := rfl
theorem tb_16 : E.tb 51 = some ⟨.struct [(0, 49), (1, 34)], 2, 48, [.nil 145, .nil 3]⟩ := rfl
theorem tb_17 : E.tb 54 = some ⟨.slice 104, 1, 24, [.nil 104]⟩ := rfl
theorem tb_18 : E.tb 56 = some ⟨.struct [(0, 54), (1, 34)], 2, 48, [.nil 104, .nil 3]⟩ := rfl
theorem tb_19 : E.tb 59 = some ⟨.slice 141, 1, 24, [.nil 141]⟩ := rfl
theorem tb_20 : E.tb 61 = some ⟨.struct [(0, 59), (1, 3)], 2, 32, [.nil 141, .pv (.int .i64 0)]⟩ := rfl
theorem tb_21 : E.tb 69 = some ⟨.slice 124, 1, 24, [.nil 124]⟩ := rfl
theorem tb_22 : E.tb 71 = some ⟨.slice 118, 1, 24, [.nil 118]⟩ := rfl
theorem tb_23 : E.tb 73 = some ⟨.slice 122, 1, 24, [.nil 122]⟩ := rfl
theorem tb_24 : E.tb 83 = some ⟨.struct [(0, 3), (1, 3), (2, 3)], 3, 24, [.pv (.int .i64 0), .pv (.int .i64 0), .pv (.int .i64 0)]⟩ := rfl
theorem tb_25 : E.tb 85 = some ⟨.struct [(0, 3), (1, 3), (2, 3)], 3, 24, [.pv (.int .i64 0), .pv (.int .i64 0), .pv (.int .i64 0)]⟩ := rfl
theorem tb_26 : E.tb 104 = some ⟨.struct [(0, 3), (1, 3), (2, 3)], 3, 24, [.pv (.int .i64 0), .pv (.int .i64 0), .pv (.int .i64 0)]⟩ := rfl
theorem tb_27 : E.tb 118 = some ⟨.struct [(0, 3), (1, 41)], 5, 104, [.pv (.int .i64 0), .nil 134, .nil 3, .nil 3, .nil 3]⟩ := rfl
theorem tb_28 : E.tb 122 = some ⟨.struct [(0, 3), (1, 3), (2, 3)], 3, 24, [.pv (.int .i64 0), .pv (.int .i64 0), .pv (.int .i64 0)]⟩ := rfl
theorem tb_29 : E.tb 124 = some ⟨.struct [(0, 3), (1, 3), (2, 3)], 3, 24, [.pv (.int .i64 0), .pv (.int .i64 0), .pv (.int .i64 0)]⟩ := rfl
theorem tb_30 : E.tb 125 = some ⟨.slice 41, 1, 24, [.nil 41]⟩ := rfl
theorem tb_31 : E.tb 133 = some ⟨.struct [(0, 3), (1, 34), (2, 34), (3, 3)], 4, 64, [.pv (.int .i64 0), .nil 3, .nil 3, .pv (.int .i64 0)]⟩ := rfl
theorem tb_32 : E.tb 134 = some ⟨.struct [(0, 3), (1, 34), (2, 34), (3, 3)], 4, 64, [.pv (.int .i64 0), .nil 3, .nil 3, .pv (.int .i64 0)]⟩ := rfl
theorem tb_33 : E.tb 141 = some ⟨.struct [(0, 3), (1, 3), (2, 3), (3, 3)], 4, 32, [.pv (.int .i64 0), .pv (.int .i64 0), .pv (.int .i64 0), .pv (.int .i64 0)]⟩ := rfl
theorem tb_34 : E.tb 143 = some ⟨.struct [(0, 3), (1, 3), (2, 3), (3, 3)], 4, 32, [.pv (.int .i64 0), .pv (.int .i64 0), .pv (.int .i64 0), .pv (.int .i64 0)]⟩ := rfl
theorem tb_35 : E.tb 145 = some ⟨.struct [(0, 3), (1, 3), (2, 3)], 3, 24, [.pv (.int .i64 0), .pv (.int .i64 0), .pv (.int .i64 0)]⟩ := rfl
theorem tb_36 : E.tb 167 = some ⟨.arr 3 5 1 [(0, 3), (1, 3), (2, 3), (3, 3), (4, 3)], 5, 40, [.pv (.int .i64 0), .pv (.int .i64 0), .pv (.int .i64 0), .pv (.int .i64 0), .pv (.int .i64 0)]⟩ := rfl
theorem tb_37 : E.tb 170 = some ⟨.struct [(0, 9), (1, 3), (2, 3), (3, 3)], 4, 40, [.pv (.str ByteArray.empty), .pv (.int .i64 0), .pv (.int .i64 0), .pv (.int .i64 0)]⟩ := rfl
theorem tb_38 : E.tb 200 = some ⟨.int .u32, 1, 4, [.pv (.int .u32 0)]⟩ := rfl
/-- the table, said for simp -/
def tbs := (And.intro (And.intro (And.intro (And.intro (And.intro @tb_0 @tb_1) (And.intro @tb_2 (And.intro @tb_3 @tb_4))) (And.intro (And.intro @tb_5 @tb_6) (And.intro @tb_7 (And.intro @tb_8 @tb_9)))) (And.intro (And.intro (And.intro @tb_10 @tb_11) (And.intro @tb_12 (And.intro @tb_13 @tb_14))) (And.intro (And.intro @tb_15 @tb_16) (And.intro @tb_17 (And.intro @tb_18 @tb_19))))) (And.intro (And.intro (And.intro (And.intro @tb_20 @tb_21) (And.intro @tb_22 (And.intro @tb_23 @tb_24))) (And.intro (And.intro @tb_25 @tb_26) (And.intro @tb_27 (And.intro @tb_28 @tb_29)))) (And.intro (And.intro (And.intro @tb_30 @tb_31) (And.intro @tb_32 (And.intro @tb_33 @tb_34))) (And.intro (And.intro @tb_35 @tb_36) (And.intro @tb_37 (And.intro @tb_38 @e_wr))))))
def tvs := (And.intro vcs tbs)
def tvl := (And.intro tvs @List.length_map.{0, 0})
end Av
end Go.Proofs.Ytbkbppllcjcmhaa
