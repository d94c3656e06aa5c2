/-
  The table of the program's types.
-/
import Derived.Test.YtolbihilggkldaaAvY
import Derived.Test.YtolbihilggkldaaStart
set_option linter.unusedSimpArgs false
set_option linter.unusedVariables false
namespace Go.Proofs.Ytolbihilggkldaa
open Go.RowKit
namespace Av
theorem fits_of {P : Program} {t : TypeId} {x : TI} {z : Value} (h : (P.info? t).map (fun i => (i.zero, i.size, i.bytes)) = some (some z, x.size, x.bytes)) (h1 : z.cells.toList.map some = x.zero.map zv) (h2 : z.cells.size = x.size) (hk : match x.kind with
    | .int k => P.underlying t = some (.int k)
    | .bool => P.underlying t = some .bool
    | .str => P.underlying t = some .string
    | .slice e => P.underlying t = some (.slice e)
    | .struct fs => ∃ gs : Array Field, P.underlying t = some (.struct gs) ∧ gs.toList.map (fun f => (f.offset, f.type)) = fs ∧ ∀ f ∈ gs.toList, (P.info? f.type).isSome = true) : TFits P t x := by
  obtain ⟨i, hi, hz⟩ := Option.map_eq_some_iff.1 h
  simp only [Prod.mk.injEq] at hz
  exact ⟨⟨i, z, hi, hz.1, hz.2.1, hz.2.2, h1, h2⟩, hk⟩
theorem fits_struct {P : Program} {t : TypeId} {fs : List (Nat × TypeId)} {size bytes : Nat} {zero : List AV} {z : Value} {gs : Array Field} (h : (P.info? t).map (fun i => (i.zero, i.size, i.bytes)) = some (some z, size, bytes)) (h1 : z.cells.toList.map some = zero.map zv) (h2 : z.cells.size = size)
    (hu : P.underlying t = some (.struct gs)) (hf : gs.toList.map (fun f => (f.offset, f.type)) = fs) (hin : (gs.toList.all fun f => (P.info? f.type).isSome) = true) : TFits P t ⟨.struct fs, size, bytes, zero⟩ :=
  fits_of h h1 h2 (x := ⟨.struct fs, size, bytes, zero⟩) ⟨gs, hu, hf, List.all_eq_true.1 hin⟩
theorem info_0 : (Try.prog.info? 2).map (fun i => (i.zero, i.size, i.bytes)) = some (some (.int .i64 0 : Value), 1, 8) := by kernel_rfl
theorem und_0 : Try.prog.underlying 2 = some (.int .i64) := by kernel_rfl
theorem info_1 : (Try.prog.info? 3).map (fun i => (i.zero, i.size, i.bytes)) = some (some (.int .i64 0 : Value), 1, 8) := by kernel_rfl
theorem und_1 : Try.prog.underlying 3 = some (.int .i64) := by kernel_rfl
theorem info_2 : (Try.prog.info? 4).map (fun i => (i.zero, i.size, i.bytes)) = some (some (.bool false : Value), 1, 1) := by kernel_rfl
theorem und_2 : Try.prog.underlying 4 = some (.bool) := by kernel_rfl
theorem info_3 : (Try.prog.info? 5).map (fun i => (i.zero, i.size, i.bytes)) = some (some (.int .u8 0 : Value), 1, 1) := by kernel_rfl
theorem und_3 : Try.prog.underlying 5 = some (.int .u8) := by kernel_rfl
theorem info_4 : (Try.prog.info? 9).map (fun i => (i.zero, i.size, i.bytes)) = some (some (.string ByteArray.empty : Value), 1, 16) := by kernel_rfl
theorem und_4 : Try.prog.underlying 9 = some (.string) := by kernel_rfl
theorem info_5 : (Try.prog.info? 21).map (fun i => (i.zero, i.size, i.bytes)) = some (some (.int .i32 0 : Value), 1, 4) := by kernel_rfl
theorem und_5 : Try.prog.underlying 21 = some (.int .i32) := by kernel_rfl
theorem info_6 : (Try.prog.info? 22).map (fun i => (i.zero, i.size, i.bytes)) = some (some (.slice none 0 0 : Value), 1, 24) := by kernel_rfl
theorem und_6 : Try.prog.underlying 22 = some (.slice 91) := by kernel_rfl
theorem info_7 : (Try.prog.info? 24).map (fun i => (i.zero, i.size, i.bytes)) = some (some (.agg #[.slice none 0 0, .int .i64 0] : Value), 2, 32) := by kernel_rfl
theorem fld_7 : (Try.prog.fieldsOf 24).toList.map (fun f => (f.offset, f.type)) = [(0, 22), (1, 3)] := by kernel_rfl
theorem fin_7 : ((Try.prog.fieldsOf 24).toList.all fun f => (Try.prog.info? f.type).isSome) = true := by kernel_rfl
theorem und_7 : Try.prog.underlying 24 = some (.struct (Try.prog.fieldsOf 24)) := by kernel_rfl
theorem info_8 : (Try.prog.info? 25).map (fun i => (i.zero, i.size, i.bytes)) = some (some (.slice none 0 0 : Value), 1, 24) := by kernel_rfl
theorem und_8 : Try.prog.underlying 25 = some (.slice 65) := by kernel_rfl
theorem info_9 : (Try.prog.info? 29).map (fun i => (i.zero, i.size, i.bytes)) = some (some (.slice none 0 0 : Value), 1, 24) := by kernel_rfl
theorem und_9 : Try.prog.underlying 29 = some (.slice 77) := by kernel_rfl
theorem info_10 : (Try.prog.info? 31).map (fun i => (i.zero, i.size, i.bytes)) = some (some (.agg #[.slice none 0 0, .int .i64 0] : Value), 2, 32) := by kernel_rfl
theorem fld_10 : (Try.prog.fieldsOf 31).toList.map (fun f => (f.offset, f.type)) = [(0, 29), (1, 3)] := by kernel_rfl
theorem fin_10 : ((Try.prog.fieldsOf 31).toList.all fun f => (Try.prog.info? f.type).isSome) = true := by kernel_rfl
theorem und_10 : Try.prog.underlying 31 = some (.struct (Try.prog.fieldsOf 31)) := by kernel_rfl
theorem info_11 : (Try.prog.info? 33).map (fun i => (i.zero, i.size, i.bytes)) = some (some (.slice none 0 0 : Value), 1, 24) := by kernel_rfl
theorem und_11 : Try.prog.underlying 33 = some (.slice 62) := by kernel_rfl
theorem info_12 : (Try.prog.info? 39).map (fun i => (i.zero, i.size, i.bytes)) = some (some (.slice none 0 0 : Value), 1, 24) := by kernel_rfl
theorem und_12 : Try.prog.underlying 39 = some (.slice 86) := by kernel_rfl
theorem info_13 : (Try.prog.info? 40).map (fun i => (i.zero, i.size, i.bytes)) = some (some (.slice none 0 0 : Value), 1, 24) := by kernel_rfl
theorem und_13 : Try.prog.underlying 40 = some (.slice 3) := by kernel_rfl
theorem info_14 : (Try.prog.info? 42).map (fun i => (i.zero, i.size, i.bytes)) = some (some (.agg #[.slice none 0 0, .slice none 0 0, .slice none 0 0, .slice none 0 0] : Value), 4, 96) := by kernel_rfl
theorem fld_14 : (Try.prog.fieldsOf 42).toList.map (fun f => (f.offset, f.type)) = [(0, 39), (1, 40), (2, 40), (3, 40)] := by kernel_rfl
theorem fin_14 : ((Try.prog.fieldsOf 42).toList.all fun f => (Try.prog.info? f.type).isSome) = true := by kernel_rfl
theorem und_14 : Try.prog.underlying 42 = some (.struct (Try.prog.fieldsOf 42)) := by kernel_rfl
theorem info_15 : (Try.prog.info? 50).map (fun i => (i.zero, i.size, i.bytes)) = some (some (.slice none 0 0 : Value), 1, 24) := by kernel_rfl
theorem und_15 : Try.prog.underlying 50 = some (.slice 42) := by kernel_rfl
theorem info_16 : (Try.prog.info? 62).map (fun i => (i.zero, i.size, i.bytes)) = some (some (.agg #[.int .i64 0, .int .i64 0, .int .i64 0] : Value), 3, 24) := by kernel_rfl
theorem fld_16 : (Try.prog.fieldsOf 62).toList.map (fun f => (f.offset, f.type)) = [(0, 3), (1, 3), (2, 3)] := by kernel_rfl
theorem fin_16 : ((Try.prog.fieldsOf 62).toList.all fun f => (Try.prog.info? f.type).isSome) = true := by kernel_rfl
theorem und_16 : Try.prog.underlying 62 = some (.struct (Try.prog.fieldsOf 62)) := by kernel_rfl
theorem info_17 : (Try.prog.info? 65).map (fun i => (i.zero, i.size, i.bytes)) = some (some (.agg #[.int .i64 0, .int .i64 0, .int .i64 0] : Value), 3, 24) := by kernel_rfl
theorem fld_17 : (Try.prog.fieldsOf 65).toList.map (fun f => (f.offset, f.type)) = [(0, 3), (1, 3), (2, 3)] := by kernel_rfl
theorem fin_17 : ((Try.prog.fieldsOf 65).toList.all fun f => (Try.prog.info? f.type).isSome) = true := by kernel_rfl
theorem und_17 : Try.prog.underlying 65 = some (.struct (Try.prog.fieldsOf 65)) := by kernel_rfl
theorem info_18 : (Try.prog.info? 77).map (fun i => (i.zero, i.size, i.bytes)) = some (some (.agg #[.int .i64 0, .int .i64 0, .int .i64 0, .int .i64 0] : Value), 4, 32) := by kernel_rfl
theorem fld_18 : (Try.prog.fieldsOf 77).toList.map (fun f => (f.offset, f.type)) = [(0, 3), (1, 3), (2, 3), (3, 3)] := by kernel_rfl
theorem fin_18 : ((Try.prog.fieldsOf 77).toList.all fun f => (Try.prog.info? f.type).isSome) = true := by kernel_rfl
theorem und_18 : Try.prog.underlying 77 = some (.struct (Try.prog.fieldsOf 77)) := by kernel_rfl
theorem info_19 : (Try.prog.info? 86).map (fun i => (i.zero, i.size, i.bytes)) = some (some (.agg #[.int .i64 0, .slice none 0 0, .slice none 0 0, .int .i64 0] : Value), 4, 64) := by kernel_rfl
theorem fld_19 : (Try.prog.fieldsOf 86).toList.map (fun f => (f.offset, f.type)) = [(0, 3), (1, 40), (2, 40), (3, 3)] := by kernel_rfl
theorem fin_19 : ((Try.prog.fieldsOf 86).toList.all fun f => (Try.prog.info? f.type).isSome) = true := by kernel_rfl
theorem und_19 : Try.prog.underlying 86 = some (.struct (Try.prog.fieldsOf 86)) := by kernel_rfl
theorem info_20 : (Try.prog.info? 91).map (fun i => (i.zero, i.size, i.bytes)) = some (some (.agg #[.int .i64 0, .int .i64 0, .int .i64 0, .int .i64 0] : Value), 4, 32) := by kernel_rfl
theorem fld_20 : (Try.prog.fieldsOf 91).toList.map (fun f => (f.offset, f.type)) = [(0, 3), (1, 3), (2, 3), (3, 3)] := by kernel_rfl
theorem fin_20 : ((Try.prog.fieldsOf 91).toList.all fun f => (Try.prog.info? f.type).isSome) = true := by kernel_rfl
theorem und_20 : Try.prog.underlying 91 = some (.struct (Try.prog.fieldsOf 91)) := by kernel_rfl
theorem info_21 : (Try.prog.info? 96).map (fun i => (i.zero, i.size, i.bytes)) = some (some (.agg #[.string ByteArray.empty, .int .i64 0, .int .i64 0, .int .i64 0] : Value), 4, 40) := by kernel_rfl
theorem fld_21 : (Try.prog.fieldsOf 96).toList.map (fun f => (f.offset, f.type)) = [(0, 9), (1, 3), (2, 3), (3, 3)] := by kernel_rfl
theorem fin_21 : ((Try.prog.fieldsOf 96).toList.all fun f => (Try.prog.info? f.type).isSome) = true := by kernel_rfl
theorem und_21 : Try.prog.underlying 96 = some (.struct (Try.prog.fieldsOf 96)) := by kernel_rfl
theorem info_22 : (Try.prog.info? 133).map (fun i => (i.zero, i.size, i.bytes)) = some (some (.int .u32 0 : Value), 1, 4) := by kernel_rfl
theorem und_22 : Try.prog.underlying 133 = some (.int .u32) := by kernel_rfl
/-- the types -/
noncomputable def tb : TypeId → Option TI
  | 2 => some ⟨.int .i64, 1, 8, [.pv (.int .i64 0)]⟩
  | 3 => some ⟨.int .i64, 1, 8, [.pv (.int .i64 0)]⟩
  | 4 => some ⟨.bool, 1, 1, [.pv (.bool false)]⟩
  | 5 => some ⟨.int .u8, 1, 1, [.pv (.int .u8 0)]⟩
  | 9 => some ⟨.str, 1, 16, [.pv (.str ByteArray.empty)]⟩
  | 21 => some ⟨.int .i32, 1, 4, [.pv (.int .i32 0)]⟩
  | 22 => some ⟨.slice 91, 1, 24, [.nil 91]⟩
  | 24 => some ⟨.struct [(0, 22), (1, 3)], 2, 32, [.nil 91, .pv (.int .i64 0)]⟩
  | 25 => some ⟨.slice 65, 1, 24, [.nil 65]⟩
  | 29 => some ⟨.slice 77, 1, 24, [.nil 77]⟩
  | 31 => some ⟨.struct [(0, 29), (1, 3)], 2, 32, [.nil 77, .pv (.int .i64 0)]⟩
  | 33 => some ⟨.slice 62, 1, 24, [.nil 62]⟩
  | 39 => some ⟨.slice 86, 1, 24, [.nil 86]⟩
  | 40 => some ⟨.slice 3, 1, 24, [.nil 3]⟩
  | 42 => some ⟨.struct [(0, 39), (1, 40), (2, 40), (3, 40)], 4, 96, [.nil 86, .nil 3, .nil 3, .nil 3]⟩
  | 50 => some ⟨.slice 42, 1, 24, [.nil 42]⟩
  | 62 => some ⟨.struct [(0, 3), (1, 3), (2, 3)], 3, 24, [.pv (.int .i64 0), .pv (.int .i64 0), .pv (.int .i64 0)]⟩
  | 65 => some ⟨.struct [(0, 3), (1, 3), (2, 3)], 3, 24, [.pv (.int .i64 0), .pv (.int .i64 0), .pv (.int .i64 0)]⟩
  | 77 => some ⟨.struct [(0, 3), (1, 3), (2, 3), (3, 3)], 4, 32, [.pv (.int .i64 0), .pv (.int .i64 0), .pv (.int .i64 0), .pv (.int .i64 0)]⟩
  | 86 => some ⟨.struct [(0, 3), (1, 40), (2, 40), (3, 3)], 4, 64, [.pv (.int .i64 0), .nil 3, .nil 3, .pv (.int .i64 0)]⟩
  | 91 => some ⟨.struct [(0, 3), (1, 3), (2, 3), (3, 3)], 4, 32, [.pv (.int .i64 0), .pv (.int .i64 0), .pv (.int .i64 0), .pv (.int .i64 0)]⟩
  | 96 => some ⟨.struct [(0, 9), (1, 3), (2, 3), (3, 3)], 4, 40, [.pv (.str ByteArray.empty), .pv (.int .i64 0), .pv (.int .i64 0), .pv (.int .i64 0)]⟩
  | 133 => some ⟨.int .u32, 1, 4, [.pv (.int .u32 0)]⟩
  | _ => none
theorem fit_0 : TFits Try.prog 2 ⟨.int .i64, 1, 8, [.pv (.int .i64 0)]⟩ := fits_of info_0 rfl rfl (und_0)
theorem fit_1 : TFits Try.prog 3 ⟨.int .i64, 1, 8, [.pv (.int .i64 0)]⟩ := fits_of info_1 rfl rfl (und_1)
theorem fit_2 : TFits Try.prog 4 ⟨.bool, 1, 1, [.pv (.bool false)]⟩ := fits_of info_2 rfl rfl (und_2)
theorem fit_3 : TFits Try.prog 5 ⟨.int .u8, 1, 1, [.pv (.int .u8 0)]⟩ := fits_of info_3 rfl rfl (und_3)
theorem fit_4 : TFits Try.prog 9 ⟨.str, 1, 16, [.pv (.str ByteArray.empty)]⟩ := fits_of info_4 rfl rfl (und_4)
theorem fit_5 : TFits Try.prog 21 ⟨.int .i32, 1, 4, [.pv (.int .i32 0)]⟩ := fits_of info_5 rfl rfl (und_5)
theorem fit_6 : TFits Try.prog 22 ⟨.slice 91, 1, 24, [.nil 91]⟩ := fits_of info_6 rfl rfl (und_6)
theorem fit_7 : TFits Try.prog 24 ⟨.struct [(0, 22), (1, 3)], 2, 32, [.nil 91, .pv (.int .i64 0)]⟩ := fits_struct (gs := Try.prog.fieldsOf 24) info_7 rfl rfl und_7 fld_7 fin_7
theorem fit_8 : TFits Try.prog 25 ⟨.slice 65, 1, 24, [.nil 65]⟩ := fits_of info_8 rfl rfl (und_8)
theorem fit_9 : TFits Try.prog 29 ⟨.slice 77, 1, 24, [.nil 77]⟩ := fits_of info_9 rfl rfl (und_9)
theorem fit_10 : TFits Try.prog 31 ⟨.struct [(0, 29), (1, 3)], 2, 32, [.nil 77, .pv (.int .i64 0)]⟩ := fits_struct (gs := Try.prog.fieldsOf 31) info_10 rfl rfl und_10 fld_10 fin_10
theorem fit_11 : TFits Try.prog 33 ⟨.slice 62, 1, 24, [.nil 62]⟩ := fits_of info_11 rfl rfl (und_11)
theorem fit_12 : TFits Try.prog 39 ⟨.slice 86, 1, 24, [.nil 86]⟩ := fits_of info_12 rfl rfl (und_12)
theorem fit_13 : TFits Try.prog 40 ⟨.slice 3, 1, 24, [.nil 3]⟩ := fits_of info_13 rfl rfl (und_13)
theorem fit_14 : TFits Try.prog 42 ⟨.struct [(0, 39), (1, 40), (2, 40), (3, 40)], 4, 96, [.nil 86, .nil 3, .nil 3, .nil 3]⟩ := fits_struct (gs := Try.prog.fieldsOf 42) info_14 rfl rfl und_14 fld_14 fin_14
theorem fit_15 : TFits Try.prog 50 ⟨.slice 42, 1, 24, [.nil 42]⟩ := fits_of info_15 rfl rfl (und_15)
theorem fit_16 : TFits Try.prog 62 ⟨.struct [(0, 3), (1, 3), (2, 3)], 3, 24, [.pv (.int .i64 0), .pv (.int .i64 0), .pv (.int .i64 0)]⟩ := fits_struct (gs := Try.prog.fieldsOf 62) info_16 rfl rfl und_16 fld_16 fin_16
theorem fit_17 : TFits Try.prog 65 ⟨.struct [(0, 3), (1, 3), (2, 3)], 3, 24, [.pv (.int .i64 0), .pv (.int .i64 0), .pv (.int .i64 0)]⟩ := fits_struct (gs := Try.prog.fieldsOf 65) info_17 rfl rfl und_17 fld_17 fin_17
theorem fit_18 : TFits Try.prog 77 ⟨.struct [(0, 3), (1, 3), (2, 3), (3, 3)], 4, 32, [.pv (.int .i64 0), .pv (.int .i64 0), .pv (.int .i64 0), .pv (.int .i64 0)]⟩ := fits_struct (gs := Try.prog.fieldsOf 77) info_18 rfl rfl und_18 fld_18 fin_18
theorem fit_19 : TFits Try.prog 86 ⟨.struct [(0, 3), (1, 40), (2, 40), (3, 3)], 4, 64, [.pv (.int .i64 0), .nil 3, .nil 3, .pv (.int .i64 0)]⟩ := fits_struct (gs := Try.prog.fieldsOf 86) info_19 rfl rfl und_19 fld_19 fin_19
theorem fit_20 : TFits Try.prog 91 ⟨.struct [(0, 3), (1, 3), (2, 3), (3, 3)], 4, 32, [.pv (.int .i64 0), .pv (.int .i64 0), .pv (.int .i64 0), .pv (.int .i64 0)]⟩ := fits_struct (gs := Try.prog.fieldsOf 91) info_20 rfl rfl und_20 fld_20 fin_20
theorem fit_21 : TFits Try.prog 96 ⟨.struct [(0, 9), (1, 3), (2, 3), (3, 3)], 4, 40, [.pv (.str ByteArray.empty), .pv (.int .i64 0), .pv (.int .i64 0), .pv (.int .i64 0)]⟩ := fits_struct (gs := Try.prog.fieldsOf 96) info_21 rfl rfl und_21 fld_21 fin_21
theorem fit_22 : TFits Try.prog 133 ⟨.int .u32, 1, 4, [.pv (.int .u32 0)]⟩ := fits_of info_22 rfl rfl (und_22)
theorem tb_fits (t : TypeId) (x : TI) (h : tb t = some x) : TFits Try.prog t x := by
  unfold tb at h
  split at h
  · cases h; exact fit_0
  · cases h; exact fit_1
  · cases h; exact fit_2
  · cases h; exact fit_3
  · cases h; exact fit_4
  · cases h; exact fit_5
  · cases h; exact fit_6
  · cases h; exact fit_7
  · cases h; exact fit_8
  · cases h; exact fit_9
  · cases h; exact fit_10
  · cases h; exact fit_11
  · cases h; exact fit_12
  · cases h; exact fit_13
  · cases h; exact fit_14
  · cases h; exact fit_15
  · cases h; exact fit_16
  · cases h; exact fit_17
  · cases h; exact fit_18
  · cases h; exact fit_19
  · cases h; exact fit_20
  · cases h; exact fit_21
  · cases h; exact fit_22
  · cases h
noncomputable def E : Tab := ⟨Try.prog, tb, tb_fits⟩
theorem mixed : E.P.follows .mixedOrders = true := by kernel_rfl
theorem tb_0 : E.tb 2 = some ⟨.int .i64, 1, 8, [.pv (.int .i64 0)]⟩ := rfl
theorem tb_1 : E.tb 3 = some ⟨.int .i64, 1, 8, [.pv (.int .i64 0)]⟩ := rfl
theorem tb_2 : E.tb 4 = some ⟨.bool, 1, 1, [.pv (.bool false)]⟩ := rfl
theorem tb_3 : E.tb 5 = some ⟨.int .u8, 1, 1, [.pv (.int .u8 0)]⟩ := rfl
theorem tb_4 : E.tb 9 = some ⟨.str, 1, 16, [.pv (.str ByteArray.empty)]⟩ := rfl
theorem tb_5 : E.tb 21 = some ⟨.int .i32, 1, 4, [.pv (.int .i32 0)]⟩ := rfl
theorem tb_6 : E.tb 22 = some ⟨.slice 91, 1, 24, [.nil 91]⟩ := rfl
theorem tb_7 : E.tb 24 = some ⟨.struct [(0, 22), (1, 3)], 2, 32, [.nil 91, .pv (.int .i64 0)]⟩ := rfl
theorem tb_8 : E.tb 25 = some ⟨.slice 65, 1, 24, [.nil 65]⟩ := rfl
theorem tb_9 : E.tb 29 = some ⟨.slice 77, 1, 24, [.nil 77]⟩ := rfl
theorem tb_10 : E.tb 31 = some ⟨.struct [(0, 29), (1, 3)], 2, 32, [.nil 77, .pv (.int .i64 0)]⟩ := rfl
theorem tb_11 : E.tb 33 = some ⟨.slice 62, 1, 24, [.nil 62]⟩ := rfl
theorem tb_12 : E.tb 39 = some ⟨.slice 86, 1, 24, [.nil 86]⟩ := rfl
theorem tb_13 : E.tb 40 = some ⟨.slice 3, 1, 24, [.nil 3]⟩ := rfl
theorem tb_14 : E.tb 42 = some ⟨.struct [(0, 39), (1, 40), (2, 40), (3, 40)], 4, 96, [.nil 86, .nil 3, .nil 3, .nil 3]⟩ := rfl
theorem tb_15 : E.tb 50 = some ⟨.slice 42, 1, 24, [.nil 42]⟩ := rfl
theorem tb_16 : E.tb 62 = some ⟨.struct [(0, 3), (1, 3), (2, 3)], 3, 24, [.pv (.int .i64 0), .pv (.int .i64 0), .pv (.int .i64 0)]⟩ := rfl
theorem tb_17 : E.tb 65 = some ⟨.struct [(0, 3), (1, 3), (2, 3)], 3, 24, [.pv (.int .i64 0), .pv (.int .i64 0), .pv (.int .i64 0)]⟩ := rfl
theorem tb_18 : E.tb 77 = some ⟨.struct [(0, 3), (1, 3), (2, 3), (3, 3)], 4, 32, [.pv (.int .i64 0), .pv (.int .i64 0), .pv (.int .i64 0), .pv (.int .i64 0)]⟩ := rfl
theorem tb_19 : E.tb 86 = some ⟨.struct [(0, 3), (1, 40), (2, 40), (3, 3)], 4, 64, [.pv (.int .i64 0), .nil 3, .nil 3, .pv (.int .i64 0)]⟩ := rfl
theorem tb_20 : E.tb 91 = some ⟨.struct [(0, 3), (1, 3), (2, 3), (3, 3)], 4, 32, [.pv (.int .i64 0), .pv (.int .i64 0), .pv (.int .i64 0), .pv (.int .i64 0)]⟩ := rfl
theorem tb_21 : E.tb 96 = some ⟨.struct [(0, 9), (1, 3), (2, 3), (3, 3)], 4, 40, [.pv (.str ByteArray.empty), .pv (.int .i64 0), .pv (.int .i64 0), .pv (.int .i64 0)]⟩ := rfl
theorem tb_22 : E.tb 133 = some ⟨.int .u32, 1, 4, [.pv (.int .u32 0)]⟩ := rfl
end Av
end Go.Proofs.Ytolbihilggkldaa
