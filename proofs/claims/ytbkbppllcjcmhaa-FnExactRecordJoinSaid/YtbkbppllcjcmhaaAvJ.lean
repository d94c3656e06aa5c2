/-
  One operation that only looks: loads, places, parts, lengths.
  One operation that makes or writes memory: structs, boxes, stores.
  One operation that makes or writes memory: boxes, stores, rows that are made.
  One operation that writes memory: stores; rows that are made.
  One operation that makes a row: make, and a slice that is written out.
-/
import Derived.Test.YtbkbppllcjcmhaaAvE
import Derived.Laws.CopyRow
import Derived.Laws.MakeOwn
import Derived.Laws.BytesArg
set_option linter.unusedSimpArgs false
set_option linter.unusedVariables false
namespace Go.Proofs.Ytbkbppllcjcmhaa
open Go.RowKit
namespace Av

section
variable {E : Tab} {m : Nat} {o : Oper} {w0 : W0} {w : World} {N : Nat} {S : ASt} {φ : Nat → Value} {T : Nat → Nat → Nat → Prop} {M : Nat → Prop} {a : Act} {r : ARes} {s s' : Seen}

theorem op_un {op : UnOp} {t : TypeId} {x : Operand} (ho : o.op = .unOp op t x) (h : Rel E.P w0 N S φ T M a w) (hr : (aop E m o).run S s (isRes r s')) : sure E.P o a w (After E w0 N S r a) := by
  unfold aop at hr
  rw [ho] at hr
  obtain ⟨u, s1, hr1, hu⟩ := ev_sound h hr
  split at hr1
  · have e := rd_bool (ra_pv hu)
    split at hr1
    · exact sure_value (by unfold execOp; rw [ho]; simp [e, Op.unary]) (after_ret h (.pv _ _ (.bool _)) hr1)
    · exact hr1.elim
  · rename_i k n
    have e := rd_int (ra_pv hu)
    split at hr1
    · refine sure_value (v := .int k (0 - n)) ?_ (after_ret h (.pv _ _ (.int _ _)) hr1.2)
      have e1 : (Op.unary .neg (.int k n)).run E.P w = .ok (.int k (k.wrap (0 - n))) w := rfl
      unfold execOp
      rw [ho]
      simp only [e, Sem.run_bind, e1, wrap_in hr1.1]
      rfl
    · exact hr1.elim
  · exact hr1.elim
theorem run_und {t : TypeId} {x : TI} (h : E.tb t = some x) : ∃ d, E.P.underlying t = some d ∧ (∀ k, x.kind = .int k → d = .int k) ∧ (x.kind = .str → d = .string) := by
  have hk := (E.fits t x h).kind
  cases e : x.kind with
  | int k => rw [e] at hk; exact ⟨_, hk, (fun k' e' => by cases e'; rfl), fun e' => by cases e'⟩
  | bool => rw [e] at hk; exact ⟨_, hk, (fun k' e' => by cases e'), fun e' => by cases e'⟩
  | str => rw [e] at hk; exact ⟨_, hk, (fun k' e' => by cases e'), fun _ => rfl⟩
  | slice t => rw [e] at hk; exact ⟨_, hk, (fun k' e' => by cases e'), fun e' => by cases e'⟩
  | struct fs => rw [e] at hk; obtain ⟨gs, hk, _⟩ := hk; exact ⟨_, hk, (fun k' e' => by cases e'), fun e' => by cases e'⟩
  | arr e0 n size fs => rw [e] at hk; exact ⟨_, hk.1, (fun k' e' => by cases e'), fun e' => by cases e'⟩
theorem isByte_is {r : List PV} (h : isByte r = true) : r = [.int .u8 (byteOf r)] ∧ 0 ≤ byteOf r ∧ byteOf r ≤ 255 := by
  unfold isByte at h
  split at h
  · simp only [Bool.and_eq_true, decide_eq_true_eq] at h
    exact ⟨rfl, h.1, h.2⟩
  · cases h
/-- rows of bytes are read as a text -/
theorem conv_rows {P : Program} {w : World} {M : Nat → Prop} {e1 e0 q t : TypeId} {rows : List (List PV)} {v : Value} (hp : Rd P w M (.lst e1 rows) v) (hb : allBy rows = true) (hus : P.underlying q = some (.slice e0)) (hue : P.underlying e0 = some (.int .u8)) (hut : P.underlying t = some .string) :
    (convert q t v).run P w = .ok (.string (strOf rows)) w := by
  cases hp with
  | nil _ A c =>
    cases A with
    | none => rw [run_convert_bytes_nil w q e0 hus hue 0 c t hut]; rfl
    | some A =>
      have := run_convert_bytes_back (P := P) w q t e0 A c [] hus hue hut (fun j hj => by cases hj)
      simpa [strOf] using this
  | lst _ _ b o cap f hb0 hc hM hs hcell hr =>
    have hall : ∀ r ∈ rows, isByte r = true := by simpa [allBy] using hb
    by_cases h0 : rows.length = 0
    · obtain rfl := List.eq_nil_of_length_eq_zero h0
      have := run_convert_bytes_back (P := P) w q t e0 ⟨b, o, none⟩ cap [] hus hue hut (fun j hj => by cases hj)
      simpa [strOf] using this
    · have hone : P.cellsOf e1 = 1 := by
        have hm : rows[0] ∈ rows := List.getElem_mem (by omega)
        have h1 := hs _ hm
        have h2 := congrArg List.length (isByte_is (hall _ hm)).1
        simp only [List.length_cons, List.length_nil] at h2
        omega
      have hcv : ∀ i, i < rows.length → w.cell? ⟨b, o + i, none⟩ = some (.int .u8 ((rows.map byteOf).getD i 0)) := fun i hi => by
        have hc1 := hcell i (by rw [hone]; omega)
        rw [hc1]
        have hbi := (isByte_is (hall _ (List.getElem_mem hi))).1
        have hlen : 0 < rows[i].length := by rw [hbi]; simp
        have hrd := hr i hi 0 hlen
        rw [hone, Nat.mul_one, Nat.add_zero] at hrd
        have he : rows[i][0] = .int .u8 (byteOf rows[i]) := by
          have : rows[i][0]? = some (.int .u8 (byteOf rows[i])) := by rw [hbi]; rfl
          rw [List.getElem?_eq_getElem hlen] at this
          exact Option.some.inj this
        rw [he] at hrd
        rw [rd_int hrd]
        simp [List.getD, hi]
      have := run_convert_bytes_arg (P := P) w q e0 hus hue b o rows.length cap (rows.map byteOf) (by simp) hcv t hut
      rw [this]
      simp [strOfNums, strOf, Function.comp_def]
theorem op_convert {q t : TypeId} {x : Operand} (ho : o.op = .convert q t x) (h : Rel E.P w0 N S φ T M a w) (hr : (aop E m o).run S s (isRes r s')) : sure E.P o a w (After E w0 N S r a) := by
  unfold aop at hr
  rw [ho] at hr
  simp only at hr
  split at hr
  · rename_i x0 y hx0 hy
    obtain ⟨d0, hd0, _, _⟩ := run_und hx0
    obtain ⟨d, hd, hdi, hds⟩ := run_und hy
    split at hr
    · rename_i k hk
      obtain ⟨u, s1, hr1, hu⟩ := ev_sound h hr
      split at hr1
      · have e := rd_int (ra_pv hu)
        obtain rfl := hdi k hk
        refine sure_value ?_ (after_ret h (.pv _ _ (.int _ _)) hr1.2)
        unfold execOp
        rw [ho]
        simp [convert, run_underlying hd0, run_underlying hd, e, Conv.intToInt, wrap_in hr1.1]
      · exact hr1.elim
    · rename_i hk
      split at hr
      · rename_i e0 hk0
        split at hr
        · rename_i z hz
          split at hr
          · rename_i hkz
            obtain ⟨u, s1, hr1, hu⟩ := ev_sound h hr
            obtain ⟨p, s2, hr2, hp⟩ := snap_sound h hu hr1
            split at hr2
            · rename_i e1 rows
              have hus : E.P.underlying q = some (.slice e0) := tab_slice hx0 hk0
              have hue : E.P.underlying e0 = some (.int .u8) := by
                have := (E.fits e0 z hz).kind
                rw [hkz] at this
                exact this
              have hut : E.P.underlying t = some .string := tab_str hy hk
              refine sure_value ?_ (after_ret h (.pv _ _ (.str _)) hr2.2)
              unfold execOp
              rw [ho]
              exact (Sem.run_bind ..).trans (by rw [conv_rows hp hr2.1 hus hue hut]; rfl)
            · exact hr2.elim
          · exact hr.elim
        · exact hr.elim
      · obtain ⟨u, s1, hr1, hu⟩ := ev_sound h hr
        split at hr1
        · have e := rd_str (ra_pv hu)
          obtain rfl := hds hk
          refine sure_value ?_ (after_ret h (.pv _ _ (.str _)) hr1)
          unfold execOp
          rw [ho]
          simp [convert, run_underlying hd0, run_underlying hd, e]
        · exact hr1.elim
    · exact hr.elim
  · exact hr.elim

/-- a variable of a type, loaded -/
theorem ldv_sound {t : TypeId} {x : TI} (ht : E.tb t = some x) {b q : Nat} {cs : List AV} {k : AV → Rq} {K : ARes → Seen → Prop} (hc : ∀ i (hi : i < cs.length), ∃ u, w.cell? ⟨b, q + i, none⟩ = some u ∧ RaS E w M φ S cs[i] u) (hr : (ldv x cs k).run S s K) :
    ∃ y v s1, (k y).run S s1 K ∧ RaS E w M φ S y v ∧ (Instr.loadAt t (.pointer (some ⟨b, q, none⟩))).run E.P w = .ok v w := by
  unfold ldv at hr
  have hag := tab_agg ht w
  obtain ⟨i, z, hi, _, hs, _⟩ := tab_info ht
  split at hr
  · rename_i hx
    have hlen := hr.1
    have hcl : (cs.take x.size).length = x.size := by simp; omega
    have hf : ∀ j (hj : j < cs.length), w.cell? ⟨b, q + j, none⟩ = some (hc j hj).choose ∧ RaS E w M φ S cs[j] (hc j hj).choose := fun j hj => (hc j hj).choose_spec
    have hrun := run_loadCells_list (P := E.P) w ⟨b, q, none⟩ ((List.range x.size).map fun j => if hj : j < cs.length then (hc j hj).choose else undef) (fun j v hv => by
      rw [add_at]
      rw [List.getElem?_map] at hv
      by_cases hjs : j < x.size
      · rw [List.getElem?_range hjs] at hv
        simp only [Option.map_some, Option.some.injEq] at hv
        have hjl : j < cs.length := by omega
        rw [dif_pos hjl] at hv
        rw [← hv]
        exact (hf j hjl).1
      · rw [List.getElem?_eq_none (by simpa using hjs)] at hv
        cases hv)
    refine ⟨_, _, _, hr.2, .agg _ ((List.range x.size).map fun j => if hj : j < cs.length then (hc j hj).choose else undef) (by simp; omega) (fun j hj => ?_), ?_⟩
    · have hjs : j < x.size := by omega
      have hjl : j < cs.length := by omega
      simp only [List.getElem_take, List.getElem_map, List.getElem_range, dif_pos hjl]
      exact (hf j hjl).2
    · simp only [List.length_map, List.length_range] at hrun
      simp [Instr.loadAt, Instr.sureAddr, loadVar, hag, hx, sizeOf, typeInfo, hi, hs, hrun]
  · rename_i hx
    have hx : x.agg = false := by simpa using hx
    split at hr
    · rename_i c l
      obtain ⟨u, hu, hRa⟩ := hc 0 (by simp)
      refine ⟨_, u, _, hr, hRa, ?_⟩
      simp only [Nat.add_zero] at hu
      simp [Instr.loadAt, Instr.sureAddr, loadVar, hag, hx, run_load, hu]
    · exact hr.elim
/-- a cell of a row -/
theorem row_cell {own : Bool} {e : TypeId} {rows : List (List PV)} {b g n cap : Nat} (h : Rel E.P w0 N S φ T M a w) (hb : S.h b = .row own e rows) (hv : φ b = .slice (some ⟨g, 0, none⟩) n cap) {i : Nat} (hi : i < rows.length) {j : Nat} (hj : j < rows[i].length) :
    ∃ u, w.cell? ⟨g, i * E.P.cellsOf e + j, none⟩ = some u ∧ Rd E.P w M rows[i][j] u := by
  have hB := h.blks b
  rw [hb] at hB
  obtain ⟨xs, f, ho, hs, hf, hc⟩ := hB
  have hlen : rows[i].length = E.P.cellsOf e := hs _ (List.getElem_mem hi)
  have hk : i * E.P.cellsOf e + j < rows.length * E.P.cellsOf e := by
    have : (i + 1) * E.P.cellsOf e ≤ rows.length * E.P.cellsOf e := Nat.mul_le_mul_right _ (by omega)
    rw [Nat.add_mul, Nat.one_mul] at this
    omega
  rcases row_cells ho hf with ⟨hv', h0⟩ | ⟨g', cap', hv', _, _, _, hcell⟩
  · omega
  · rw [hv] at hv'
    injection hv' with e1 _ _
    injection e1 with e1
    injection e1 with e1
    subst e1
    refine ⟨_, hcell _ hk, ?_⟩
    have := hc i hi j hj
    cases own with
    | true => exact Ow.rd this (fun g' hg' => (h.own b _ g' hg').2.2 (by rw [hb]; rfl))
    | false => exact this
theorem list_cell {e : TypeId} {rows : List (List PV)} {b q n cap : Nat} {P : Program} (h : Rd P w M (.lst e rows) (.slice (some ⟨b, q, none⟩) n cap)) {i : Nat} (hi : i < rows.length) {j : Nat} (hj : j < rows[i].length) :
    ∃ u, w.cell? ⟨b, q + (i * P.cellsOf e + j), none⟩ = some u ∧ Rd P w M rows[i][j] u := by
  cases h with
  | nil => simp at hi
  | lst _ _ _ _ _ f hb hc hM hs hcell hr =>
    have hlen : rows[i].length = P.cellsOf e := hs _ (List.getElem_mem hi)
    have hk : i * P.cellsOf e + j < rows.length * P.cellsOf e := by
      have : (i + 1) * P.cellsOf e ≤ rows.length * P.cellsOf e := Nat.mul_le_mul_right _ (by omega)
      rw [Nat.add_mul, Nat.one_mul] at this
      omega
    exact ⟨_, hcell _ hk, hr i hi j hj⟩
theorem op_load {t : TypeId} {x : Operand} (ho : o.op = .load t x) (h : Rel E.P w0 N S φ T M a w) (hr : (aop E m o).run S s (isRes r s')) : sure E.P o a w (After E w0 N S r a) := by
  unfold aop at hr
  rw [ho] at hr
  simp only at hr
  split at hr
  · rename_i y hy
    obtain ⟨p, s1, hr1, hp⟩ := ev_sound h hr
    have fin : ∀ {b q : Nat} {cs : List AV} {s2 : Seen}, a.eval x = .pointer (some ⟨b, q, none⟩) → (∀ i (hi : i < cs.length), ∃ u, w.cell? ⟨b, q + i, none⟩ = some u ∧ RaS E w M φ S cs[i] u) → (ldv y cs ret).run S s2 (isRes r s') → sure E.P o a w (After E w0 N S r a) := by
      intro b q cs s2 he hc hr2
      obtain ⟨z, v, s3, hr3, hz, hrun⟩ := ldv_sound hy hc hr2
      refine sure_value (v := v) ?_ (after_ret h hz hr3)
      unfold execOp
      rw [ho]
      simp [he, hrun]
    generalize hev : a.eval x = vx at hp
    split at hr1
    · rename_i b q
      cases hp with
      | ptr _ _ g hk hg =>
        simp only [Rq.run] at hr1
        split at hr1
        · rename_i cs hB
          have hb := h.blks b
          rw [hB] at hb
          obtain ⟨g', cur, ty, hv, _, hh, hsz, hc⟩ := hb
          rw [hg] at hv
          injection hv with hv
          injection hv with hv
          injection hv with hv
          subst hv
          refine fin hev (fun i hi => ?_) hr1
          simp only [List.length_drop] at hi
          have hq : q + i < cur.size := by omega
          refine ⟨cur[q + i], ?_, ?_⟩
          · simp [World.cell?, hh, hq]
          · rw [List.getElem_drop]
            exact hc (q + i) (by omega) hq
        · exact hr1.elim
    · rename_i b e i q
      cases hp with
      | eltS _ _ _ _ g n cap hk hg =>
        simp only [Rq.run] at hr1
        split at hr1
        · rename_i own e' rows hB
          obtain ⟨rfl, rw_, hrow, hr2⟩ := hr1
          obtain ⟨hi, rfl⟩ := List.getElem?_eq_some_iff.1 hrow
          refine fin hev (fun j hj => ?_) hr2
          simp only [List.length_map, List.length_drop] at hj
          obtain ⟨u, hu, hrd⟩ := row_cell h hB hg hi (j := q + j) (by omega)
          refine ⟨u, by rw [Nat.add_assoc]; exact hu, ?_⟩
          simp only [List.getElem_map, List.getElem_drop]
          exact .pv _ _ hrd
        · rename_i e' rows i' cs hB
          obtain ⟨⟨rfl, rfl, hleaf⟩, hr2⟩ := hr1
          have hb := h.blks b
          rw [hB] at hb
          obtain ⟨xs, f, ho, hs, hf, hi, hcl, hc, hcs⟩ := hb
          refine fin hev (fun j hj => ?_) hr2
          simp only [List.length_drop] at hj
          have hj' : q + j < cs.length := by omega
          have hne : cs[q + j] ≠ .out := fun e0 => by
            have := List.all_eq_true.1 hleaf _ (List.getElem_mem hj')
            rw [e0] at this
            cases this
          refine ⟨f (i * E.P.cellsOf e + (q + j)), ?_, ?_⟩
          · have hk : i * E.P.cellsOf e + (q + j) < rows.length * E.P.cellsOf e := by
              have : (i + 1) * E.P.cellsOf e ≤ rows.length * E.P.cellsOf e := Nat.mul_le_mul_right _ (by omega)
              rw [Nat.add_mul, Nat.one_mul] at this
              omega
            rcases row_cells ho hf with ⟨hv', h0⟩ | ⟨g', cap', hv', _, _, _, hcell⟩
            · rw [hg] at hv'; cases hv'
            · rw [hg] at hv'
              injection hv' with e1 _ _
              injection e1 with e1
              injection e1 with e1
              subst e1
              rw [Nat.add_assoc]
              exact hcell _ hk
          · rw [List.getElem_drop]
            exact hcs (q + j) hj' hne
        · exact hr1.elim
    · rename_i e rows i q
      cases hp with
      | eltP _ _ _ _ b q0 cap hrd hi =>
        obtain ⟨rw_, hrow, hr2⟩ := hr1
        obtain ⟨hi', rfl⟩ := List.getElem?_eq_some_iff.1 hrow
        refine fin hev (fun j hj => ?_) hr2
        simp only [List.length_map, List.length_drop] at hj
        obtain ⟨u, hu, hrd'⟩ := list_cell hrd hi' (j := q + j) (by omega)
        refine ⟨u, by rw [show q0 + (i * E.P.cellsOf e + q) + j = q0 + (i * E.P.cellsOf e + (q + j)) by omega]; exact hu, ?_⟩
        simp only [List.getElem_map, List.getElem_drop]
        exact .pv _ _ hrd'
    · exact hr1.elim
  · exact hr.elim
theorem field_place {g q : Nat} {f : Field} {y : TI} (hy : E.tb f.type = some y) (hn : y.size ≠ 0) : (fieldPlace ⟨g, q, none⟩ f).run E.P w = .ok ⟨g, q + f.offset, none⟩ w := by
  obtain ⟨i, z, hi, _, hs, _⟩ := tab_info hy
  simp [fieldPlace, sizeOf, typeInfo, hi, hs, hn, add_at]
theorem op_fieldAddr {t : TypeId} {x : Operand} {f : Nat} (ho : o.op = .fieldAddr t x f) (h : Rel E.P w0 N S φ T M a w) (hr : (aop E m o).run S s (isRes r s')) : sure E.P o a w (After E w0 N S r a) := by
  unfold aop at hr
  rw [ho] at hr
  simp only at hr
  split at hr
  · rename_i y hy
    split at hr
    · rename_i fs hk
      split at hr
      · rename_i off ft hf
        split at hr
        · rename_i z hz
          obtain ⟨hn, hr⟩ := hr
          obtain ⟨p, s1, hr1, hp⟩ := ev_sound h hr
          obtain ⟨gs, hu, hgs, _⟩ := tab_struct hy hk
          have hfd : ∃ fd, gs[f]? = some fd ∧ fd.offset = off ∧ fd.type = ft := by
            rw [← hgs, List.getElem?_map] at hf
            cases hg : gs.toList[f]? with
            | none => rw [hg] at hf; cases hf
            | some fd =>
              rw [hg] at hf
              simp only [Option.map_some, Option.some.injEq, Prod.mk.injEq] at hf
              exact ⟨fd, by simpa using hg, hf⟩
          obtain ⟨fd, hfd, rfl, rfl⟩ := hfd
          have run : ∀ {b q : Nat}, a.eval x = .pointer (some ⟨b, q, none⟩) → (execOp a.eval o).run E.P w = .ok (.value (.pointer (some ⟨b, q + fd.offset, none⟩))) w := fun {b q} he => by
            unfold execOp
            rw [ho]
            simp [Instr.fieldAt, run_underlying hu, he, hfd, Instr.sureAddr, field_place hz hn]
          generalize hev : a.eval x = vx at hp
          split at hr1
          · cases hp with
            | ptr _ _ g hkn hg => exact sure_value (run hev) (after_ret h (.ptr _ _ g hkn hg) hr1)
          · cases hp with
            | eltS _ _ _ _ g n cap hkn hg =>
              refine sure_value (run hev) (after_ret h ?_ hr1)
              rw [Nat.add_assoc]
              exact .eltS _ _ _ _ g n cap hkn hg
          · cases hp with
            | eltP _ _ _ _ b q cap hrd hi =>
              refine sure_value (run hev) (after_ret h ?_ hr1)
              rw [Nat.add_assoc, Nat.add_assoc]
              exact .eltP _ _ _ _ b q cap hrd hi
          · exact hr1.elim
        · exact hr.elim
      · exact hr.elim
    · exact hr.elim
  · exact hr.elim
theorem op_field {t : TypeId} {x : Operand} {f : Nat} (ho : o.op = .field t x f) (h : Rel E.P w0 N S φ T M a w) (hr : (aop E m o).run S s (isRes r s')) : sure E.P o a w (After E w0 N S r a) := by
  unfold aop at hr
  rw [ho] at hr
  simp only at hr
  split at hr
  · rename_i y hy
    split at hr
    · rename_i fs hk
      split at hr
      · rename_i off ft hf
        split at hr
        · rename_i z hz
          obtain ⟨p, s1, hr1, hp⟩ := ev_sound h hr
          obtain ⟨gs, hu, hgs, _⟩ := tab_struct hy hk
          have hfd : ∃ fd, gs[f]? = some fd ∧ fd.offset = off ∧ fd.type = ft := by
            rw [← hgs, List.getElem?_map] at hf
            cases hg : gs.toList[f]? with
            | none => rw [hg] at hf; cases hf
            | some fd =>
              rw [hg] at hf
              simp only [Option.map_some, Option.some.injEq, Prod.mk.injEq] at hf
              exact ⟨fd, by simpa using hg, hf⟩
          obtain ⟨fd, hfd, rfl, rfl⟩ := hfd
          generalize hev : a.eval x = vx at hp
          split at hr1
          · rename_i cs
            cases hp with
            | agg _ vs hl hc =>
              unfold ldv at hr1
              have hag := tab_agg hz w
              obtain ⟨i, q, hi, _, hs, _⟩ := tab_info hz
              split at hr1
              · rename_i hx
                have hlen := hr1.1
                simp only [List.length_drop] at hlen
                refine sure_value (v := .agg (vs.toArray.extract fd.offset (fd.offset + z.size))) ?_ (after_ret h ?_ hr1.2)
                · unfold execOp
                  rw [ho]
                  simp [Instr.field, run_underlying hu, hev, hfd, asAgg, part, hag, hx, sizeOf, typeInfo, hi, hs]
                · have e1 : vs.toArray.extract fd.offset (fd.offset + z.size) = ((vs.drop fd.offset).take z.size).toArray := by
                    apply Array.ext'
                    simp
                  rw [e1]
                  refine .agg _ _ (by simp; omega) (fun j hj => ?_)
                  simp only [List.length_take, List.length_drop] at hj
                  simp only [List.getElem_take, List.getElem_drop]
                  exact hc (fd.offset + j) (by omega)
              · rename_i hx
                have hx : z.agg = false := by simpa using hx
                split at hr1
                · rename_i c l hcl
                  have hlt : fd.offset < cs.length := by
                    have := congrArg List.length hcl
                    simp at this
                    omega
                  have hce : cs[fd.offset] = c := by
                    have := List.drop_eq_getElem_cons hlt
                    rw [hcl] at this
                    injection this with e1 _
                    exact e1.symm
                  refine sure_value (v := vs[fd.offset]'(by omega)) ?_ (after_ret h ?_ hr1)
                  · unfold execOp
                    rw [ho]
                    have : vs.length = cs.length := hl
                    simp [Instr.field, run_underlying hu, hev, hfd, asAgg, part, hag, hx, show fd.offset < vs.length by omega]
                  · rw [← hce]
                    exact hc fd.offset hlt
                · exact hr1.elim
          · exact hr1.elim
        · exact hr.elim
      · exact hr.elim
    · exact hr.elim
  · exact hr.elim
theorem op_extract {x : Operand} {i : Nat} (ho : o.op = .extract x i) (h : Rel E.P w0 N S φ T M a w) (hr : (aop E m o).run S s (isRes r s')) : sure E.P o a w (After E w0 N S r a) := by
  unfold aop at hr
  rw [ho] at hr
  obtain ⟨p, s1, hr1, hp⟩ := ev_sound h hr
  generalize hev : a.eval x = vx at hp
  split at hr1
  · rename_i cs
    cases hp with
    | tup _ vs hl hc =>
      split at hr1
      · rename_i y hy
        obtain ⟨hi, rfl⟩ := List.getElem?_eq_some_iff.1 hy
        refine sure_value (v := vs[i]'(by omega)) ?_ (after_ret h (hc i hi) hr1)
        unfold execOp
        rw [ho]
        simp [Instr.extract, hev, show i < vs.length by omega]
      · exact hr1.elim
  · exact hr1.elim
theorem op_indexAddr {t : TypeId} {x y : Operand} (ho : o.op = .indexAddr t x y) (h : Rel E.P w0 N S φ T M a w) (hr : (aop E m o).run S s (isRes r s')) : sure E.P o a w (After E w0 N S r a) := by
  unfold aop at hr
  rw [ho] at hr
  simp only at hr
  split at hr
  · rename_i z hz
    split at hr
    · rename_i e0 l0 size0 fs0 hk
      have hfit := (E.fits t z hz).kind
      rw [hk] at hfit
      obtain ⟨hu, ⟨i0, hi0, hs0⟩, hn0, _⟩ := hfit
      obtain ⟨p, s1, hr1, hp⟩ := ev_sound h hr
      obtain ⟨j, s2, hr2, hj⟩ := ev_sound h hr1
      split at hr2
      · rename_i k n
        have hjv := rd_int (ra_pv hj)
        split at hr2
        · rename_i b q0
          obtain ⟨⟨h0, hl⟩, hr3⟩ := hr2
          generalize hev : a.eval x = vx at hp
          cases hp with
          | ptr _ _ g hkn hg =>
            refine sure_value (v := .pointer (some ⟨g, q0 + n.toNat * size0, none⟩)) ?_ (after_ret h (.ptr _ _ g hkn hg) hr3)
            unfold execOp
            rw [ho]
            simp [Instr.indexAt, asIntOf, hjv, run_underlying hu, hev, h0, hl, sizeOf, typeInfo, hi0, hs0, add_at, Instr.sureAddr]
        · exact hr2.elim
      · exact hr2.elim
    · rename_i e hk
      split at hr
      · rename_i q hq
        obtain ⟨hpos, hr⟩ := hr
        obtain ⟨p, s1, hr1, hp⟩ := ev_sound h hr
        obtain ⟨j, s2, hr2, hj⟩ := ev_sound h hr1
        have hu := tab_slice hz hk
        obtain ⟨i, _, hi, _, hs, _⟩ := tab_info hq
        have hcs := tab_size hq
        split at hr2
        · rename_i k n
          have hjv := rd_int (ra_pv hj)
          have run : ∀ {b q0 len cap : Nat}, a.eval x = .slice (some ⟨b, q0, none⟩) len cap → 0 ≤ n → n < len → (execOp a.eval o).run E.P w = .ok (.value (.pointer (some ⟨b, q0 + n.toNat * E.P.cellsOf e, none⟩))) w := fun {b q0 len cap} he h0 hl => by
            unfold execOp
            rw [ho]
            simp [Instr.indexAt, asIntOf, hjv, run_underlying hu, he, h0, hl, sizeOf, typeInfo, hi, hs, add_at, hcs]
          have plain : ∀ {rows : List (List PV)}, Rd E.P w M (.lst e rows) (a.eval x) → 0 ≤ n → n < rows.length → ∀ {s3 : Seen}, (ret (.eltP e rows n.toNat 0)).run S s3 (isRes r s') → sure E.P o a w (After E w0 N S r a) := fun {rows} hrd h0 hl s3 hr3 => by
            generalize hev : a.eval x = vx at hrd
            have hrd' := hrd
            cases hrd with
            | nil => simp at hl; omega
            | lst _ _ b q0 cap =>
              refine sure_value (run hev h0 hl) (after_ret h ?_ hr3)
              rw [show q0 + n.toNat * E.P.cellsOf e = q0 + (n.toNat * E.P.cellsOf e + 0) by omega]
              exact .eltP _ _ _ _ b q0 cap hrd' (by omega)
          split at hr2
          · rename_i b
            simp only [Rq.run] at hr2
            split at hr2
            · rename_i own e' rows hB
              obtain ⟨⟨rfl, h0, hl⟩, hr3⟩ := hr2
              have hb := h.blks b
              rw [hB] at hb
              obtain ⟨xs, f, hown, _, hf, _⟩ := hb
              generalize hev : a.eval x = vx at hp
              cases hp with
              | sl _ hkn =>
                rcases row_cells hown hf with ⟨hv, h0'⟩ | ⟨g, cap, hv, _⟩
                · omega
                · refine sure_value (run (hev.trans hv) h0 (by omega)) (after_ret h ?_ hr3)
                  rw [show 0 + n.toNat * E.P.cellsOf e = n.toNat * E.P.cellsOf e + 0 by omega]
                  exact .eltS b e n.toNat 0 g _ cap hkn hv
            · rename_i e' rows hB
              obtain ⟨⟨rfl, h0, hl⟩, hr3⟩ := hr2
              have hb := h.blks b
              rw [hB] at hb
              have hp' : Rd E.P w M (.lst e rows) (a.eval x) := by
                generalize hev : a.eval x = vx at hp
                cases hp with
                | sl _ hkn => exact hb
              exact plain hp' h0 hl hr3
            · rename_i e' rows i' cs hB
              obtain ⟨⟨rfl, h0, hl⟩, hr3⟩ := hr2
              have hb := h.blks b
              rw [hB] at hb
              obtain ⟨xs, f, hown, _, hf, _⟩ := hb
              generalize hev : a.eval x = vx at hp
              cases hp with
              | sl _ hkn =>
                rcases row_cells hown hf with ⟨hv, h0'⟩ | ⟨g, cap, hv, _⟩
                · omega
                · refine sure_value (run (hev.trans hv) h0 (by omega)) (after_ret h ?_ hr3)
                  rw [show 0 + n.toNat * E.P.cellsOf e = n.toNat * E.P.cellsOf e + 0 by omega]
                  exact .eltS b e n.toNat 0 g _ cap hkn hv
            · exact hr2.elim
          · rename_i e' rows
            obtain ⟨⟨rfl, h0, hl⟩, hr3⟩ := hr2
            exact plain (ra_pv hp) h0 hl hr3
          · exact hr2.elim
        · exact hr2.elim
      · exact hr.elim
    · exact hr.elim
  · exact hr.elim
theorem op_index {t : TypeId} {x y : Operand} (ho : o.op = .index t x y) (h : Rel E.P w0 N S φ T M a w) (hr : (aop E m o).run S s (isRes r s')) : sure E.P o a w (After E w0 N S r a) := by
  unfold aop at hr
  rw [ho] at hr
  simp only at hr
  split at hr
  · rename_i z hz
    split at hr
    · rename_i hk
      obtain ⟨p, s1, hr1, hp⟩ := ev_sound h hr
      obtain ⟨j, s2, hr2, hj⟩ := ev_sound h hr1
      split at hr2
      · rename_i b k n
        have hjv := rd_int (ra_pv hj)
        have hsv := rd_str (ra_pv hp)
        obtain ⟨⟨h0, hl⟩, hr3⟩ := hr2
        have hlt : n.toNat < b.size := by omega
        refine sure_value (v := .int .u8 (byteAt b n.toNat)) ?_ (after_ret h (.pv _ _ (.int _ _)) hr3)
        unfold execOp
        rw [ho]
        simp [Instr.index, asIntOf, hjv, hsv, run_underlying (tab_str hz hk), h0, byteAt, hlt]
      · exact hr2.elim
    · exact hr.elim
  · exact hr.elim
theorem len_sound {t ty : TypeId} {z : TI} (hz : E.tb t = some z) {x : AV} {v : Value} (hx : RaS E w M φ S x v) (h : Rel E.P w0 N S φ T M a w) (hr : (lenQ z.kind x).run S s (isRes r s')) :
    ∃ u, (Builtin.len_ #[t] ty #[v]).run E.P w = .ok u w ∧ After E w0 N S r a u w := by
  cases hk : z.kind with
  | str =>
    rw [hk] at hr
    unfold lenQ at hr
    split at hr
    · obtain rfl := rd_str (ra_pv hx)
      exact ⟨_, by simp [Builtin.len_, run_underlying (tab_str hz hk), goInt], after_ret h (.pv _ _ (.int _ _)) hr⟩
    · rename_i e; cases e
    · exact hr.elim
  | slice e =>
    rw [hk] at hr
    unfold lenQ at hr
    obtain ⟨p, s1, hr1, hp⟩ := snap_sound h hx hr
    split at hr1
    · obtain ⟨A, c, rfl⟩ := rd_slice hp
      exact ⟨_, by simp [Builtin.len_, run_underlying (tab_slice hz hk), goInt], after_ret h (.pv _ _ (.int _ _)) hr1⟩
    · exact hr1.elim
  | int => rw [hk] at hr; exact hr.elim
  | arr => rw [hk] at hr; exact hr.elim
  | bool => rw [hk] at hr; exact hr.elim
  | struct => rw [hk] at hr; exact hr.elim
theorem op_len {c : Call} (ho : o.op = .call c) (hc : c.callee = .builtin .len) (h : Rel E.P w0 N S φ T M a w) (hr : (aop E m o).run S s (isRes r s')) : sure E.P o a w (After E w0 N S r a) := by
  obtain ⟨cc, ⟨args⟩, ⟨tys⟩⟩ := c
  simp only at hc
  subst hc
  unfold aop at hr
  rw [ho] at hr
  simp only at hr
  split at hr
  · rename_i x t
    split at hr
    · rename_i z hz
      obtain ⟨p, s1, hr1, hp⟩ := ev_sound h hr
      obtain ⟨u, hu, haf⟩ := len_sound (ty := o.type) hz hp h hr1
      refine sure_value (v := u) ?_ haf
      unfold execOp
      rw [ho]
      simp [resolve, invoke, builtin, hu]
    · exact hr.elim
  · exact hr.elim
theorem op_min {c : Call} (ho : o.op = .call c) (hc : c.callee = .builtin .min) (h : Rel E.P w0 N S φ T M a w) (hr : (aop E m o).run S s (isRes r s')) : sure E.P o a w (After E w0 N S r a) := by
  obtain ⟨cc, ⟨args⟩, tys⟩ := c
  simp only at hc
  subst hc
  unfold aop at hr
  rw [ho] at hr
  simp only at hr
  split at hr
  · rename_i x y
    obtain ⟨p, s1, hr1, hp⟩ := ev_sound h hr
    obtain ⟨q, s2, hr2, hq⟩ := ev_sound h hr1
    split at hr2
    · have e1 := rd_int (ra_pv hp)
      have e2 := rd_int (ra_pv hq)
      refine sure_value ?_ (after_ret h (.pv _ _ (.int _ _)) hr2)
      unfold execOp
      rw [ho]
      simp [resolve, invoke, builtin, Builtin.min_, Builtin.min2, e1, e2]
    · exact hr2.elim
  · exact hr.elim
theorem op_max {c : Call} (ho : o.op = .call c) (hc : c.callee = .builtin .max) (h : Rel E.P w0 N S φ T M a w) (hr : (aop E m o).run S s (isRes r s')) : sure E.P o a w (After E w0 N S r a) := by
  obtain ⟨cc, ⟨args⟩, tys⟩ := c
  simp only at hc
  subst hc
  unfold aop at hr
  rw [ho] at hr
  simp only at hr
  split at hr
  · rename_i x y
    obtain ⟨p, s1, hr1, hp⟩ := ev_sound h hr
    obtain ⟨q, s2, hr2, hq⟩ := ev_sound h hr1
    split at hr2
    · have e1 := rd_int (ra_pv hp)
      have e2 := rd_int (ra_pv hq)
      refine sure_value ?_ (after_ret h (.pv _ _ (.int _ _)) hr2)
      unfold execOp
      rw [ho]
      simp [resolve, invoke, builtin, Builtin.max_, Builtin.max2, e1, e2]
    · exact hr2.elim
  · exact hr.elim
end
end Av
end Go.Proofs.Ytbkbppllcjcmhaa

namespace Go.Proofs.Ytbkbppllcjcmhaa
open Go.RowKit
namespace Av

theorem setL_length {α : Type} : ∀ (xs cs : List α) (o : Nat), (setL cs o xs).length = cs.length
  | [], _, _ => rfl
  | x :: l, cs, o => by unfold setL; rw [setL_length l]; simp
theorem setL_eq {α : Type} : ∀ (xs cs : List α) (o : Nat), o + xs.length ≤ cs.length → setL cs o xs = cs.take o ++ xs ++ cs.drop (o + xs.length)
  | [], cs, o, _ => by simp [setL]
  | x :: l, cs, o, h => by
    simp only [List.length_cons] at h
    unfold setL
    rw [setL_eq l _ _ (by simp; omega)]
    have h1 : (cs.set o x).take (o + 1) = cs.take o ++ [x] := by
      rw [List.take_set, List.take_succ_eq_append_getElem (by omega), List.set_append_right _ _ (by simp; omega)]
      simp [Nat.min_eq_left (show o ≤ cs.length by omega)]
    have h2 : (cs.set o x).drop (o + 1 + l.length) = cs.drop (o + (l.length + 1)) := by
      rw [List.drop_set_of_lt (by omega), show o + 1 + l.length = o + (l.length + 1) by omega]
    rw [h1, h2]
    simp
/-- pointwise -/
def CR (R : AV → Value → Prop) (cs : List AV) (vs : List Value) : Prop := ∃ he : vs.length = cs.length, ∀ i (hi : i < cs.length), R cs[i] (vs[i]'(by omega))
theorem CR.set {R : AV → Value → Prop} {cs : List AV} {vs : List Value} (h : CR R cs vs) {x : AV} {u : Value} (hx : R x u) (o : Nat) : CR R (cs.set o x) (vs.set o u) := by
  obtain ⟨he, h⟩ := h
  refine ⟨by simp [he], fun i hi => ?_⟩
  simp only [List.getElem_set]
  split
  · exact hx
  · exact h i (by simpa using hi)
theorem CR.setL {R : AV → Value → Prop} : ∀ {xs : List AV} {us : List Value} {cs : List AV} {vs : List Value} (_ : CR R cs vs) (_ : CR R xs us) (o : Nat), CR R (setL cs o xs) (setL vs o us)
  | [], [], _, _, h, _, _ => h
  | [], _ :: _, _, _, _, ⟨he, _⟩, _ => by simp at he
  | _ :: _, [], _, _, _, ⟨he, _⟩, _ => by simp at he
  | x :: xs, u :: us, cs, vs, h, ⟨he, hx⟩, o => by
    unfold Av.setL
    exact CR.setL (h.set (hx 0 (by simp)) o) ⟨by simpa using he, fun i hi => hx (i + 1) (by simpa using hi)⟩ (o + 1)
theorem fold_setL (off : Nat) : ∀ (us : List Value) (k : Nat) (arr : Array Value), (us.zipIdx k).foldl (fun cs p => cs.setIfInBounds (off + p.2) p.1) arr = (setL arr.toList (off + k) us).toArray
  | [], _, _ => by simp [setL]
  | u :: us, k, arr => by
    simp only [List.zipIdx_cons, List.foldl_cons]
    rw [fold_setL off us (k + 1)]
    simp [setL, Nat.add_assoc]

section
variable {E : Tab} {m : Nat} {o : Oper} {w0 : W0} {w : World} {N : Nat} {S : ASt} {φ : Nat → Value} {T : Nat → Nat → Nat → Prop} {M : Nat → Prop} {a : Act} {r : ARes} {s s' : Seen}
theorem cellsRa_cr {cs : List AV} {v : Value} (h : CellsRa E w M φ S cs v) : CR (RaS E w M φ S) cs v.cells.toList := by
  obtain ⟨he, h⟩ := h
  exact ⟨by simpa using he, fun i hi => by simpa using h i hi⟩
/-- a struct of its parts -/
theorem buildQ_sound {fs : List (Nat × TypeId)} {gs : Array Field} {pl : Array (Nat × Nat)} {K : ARes → Seen → Prop} (h : Rel E.P w0 N S φ T M a w) (hfs : gs.toList.map (fun f => (f.offset, f.type)) = fs)
    (hpl : ∀ (i : Nat) (f : Field), gs[i]? = some f → ∀ y, E.tb f.type = some y → pl[i]? = some (f.offset, y.size)) :
    ∀ {parts : List (Nat × Operand)} {cs : List AV} {vs : Array Value} {k : List AV → Rq} {s : Seen}, CR (RaS E w M φ S) cs vs.toList → (buildQ E fs parts cs k).run S s K →
      ∃ cs' vs' s1, (k cs').run S s1 K ∧ CR (RaS E w M φ S) cs' vs'.toList ∧ Instr.fill (pl[·]?) vs (parts.map fun p => (p.1, a.eval p.2)) = some vs'
  | [], cs, vs, k, s, hc, hr => ⟨cs, vs, s, hr, hc, rfl⟩
  | (i, x) :: l, cs, vs, k, s, hc, hr => by
    unfold buildQ at hr
    split at hr
    · rename_i off ft hf
      split at hr
      · rename_i y hy
        obtain ⟨u, s1, hr1, hu⟩ := ev_sound h hr
        obtain ⟨xs, s2, hr2, hxs⟩ := cellsOf_sound h hu hr1
        obtain ⟨⟨hl1, hl2⟩, hr3⟩ := hr2
        have hfd : ∃ fd, gs[i]? = some fd ∧ fd.offset = off ∧ fd.type = ft := by
          rw [← hfs, List.getElem?_map] at hf
          cases hg : gs.toList[i]? with
          | none => rw [hg] at hf; cases hf
          | some fd =>
            rw [hg] at hf
            simp only [Option.map_some, Option.some.injEq, Prod.mk.injEq] at hf
            exact ⟨fd, by simpa using hg, hf⟩
        obtain ⟨fd, hfd, rfl, rfl⟩ := hfd
        have hp := hpl i fd hfd y hy
        have hcr := cellsRa_cr hxs
        have hsz : (a.eval x).cells.size = xs.length := by simpa using hcr.1
        have hvs : vs.size = cs.length := by simpa using hc.1
        obtain ⟨cs', vs', s3, h1, h2, h3⟩ := buildQ_sound h hfs hpl (parts := l) (vs := (setL vs.toList fd.offset (a.eval x).cells.toList).toArray) (by simpa using hc.setL hcr fd.offset) hr3
        refine ⟨cs', vs', s3, h1, h2, ?_⟩
        have hfo := fold_setL fd.offset (a.eval x).cells.toList 0 vs
        have hfo' : (a.eval x).cells.zipIdx.foldl (fun cs p => cs.setIfInBounds (fd.offset + p.2) p.1) vs = (setL vs.toList fd.offset (a.eval x).cells.toList).toArray := by
          rw [← Array.foldl_toList, Array.toList_zipIdx]
          simpa using hfo
        simp only [List.map_cons, Instr.fill, hp]
        rw [if_neg (by simp; omega)]
        rw [← h3, ← hfo']
      · exact hr.elim
    · exact hr.elim
theorem zero_cr {x : TI} {z : Value} (hz : z.cells.toList.map some = x.zero.map zv) : CR (RaS E w M φ S) x.zero z.cells.toList := by
  have hl : z.cells.toList.length = x.zero.length := by simpa using congrArg List.length hz
  refine ⟨hl, fun i hi => ?_⟩
  have h1 := congrArg (·[i]?) hz
  simp only [List.getElem?_map, List.getElem?_eq_getElem hi, List.getElem?_eq_getElem (show i < z.cells.toList.length by omega), Option.map_some, Option.some.injEq] at h1
  generalize x.zero[i] = y at h1
  generalize z.cells.toList[i]'(by omega) = u at h1
  unfold zv at h1
  split at h1
  · injection h1 with h1; subst h1; exact .pv _ _ (.int _ _)
  · injection h1 with h1; subst h1; exact .pv _ _ (.bool _)
  · injection h1 with h1; subst h1; exact .pv _ _ (.str _)
  · injection h1 with h1; subst h1; exact .nil _
  · cases h1
theorem run_places {P : Program} {W : World} {g : Field → Sem (Nat × Nat)} : ∀ {gs : List Field} (_ : ∀ f ∈ gs, (g f).run P W = .ok (f.offset, P.cellsOf f.type) W), (gs.mapM g).run P W = .ok (gs.map fun (f : Field) => (f.offset, P.cellsOf f.type)) W
  | [], _ => rfl
  | f :: l, h => by
    have ih := run_places (P := P) (W := W) (gs := l) (fun g hg => h g (List.mem_cons_of_mem _ hg))
    simp only [List.mapM_cons, Sem.run_bind, h f (List.mem_cons_self ..), Result.andThen_ok, ih, Sem.run_pure, List.map_cons]
theorem run_placesA {P : Program} {W : World} {g : Field → Sem (Nat × Nat)} {gs : Array Field} (h : ∀ f ∈ gs.toList, (g f).run P W = .ok (f.offset, P.cellsOf f.type) W) : (gs.mapM g).run P W = .ok (gs.toList.map fun (f : Field) => (f.offset, P.cellsOf f.type)).toArray W := by
  rw [Array.mapM_eq_mapM_toList]
  have := run_places (P := P) (W := W) h
  simp [this]
theorem fill_more {p q : Nat → Option (Nat × Nat)} (h : ∀ i x, p i = some x → q i = some x) : ∀ {l : List (Nat × Value)} {cs out : Array Value}, Instr.fill p cs l = some out → Instr.fill q cs l = some out
  | [], cs, out, hf => hf
  | (i, v) :: l, cs, out, hf => by
    unfold Instr.fill at hf ⊢
    cases hp : p i with
    | none => rw [hp] at hf; cases hf
    | some x =>
      rw [hp] at hf
      rw [h i x hp]
      obtain ⟨off, size⟩ := x
      simp only at hf ⊢
      split at hf
      · cases hf
      · rename_i hc
        rw [if_neg hc]
        exact fill_more h hf
theorem op_build {t : TypeId} {parts : Array (Nat × Operand)} (ho : o.op = .build t parts) (h : Rel E.P w0 N S φ T M a w) (hr : (aop E m o).run S s (isRes r s')) : sure E.P o a w (After E w0 N S r a) := by
  unfold aop at hr
  rw [ho] at hr
  simp only at hr
  split at hr
  · rename_i y hy
    split at hr
    · rename_i fs hk
      obtain ⟨gs, hu, hgs, hin⟩ := tab_struct hy hk
      obtain ⟨i, z, hi, hz, hs, _, hzz, _⟩ := tab_info hy
      have hpl : ∀ (i : Nat) (f : Field), gs[i]? = some f → ∀ y, E.tb f.type = some y → ((gs.toList.map fun (f : Field) => (f.offset, E.P.cellsOf f.type)).toArray)[i]? = some (f.offset, y.size) := fun i f hf y hy => by
        have hf' : gs.toList[i]? = some f := by simpa using hf
        simp [hf, tab_size hy]
      obtain ⟨cs', vs', s1, hr1, hcr, hfill⟩ := buildQ_sound h hgs hpl (parts := parts.toList) (vs := z.cells) (zero_cr hzz) hr
      refine sure_value (v := .agg vs') ?_ (after_ret h ?_ hr1)
      · have hfill' : Instr.fill (fun i => ((gs.toList.map fun (f : Field) => (f.offset, E.P.cellsOf f.type)).toArray)[i]?) z.cells (parts.map fun x => (x.1, a.eval x.2)).toList = some vs' := by
          rw [← hfill]; simp
        have e0 : (zeroValue t).run E.P w = .ok z w := by simp [zeroValue, typeInfo, hi, hz]
        have e1 : (Instr.build t (parts.map fun x => (x.1, a.eval x.2))).run E.P w = .ok (.agg vs') w := by
          unfold Instr.build
          rw [Sem.run_bind, e0, Result.andThen_ok, Sem.run_bind, run_underlying hu, Result.andThen_ok, Sem.run_bind, run_placesA (fun f hf => ?_), Result.andThen_ok, hfill']
          · rfl
          · obtain ⟨j, hj⟩ := Option.isSome_iff_exists.1 (hin f hf)
            simp [sizeOf, typeInfo, hj, Program.cellsOf]
        unfold execOp
        rw [ho]
        exact (Sem.run_bind ..).trans (by rw [e1]; rfl)
      · obtain ⟨he, hc⟩ := hcr
        have := Ra.agg (P := E.P) (w := w) (M := M) (φ := φ) (L := fun b => (S.h b).known = true) cs' vs'.toList he hc
        simpa using this
    · rename_i e0 n0 size0 fs hk
      have hfit := (E.fits t y hy).kind
      rw [hk] at hfit
      obtain ⟨hu, ⟨i0, hi0, hs0⟩, hn0, rfl⟩ := hfit
      obtain ⟨i, z, hi, hz, hs, _, hzz, _⟩ := tab_info hy
      have hgs : (((List.range n0).map fun j => (⟨"", e0, j * size0, false, "", "", 0⟩ : Field)).toArray).toList.map (fun f => (f.offset, f.type)) = (List.range n0).map fun i => (i * size0, e0) := by simp
      have hpl : ∀ (i : Nat) (f : Field), (((List.range n0).map fun j => (⟨"", e0, j * size0, false, "", "", 0⟩ : Field)).toArray)[i]? = some f → ∀ y, E.tb f.type = some y → (((List.range n0).map fun j => (j * size0, size0)).toArray)[i]? = some (f.offset, y.size) := fun i f hf y hy => by
        rw [List.getElem?_toArray, List.getElem?_map] at hf ⊢
        cases hr0 : (List.range n0)[i]? with
        | none => rw [hr0] at hf; cases hf
        | some j =>
          rw [hr0] at hf
          simp only [Option.map_some, Option.some.injEq] at hf ⊢
          subst hf
          obtain ⟨i1, _, hi1, _, hs1, _⟩ := tab_info hy
          simp only at hi1
          rw [hi0] at hi1
          injection hi1 with hi1
          subst hi1
          rw [← hs1, hs0]
      obtain ⟨cs', vs', s1, hr1, hcr, hfill⟩ := buildQ_sound h hgs hpl (parts := parts.toList) (vs := z.cells) (zero_cr hzz) hr
      refine sure_value (v := .agg vs') ?_ (after_ret h ?_ hr1)
      · have hfill' : Instr.fill (fun i => some (i * size0, size0)) z.cells (parts.map fun x => (x.1, a.eval x.2)).toList = some vs' := by
          refine fill_more (fun j q hq => ?_) (by simpa using hfill)
          cases hr0 : (List.range n0)[j]? with
          | none => rw [hr0] at hq; cases hq
          | some j' =>
            rw [hr0] at hq
            have hj : j' = j := by
              have hjl := (List.getElem?_eq_some_iff.1 hr0)
              obtain ⟨h1, h2⟩ := hjl
              simpa using h2.symm
            subst hj
            simpa using hq
        have e0' : (zeroValue t).run E.P w = .ok z w := by simp [zeroValue, typeInfo, hi, hz]
        have e1 : (Instr.build t (parts.map fun x => (x.1, a.eval x.2))).run E.P w = .ok (.agg vs') w := by
          unfold Instr.build
          rw [Sem.run_bind, e0', Result.andThen_ok, Sem.run_bind, run_underlying hu, Result.andThen_ok]
          simp only
          have e2 : (sizeOf e0).run E.P w = .ok size0 w := by simp [sizeOf, typeInfo, hi0, hs0]
          rw [Sem.run_bind, e2, Result.andThen_ok, hfill']
          rfl
        unfold execOp
        rw [ho]
        exact (Sem.run_bind ..).trans (by rw [e1]; rfl)
      · obtain ⟨he, hc⟩ := hcr
        have := Ra.agg (P := E.P) (w := w) (M := M) (φ := φ) (L := fun b => (S.h b).known = true) cs' vs'.toList he hc
        simpa using this
    · exact hr.elim
  · exact hr.elim
end
end Av
end Go.Proofs.Ytbkbppllcjcmhaa

namespace Go.Proofs.Ytbkbppllcjcmhaa
open Go.RowKit
namespace Av

section
variable {P : Program} {w0 : W0} {w w' : World} {N : Nat} {S : ASt} {φ : Nat → Value} {T : Nat → Nat → Nat → Prop} {M : Nat → Prop} {a : Act}
/-- no nested memory of entry m -/
def noT (T : Nat → Nat → Nat → Prop) (m : Nat) (x : Nat) (k g : Nat) : Prop := x ≠ m ∧ T x k g
theorem noT_ne {b x : Nat} (hx : x ≠ b) : noT T b x = T x := by funext k g; simp [noT, hx]
/-- a block is told of no more, nor what lies below it -/
theorem Rel.killT (h : Rel P w0 N S φ T M a w) (b : Nat) : Rel P w0 N ⟨S.t, upd S.h b .dead⟩ φ (noT T b) M a w := by
  have hk : ∀ x, (S.h x).known = true → ((upd S.h b .dead x).known = true) ∧ φ x = φ x := fun x hx => by
    unfold upd; split
    · exact ⟨rfl, rfl⟩
    · exact ⟨hx, rfl⟩
  have hl : ∀ x, ((upd S.h b .dead x).live = true) → (S.h x).live = true := fun x hx => by
    unfold upd at hx; split at hx
    · cases hx
    · exact hx
  have hne : ∀ {x : Nat}, x ≠ b → upd S.h b .dead x = S.h x := fun hx => by simp [upd, hx]
  refine ⟨h.below, h.defers, h.size, fun t => (h.slots t).keep (fun _ _ h => h) hk, fun x => ?_, fun x g hx => h.mutb x g (hl x hx), h.mlt, h.amb, fun x y g hx hy => h.disj x y g (hl x hx) (hl y hy), fun x k g ht => ?_, fun x k g ht hx => ?_, fun x k y k' g ht ht' => h.apart x k y k' g ht.2 ht'.2⟩
  · by_cases e : x = b
    · subst e
      show BlkOk _ _ _ _ _ _ _ _ (upd S.h x .dead x)
      rw [show upd S.h x .dead x = .dead by simp [upd]]
      trivial
    · show BlkOk _ _ _ _ _ _ _ _ (upd S.h b .dead x)
      rw [hne e, noT_ne e]
      exact (h.blks x).keep (fun _ _ h => h) (fun _ _ _ h => h) hk (fun _ _ _ => rfl)
  · obtain ⟨h1, h2, h3⟩ := h.own x k g ht.2
    exact ⟨h1, h2, fun hx => h3 (by have hx' : (upd S.h b .dead x).isTree = false := hx; rw [hne ht.1] at hx'; exact hx')⟩
  · have hx' : (upd S.h b .dead x).isTree = true := hx
    rw [hne ht.1] at hx'
    exact ⟨(h.tree x k g ht.2 hx').1, fun b' hb' => (h.tree x k g ht.2 hx').2 b' (hl b' hb')⟩
/-- a new entry over new memory -/
theorem Rel.new (h : Rel P w0 N S φ T M a w) {m : Nat} (hm : S.h m = .none) (hg : w.grownBy w' none) {B : Blk} (hB : B.known = true) {v : Value} (hv : ∀ g, blk v = some g → w.heap.size ≤ g ∧ g < w'.heap.size) (T' : Nat → Nat → Nat → Prop)
    (hBt : B.isTree = false) (hT : ∀ x k g, T' x k g → x ≠ m → T x k g) (hTl : ∀ x, x ≠ m → (∃ e rows, S.h x = .row true e rows ∨ S.h x = .tree e rows ∨ ∃ i cs, S.h x = .opn e rows i cs) → T' x = T x)
    (hTb : ∀ k g, T' m k g → (w0.heap.size ≤ g ∧ g < w.heap.size ∧ ¬ M g) ∧ (∀ k', T' m k' g → k = k') ∧ ∀ x k', x ≠ m → ¬ T' x k' g)
    (hk : BlkOk P w0 w' (fun g => M g ∨ blk v = some g) (upd φ m v) (fun x => (upd S.h m B x).known = true) v (T' m) B) :
    Rel P w0 N ⟨S.t, upd S.h m B⟩ (upd φ m v) T' (fun g => M g ∨ blk v = some g) a w' := by
  have h1 := h.grown hg (fun g e => by cases e) (fun g => blk v = some g) hv
  refine h1.set m B v T' hB (by rw [hm]; rfl) (fun hkn => by rw [hm] at hkn; cases hkn) hk (fun _ g e => ⟨.inr e, fun b' _ hl e' => ?_, fun x k _ _ ht => ?_⟩) hT hTl (fun k g ht => ?_) (fun _ ht => by rw [hBt] at ht; cases ht)
  · have := h.mlt g (h.mutb b' g hl e')
    have := (hv g e).1
    omega
  · have := (h.own x k g ht).2.1
    have := (hv g e).1
    omega
  · obtain ⟨⟨h1, h2, h3⟩, h4, h5⟩ := hTb k g ht
    exact ⟨⟨h1, Nat.lt_of_lt_of_le h2 hg.size, fun _ hmm => hmm.elim h3 (fun e => by have := (hv g e).1; omega), fun e => by rw [hBt] at e; cases e⟩, h4, h5⟩
theorem known_upd {S : ASt} {m : Nat} (hm : S.h m = .none) {B : Blk} {v : Value} : ∀ x, (S.h x).known = true → ((upd S.h m B x).known = true) ∧ upd φ m v x = φ x := fun x hx => by
  unfold upd
  split
  · rename_i e; subst e; rw [hm] at hx; cases hx
  · exact ⟨hx, rfl⟩
/-- a new entry without memory below it -/
theorem Rel.new0 (h : Rel P w0 N S φ T M a w) {m : Nat} (hm : S.h m = .none) (hg : w.grownBy w' none) {B : Blk} (hBt : B.isTree = false) (hB : B.known = true) {v : Value} (hv : ∀ g, blk v = some g → w.heap.size ≤ g ∧ g < w'.heap.size)
    (hk : BlkOk P w0 w' (fun g => M g ∨ blk v = some g) (upd φ m v) (fun x => (upd S.h m B x).known = true) v (fun _ _ => False) B) :
    Rel P w0 N ⟨S.t, upd S.h m B⟩ (upd φ m v) (noT T m) (fun g => M g ∨ blk v = some g) a w' := by
  have e : noT T m m = fun _ _ => False := by funext k g; simp [noT]
  exact h.new hm hg hB hv (noT T m) hBt (fun x k g hx _ => hx.2) (fun x hx _ => by funext k g; simp [noT, hx]) (fun k g ht => absurd rfl ht.1) (by rw [e]; exact hk)
theorem blk_ptr (g o : Nat) : ∀ k, blk (.pointer (some ⟨g, o, none⟩)) = some k → k = g := fun k e => by simp [blk] at e; exact e.symm
theorem blk_slice (g o n c : Nat) : ∀ k, blk (.slice (some ⟨g, o, none⟩) n c) = some k → k = g := fun k e => by simp [blk] at e; exact e.symm
theorem blk_own (v : Value) (hv : ∃ A n c, v = .slice A n c) : blk v = v.ownBlock := by
  obtain ⟨A, n, c, rfl⟩ := hv
  cases A <;> rfl
/-- a new box -/
theorem Rel.newBox (h : Rel P w0 N S φ T M a w) {m : Nat} (hm : S.h m = .none) {cs : List AV} {arr : Array Value} (ty : TypeId) (hc : CR (Ra P w M φ (fun b => (S.h b).known = true)) cs arr.toList) :
    Rel P w0 N ⟨S.t, upd S.h m (.box cs)⟩ (upd φ m (.pointer (some ⟨w.heap.size, 0, none⟩))) (noT T m) (fun g => M g ∨ blk (.pointer (some ⟨w.heap.size, 0, none⟩)) = some g) a (w.alloc (.cells arr ty)) := by
  refine h.new0 hm (World.grownBy_alloc w _ none) rfl rfl (fun g e => by have := blk_ptr _ _ _ e; subst this; simp) ?_
  refine ⟨w.heap.size, arr, ty, rfl, h.below.size, heap_alloc_new w _, by simpa using hc.1, fun i hi hj => ?_⟩
  have := hc.2 i hi
  simp only [Array.getElem_toList] at this
  exact this.keep (fun p v hr => hr.keep ⟨by simp, fun b hb _ => Below.heap_alloc w _ b hb⟩ (fun b hb hm' => hm'.resolve_right (fun e => by have := blk_ptr _ _ _ e; omega))) (known_upd hm)
end
section
variable {E : Tab} {m : Nat} {o : Oper} {w0 : W0} {w : World} {N : Nat} {S : ASt} {φ : Nat → Value} {T : Nat → Nat → Nat → Prop} {M : Nat → Prop} {a : Act} {r : ARes} {s s' : Seen}
theorem upd_same {α : Type} (f : Nat → α) (k : Nat) (v : α) : upd f k v k = v := by simp [upd]
theorem op_alloc {t : TypeId} (ho : o.op = .alloc t) (hm : S.h m = .none) (h : Rel E.P w0 N S φ T M a w) (hr : (aop E m o).run S s (isRes r s')) : sure E.P o a w (After E w0 N S r a) := by
  unfold aop at hr
  rw [ho] at hr
  simp only at hr
  split at hr
  · rename_i x hx
    obtain ⟨i, z, hi, hz, hs, _, hzz, hsz⟩ := tab_info hx
    obtain ⟨rfl, _⟩ := hr
    have h1 := h.newBox hm t (arr := z.cells) (zero_cr hzz)
    refine sure_value (v := .pointer (some ⟨w.heap.size, 0, none⟩)) (w' := w.alloc (.cells z.cells t)) ?_ ⟨_, _, _, h1, ?_⟩
    · unfold execOp
      rw [ho]
      simp [Instr.alloc, zeroValue, typeInfo, hi, hz, newVar, newRow]
    · exact .ptr m 0 w.heap.size (by show (upd S.h m _ m).known = true; rw [upd_same]; rfl) (upd_same _ _ _)
  · exact hr.elim
theorem op_box {t : TypeId} {x : Operand} (ho : o.op = .box t x) (hm : S.h m = .none) (h : Rel E.P w0 N S φ T M a w) (hr : (aop E m o).run S s (isRes r s')) : sure E.P o a w (After E w0 N S r a) := by
  unfold aop at hr
  rw [ho] at hr
  obtain ⟨u, s1, hr1, hu⟩ := ev_sound h hr
  obtain ⟨cs, s2, hr2, hcs⟩ := cellsOf_sound h hu hr1
  obtain ⟨rfl, _⟩ := hr2
  have h1 := h.newBox hm t (arr := (a.eval x).cells) (cellsRa_cr hcs)
  refine sure_value (v := .pointer (some ⟨w.heap.size, 0, none⟩)) (w' := w.alloc (.cells (a.eval x).cells t)) ?_ ⟨_, _, _, h1, ?_⟩
  · unfold execOp
    rw [ho]
    simp [Instr.box, newVar, newRow]
  · exact .ptr m 0 w.heap.size (by show (upd S.h m _ m).known = true; rw [upd_same]; rfl) (upd_same _ _ _)

/-- a leaf is one cell, and can be stored -/
theorem leaf_one {x : AV} {v : Value} (h : RaS E w M φ S x v) (hl : x.leaf = true) (hs : ∀ b, x = .sl b → ∃ A n c, v = .slice A n c) : v.oneCell' = true := by
  cases h with
  | und => cases hl
  | pv p v hp =>
    cases hp <;> first | rfl | cases hl
  | nil => rfl
  | sl b hb =>
    obtain ⟨A, n, c, e⟩ := hs b rfl
    rw [e]; rfl
  | ptr | eltS | eltP | agg | tup | out => cases hl
/-- the rows among these are rows -/
def RowsIn (S : ASt) (xs : List AV) : Prop := ∀ b, AV.sl b ∈ xs → ∃ e rows, (∃ own, S.h b = .row own e rows) ∨ S.h b = .frz e rows ∨ S.h b = .tree e rows ∨ ∃ i cs, S.h b = .opn e rows i cs
theorem sl_slice (h : Rel E.P w0 N S φ T M a w) {b : Nat} (hb : ∃ e rows, (∃ own, S.h b = .row own e rows) ∨ S.h b = .frz e rows ∨ S.h b = .tree e rows ∨ ∃ i cs, S.h b = .opn e rows i cs) : ∃ A n c, φ b = .slice A n c := by
  obtain ⟨e, rows, ⟨own, hB⟩ | hB | hB | ⟨i, cs, hB⟩⟩ := hb
  · obtain ⟨A, c, e1⟩ := rd_slice (row_rd h hB)
    exact ⟨_, _, _, e1⟩
  · have h1 := h.blks b
    rw [hB] at h1
    obtain ⟨A, c, e1⟩ := rd_slice (e := e) (rows := rows) h1
    exact ⟨_, _, _, e1⟩
  · have h1 := h.blks b
    rw [hB] at h1
    obtain ⟨A, c, e1⟩ := rd_slice (Ow.rd (M := fun _ => False) (show Ow E.P w (T b 0) (.lst e rows) (φ b) from h1) (fun _ _ hf => hf))
    exact ⟨_, _, _, e1⟩
  · have h1 := h.blks b
    rw [hB] at h1
    obtain ⟨xs, f, ho, _⟩ := h1
    rcases ho.2 with ⟨hv, _⟩ | ⟨g, cap, cur, hv, _⟩
    · exact ⟨_, _, _, hv⟩
    · exact ⟨_, _, _, hv⟩
theorem ra_sl {b : Nat} {v : Value} (h : RaS E w M φ S (.sl b) v) : v = φ b := by cases h; rfl
theorem cr_one (h : Rel E.P w0 N S φ T M a w) {xs : List AV} {us : List Value} (hc : CR (RaS E w M φ S) xs us) (hl : xs.all AV.leaf = true) (hr : RowsIn S xs) : ∀ u ∈ us, u.oneCell' = true := by
  intro u hu
  obtain ⟨i, hi, rfl⟩ := List.getElem_of_mem hu
  have hi' : i < xs.length := by rw [← hc.1]; exact hi
  refine leaf_one (hc.2 i hi') (List.all_eq_true.1 hl _ (List.getElem_mem hi')) (fun b e => ?_)
  have hx := hc.2 i hi'
  rw [e] at hx
  rw [ra_sl hx]
  exact sl_slice h (hr b (by rw [← e]; exact List.getElem_mem hi'))
theorem rowsChk_sound {k : Rq} {K : ARes → Seen → Prop} : ∀ {xs : List AV} {s : Seen}, (rowsChk xs k).run S s K → (∃ s1, k.run S s1 K) ∧ RowsIn S xs
  | [], s, hr => ⟨⟨s, hr⟩, fun b hb => by cases hb⟩
  | x :: l, s, hr => by
    unfold rowsChk at hr
    split at hr
    · rename_i e; cases e
    · rename_i b l' e
      injection e with e1 e2
      subst e1; subst e2
      simp only [Rq.run] at hr
      split at hr
      · rename_i own e rows hB
        obtain ⟨h1, h2⟩ := rowsChk_sound hr
        exact ⟨h1, fun b' hb => (List.mem_cons.1 hb).elim (fun e' => by injection e' with e'; subst e'; exact ⟨e, rows, .inl ⟨own, hB⟩⟩) (h2 b')⟩
      · rename_i e rows hB
        obtain ⟨h1, h2⟩ := rowsChk_sound hr
        exact ⟨h1, fun b' hb => (List.mem_cons.1 hb).elim (fun e' => by injection e' with e'; subst e'; exact ⟨e, rows, .inr (.inl hB)⟩) (h2 b')⟩
      · rename_i e rows hB
        obtain ⟨h1, h2⟩ := rowsChk_sound hr
        exact ⟨h1, fun b' hb => (List.mem_cons.1 hb).elim (fun e' => by injection e' with e'; subst e'; exact ⟨e, rows, .inr (.inr (.inl hB))⟩) (h2 b')⟩
      · rename_i e rows i cs hB
        obtain ⟨h1, h2⟩ := rowsChk_sound hr
        exact ⟨h1, fun b' hb => (List.mem_cons.1 hb).elim (fun e' => by injection e' with e'; subst e'; exact ⟨e, rows, .inr (.inr (.inr ⟨i, cs, hB⟩))⟩) (h2 b')⟩
      · exact hr.elim
    · rename_i e1 e2 hne e
      injection e with e3 e4
      subst e3; subst e4
      obtain ⟨h1, h2⟩ := rowsChk_sound hr
      exact ⟨h1, fun b' hb => (List.mem_cons.1 hb).elim (fun e' => absurd e'.symm (hne b')) (h2 b')⟩
/-- a box is told of anew, its memory turns -/
theorem box_set (h : Rel E.P w0 N S φ T M a w) {b : Nat} {cs cs' : List AV} {cur cur' : Array Value} {g : Nat} {ty : TypeId} (hB : S.h b = .box cs) (hv : φ b = .pointer (some ⟨g, 0, none⟩)) (hg : w.heap[g]? = some (.cells cur ty))
    (hc : CR (RaS E w M φ S) cs' cur'.toList) : ∃ T' M', Rel E.P w0 N ⟨S.t, upd S.h b (.box cs')⟩ φ T' M' a (w.setRow g cur') := by
  have hbl : (S.h b).live = true := by rw [hB]; rfl
  have hbg : blk (φ b) = some g := by rw [hv]; rfl
  have hM := h.mutb b g hbl hbg
  have hgr : w.grownBy (w.setRow g cur') (some g) := ⟨rfl, rfl, rfl, by simp, fun k _ hk => setRow_other w g k _ (fun e => hk (by rw [e]))⟩
  have h1 := h.kill b (by rw [hB]; rfl)
  have h2 := h1.grown hgr (fun g' e => by
    injection e with e; subst e
    refine ⟨hM, h.low b _ hbl hbg, fun b' hl e' => ?_, fun x k hx ht => ?_⟩
    · simp only [upd] at hl
      split at hl
      · cases hl
      · rename_i hne; exact hne (h.disj b' b _ hl hbl e' hbg)
    · simp only [upd] at hx
      split at hx
      · cases hx
      · exact (h.tree x k _ ht hx).2 b hbl hbg) (fun _ => False) (fun _ hf => hf.elim)
  have h3 := h2.set b (.box cs') (φ b) (noT T b) rfl (by show (upd S.h b .dead b).live = false; rw [upd_same]; rfl) (fun _ => rfl) ?_ ?_ (fun x k g hx _ => hx.2) (fun x hx _ => by funext k g; simp [noT, hx]) (fun k g ht => absurd rfl ht.1)
  · have e1 : upd (upd S.h b .dead) b (.box cs') = upd S.h b (.box cs') := by funext x; simp only [upd]; split <;> rfl
    have e2 : upd φ b (φ b) = φ := by funext x; simp only [upd]; split <;> simp_all
    simp only [e1, e2] at h3
    exact ⟨_, _, h3⟩
  · refine ⟨g, cur', ty, hv, h.low b g hbl hbg, setRow_heap w g cur cur' ty _ hg, by simpa using hc.1, fun i hi hj => ?_⟩
    have := hc.2 i hi
    simp only [Array.getElem_toList] at this
    refine this.keep (fun p v hr => hr.keep ⟨by simp, fun k _ hk => setRow_other w g k _ (fun e => hk (e ▸ hM))⟩ (fun k _ hk => hk.resolve_right id)) (fun x hx => ⟨?_, by simp only [upd]; split <;> simp_all⟩)
    simp only [upd]; split
    · rfl
    · exact hx
  · intro _ g' e
    rw [hbg] at e; injection e with e; subst e
    refine ⟨.inl hM, fun b' hne hl e' => ?_, fun x k hne hx ht => ?_⟩
    · have hl' : (upd S.h b .dead b').live = true := hl
      simp only [upd, hne, if_false] at hl'
      exact hne (h.disj b' b g hl' hbl e' hbg)
    · have hx' : (upd S.h b .dead x).isTree = true := hx
      simp only [upd, hne, if_false] at hx'
      exact (h.tree x k g ht hx').2 b hbl hbg
end
end Av
end Go.Proofs.Ytbkbppllcjcmhaa

namespace Go.Proofs.Ytbkbppllcjcmhaa
open Go.RowKit
namespace Av

section
variable {E : Tab} {m : Nat} {o : Oper} {w0 : W0} {w : World} {N : Nat} {S : ASt} {φ : Nat → Value} {T : Nat → Nat → Nat → Prop} {M : Nat → Prop} {a : Act} {r : ARes} {s s' : Seen}
theorem run_store {t : TypeId} {y : TI} (hy : E.tb t = some y) {g q : Nat} {cur : Array Value} {ty : TypeId} {v : Value} (hv : v.cells.size = y.size) (hg : w.heap[g]? = some (.cells cur ty)) (hq : q + v.cells.size ≤ cur.size) (h1 : ∀ u ∈ v.cells.toList, u.oneCell' = true) :
    (Instr.storeAt t (.pointer (some ⟨g, q, none⟩)) v).run E.P w = .ok () (w.setRow g (setL cur.toList q v.cells.toList).toArray) := by
  obtain ⟨i, z, hi, _, hs, _⟩ := tab_info hy
  have hst := run_storeCells_at E.P g q ty v.cells.toList 0 cur w hg (by simpa using hq) h1
  rw [setL_eq _ _ _ (by simpa using hq)]
  simp only [Nat.add_zero] at hst
  simp [Instr.storeAt, Instr.sureAddr, storeVar, sizeOf, typeInfo, hi, hs, hv] at hst ⊢
  exact hst
/-- a row is told of anew, its memory turns -/
theorem row_set (h : Rel E.P w0 N S φ T M a w) {b : Nat} {own : Bool} {e : TypeId} {rows rows' : List (List PV)} {cur cur' : Array Value} {g n cap : Nat} {ty : TypeId} (hB : S.h b = .row own e rows) (hv : φ b = .slice (some ⟨g, 0, none⟩) n cap) (hg : w.heap[g]? = some (.cells cur ty))
    (hsz : cur'.size = cur.size) (hlen : rows'.length = rows.length) (hrs : ∀ r ∈ rows', r.length = E.P.cellsOf e) (f : Nat → Value) (hf : ∀ k, k < rows'.length * E.P.cellsOf e → cur'[k]? = some (f k))
    (hc : ∀ i (hi : i < rows'.length) j (hj : j < rows'[i].length), if own then Ow E.P w (T b (i * E.P.cellsOf e + j)) rows'[i][j] (f (i * E.P.cellsOf e + j)) else Rd E.P w M rows'[i][j] (f (i * E.P.cellsOf e + j))) :
    ∃ M', Rel E.P w0 N ⟨S.t, upd S.h b (.row own e rows')⟩ φ T M' a (w.setRow g cur') := by
  have hbl : (S.h b).live = true := by rw [hB]; rfl
  have hbg : blk (φ b) = some g := by rw [hv]; rfl
  have hM := h.mutb b g hbl hbg
  have hgr : w.grownBy (w.setRow g cur') (some g) := ⟨rfl, rfl, rfl, by simp, fun k _ hk => setRow_other w g k _ (fun e => hk (by rw [e]))⟩
  have h1 := h.kill b (by rw [hB]; rfl)
  have h2 := h1.grown hgr (fun g' e => by
    injection e with e; subst e
    refine ⟨hM, h.low b _ hbl hbg, fun b' hl e' => ?_, fun x k hx ht => ?_⟩
    · simp only [upd] at hl
      split at hl
      · cases hl
      · rename_i hne; exact hne (h.disj b' b _ hl hbl e' hbg)
    · simp only [upd] at hx
      split at hx
      · cases hx
      · exact (h.tree x k _ ht hx).2 b hbl hbg) (fun _ => False) (fun _ hf => hf.elim)
  have h3 := h2.set b (.row own e rows') (φ b) T rfl (by show (upd S.h b .dead b).live = false; rw [upd_same]; rfl) (fun _ => rfl) ?_ ?_ (fun x k g hx _ => hx) (fun x hx _ => rfl) (fun k g' ht => ⟨⟨(h2.own b k g' ht).1, (h2.own b k g' ht).2.1, fun _ => (h2.own b k g' ht).2.2 (by show (upd S.h b .dead b).isTree = false; rw [upd_same]; rfl), fun e => by cases e⟩, fun k' ht' => (h2.apart b k b k' g' ht ht').2, fun x k' hx ht' => hx (h2.apart x k' b k g' ht' ht).1⟩)
  · have e1 : upd (upd S.h b .dead) b (.row own e rows') = upd S.h b (.row own e rows') := by funext x; simp only [upd]; split <;> rfl
    have e2 : upd φ b (φ b) = φ := by funext x; simp only [upd]; split <;> simp_all
    simp only [e1, e2] at h3
    exact ⟨_, h3⟩
  · have hb := h.blks b
    rw [hB] at hb
    obtain ⟨xs, f0, ho, hs, hf0, hc0⟩ := hb
    rcases ho.2 with ⟨hv', _⟩ | ⟨g', cap', cur0, hv', hbg', hg', hn, hm, hcs, htk⟩
    · rw [hv] at hv'; cases hv'
    · have hv2 := hv
      rw [hv] at hv'
      injection hv' with e1 e2 e3
      injection e1 with e1
      injection e1 with e1
      subst e1; subst e3; subst e2
      rw [hg] at hg'
      injection hg' with hg'
      injection hg' with hg1 hg2 _
      subst hg1; subst hg2
      have hlen' : (cur'.toList.take (rows'.length * E.P.cellsOf ty)).length = rows'.length * E.P.cellsOf ty := by
        have : rows.length * E.P.cellsOf ty ≤ cap * E.P.cellsOf ty := Nat.mul_le_mul_right _ hn
        have e0 : cur'.toList.length = cap * E.P.cellsOf ty := by rw [Array.length_toList, hsz, hcs]
        rw [List.length_take, e0, hlen]
        omega
      refine ⟨cur'.toList.take (rows'.length * E.P.cellsOf ty), f, ⟨hlen', .inr ⟨g, cap, cur', by rw [hv2, hlen], hbg', setRow_heap w g cur cur' _ _ hg, by omega, hm, by omega, rfl⟩⟩, hrs, fun k hk => ?_, fun i hi j hj => ?_⟩
      · rw [List.getElem?_take, if_pos hk]
        have := hf k hk
        simpa using this
      · have := hc i hi j hj
        cases own with
        | true => exact Ow.keep this (fun g' hg' _ => setRow_other w g g' _ (fun e => (h.own b _ g' hg').2.2 (by rw [hB]; rfl) (e ▸ hM)))
        | false => exact Rd.keep this ⟨by simp, fun k _ hk => setRow_other w g k _ (fun e => hk (e ▸ hM))⟩ (fun k _ hk => hk.resolve_right id)
  · intro _ g' e
    rw [hbg] at e; injection e with e; subst e
    refine ⟨.inl hM, fun b' hne hl e' => ?_, fun x k hne hx ht => ?_⟩
    · have hl' : (upd S.h b .dead b').live = true := hl
      simp only [upd, hne, if_false] at hl'
      exact hne (h.disj b' b g hl' hbl e' hbg)
    · have hx' : (upd S.h b .dead x).isTree = true := hx
      simp only [upd, hne, if_false] at hx'
      exact (h.tree x k g ht hx').2 b hbl hbg
theorem row_place {s i j i' j' : Nat} (hj : j < s) (hj' : j' < s) (e : i * s + j = i' * s + j') : i = i' ∧ j = j' := by
  have h1 : (i * s + j) / s = i := by rw [Nat.mul_comm, Nat.mul_add_div (by omega), Nat.div_eq_of_lt hj]; omega
  have h2 : (i' * s + j') / s = i' := by rw [Nat.mul_comm, Nat.mul_add_div (by omega), Nat.div_eq_of_lt hj']; omega
  have h3 : i = i' := by rw [← h1, ← h2, e]
  subst h3
  exact ⟨rfl, by omega⟩
/-- a tree that is told of cell by cell, its memory turns -/
theorem opn_set (h : Rel E.P w0 N S φ T M a w) {b i : Nat} {e : TypeId} {rows : List (List PV)} {cs cs' : List AV} {cur cur' : Array Value} {g n cap : Nat} {ty : TypeId} (hB : S.h b = .opn e rows i cs) (hv : φ b = .slice (some ⟨g, 0, none⟩) n cap) (hg : w.heap[g]? = some (.cells cur ty))
    (hsz : cur'.size = cur.size) (hlen : cs'.length = cs.length) (hout : ∀ j : Nat, cs'[j]? = some AV.out → cs[j]? = some AV.out)
    (hsame : ∀ k : Nat, k < rows.length * E.P.cellsOf e → (∀ j : Nat, j < E.P.cellsOf e → k = i * E.P.cellsOf e + j → cs'[j]? = some AV.out) → cur'[k]? = cur[k]?)
    (hcs : ∀ j (hj : j < cs'.length), cs'[j] ≠ .out → ∃ u, cur'[i * E.P.cellsOf e + j]? = some u ∧ RaS E w M φ S cs'[j] u) :
    ∃ M', Rel E.P w0 N ⟨S.t, upd S.h b (.opn e rows i cs')⟩ φ T M' a (w.setRow g cur') := by
  have hbl : (S.h b).live = true := by rw [hB]; rfl
  have hbt : (S.h b).isTree = true := by rw [hB]; rfl
  have hbg : blk (φ b) = some g := by rw [hv]; rfl
  have hM := h.mutb b g hbl hbg
  have hgr : w.grownBy (w.setRow g cur') (some g) := ⟨rfl, rfl, rfl, by simp, fun k _ hk => setRow_other w g k _ (fun e => hk (by rw [e]))⟩
  have h1 := h.killT b
  have h2 := h1.grown hgr (fun g' e => by
    injection e with e; subst e
    refine ⟨hM, h.low b _ hbl hbg, fun b' hl e' => ?_, fun x k hx ht => ?_⟩
    · simp only [upd] at hl
      split at hl
      · cases hl
      · rename_i hne; exact hne (h.disj b' b _ hl hbl e' hbg)
    · simp only [upd] at hx
      split at hx
      · cases hx
      · exact (h.tree x _ _ ht.2 hx).2 b hbl hbg) (fun _ => False) (fun _ hf => hf.elim)
  have h3 := h2.set b (.opn e rows i cs') (φ b) T rfl (by show (upd S.h b .dead b).live = false; rw [upd_same]; rfl) (fun _ => rfl) ?_ ?_ (fun x k g hx hne => ⟨hne, hx⟩) (fun x hx _ => (noT_ne hx).symm) (fun k g' ht => ⟨⟨(h.own b k g' ht).1, by have := (h.own b k g' ht).2.1; simpa using this, (fun e => by cases e), fun _ => ⟨.inl (h.tree b k g' ht hbt).1, fun b' hne hl e' => ?_⟩⟩, fun k' ht' => (h.apart b k b k' g' ht ht').2, fun x k' hne ht' => hne (h.apart x k' b k g' ht' ht).1⟩) (fun _ _ k g' ht => (h.tree b k g' ht hbt).2 b hbl)
  · have e1 : upd (upd S.h b .dead) b (.opn e rows i cs') = upd S.h b (.opn e rows i cs') := by funext x; simp only [upd]; split <;> rfl
    have e2 : upd φ b (φ b) = φ := by funext x; simp only [upd]; split <;> simp_all
    simp only [e1, e2] at h3
    exact ⟨_, h3⟩
  · have hb := h.blks b
    rw [hB] at hb
    obtain ⟨xs, f0, ho, hs, hf0, hi, hcl, hc0, hcs0⟩ := hb
    rcases ho.2 with ⟨hv', _⟩ | ⟨g', cap', cur0, hv', hbg', hg', hn, hm, hcz, htk⟩
    · rw [hv] at hv'; cases hv'
    · have hv2 := hv
      rw [hv] at hv'
      injection hv' with e1 e2 e3
      injection e1 with e1
      injection e1 with e1
      subst e1; subst e3; subst e2
      rw [hg] at hg'
      injection hg' with hg'
      injection hg' with hg1 hg2 _
      subst hg1; subst hg2
      have hsl : cur'.toList.length = cur'.size := Array.length_toList
      have hle : rows.length * E.P.cellsOf ty ≤ cur'.size := by
        have : rows.length * E.P.cellsOf ty ≤ cap * E.P.cellsOf ty := Nat.mul_le_mul_right _ hn
        rw [hsz, hcz]; exact this
      have hcur : ∀ k, k < rows.length * E.P.cellsOf ty → cur[k]? = some (f0 k) := fun k hk => by
        have h1 := hf0 k hk
        rw [← htk, List.getElem?_take, if_pos hk] at h1
        simpa using h1
      have hRK : ∀ p v, Rd E.P w M p v → Rd E.P (w.setRow g cur') (fun g' => M g' ∨ False) p v := fun p v hr => hr.keep ⟨by simp, fun k _ hk => setRow_other w g k _ (fun e => hk (e ▸ hM))⟩ (fun k _ hk => hk.resolve_right id)
      have hkn : ∀ x, (S.h x).known = true → ((upd (upd S.h b .dead) b (.opn ty rows i cs') x).known = true) ∧ upd φ b (φ b) x = φ x := fun x hx => ⟨by
        unfold upd; split
        · rfl
        · exact hx, by unfold upd; split <;> simp_all⟩
      refine ⟨cur'.toList.take (rows.length * E.P.cellsOf ty), fun k => (cur'[k]?).getD undef, ⟨by rw [List.length_take]; omega, .inr ⟨g, cap, cur', hv2, hbg', setRow_heap w g cur cur' _ _ hg, by omega, hm, by omega, rfl⟩⟩, hs, fun k hk => ?_, hi, by rw [hlen]; exact hcl, fun i' hi' j hj hx => ?_, fun j hj hne => ?_⟩
      · rw [List.getElem?_take, if_pos hk]
        have : k < cur'.size := by omega
        simp [this]
      · have hjl : j < E.P.cellsOf ty := by rw [← hs _ (List.getElem_mem hi')]; exact hj
        have hk : i' * E.P.cellsOf ty + j < rows.length * E.P.cellsOf ty := by
          have : (i' + 1) * E.P.cellsOf ty ≤ rows.length * E.P.cellsOf ty := Nat.mul_le_mul_right _ (by omega)
          rw [Nat.add_mul, Nat.one_mul] at this
          omega
        have e1 := hsame (i' * E.P.cellsOf ty + j) hk (fun j' hj' e => by
          have : i' = i ∧ j = j' := row_place hjl hj' e
          obtain ⟨rfl, rfl⟩ := this
          exact hx rfl)
        have := hc0 i' hi' j hj (fun e => hout j (hx e))
        simp only [e1, hcur _ hk, Option.getD_some]
        exact Ow.keep this (fun g' hg' _ => setRow_other w g g' _ (fun e => (h.tree b _ g' hg' hbt).2 b hbl (e ▸ hbg)))
      · obtain ⟨u, hu, hra⟩ := hcs j hj hne
        simp only [hu, Option.getD_some]
        exact hra.keep hRK hkn
  · intro _ g' e
    rw [hbg] at e; injection e with e; subst e
    refine ⟨.inl hM, fun b' hne hl e' => ?_, fun x k hne hx ht => ?_⟩
    · have hl' : (upd S.h b .dead b').live = true := hl
      simp only [upd, hne, if_false] at hl'
      exact hne (h.disj b' b g hl' hbl e' hbg)
    · have hx' : (upd S.h b .dead x).isTree = true := hx
      simp only [upd, hne, if_false] at hx'
      exact (h.tree x k g ht.2 hx').2 b hbl hbg
  · have hl' : (upd S.h b .dead b').live = true := hl
    simp only [upd, hne, if_false] at hl'
    exact (h.tree b k g' ht hbt).2 b' hl' e'
theorem setL_get {α : Type} : ∀ (xs cs : List α) (o k : Nat), (setL cs o xs)[k]? = if o ≤ k ∧ k < o + xs.length ∧ k < cs.length then xs[k - o]? else cs[k]?
  | [], cs, o, k => by unfold setL; rw [if_neg (by simp; omega)]
  | x :: l, cs, o, k => by
    unfold setL
    rw [setL_get l, List.length_set, List.getElem?_set]
    simp only [List.length_cons]
    by_cases h1 : o + 1 ≤ k ∧ k < o + 1 + l.length ∧ k < cs.length
    · rw [if_pos h1, if_pos (by omega), show k - o = (k - (o + 1)) + 1 by omega, List.getElem?_cons_succ]
    · rw [if_neg h1]
      by_cases h2 : o = k
      · subst h2
        rw [if_pos rfl]
        by_cases h3 : o < cs.length
        · rw [if_pos h3, if_pos (by omega)]; simp
        · rw [if_neg h3, if_neg (by omega), List.getElem?_eq_none (by omega)]
      · rw [if_neg h2, if_neg (by omega)]
end
end Av
end Go.Proofs.Ytbkbppllcjcmhaa

namespace Go.Proofs.Ytbkbppllcjcmhaa
open Go.RowKit
namespace Av

section
variable {E : Tab} {m : Nat} {o : Oper} {w0 : W0} {w : World} {N : Nat} {S : ASt} {φ : Nat → Value} {T : Nat → Nat → Nat → Prop} {M : Nat → Prop} {a : Act} {r : ARes} {s s' : Seen}
theorem Ow.nil {P : Program} {w : World} (S : Nat → Prop) (e : TypeId) : Ow P w S (.lst e []) (.slice none 0 0) :=
  .lst S e [] _ [] (fun _ => undef) (fun _ _ => False) (World.ownsRow_nil w 0 e _) (fun r hr => by cases hr) (fun g hg => by cases hg) (fun _ _ h => h.elim) (fun _ _ _ h => h.elim) (fun k hk => by simp at hk) (fun i hi => absurd hi (by simp))
theorem zero_ow {P : Program} {w : World} {S : Nat → Prop} {x : AV} {v : Value} (h : zv x = some v) : Ow P w S (zp x) v := by
  unfold zv at h
  split at h
  · injection h with h; subst h; exact .int _ _ _
  · injection h with h; subst h; exact .bool _ _
  · injection h with h; subst h; exact .str _ _
  · injection h with h; subst h; exact Ow.nil _ _
  · cases h
theorem div_mod_row {s i j : Nat} (hj : j < s) : (i * s + j) % s = j := by
  rw [Nat.mul_comm, Nat.mul_add_mod, Nat.mod_eq_of_lt hj]
theorem op_makeSlice {t : TypeId} {l c : Operand} (ho : o.op = .makeSlice t l c) (hm : S.h m = .none) (h : Rel E.P w0 N S φ T M a w) (hr : (aop E m o).run S s (isRes r s')) : sure E.P o a w (After E w0 N S r a) := by
  unfold aop at hr
  rw [ho] at hr
  simp only at hr
  split at hr
  · rename_i x hx
    split at hr
    · rename_i e hk
      split at hr
      · rename_i y hy
        obtain ⟨u, s1, hr1, hu⟩ := ev_sound h hr
        split at hr1
        · rename_i n
          obtain ⟨v, s2, hr2, hv⟩ := ev_sound h hr1
          split at hr2
          · rename_i n'
            obtain ⟨⟨hpos, hby, rfl, h0, hn⟩, hr3⟩ := hr2
            obtain ⟨rfl, _⟩ := hr3
            obtain ⟨i, z, hi, hz, hs, hb, hzz, hzs⟩ := tab_info hy
            have hcs := tab_size hy
            have e1 := rd_int (ra_pv hu)
            have e2 := rd_int (ra_pv hv)
            obtain ⟨q, rfl⟩ : ∃ q : Nat, n = q := ⟨n.toNat, by omega⟩
            have hq : q ≤ 4294967296 := by omega
            have hbytes : (i.bytes : Int) * (q : Int) ≤ 281474976710656 := by
              have : i.bytes * q ≤ 32768 * 4294967296 := Nat.mul_le_mul (by omega) hq
              have h2 : ((i.bytes * q : Nat) : Int) ≤ ((32768 * 4294967296 : Nat) : Int) := by omega
              rw [Int.natCast_mul] at h2
              omega
            have hrun := run_make (P := E.P) w t e i z (tab_slice hx hk) hi hz .i64 .i64 q q h0 (Int.le_refl _) hbytes (by omega)
            simp only [Int.toNat_natCast, hs] at hrun
            have hsize : (madeCells z.cells (q * y.size)).size = q * y.size := size_madeCells _ _
            have hown : (w.alloc (.cells (madeCells z.cells (q * y.size)) e)).ownsRow w0.heap.size e y.size (.slice (some ⟨w.heap.size, 0, none⟩) q q) q (madeCells z.cells (q * y.size)).toList :=
              World.ownsRow_lit w _ q h.below.size (by unfold maxLen; omega) hsize
            have hzl : y.zero.length = y.size := by
              have := congrArg List.length hzz
              simp only [List.length_map, Array.length_toList] at this
              omega
            refine sure_value (v := .slice (some ⟨w.heap.size, 0, none⟩) q q) (w' := w.alloc (.cells (madeCells z.cells (q * y.size)) e)) ?_ ⟨_, _, _, h.new0 hm (v := .slice (some ⟨w.heap.size, 0, none⟩) q q) (B := .row true e (List.replicate q (y.zero.map zp))) (World.grownBy_alloc w _ none) rfl rfl (fun g eg => by have := blk_slice _ _ _ _ _ eg; subst this; simp) ?_, ?_⟩
            · unfold execOp
              rw [ho]
              simp only [e1, e2]
              exact (Sem.run_bind ..).trans (by rw [hrun]; rfl)
            · refine ⟨(madeCells z.cells (q * y.size)).toList, fun k => z.cells[k % z.cells.size]!, by rw [List.length_replicate, hcs]; exact hown, fun r hr => ?_, fun k hk => ?_, fun j hj l hl => ?_⟩
              · rw [(List.mem_replicate.1 hr).2]; simp [hzl, hcs]
              · rw [List.length_replicate, hcs] at hk
                simp [madeCells, hk]
              · simp only [List.getElem_replicate, List.length_map] at hl ⊢
                simp only [if_true, List.getElem_map]
                refine zero_ow ?_
                have hls : l < z.cells.size := by omega
                rw [hcs, show y.size = z.cells.size by omega, div_mod_row hls]
                have := congrArg (·[l]?) hzz
                simp only [List.getElem?_map, List.getElem?_eq_getElem hl, Option.map_some] at this
                rw [List.getElem?_eq_getElem (by simpa using hls)] at this
                simp only [Option.map_some, Option.some.injEq] at this
                rw [← this]
                simp [hls]
            · have := Ra.sl (P := E.P) (w := w.alloc (.cells (madeCells z.cells (q * y.size)) e)) (M := fun g => M g ∨ blk (.slice (some ⟨w.heap.size, 0, none⟩) q q) = some g) (φ := upd φ m (.slice (some ⟨w.heap.size, 0, none⟩) q q)) (L := fun b => (upd S.h m (.row true e (List.replicate q (y.zero.map zp))) b).known = true) m (by rw [upd_same]; rfl)
              rw [upd_same] at this
              exact this
          · exact hr2.elim
        · exact hr1.elim
      · exact hr.elim
    · exact hr.elim
  · exact hr.elim

/-- what a cell reads as now -/
def Sn (S : ASt) (x : AV) (p : PV) : Prop := x = .pv p ∨ (∃ e, x = .nil e ∧ p = .lst e []) ∨ ∃ b e rows, x = .sl b ∧ p = .lst e rows ∧ ((∃ own, S.h b = .row own e rows) ∨ S.h b = .frz e rows)
theorem snap_sn {x : AV} {k : PV → Rq} {s : Seen} {K : ARes → Seen → Prop} (hr : (snap x k).run S s K) : ∃ p s1, (k p).run S s1 K ∧ Sn S x p := by
  unfold snap at hr
  split at hr
  · exact ⟨_, _, hr, .inl rfl⟩
  · exact ⟨_, _, hr, .inr (.inl ⟨_, rfl, rfl⟩)⟩
  · simp only [Rq.run] at hr
    split at hr
    · rename_i own e rows hB
      exact ⟨_, _, hr, .inr (.inr ⟨_, e, rows, rfl, rfl, .inl ⟨own, hB⟩⟩)⟩
    · rename_i e rows hB
      exact ⟨_, _, hr, .inr (.inr ⟨_, e, rows, rfl, rfl, .inr hB⟩)⟩
    · exact hr.elim
  · exact hr.elim
theorem snaps_sn {K : ARes → Seen → Prop} : ∀ {xs : List AV} {k : List PV → Rq} {s : Seen}, (snaps xs k).run S s K → ∃ ps s1, (k ps).run S s1 K ∧ ∃ he : ps.length = xs.length, ∀ i (hi : i < xs.length), Sn S xs[i] (ps[i]'(by omega))
  | [], k, s, hr => ⟨[], s, hr, rfl, fun i hi => absurd hi (by simp)⟩
  | x :: l, k, s, hr => by
    obtain ⟨p, s1, hr1, hp⟩ := snap_sn hr
    obtain ⟨ps, s2, hr2, he, hps⟩ := snaps_sn (xs := l) (k := fun ps => k (p :: ps)) hr1
    refine ⟨p :: ps, s2, hr2, by simp [he], fun i hi => ?_⟩
    cases i with
    | zero => exact hp
    | succ i => exact hps i (by simpa using hi)
/-- a row's cells, flat -/
theorem getElem_flat {α : Type} {l : List (List α)} {s : Nat} (hl : ∀ r ∈ l, r.length = s) {i j : Nat} (hi : i < l.length) (hj : j < l[i].length) : l.flatten[i * s + j]? = some l[i][j] := by
  induction l generalizing i with
  | nil => simp at hi
  | cons r l ih =>
    have hr : r.length = s := hl r (List.mem_cons_self ..)
    cases i with
    | zero =>
      simp only [List.getElem_cons_zero] at hj ⊢
      rw [List.flatten_cons, Nat.zero_mul, Nat.zero_add, List.getElem?_append_left hj, List.getElem?_eq_getElem hj]
    | succ i =>
      simp only [List.getElem_cons_succ] at hj ⊢
      have := ih (fun r hr => hl r (List.mem_cons_of_mem _ hr)) (by simpa using hi) hj
      rw [List.flatten_cons, List.getElem?_append_right (by rw [hr, Nat.add_mul]; omega), hr, ← this]
      congr 1
      rw [Nat.add_mul]; omega
theorem flat_length {α : Type} {l : List (List α)} {s : Nat} (hl : ∀ r ∈ l, r.length = s) : l.flatten.length = l.length * s := by
  induction l with
  | nil => simp
  | cons r l ih =>
    rw [List.flatten_cons, List.length_append, hl r (List.mem_cons_self ..), ih (fun r hr => hl r (List.mem_cons_of_mem _ hr)), List.length_cons, Nat.add_mul]
    omega
/-- the parts of a slice that is written out -/
theorem rowsQ_sound {e size : Nat} {K : ARes → Seen → Prop} (h : Rel E.P w0 N S φ T M a w) : ∀ {parts : List (Nat × Operand)} {i : Nat} {k : Nat → List (List PV) → List AV → Rq} {s : Seen}, (rowsQ E e size i parts k).run S s K →
    ∃ (n : Nat) (rows : List (List PV)) (cs : List AV) (vss : List (List Value)) (s1 : Seen), (k n rows cs).run S s1 K ∧ n = i + parts.length ∧ rows.length = parts.length ∧ (∀ r ∈ rows, r.length = size) ∧ (parts.map fun p => (p.1, a.eval p.2)).map (fun p => (p.1, p.2.cells.toList)) = (vss.zipIdx i).map (fun p => (p.2, p.1)) ∧ (∀ v ∈ vss, v.length = size) ∧
      CR (RaS E w M φ S) cs vss.flatten ∧ cs.all AV.leaf = true ∧ ∃ he : rows.flatten.length = cs.length, ∀ k (hk : k < cs.length), Sn S cs[k] (rows.flatten[k]'(by omega))
  | [], i, k, s, hr => ⟨i, [], [], [], s, hr, rfl, rfl, (fun r hr => by cases hr), rfl, (fun v hv => by cases hv), ⟨rfl, fun i hi => absurd hi (by simp)⟩, rfl, rfl, fun k hk => absurd hk (by simp)⟩
  | (j, x) :: l, i, k, s, hr => by
    unfold rowsQ at hr
    split at hr
    · rename_i hij
      subst hij
      obtain ⟨u, s1, hr1, hu⟩ := ev_sound h hr
      obtain ⟨xs, s2, hr2, hxs⟩ := cellsOf_sound h hu hr1
      obtain ⟨⟨hl1, hl2⟩, hr3⟩ := hr2
      obtain ⟨ps, s3, hr4, hpl, hps⟩ := snaps_sn hr3
      obtain ⟨n, rows, cs, vss, s4, h1, h2, h3, h4, h5, h6, h7, h8, h9, h10⟩ := rowsQ_sound h (parts := l) hr4
      have hcr := cellsRa_cr hxs
      have hul : (a.eval x).cells.toList.length = xs.length := hcr.1
      refine ⟨n, ps :: rows, xs ++ cs, (a.eval x).cells.toList :: vss, s4, h1, by simp; omega, by simp [h3], fun r hr => ?_, ?_, fun v hv => ?_, ⟨by simp [hcr.1, h7.1], fun q hq => ?_⟩, by simp [hl2, h8], by simp [hpl, h9], fun q hq => ?_⟩
      · rcases List.mem_cons.1 hr with rfl | hr
        · omega
        · exact h4 r hr
      · simp only [List.map_cons, List.zipIdx_cons, List.cons.injEq, true_and]
        exact h5
      · rcases List.mem_cons.1 hv with rfl | hv
        · omega
        · exact h6 v hv
      · simp only [List.flatten_cons]
        by_cases hlt : q < xs.length
        · rw [List.getElem_append_left hlt, List.getElem_append_left (by omega)]
          exact hcr.2 q hlt
        · rw [List.getElem_append_right (by omega), List.getElem_append_right (by omega)]
          have hq' : q - xs.length < cs.length := by simp at hq; omega
          have := h7.2 (q - xs.length) hq'
          simpa only [hul] using this
      · simp only [List.flatten_cons]
        by_cases hlt : q < xs.length
        · rw [List.getElem_append_left hlt, List.getElem_append_left (by omega)]
          exact hps q hlt
        · rw [List.getElem_append_right (by omega), List.getElem_append_right (by omega)]
          have hq' : q - xs.length < cs.length := by simp at hq; omega
          have := h10 (q - xs.length) hq'
          simpa only [hpl] using this
    · exact hr.elim
/-- a slice's cells are filled in their order -/
theorem fill_rows {size : Nat} : ∀ {vss : List (List Value)} {ps : List (Nat × Value)} {i : Nat} {arr : Array Value}, ps.map (fun p => (p.1, p.2.cells.toList)) = (vss.zipIdx i).map (fun p => (p.2, p.1)) → (∀ v ∈ vss, v.length = size) → arr.size = (i + vss.length) * size →
    Instr.fill (fun i => some (i * size, size)) arr ps = some (arr.toList.take (i * size) ++ vss.flatten).toArray
  | [], [], i, arr, _, _, hs => by
    simp only [Instr.fill, List.flatten_nil, List.append_nil, Option.some.injEq]
    apply Array.ext'
    simp only [List.length_nil, Nat.add_zero] at hs
    rw [← hs, List.take_of_length_le (by simp)]
  | [], p :: ps, i, arr, he, _, _ => by simp at he
  | v :: vss, [], i, arr, he, _, _ => by simp at he
  | v :: vss, (j, u) :: ps, i, arr, he, hl, hs => by
    simp only [List.map_cons, List.zipIdx_cons, List.cons.injEq, Prod.mk.injEq] at he
    obtain ⟨⟨rfl, rfl⟩, he⟩ := he
    have hul := hl _ (List.mem_cons_self ..)
    simp only [List.length_cons] at hs
    have hfit : j * size + size ≤ arr.size := by
      rw [hs]
      have := Nat.mul_le_mul_right size (show j + 1 ≤ j + (vss.length + 1) by omega)
      rw [Nat.add_mul, Nat.one_mul] at this
      exact this
    have hus : u.cells.size = size := by simpa using hul
    have hfo := fold_setL (j * size) u.cells.toList 0 arr
    have hfo' : u.cells.zipIdx.foldl (fun cs p => cs.setIfInBounds (j * size + p.2) p.1) arr = (setL arr.toList (j * size) u.cells.toList).toArray := by
      rw [← Array.foldl_toList, Array.toList_zipIdx]
      simpa using hfo
    unfold Instr.fill
    simp only
    rw [if_neg (by simp; omega)]
    have ih := fill_rows (size := size) (arr := (setL arr.toList (j * size) u.cells.toList).toArray) he (fun v hv => hl v (List.mem_cons_of_mem _ hv)) (by rw [List.size_toArray, setL_length, Array.length_toList, hs]; congr 1; omega)
    rw [hfo', ih]
    congr 2
    rw [List.flatten_cons, ← List.append_assoc]
    congr 1
    simp only
    rw [setL_eq _ _ _ (by simpa using (by omega : j * size + u.cells.size ≤ arr.size)), Nat.add_mul, Nat.one_mul]
    have hl2 : (arr.toList.take (j * size) ++ u.cells.toList).length = j * size + size := by simp; omega
    rw [← hl2, List.take_left]
end
end Av
end Go.Proofs.Ytbkbppllcjcmhaa
