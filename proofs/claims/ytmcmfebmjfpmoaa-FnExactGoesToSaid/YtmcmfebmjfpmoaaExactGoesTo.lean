/-
  For every program and every place, 'FnExactGoesTo' answers true: both packages' 'GoesTo' answer alike, the argument stays as it is, and the answer shares no memory with it or with another answer. No condition.
-/
import Derived.Test.YtmcmfebmjfpmoaaGoesI
import Derived.Test.YtmcmfebmjfpmoaaExactProgramOk
import Derived.Deep.RegionHeld3
namespace Go.Proofs.Ytmcmfebmjfpmoaa
open Go.ChangeShapes Go.WideShapes Go.ChangeAt Go.RowKit Go.Joins

theorem grown_alloc_left {w w' : World} {o : Obj} {row : Option Nat} (hg : (w.alloc o).grownBy w' row) : w.grownBy w' row :=
  ⟨hg.os, hg.tape, hg.output, by have := hg.size; simp at this; omega, fun k hk hne => (hg.block k (by simp; omega) hne).trans (Below.heap_alloc _ _ _ hk)⟩

set_option maxHeartbeats 1000000 in
theorem markProgram_any (g n : Nat) (f : Nat → Value) (h k : Int) (w : World) (hn : n ≤ 1048576) (h0 : 0 ≤ k) (h1 : k ≤ 1099511627776) (hr : w.rowIs g 25 (n * 4) f) :
    Calls Try.prog 19 #[.agg #[.slice (some ⟨g, 0, none⟩) n n, .int .i64 h], .int .i64 k] w fun e w' => e = .returned (.int .i64 (k + 4 * n)) ∧ w.grownBy w' (some g) := by
  have hr' := hr.alloc (.cells #[.slice (some ⟨g, 0, none⟩) n n, .int .i64 h] 35)
  have HR := Lib.hid hr'; clear hr' hr
  go_enter Try.func19, Try.ntmps19
  go_wp2_with fail
  refine (markCodes_any g n n f k _ hn (Nat.le_refl _) h0 h1 HR.out).mono ?_
  rintro e w1 ⟨rfl, hg1⟩
  have HG := Lib.hid hg1; clear hg1
  go_wp2
  go_ret
  exact ⟨rfl, grown_alloc_left HG.out⟩

theorem goesTo_len (rs : List Bt.C4) (h t : Int) : (Bt.goesTo rs h t).length ≤ 1099511627776 := by
  unfold Bt.goesTo
  split
  · split
    · simp
    · split
      · unfold Bt.goes
        repeat' split
        all_goals simp
      · simp
  · simp

theorem IntRow.own {w : World} {base : Nat} {v : Value} {xs : List Int} (h : IntRow w base v xs) : ∀ k, v.ownBlock = some k → base ≤ k ∧ k < w.heap.size := World.ownsRow.lt h
theorem apart_of {u v : Value} {n : Nat} (hu : ∀ k, u.ownBlock = some k → k < n) (hv : ∀ k, v.ownBlock = some k → n ≤ k) : u.ownBlock = none ∨ u.ownBlock ≠ v.ownBlock := by
  cases h : u.ownBlock with
  | none => exact .inl rfl
  | some k => exact .inr (fun e => by have h1 := hu k h; have h2 := hv k e.symm; omega)
theorem apart_some {u : Value} {n g : Nat} (hu : ∀ k, u.ownBlock = some k → k < n) (hg : n ≤ g) : u.ownBlock = none ∨ u.ownBlock ≠ some g := by
  cases h : u.ownBlock with
  | none => exact .inl rfl
  | some k => exact .inr (fun e => by have h1 := hu k h; simp only [Option.some.injEq] at e; omega)
theorem apart_some' {u : Value} {n g : Nat} (hu : ∀ k, u.ownBlock = some k → n ≤ k) (hg : g < n) : u.ownBlock = none ∨ u.ownBlock ≠ some g := by
  cases h : u.ownBlock with
  | none => exact .inl rfl
  | some k => exact .inr (fun e => by have h1 := hu k h; simp only [Option.some.injEq] at e; omega)

set_option maxHeartbeats 2000000 in
theorem exactGoesTo_walk (A : Option Addr) (cap : Nat) (h t : Int) (rs : List Bt.C4) (w : World) (hv : ArgCodes w (.slice A rs.length cap) rs) (hm : rs.length ≤ maxLen) :
    Calls Try.prog 5 #[.agg #[.slice A rs.length cap, .int .i64 h], .int .i64 t] w fun e w' => e = .returned (.bool true) ∧ Below w.heap.size w w' := by
  have HV := Lib.hid hv; clear hv
  by_cases hn : rs.length ≤ 1048576
  · go_enter Try.func5, Try.ntmps5
    go_wp2_with fail
    refine (szProgram_any _ _ _ _ _ _ hm (by omega) (by omega)).mono ?_
    rw [if_neg (by omega)]
    rintro e w1 ⟨rfl, hb1⟩
    have B1 : Below w.heap.size w w1 := ((Below.refl _ _).alloc (Nat.le_refl _) _).trans (hb1.mono (by simp))
    have a1 : w1.cell? ⟨w.heap.size, 0, none⟩ = some (.slice A rs.length cap) := keeps hb1 (by simp)
    have b1 : w1.cell? ⟨w.heap.size, 1, none⟩ = some (.int .i64 h) := keeps hb1 (by simp)
    go_wp2_with fail
    refine (toProgram_any _ _ rs _ hn (HV.out.keep B1)).mono ?_
    rintro e w2 hp
    obtain ⟨g2, rfl, hg2, hb2, ho2⟩ := hp
    have B2 : Below w.heap.size w w2 := B1.trans (hb2.mono B1.size)
    have a2 := keeps hb2 a1
    have b2 := keeps hb2 b1
    clear a1 b1
    go_wp2_with fail
    refine (specGoesTo_any _ _ _ rs _ _ _ hn (Nat.le_refl _) ho2.codes).mono ?_
    rintro e w3 hp
    obtain ⟨v3, rfl, hr3, hb3⟩ := hp
    have R3 := Lib.hid hr3; clear hr3
    have B3 : Below w.heap.size w w3 := B2.trans (hb3.mono B2.size)
    have a3 := keeps hb3 a2
    have b3 := keeps hb3 b2
    clear a2 b2
    go_wp2_with fail
    refine (toProgram_any _ _ rs _ hn (HV.out.keep B3)).mono ?_
    rintro e w4 hp
    obtain ⟨g4, rfl, hg4, hb4, ho4⟩ := hp
    have B4 : Below w.heap.size w w4 := B3.trans (hb4.mono B3.size)
    have a4 := keeps hb4 a3
    have b4 := keeps hb4 b3
    clear a3 b3
    have ho4' := ho4.below ((Below.refl _ _).alloc (Nat.le_refl _) (.cells #[.slice (some ⟨g4, 0, none⟩) rs.length rs.length, .int .i64 h] 35)) ho4.lt
    go_wp2_with fail
    refine (implGoesTo_any _ _ _ rs _ _ _ hn (Nat.le_refl _) ho4'.codes).mono ?_
    rintro e w5 hp
    obtain ⟨v5, rfl, hr5, hb5⟩ := hp
    have R5 := Lib.hid hr5; clear hr5
    have hb45 : Below w4.heap.size w4 w5 := ((Below.refl w4.heap.size w4).alloc (Nat.le_refl _) _).trans (hb5.mono (by simp))
    have B5 : Below w.heap.size w w5 := B4.trans (hb45.mono B4.size)
    have a5 := keeps hb45 a4
    have b5 := keeps hb45 b4
    have c5 : w5.cell? ⟨w4.heap.size, 0, none⟩ = some (.slice (some ⟨g4, 0, none⟩) rs.length rs.length) := keeps hb5 (by simp)
    have d5 : w5.cell? ⟨w4.heap.size, 1, none⟩ = some (.int .i64 h) := keeps hb5 (by simp)
    clear a4 b4
    have O5 := Lib.hid (ho4'.below hb5 ho4'.lt); clear ho4'
    have N3 : Hid (∀ k, v3.ownBlock = some k → k < w3.heap.size) := Lib.hid (fun k hk => (R3.out.own k hk).2)
    have N5 : Hid (∀ k, v5.ownBlock = some k → w4.heap.size + 1 ≤ k) := Lib.hid (fun k hk => by have h := (R5.out.own k hk).1; simpa using h)
    have L4 := ho4.lt
    have S4 := hb4.size
    have hb35 : Below w3.heap.size w3 w5 := hb4.trans (hb45.mono hb4.size)
    go_wp2_with fail
    refine (eqInts_any v5 v3 _ _ (goesTo_len rs h t) R5.out.arg (R3.out.keep hb35).arg).mono ?_
    rintro e w6 ⟨rfl, hb6⟩
    have B6 : Below w.heap.size w w6 := B5.trans (hb6.mono B5.size)
    have a6 := keeps hb6 a5
    have b6 := keeps hb6 b5
    have c6 := keeps hb6 c5
    have d6 := keeps hb6 d5
    clear a5 b5 c5 d5
    have O6 := Lib.hid (O5.out.below hb6 O5.out.lt)
    go_wp2_with fail
    go_region_held3 (fun w' => w'.cell? ⟨w4.heap.size, 0, none⟩ = some (.slice (some ⟨g4, 0, none⟩) rs.length rs.length) ∧ w'.cell? ⟨w4.heap.size, 1, none⟩ = some (.int .i64 h) ∧ w'.cell? ⟨w.heap.size, 0, none⟩ = some (.slice A rs.length cap) ∧ w'.cell? ⟨w.heap.size, 1, none⟩ = some (.int .i64 h))
      (first | go_keep | (exact ⟨keeps hb7 c6, keeps hb7 d6, keeps hb7 a6, keeps hb7 b6⟩) | (exact ⟨keeps (hb7.trans (hb8.mono hb7.size)) c6, keeps (hb7.trans (hb8.mono hb7.size)) d6, keeps (hb7.trans (hb8.mono hb7.size)) a6, keeps (hb7.trans (hb8.mono hb7.size)) b6⟩))
      (first | (go_at_call 13; refine (toProgram_any _ _ rs _ hn (HV.out.keep B6.drew)).mono ?_; rintro e w7 hp; obtain ⟨g7, rfl, hg7, hb7, ho7⟩ := hp; have ho7' := (show CodesOwn w6.drew g4 rs from O6.out).below hb7 O6.out.lt) | (go_at_call 15; refine (eqProgram_same _ _ _ _ _ _ rs _ _ hn (Nat.le_refl _) (Nat.le_refl _) ho7'.codes ho7.codes).mono ?_; rintro e w8 ⟨rfl, hb8⟩))
    have hb68 : Below w6.heap.size w6 w8 := ((Below.refl w6.heap.size w6).drew.trans (hb7.mono (by simp))).trans (hb8.mono (by have := hb7.size; simp at this; omega))
    have B8 : Below w.heap.size w w8 := B6.trans (hb68.mono B6.size)
    have a8 := keeps hb68 a6
    have b8 := keeps hb68 b6
    have c8 := keeps hb68 c6
    have d8 := keeps hb68 d6
    clear a6 b6 c6 d6
    have hb38 : Below w3.heap.size w3 w8 := (hb35.trans (hb6.mono hb35.size)).trans (hb68.mono (by have := hb6.size; have := hb35.size; omega))
    have hb58 : Below w5.heap.size w5 w8 := hb6.trans (hb68.mono hb6.size)
    obtain ⟨f8, hf8, _⟩ := O6.out.below hb68 O6.out.lt
    have F8 := Lib.hid hf8; clear hf8 ho7 ho7'
    go_wp2_with fail
    refine (markProgram_any g4 rs.length f8 h 1 _ hn (by decide) (by decide) F8.out).mono ?_
    rintro e w9 ⟨rfl, hg9⟩
    have G9 := Lib.hid hg9; clear hg9
    have S8 := hb38.size
    have B9 : Below w.heap.size w w9 := B8.grown G9.out B8.size (fun k hk => by have := B3.size; simp only [Option.some.injEq] at hk; omega)
    have R39 : Hid (IntRow w9 w2.heap.size v3 (Bt.goesTo rs h t)) := Lib.hid ((R3.out.keep hb38).grown G9.out (apart_some N3.out hg4))
    have R59 : Hid (IntRow w9 (w4.heap.size + 1) v5 (Bt.goesTo rs h t)) := Lib.hid (((R5.out.keep hb58).grown G9.out (apart_some' N5.out (by omega))).mono (by simp))
    have a9 := World.grownBy.cell G9.out a8 (fun e => by have e' : w.heap.size = g4 := Option.some.inj e; have h1 := hb1.size; simp at h1; have h2 := hb2.size; have h3 := hb3.size; omega)
    have b9 := World.grownBy.cell G9.out b8 (fun e => by have e' : w.heap.size = g4 := Option.some.inj e; have h1 := hb1.size; simp at h1; have h2 := hb2.size; have h3 := hb3.size; omega)
    clear a8 b8 c8 d8
    go_wp2_with fail
    refine (eqInts_any v5 v3 _ _ (goesTo_len rs h t) R59.out.arg R39.out.arg).mono ?_
    rintro e w10 ⟨rfl, hb10⟩
    have B10 : Below w.heap.size w w10 := B9.trans (hb10.mono B9.size)
    have a10 := keeps hb10 a9
    have b10 := keeps hb10 b9
    clear a9 b9
    have R310 := Lib.hid (R39.out.keep hb10)
    have R510 := Lib.hid (R59.out.keep hb10)
    go_wp2_with fail
    refine (markInts_any (w4.heap.size + 1) v5 _ 1 _ (goesTo_len rs h t) (by decide) (by decide) R510.out).mono ?_
    rintro e w11 ⟨rfl, hg11, hr11⟩
    have G11 := Lib.hid hg11; clear hg11
    have M11 := Lib.hid hr11; clear hr11
    have B11 : Below w.heap.size w w11 := B10.grown G11.out B10.size (fun k hk => by have h1 := N5.out k hk; have h2 := B4.size; omega)
    have R311 := Lib.hid (R310.out.grown G11.out (apart_of N3.out (fun k hk => by have h1 := N5.out k hk; omega)))
    have a11 := World.grownBy.cell G11.out a10 (fun e => by have h1 := N5.out w.heap.size e.symm; have h2 := B4.size; omega)
    have b11 := World.grownBy.cell G11.out b10 (fun e => by have h1 := N5.out w.heap.size e.symm; have h2 := B4.size; omega)
    clear a10 b10
    have hlen := goesTo_len rs h t
    go_wp2_with fail
    refine (heldInts_any v5 1 (Bt.goesTo rs h t).length _ (goesTo_len rs h t) (by decide) (by decide) M11.out.arg).mono ?_
    rintro e w' ⟨rfl, rfl⟩
    go_wp2_with fail
    refine (toProgram_any _ _ rs _ hn (HV.out.keep B11)).mono ?_
    rintro e w12 hp
    obtain ⟨g12, rfl, hg12, hb12, ho12⟩ := hp
    have B12 : Below w.heap.size w w12 := B11.trans (hb12.mono B11.size)
    clear a11 b11
    go_wp2_with fail
    refine (implGoesTo_any _ _ _ rs _ _ _ hn (Nat.le_refl _) ho12.codes).mono ?_
    rintro e w13 hp
    obtain ⟨v13, rfl, hr13, hb13⟩ := hp
    have R13 := Lib.hid hr13; clear hr13
    have B13 : Below w.heap.size w w13 := B12.trans (hb13.mono B12.size)
    have hb113 : Below w11.heap.size w11 w13 := hb12.trans (hb13.mono hb12.size)
    go_wp2_with fail
    refine (eqInts_any v13 v3 _ _ (goesTo_len rs h t) R13.out.arg (R311.out.keep hb113).arg).mono ?_
    rintro e w14 ⟨rfl, hb14⟩
    go_wp2_with fail
    refine (heldInts_any v5 1 (Bt.goesTo rs h t).length _ (goesTo_len rs h t) (by decide) (by decide) (M11.out.keep (hb113.trans (hb14.mono hb113.size))).arg).mono ?_
    rintro e w' ⟨rfl, rfl⟩
    go_wp2_with fail
    go_ret
    exact ⟨rfl, B13.trans (hb14.mono B13.size)⟩
  · go_enter Try.func5, Try.ntmps5
    go_wp2_with fail
    refine (szProgram_any _ _ _ _ _ _ hm (by omega) (by omega)).mono ?_
    rw [if_pos (by omega)]
    rintro e w1 ⟨rfl, hb1⟩
    go_wp2_with fail
    go_ret
    exact ⟨rfl, ((Below.refl _ _).alloc (Nat.le_refl _) _).trans (hb1.mono (by simp))⟩

set_option maxRecDepth 100000 in
theorem exactGoesTo_lifted (os : Os) (started : os.Started) (H : Type) (enc : TypeId × Value → H) :
    ReturnsInHanded {} Try.checked os 5 .any (Rows.fnExactGoesToSpec.pre6 enc Try.prog Try.f5 Rows.fnExactGoesToRow.domain false) (Rows.fnExactGoesToSpec.post enc Try.prog Try.f5 false true false false) := by
  refine law_lifted (C := Try.checked) (tb := 4) own started (by kernel_rfl) Try.func5
    (ChangeSpec.witness6 (enc := enc) (C := Try.checked) false ⟨#[], #[.agg #[.slice none 0 0, .int .i64 0], .int .i64 0], []⟩ 8 (by kernel_rfl) (by kernel_rfl) (by kernel_rfl) (by kernel_rfl))
    laidOut (fun t ht => ?_) rfl Try.underlying4 rfl (fun ds hds => ?_) ?_
  · have hp : t ∈ [30, 3] := ht
    simp only [List.mem_cons, List.not_mem_nil, or_false] at hp
    rcases hp with rfl | rfl
    · exact ⟨by kernel_rfl, of_decide_eq_true (by kernel_rfl)⟩
    · exact ⟨by kernel_rfl, of_decide_eq_true (by kernel_rfl)⟩
  · match ds, hds with
    | [d, d'], _ => rfl
  · intro W base args ds p hval0 hA0
    have hval : ∀ (j : Nat) t v, Try.f5.params[j]? = some t → args[j]? = some v → Value.okWide Try.prog W .any base t v := hval0
    have hA : DataW.TrodAll enc Try.prog W 0 (fun _ => true) true Try.f5.params.toList args.toList ds p := hA0
    rw [Try.params5] at hA hval
    obtain ⟨v0, v1, d0, d1, p0, p1, rfl, rfl, rfl, h0, h1⟩ := trodAll_two hA
    obtain ⟨c0, c1, y0, y1, m, rfl, rfl, rfl, hy0, hy1⟩ := open_agg2 Try.underlying30 (by kernel_rfl) cells_prog (hval 0 30 v0 rfl rfl) h0
    obtain ⟨t, rfl, rfl, rfl, _⟩ := open_int Try.underlying3 (hval 1 3 v1 rfl rfl) h1
    obtain ⟨A, cap, rs, e0, hv, hm⟩ := open_codes hy0
    obtain ⟨h, e1, rfl, _⟩ := DataW.trod_int Try.underlying3 hy1
    simp at e0 e1
    subst e0 e1
    exact exactGoesTo_walk A cap h t rs W hv hm

theorem exactGoesTo_holds : Rows.FnExactGoesToSaid :=
  OpenClaim.holds_of_wide 5 Try.f5 rfl rfl rfl rfl rfl rfl rfl ⟨rfl, rfl, rfl, rfl, rfl⟩ rfl rfl rfl rfl rfl (by kernel_rfl) Try.func5 (by kernel_rfl)
    (of_decide_eq_true (by kernel_rfl)) (by unfold Func.isWrapper; rw [if_neg (of_decide_eq_false (by kernel_rfl))]; exact ⟨rfl, rfl⟩)
    (fun os started H enc _ => exactGoesTo_lifted os started H enc)
#print axioms exactGoesTo_holds
end Go.Proofs.Ytmcmfebmjfpmoaa
