/-
  How a program is copied, counted and held against another one by the laws: contracts.
-/
import Derived.Test.YtolbihilggkldaaPokI
import Derived.Deep.OwnRows
namespace Go.Proofs.Ytolbihilggkldaa
open Go.RowKit

/-- block g is a row of these instructions, and of nothing else -/
def CodesOwn (w : World) (g : Nat) (rs : List Bt.C4) : Prop := ∃ f, w.rowIs g 77 (rs.length * 4) f ∧
  ∀ (j : Nat) (hj : j < rs.length), f (j * 4) = .int .i64 rs[j].op ∧ f (j * 4 + 1) = .int .i64 rs[j].a ∧ f (j * 4 + 2) = .int .i64 rs[j].b ∧ f (j * 4 + 3) = .int .i64 rs[j].c

theorem CodesOwn.codes {w : World} {g : Nat} {rs : List Bt.C4} (h : CodesOwn w g rs) : CodesAt w g 0 rs := fun i hi => by
  obtain ⟨f, hr, hf⟩ := h
  obtain ⟨h0, h1, h2, h3⟩ := hf i hi
  refine ⟨?_, ?_, ?_, ?_⟩
  · rw [← h0, show 0 + i * 4 = i * 4 by omega]; exact hr.cell (by omega)
  · rw [← h1, show 0 + i * 4 + 1 = i * 4 + 1 by omega]; exact hr.cell (by omega)
  · rw [← h2, show 0 + i * 4 + 2 = i * 4 + 2 by omega]; exact hr.cell (by omega)
  · rw [← h3, show 0 + i * 4 + 3 = i * 4 + 3 by omega]; exact hr.cell (by omega)
theorem CodesOwn.lt {w : World} {g : Nat} {rs : List Bt.C4} (h : CodesOwn w g rs) : g < w.heap.size := by
  obtain ⟨f, hr, _⟩ := h; exact hr.lt
theorem CodesOwn.below {w w' : World} {g B : Nat} {rs : List Bt.C4} (h : CodesOwn w g rs) (hb : Below B w w') (hg : g < B) : CodesOwn w' g rs := by
  obtain ⟨f, hr, hf⟩ := h
  exact ⟨f, hr.of_block (hb.block g hg), hf⟩

theorem CodesOwn.setOther {w : World} {g : Nat} {rs : List Bt.C4} (h : CodesOwn w g rs) {p : Addr} (hp : g ≠ p.block) (v : Value) : CodesOwn (w.setCell p v) g rs := by
  obtain ⟨f, hr, hf⟩ := h
  exact ⟨f, hr.setOther hp v, hf⟩

theorem infoCode : (Try.prog.info? 77).map (fun i => (i.zero, i.size, i.bytes)) = some (some (.agg #[.int .i64 0, .int .i64 0, .int .i64 0, .int .i64 0]), 4, 32) := by kernel_rfl

/-- make of instructions, whatever their number -/
theorem run_make_codes (n : Nat) (hn : n ≤ 1048576) (w : World) :
    (Instr.makeSlice 29 (.int .i64 (n : Int)) (.int .i64 (n : Int))).run Try.prog w = .ok (.slice (some ⟨w.heap.size, 0, none⟩) n n) (w.alloc (.cells (madeCells #[.int .i64 0, .int .i64 0, .int .i64 0, .int .i64 0] (n * 4)) 77)) := by
  obtain ⟨i, hi, hz⟩ := Option.map_eq_some_iff.1 infoCode
  simp only [Prod.mk.injEq] at hz
  obtain ⟨hz, hs, hb⟩ := hz
  have h := run_make (P := Try.prog) w 29 77 i _ Try.underlying29 hi hz .i64 .i64 (n : Int) (n : Int) (by omega) (Int.le_refl _) (by rw [hb]; omega) (by omega)
  simp only [Int.toNat_natCast, hs] at h
  exact h

theorem made_row (w : World) (z : Array Value) (m : Nat) (t : TypeId) : ∃ f, (w.alloc (.cells (madeCells z m) t)).rowIs w.heap.size t m f := by
  refine ⟨fun i => (madeCells z m)[i]?.getD undef, ?_⟩
  have h := World.rowIs_alloc w (madeCells z m) t (fun i => (madeCells z m)[i]?.getD undef) (fun i hi => by rw [Array.getElem?_eq_getElem hi]; rfl)
  rw [size_madeCells] at h
  exact h

/-- four stores into a row of instructions -/
theorem row_set4 {w : World} {g : Nat} {t : TypeId} {m : Nat} {f : Nat → Value} (h : w.rowIs g t m f) (i : Nat) (v0 v1 v2 v3 : Value) :
    ((((w.setCell ⟨g, i, none⟩ v0).setCell ⟨g, i + 1, none⟩ v1).setCell ⟨g, i + 2, none⟩ v2).setCell ⟨g, i + 3, none⟩ v3).rowIs g t m
      (fun j => if j = i then v0 else if j = i + 1 then v1 else if j = i + 2 then v2 else if j = i + 3 then v3 else f j) := by
  refine ((((h.set i v0).set (i + 1) v1).set (i + 2) v2).set (i + 3) v3).congr fun j _ => ?_
  split <;> rename_i h3
  · subst h3; simp
  · split <;> rename_i h2
    · subst h2; simp
    · split <;> rename_i h1
      · subst h1; simp
      · rfl

/-- a row's content behind such stores -/
def set4 (f : Nat → Value) (i : Nat) (v0 v1 v2 v3 : Value) : Nat → Value := fun j => if j = i then v0 else if j = i + 1 then v1 else if j = i + 2 then v2 else if j = i + 3 then v3 else f j
theorem set4_old {f : Nat → Value} {k j : Nat} {v0 v1 v2 v3 : Value} (h : j < k) : set4 f (k * 4) v0 v1 v2 v3 (j * 4) = f (j * 4) ∧ set4 f (k * 4) v0 v1 v2 v3 (j * 4 + 1) = f (j * 4 + 1) ∧
    set4 f (k * 4) v0 v1 v2 v3 (j * 4 + 2) = f (j * 4 + 2) ∧ set4 f (k * 4) v0 v1 v2 v3 (j * 4 + 3) = f (j * 4 + 3) := by
  unfold set4
  refine ⟨?_, ?_, ?_, ?_⟩ <;> rw [if_neg (by omega), if_neg (by omega), if_neg (by omega), if_neg (by omega)]
theorem set4_new {f : Nat → Value} {i : Nat} {v0 v1 v2 v3 : Value} : set4 f i v0 v1 v2 v3 i = v0 ∧ set4 f i v0 v1 v2 v3 (i + 1) = v1 ∧
    set4 f i v0 v1 v2 v3 (i + 2) = v2 ∧ set4 f i v0 v1 v2 v3 (i + 3) = v3 := by
  simp [set4]

set_option maxHeartbeats 1000000 in
theorem toCodes_some (b o cap : Nat) (rs : List Bt.C4) (w : World) (hn : rs.length ≤ 1048576) (hcap : rs.length ≤ cap) (hrs : CodesAt w b o rs) :
    Calls Try.prog 40 #[.slice (some ⟨b, o, none⟩) rs.length cap] w fun e w' => e = .returned (.slice (some ⟨w.heap.size, 0, none⟩) rs.length rs.length) ∧ Below w.heap.size w w' ∧ CodesOwn w' w.heap.size rs := by
  generalize hN : rs.length = n at *
  have HN := Lib.hid hN; clear hN
  have HC := Lib.hid hrs; clear hrs
  have hmk := run_make_codes n hn
  go_enter Try.func40, Try.ntmps40
  go_wp2
  clear hmk
  go_loopw [4] (fun i wr => ∃ k : Nat, k ≤ n ∧ i = .int .i64 k ∧ Below w.heap.size w wr ∧ ∃ f, wr.rowIs w.heap.size 77 (n * 4) f ∧
      ∀ (j : Nat) (hj : j < rs.length), j < k → f (j * 4) = .int .i64 rs[j].op ∧ f (j * 4 + 1) = .int .i64 rs[j].a ∧ f (j * 4 + 2) = .int .i64 rs[j].b ∧ f (j * 4 + 3) = .int .i64 rs[j].c) (fun i _ => n - (intOf i).toNat)
  case atStart =>
    obtain ⟨f, hf⟩ := made_row w #[.int .i64 0, .int .i64 0, .int .i64 0, .int .i64 0] (n * 4) 77
    exact ⟨0, Nat.zero_le _, rfl, (Below.refl _ _).alloc (Nat.le_refl _) _, f, hf, fun _ _ hj => absurd hj (by omega)⟩
  case round =>
    obtain ⟨k, hk, rfl, hb, f, hf, hall⟩ := hrel
    have HA := Lib.hid hall; clear hall
    by_cases hlt : k < n
    · have hlt' : k < rs.length := by rw [HN.out]; exact hlt
      have hgs := hf.lt
      obtain ⟨f0, f1, f2, f3⟩ := (CodesAt.keep (HC.out) hb) k hlt'
      generalize hr0 : rs[k].op = op at *
      generalize hr1 : rs[k].a = xa at *
      generalize hr2 : rs[k].b = xb at *
      generalize hr3 : rs[k].c = xc at *
      have HR : Hid (rs[k].op = op ∧ rs[k].a = xa ∧ rs[k].b = xb ∧ rs[k].c = xc) := Lib.hid ⟨hr0, hr1, hr2, hr3⟩
      clear hr0 hr1 hr2 hr3
      have HF := Lib.hid hf; clear hf
      go_wp2_with (go_at_call 66; refine (toCode_any _ _ _ _ _).mono ?_; rintro e w2 ⟨rfl, hb2⟩; have hf2 := World.rowIs.of_block HF.out (hb2.block w.heap.size hgs); have r0 := hf2.cell (show k * 4 < n * 4 by omega); have r1 := hf2.cell (show k * 4 + 1 < n * 4 by omega); have r2 := hf2.cell (show k * 4 + 2 < n * 4 by omega); have r3 := hf2.cell (show k * 4 + 3 < n * 4 by omega); have z0 := hf2.frozen (k * 4); have z1 := hf2.frozen (k * 4 + 1); have z2 := hf2.frozen (k * 4 + 2); have z3 := hf2.frozen (k * 4 + 3); have HF2 := Lib.hid hf2; clear hf2)
      go_roundw
      case rel =>
        refine ⟨k + 1, by omega, by go_num, ?_, set4 f (k * 4) (.int .i64 op) (.int .i64 xa) (.int .i64 xb) (.int .i64 xc), row_set4 HF2.out (k * 4) _ _ _ _, fun j hj hjk => ?_⟩
        · exact ((((hb.trans (hb2.mono (by omega))).setCell (Nat.le_refl _) _).setCell (Nat.le_refl _) _).setCell (Nat.le_refl _) _).setCell (Nat.le_refl _) _
        · by_cases hjk' : j < k
          · obtain ⟨o0, o1, o2, o3⟩ := set4_old (f := f) (v0 := .int .i64 op) (v1 := .int .i64 xa) (v2 := .int .i64 xb) (v3 := .int .i64 xc) hjk'
            obtain ⟨g0, g1, g2, g3⟩ := HA.out j hj hjk'
            exact ⟨o0.trans g0, o1.trans g1, o2.trans g2, o3.trans g3⟩
          · obtain rfl : j = k := by omega
            obtain ⟨e0, e1, e2, e3⟩ := HR.out
            rw [e0, e1, e2, e3]
            exact set4_new
      case measure => simp [intOf]; omega
    · obtain rfl : k = n := by omega
      have HF := Lib.hid hf; clear hf
      go_wp2
      go_ret
      exact ⟨rfl, hb, f, by rw [HN.out]; exact HF.out, fun j hj => HA.out j hj (by have := HN.out; omega)⟩
end Go.Proofs.Ytolbihilggkldaa
