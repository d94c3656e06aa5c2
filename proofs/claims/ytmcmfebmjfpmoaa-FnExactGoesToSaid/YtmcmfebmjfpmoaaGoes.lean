/-
  Where a thread may go on, by the model: a contract for every program in memory and every place.
-/
import Derived.Test.YtmcmfebmjfpmoaaMarks
import Derived.Test.YtmcmfebmjfpmoaaPokI
namespace Go.Proofs.Ytmcmfebmjfpmoaa
open Go.RowKit

namespace Bt
theorem goes_same {r : C4} {t : Int} (hop : r.op = 10) (hc : r.c = t + 1) : goes r t = [t + 1] := by
  unfold goes
  rw [hop, show gNext 10 = true from rfl, show gAway 10 = true from rfl, if_pos rfl, if_pos rfl, if_pos hc]
theorem goes_less {r : C4} {t : Int} (hop : r.op = 10) (hc : r.c < t + 1) : goes r t = [r.c, t + 1] := by
  unfold goes
  rw [hop, show gNext 10 = true from rfl, show gAway 10 = true from rfl, if_pos rfl, if_pos rfl, if_neg (by omega), if_pos hc]
theorem goes_more {r : C4} {t : Int} (hop : r.op = 10) (hc : t + 1 < r.c) : goes r t = [t + 1, r.c] := by
  unfold goes
  rw [hop, show gNext 10 = true from rfl, show gAway 10 = true from rfl, if_pos rfl, if_pos rfl, if_neg (by omega), if_neg (by omega)]
end Bt

/-- a slice of ints that a call made -/
def IntsMade (xs : List Int) (w : World) (e : Ending) (w' : World) : Prop := ∃ v, e = .returned v ∧ IntRow w' w.heap.size v xs ∧ Below w.heap.size w w'

/-- no row of ints lies in a block of something else -/
theorem IntRow.ne {w : World} {base b : Nat} {v : Value} {xs : List Int} {c : Array Value} {t : TypeId} {fr : Nat × Nat} (h : IntRow w base v xs) (hb : w.heap[b]? = some (.cells c t fr)) (ht : t ≠ 3) : v.ownBlock ≠ some b := by
  have h' : w.ownsRow base 3 1 v xs.length (xs.map (Value.int .i64)) := h
  rcases h'.2 with ⟨rfl, _⟩ | ⟨g, cap, cur, rfl, _, hg, _⟩
  · simp [Value.ownBlock]
  · intro e
    simp only [Value.ownBlock, Option.some.injEq] at e
    subst e
    rw [hb] at hg
    simp only [Option.some.injEq, Obj.cells.injEq] at hg
    exact ht hg.2.1
/-- a block that was laid just ahead of an append is there behind it -/
theorem code_block {w1 w2 : World} {L M : Array Value} {t u : TypeId} {row : Option Nat} (hg : ((w1.alloc (.cells L t)).alloc (.cells M u)).grownBy w2 row) (hne : some w1.heap.size ≠ row) : w2.heap[w1.heap.size]? = some (.cells L t (0, 0)) :=
  (hg.block _ (by simp; omega) hne).trans ((Below.heap_alloc _ _ _ (by simp)).trans (heap_alloc_new w1 _))

/-- an empty slice of the call's own, behind one other block -/
theorem empty_row {w w1 : World} {X : Obj} (hb1 : Below ((w.alloc X).alloc (.cells #[] 3)).heap.size ((w.alloc X).alloc (.cells #[] 3)) w1) : IntRow w1 w.heap.size (.slice (some ⟨w.heap.size + 1, 0, none⟩) 0 0) [] := by
  have h := ((IntRow.lit (w.alloc X) [] (Nat.zero_le _)).keep hb1).mono (base' := w.heap.size) (by simp)
  simpa using h

set_option maxHeartbeats 1000000 in
theorem specGoesTo_any (b o cap : Nat) (rs : List Bt.C4) (h t : Int) (w : World) (hn : rs.length ≤ 1048576) (hcap : rs.length ≤ cap) (hrs : CodesAt w b o rs) :
    Calls Try.prog 16 #[.agg #[.slice (some ⟨b, o, none⟩) rs.length cap, .int .i64 h], .int .i64 t] w (IntsMade (Bt.goesTo rs h t) w) := by
  have HC := Lib.hid hrs; clear hrs
  cases hp : Bt.progOk rs h
  · have HF : Hid (Bt.goesTo rs h t = []) := Lib.hid (Bt.goesTo_bad hp)
    go_enter Try.func16, Try.ntmps16
    go_wp2_with fail
    refine (specProgramOk_any _ _ _ rs _ _ hn hcap (HC.out.keep (((Below.refl _ _).alloc (Nat.le_refl _) _).alloc (by simp) _))).mono ?_
    rw [hp]
    rintro e w1 ⟨rfl, hb1⟩
    have hz1 : w.heap.size < w1.heap.size := by have := hb1.size; simp at this; omega
    have hz1' : w.heap.size + 1 < w1.heap.size := by have := hb1.size; simp at this; omega
    have B1 : Below w.heap.size w w1 := (((Below.refl _ _).alloc (Nat.le_refl _) _).alloc (by simp) _).trans (hb1.mono (by simp; omega))
    go_wp2
    go_ret
    exact ⟨_, rfl, by rw [HF.out]; exact empty_row hb1, B1⟩
  · by_cases h0 : 0 ≤ t
    · obtain ⟨k, rfl⟩ := Int.eq_ofNat_of_zero_le h0
      by_cases hk : k < rs.length
      · have h60 := Bt.progOk_len hp
        obtain ⟨f0, f1, f2, f3⟩ := HC.out k hk
        have HF0 : Hid (Bt.goesTo rs h k = Bt.goes rs[k] k) := Lib.hid (Bt.goesTo_at hp hk)
        have HF0 : Hid (Bt.goesTo rs h k = Bt.goes rs[k] k) := Lib.hid (Bt.goesTo_at hp hk)
        obtain ⟨r, hr⟩ : ∃ r, rs[k] = r := ⟨_, rfl⟩
        have HR := Lib.hid hr; clear hr
        rcases (show r.op = 0 ∨ r.op = 12 ∨ r.op = 9 ∨ r.op = 11 ∨ (r.op = 10 ∧ r.c = k + 1) ∨ (r.op = 10 ∧ r.c < k + 1) ∨ (r.op = 10 ∧ k + 1 < r.c) ∨ ((r.op == 0) = false ∧ (r.op == 9) = false ∧ (r.op == 10) = false ∧ (r.op == 11) = false ∧ (r.op == 12) = false) by simp only [beq_eq_false_iff_ne]; omega) with hop | hop | hop | hop | ⟨hop, hc⟩ | ⟨hop, hc⟩ | ⟨hop, hc⟩ | ⟨o0, o9, o10, o11, o12⟩
        · have HF : Hid (Bt.goesTo rs h k = []) := Lib.hid (by rw [HF0.out, HR.out]; simp [Bt.goes, Bt.gNext, Bt.gAway, hop])
          go_enter Try.func16, Try.ntmps16
          go_wp2_with fail
          refine (specProgramOk_any _ _ _ rs _ _ hn hcap (HC.out.keep (((Below.refl _ _).alloc (Nat.le_refl _) _).alloc (by simp) _))).mono ?_
          rw [hp]
          rintro e w1 ⟨rfl, hb1⟩
          have hz1 : w.heap.size < w1.heap.size := by have := hb1.size; simp at this; omega
          have hz1' : w.heap.size + 1 < w1.heap.size := by have := hb1.size; simp at this; omega
          have B1 : Below w.heap.size w w1 := (((Below.refl _ _).alloc (Nat.le_refl _) _).alloc (by simp) _).trans (hb1.mono (by simp; omega))
          have HW := Lib.hid (empty_row hb1)
          obtain ⟨hc1, hf1⟩ := bcell hb1
          obtain ⟨f0, f1, f2, f3⟩ := (HC.out.keep B1) k hk
          rw [HR.out] at f0 f1 f2 f3
          go_wp2
          go_ret
          exact ⟨_, rfl, by rw [HF.out]; exact HW.out.keep ((Below.refl _ _).alloc (Nat.le_refl _) _), B1.alloc (by omega) _⟩
        · have HF : Hid (Bt.goesTo rs h k = []) := Lib.hid (by rw [HF0.out, HR.out]; simp [Bt.goes, Bt.gNext, Bt.gAway, hop])
          go_enter Try.func16, Try.ntmps16
          go_wp2_with fail
          refine (specProgramOk_any _ _ _ rs _ _ hn hcap (HC.out.keep (((Below.refl _ _).alloc (Nat.le_refl _) _).alloc (by simp) _))).mono ?_
          rw [hp]
          rintro e w1 ⟨rfl, hb1⟩
          have hz1 : w.heap.size < w1.heap.size := by have := hb1.size; simp at this; omega
          have hz1' : w.heap.size + 1 < w1.heap.size := by have := hb1.size; simp at this; omega
          have B1 : Below w.heap.size w w1 := (((Below.refl _ _).alloc (Nat.le_refl _) _).alloc (by simp) _).trans (hb1.mono (by simp; omega))
          have HW := Lib.hid (empty_row hb1)
          obtain ⟨hc1, hf1⟩ := bcell hb1
          obtain ⟨f0, f1, f2, f3⟩ := (HC.out.keep B1) k hk
          rw [HR.out] at f0 f1 f2 f3
          go_wp2
          go_ret
          exact ⟨_, rfl, by rw [HF.out]; exact HW.out.keep ((Below.refl _ _).alloc (Nat.le_refl _) _), B1.alloc (by omega) _⟩
        · have HF : Hid (Bt.goesTo rs h k = [r.c]) := Lib.hid (by rw [HF0.out, HR.out]; simp [Bt.goes, Bt.gNext, Bt.gAway, hop])
          go_enter Try.func16, Try.ntmps16
          go_wp2_with fail
          refine (specProgramOk_any _ _ _ rs _ _ hn hcap (HC.out.keep (((Below.refl _ _).alloc (Nat.le_refl _) _).alloc (by simp) _))).mono ?_
          rw [hp]
          rintro e w1 ⟨rfl, hb1⟩
          have hz1 : w.heap.size < w1.heap.size := by have := hb1.size; simp at this; omega
          have hz1' : w.heap.size + 1 < w1.heap.size := by have := hb1.size; simp at this; omega
          have B1 : Below w.heap.size w w1 := (((Below.refl _ _).alloc (Nat.le_refl _) _).alloc (by simp) _).trans (hb1.mono (by simp; omega))
          have HW := Lib.hid (empty_row hb1)
          obtain ⟨hc1, hf1⟩ := bcell hb1
          obtain ⟨f0, f1, f2, f3⟩ := (HC.out.keep B1) k hk
          rw [HR.out] at f0 f1 f2 f3
          go_wp2_with (at_builtin; refine wp_app_int rfl _ _ rfl w.heap.size (.slice (some ⟨w.heap.size + 1, 0, none⟩) 0 0) [] rfl ?ca _ 1 (r.c) rfl ?cb ?cc ?cd ?_; (case ca => exact HW.out.keep (((Below.refl _ _).alloc (Nat.le_refl _) _).alloc (by simp) _)); (case cb => simp); (case cc => simp); (case cd => simp; omega); intro v2 w2 hr2 hg2; have x3 : w2.cell? ⟨w1.heap.size, 3, none⟩ = some (.int .i64 r.c) := hg2.cell (by simp; try omega) (by simp [Value.ownBlock]; omega); have X4 := Lib.hid (code_block hg2 (by simp [Value.ownBlock]; omega)); have HR2 := Lib.hid hr2; clear hr2; have HG2 := Lib.hid hg2; clear hg2)
          go_ret
          exact ⟨_, rfl, by rw [HF.out]; exact HR2.out, ((B1.alloc (by omega) _).alloc (by simp; omega) _).grown HG2.out (by simp; omega) (fun k hk => by simp [Value.ownBlock] at hk; omega)⟩
        · have HF : Hid (Bt.goesTo rs h k = [r.c]) := Lib.hid (by rw [HF0.out, HR.out]; simp [Bt.goes, Bt.gNext, Bt.gAway, hop])
          go_enter Try.func16, Try.ntmps16
          go_wp2_with fail
          refine (specProgramOk_any _ _ _ rs _ _ hn hcap (HC.out.keep (((Below.refl _ _).alloc (Nat.le_refl _) _).alloc (by simp) _))).mono ?_
          rw [hp]
          rintro e w1 ⟨rfl, hb1⟩
          have hz1 : w.heap.size < w1.heap.size := by have := hb1.size; simp at this; omega
          have hz1' : w.heap.size + 1 < w1.heap.size := by have := hb1.size; simp at this; omega
          have B1 : Below w.heap.size w w1 := (((Below.refl _ _).alloc (Nat.le_refl _) _).alloc (by simp) _).trans (hb1.mono (by simp; omega))
          have HW := Lib.hid (empty_row hb1)
          obtain ⟨hc1, hf1⟩ := bcell hb1
          obtain ⟨f0, f1, f2, f3⟩ := (HC.out.keep B1) k hk
          rw [HR.out] at f0 f1 f2 f3
          go_wp2_with (at_builtin; refine wp_app_int rfl _ _ rfl w.heap.size (.slice (some ⟨w.heap.size + 1, 0, none⟩) 0 0) [] rfl ?ca _ 1 (r.c) rfl ?cb ?cc ?cd ?_; (case ca => exact HW.out.keep (((Below.refl _ _).alloc (Nat.le_refl _) _).alloc (by simp) _)); (case cb => simp); (case cc => simp); (case cd => simp; omega); intro v2 w2 hr2 hg2; have x3 : w2.cell? ⟨w1.heap.size, 3, none⟩ = some (.int .i64 r.c) := hg2.cell (by simp; try omega) (by simp [Value.ownBlock]; omega); have X4 := Lib.hid (code_block hg2 (by simp [Value.ownBlock]; omega)); have HR2 := Lib.hid hr2; clear hr2; have HG2 := Lib.hid hg2; clear hg2)
          go_ret
          exact ⟨_, rfl, by rw [HF.out]; exact HR2.out, ((B1.alloc (by omega) _).alloc (by simp; omega) _).grown HG2.out (by simp; omega) (fun k hk => by simp [Value.ownBlock] at hk; omega)⟩
        · have HF : Hid (Bt.goesTo rs h k = [(k : Int) + 1]) := Lib.hid (by rw [HF0.out, HR.out]; exact Bt.goes_same hop hc)
          go_enter Try.func16, Try.ntmps16
          go_wp2_with fail
          refine (specProgramOk_any _ _ _ rs _ _ hn hcap (HC.out.keep (((Below.refl _ _).alloc (Nat.le_refl _) _).alloc (by simp) _))).mono ?_
          rw [hp]
          rintro e w1 ⟨rfl, hb1⟩
          have hz1 : w.heap.size < w1.heap.size := by have := hb1.size; simp at this; omega
          have hz1' : w.heap.size + 1 < w1.heap.size := by have := hb1.size; simp at this; omega
          have B1 : Below w.heap.size w w1 := (((Below.refl _ _).alloc (Nat.le_refl _) _).alloc (by simp) _).trans (hb1.mono (by simp; omega))
          have HW := Lib.hid (empty_row hb1)
          obtain ⟨hc1, hf1⟩ := bcell hb1
          obtain ⟨f0, f1, f2, f3⟩ := (HC.out.keep B1) k hk
          rw [HR.out] at f0 f1 f2 f3
          go_wp2_with (at_builtin; refine wp_app_int rfl _ _ rfl w.heap.size (.slice (some ⟨w.heap.size + 1, 0, none⟩) 0 0) [] rfl ?ca _ 1 ((k : Int) + 1) rfl ?cb ?cc ?cd ?_; (case ca => exact HW.out.keep (((Below.refl _ _).alloc (Nat.le_refl _) _).alloc (by simp) _)); (case cb => simp); (case cc => simp); (case cd => simp; omega); intro v2 w2 hr2 hg2; have x3 : w2.cell? ⟨w1.heap.size, 3, none⟩ = some (.int .i64 r.c) := hg2.cell (by simp; try omega) (by simp [Value.ownBlock]; omega); have X4 := Lib.hid (code_block hg2 (by simp [Value.ownBlock]; omega)); have HR2 := Lib.hid hr2; clear hr2; have HG2 := Lib.hid hg2; clear hg2)
          go_ret
          exact ⟨_, rfl, by rw [HF.out]; exact HR2.out, ((B1.alloc (by omega) _).alloc (by simp; omega) _).grown HG2.out (by simp; omega) (fun k hk => by simp [Value.ownBlock] at hk; omega)⟩
        · have HF : Hid (Bt.goesTo rs h k = [r.c, (k : Int) + 1]) := Lib.hid (by rw [HF0.out, HR.out]; exact Bt.goes_less hop hc)
          go_enter Try.func16, Try.ntmps16
          go_wp2_with fail
          refine (specProgramOk_any _ _ _ rs _ _ hn hcap (HC.out.keep (((Below.refl _ _).alloc (Nat.le_refl _) _).alloc (by simp) _))).mono ?_
          rw [hp]
          rintro e w1 ⟨rfl, hb1⟩
          have hz1 : w.heap.size < w1.heap.size := by have := hb1.size; simp at this; omega
          have hz1' : w.heap.size + 1 < w1.heap.size := by have := hb1.size; simp at this; omega
          have B1 : Below w.heap.size w w1 := (((Below.refl _ _).alloc (Nat.le_refl _) _).alloc (by simp) _).trans (hb1.mono (by simp; omega))
          have HW := Lib.hid (empty_row hb1)
          obtain ⟨hc1, hf1⟩ := bcell hb1
          obtain ⟨f0, f1, f2, f3⟩ := (HC.out.keep B1) k hk
          rw [HR.out] at f0 f1 f2 f3
          go_wp2_with (first | (at_builtin; refine wp_app_int rfl _ _ rfl w.heap.size (.slice (some ⟨w.heap.size + 1, 0, none⟩) 0 0) [] rfl ?ca _ 1 (r.c) rfl ?cb ?cc ?cd ?_; (case ca => exact HW.out.keep (((Below.refl _ _).alloc (Nat.le_refl _) _).alloc (by simp) _)); (case cb => simp); (case cc => simp); (case cd => simp; omega); intro v2 w2 hr2 hg2; have x3 : w2.cell? ⟨w1.heap.size, 3, none⟩ = some (.int .i64 r.c) := hg2.cell (by simp; try omega) (by simp [Value.ownBlock]; omega); have X4 := Lib.hid (code_block hg2 (by simp [Value.ownBlock]; omega)); have HR2 := Lib.hid hr2; clear hr2; have hz2 : w1.heap.size ≤ w2.heap.size := (by have := hg2.size; simp at this; omega); have HG2 := Lib.hid hg2; clear hg2) | (at_builtin; refine wp_app_int rfl _ _ rfl w.heap.size v2 [r.c] rfl ?cx _ 1 ((k : Int) + 1) rfl ?cy ?cz ?cw ?_; (case cx => exact HR2.out.keep ((Below.refl _ _).alloc (Nat.le_refl _) _)); (case cy => simp); (case cz => simp); (case cw => simp; omega); intro v3 w3 hr3 hg3; have x5 : w3.cell? ⟨w1.heap.size, 3, none⟩ = some (.int .i64 r.c) := (hg3.cell (keeps ((Below.refl _ _).alloc (Nat.le_refl _) _) x3) (fun e => HR2.out.ne X4.out (by decide) e.symm)); have HR3 := Lib.hid hr3; clear hr3; have HG3 := Lib.hid hg3; clear hg3))
          go_ret
          have B2 := ((B1.alloc (by omega) _).alloc (by simp; omega) _).grown HG2.out (by simp; omega) (fun k hk => by simp [Value.ownBlock] at hk; omega)
          exact ⟨_, rfl, by rw [HF.out]; exact HR3.out, (B2.alloc (by omega) _).grown HG3.out (by simp; omega) (fun k hk => (HR2.out.lt k hk).1)⟩
        · have HF : Hid (Bt.goesTo rs h k = [(k : Int) + 1, r.c]) := Lib.hid (by rw [HF0.out, HR.out]; exact Bt.goes_more hop hc)
          go_enter Try.func16, Try.ntmps16
          go_wp2_with fail
          refine (specProgramOk_any _ _ _ rs _ _ hn hcap (HC.out.keep (((Below.refl _ _).alloc (Nat.le_refl _) _).alloc (by simp) _))).mono ?_
          rw [hp]
          rintro e w1 ⟨rfl, hb1⟩
          have hz1 : w.heap.size < w1.heap.size := by have := hb1.size; simp at this; omega
          have hz1' : w.heap.size + 1 < w1.heap.size := by have := hb1.size; simp at this; omega
          have B1 : Below w.heap.size w w1 := (((Below.refl _ _).alloc (Nat.le_refl _) _).alloc (by simp) _).trans (hb1.mono (by simp; omega))
          have HW := Lib.hid (empty_row hb1)
          obtain ⟨hc1, hf1⟩ := bcell hb1
          obtain ⟨f0, f1, f2, f3⟩ := (HC.out.keep B1) k hk
          rw [HR.out] at f0 f1 f2 f3
          go_wp2_with (first | (at_builtin; refine wp_app_int rfl _ _ rfl w.heap.size (.slice (some ⟨w.heap.size + 1, 0, none⟩) 0 0) [] rfl ?ca _ 1 ((k : Int) + 1) rfl ?cb ?cc ?cd ?_; (case ca => exact HW.out.keep (((Below.refl _ _).alloc (Nat.le_refl _) _).alloc (by simp) _)); (case cb => simp); (case cc => simp); (case cd => simp; omega); intro v2 w2 hr2 hg2; have x3 : w2.cell? ⟨w1.heap.size, 3, none⟩ = some (.int .i64 r.c) := hg2.cell (by simp; try omega) (by simp [Value.ownBlock]; omega); have X4 := Lib.hid (code_block hg2 (by simp [Value.ownBlock]; omega)); have HR2 := Lib.hid hr2; clear hr2; have hz2 : w1.heap.size ≤ w2.heap.size := (by have := hg2.size; simp at this; omega); have HG2 := Lib.hid hg2; clear hg2) | (at_builtin; refine wp_app_int rfl _ _ rfl w.heap.size v2 [(k : Int) + 1] rfl ?cx _ 1 (r.c) rfl ?cy ?cz ?cw ?_; (case cx => exact HR2.out.keep ((Below.refl _ _).alloc (Nat.le_refl _) _)); (case cy => simp); (case cz => simp); (case cw => simp; omega); intro v3 w3 hr3 hg3; have x5 : w3.cell? ⟨w1.heap.size, 3, none⟩ = some (.int .i64 r.c) := (hg3.cell (keeps ((Below.refl _ _).alloc (Nat.le_refl _) _) x3) (fun e => HR2.out.ne X4.out (by decide) e.symm)); have HR3 := Lib.hid hr3; clear hr3; have HG3 := Lib.hid hg3; clear hg3))
          go_ret
          have B2 := ((B1.alloc (by omega) _).alloc (by simp; omega) _).grown HG2.out (by simp; omega) (fun k hk => by simp [Value.ownBlock] at hk; omega)
          exact ⟨_, rfl, by rw [HF.out]; exact HR3.out, (B2.alloc (by omega) _).grown HG3.out (by simp; omega) (fun k hk => (HR2.out.lt k hk).1)⟩
        · have HF : Hid (Bt.goesTo rs h k = [(k : Int) + 1]) := Lib.hid (by rw [HF0.out, HR.out]; simp [Bt.goes, Bt.gNext, Bt.gAway, o0, o9, o10, o11, o12])
          have n0 : (r.op != 0) = true := by rw [bne, o0]; rfl
          have n9 : (r.op != 9) = true := by rw [bne, o9]; rfl
          have n11 : (r.op != 11) = true := by rw [bne, o11]; rfl
          have n12 : (r.op != 12) = true := by rw [bne, o12]; rfl
          go_enter Try.func16, Try.ntmps16
          go_wp2_with fail
          refine (specProgramOk_any _ _ _ rs _ _ hn hcap (HC.out.keep (((Below.refl _ _).alloc (Nat.le_refl _) _).alloc (by simp) _))).mono ?_
          rw [hp]
          rintro e w1 ⟨rfl, hb1⟩
          have hz1 : w.heap.size < w1.heap.size := by have := hb1.size; simp at this; omega
          have hz1' : w.heap.size + 1 < w1.heap.size := by have := hb1.size; simp at this; omega
          have B1 : Below w.heap.size w w1 := (((Below.refl _ _).alloc (Nat.le_refl _) _).alloc (by simp) _).trans (hb1.mono (by simp; omega))
          have HW := Lib.hid (empty_row hb1)
          obtain ⟨hc1, hf1⟩ := bcell hb1
          obtain ⟨f0, f1, f2, f3⟩ := (HC.out.keep B1) k hk
          rw [HR.out] at f0 f1 f2 f3
          go_wp2_with (at_builtin; refine wp_app_int rfl _ _ rfl w.heap.size (.slice (some ⟨w.heap.size + 1, 0, none⟩) 0 0) [] rfl ?ca _ 1 ((k : Int) + 1) rfl ?cb ?cc ?cd ?_; (case ca => exact HW.out.keep (((Below.refl _ _).alloc (Nat.le_refl _) _).alloc (by simp) _)); (case cb => simp); (case cc => simp); (case cd => simp; omega); intro v2 w2 hr2 hg2; have HR2 := Lib.hid hr2; clear hr2; have HG2 := Lib.hid hg2; clear hg2)
          go_ret
          exact ⟨_, rfl, by rw [HF.out]; exact HR2.out, ((B1.alloc (by omega) _).alloc (by simp; omega) _).grown HG2.out (by simp; omega) (fun k hk => by simp [Value.ownBlock] at hk; omega)⟩
      · have HF : Hid (Bt.goesTo rs h k = []) := Lib.hid (Bt.goesTo_out (by omega))
        go_enter Try.func16, Try.ntmps16
        go_wp2_with fail
        refine (specProgramOk_any _ _ _ rs _ _ hn hcap (HC.out.keep (((Below.refl _ _).alloc (Nat.le_refl _) _).alloc (by simp) _))).mono ?_
        rw [hp]
        rintro e w1 ⟨rfl, hb1⟩
        have hz1 : w.heap.size < w1.heap.size := by have := hb1.size; simp at this; omega
        have hz1' : w.heap.size + 1 < w1.heap.size := by have := hb1.size; simp at this; omega
        have B1 : Below w.heap.size w w1 := (((Below.refl _ _).alloc (Nat.le_refl _) _).alloc (by simp) _).trans (hb1.mono (by simp; omega))
        obtain ⟨hc1, hf1⟩ := bcell hb1
        go_wp2
        go_ret
        exact ⟨_, rfl, by rw [HF.out]; exact empty_row hb1, B1⟩
    · have HF : Hid (Bt.goesTo rs h t = []) := Lib.hid (Bt.goesTo_neg (by omega))
      go_enter Try.func16, Try.ntmps16
      go_wp2_with fail
      refine (specProgramOk_any _ _ _ rs _ _ hn hcap (HC.out.keep (((Below.refl _ _).alloc (Nat.le_refl _) _).alloc (by simp) _))).mono ?_
      rw [hp]
      rintro e w1 ⟨rfl, hb1⟩
      have hz1 : w.heap.size < w1.heap.size := by have := hb1.size; simp at this; omega
      have hz1' : w.heap.size + 1 < w1.heap.size := by have := hb1.size; simp at this; omega
      have B1 : Below w.heap.size w w1 := (((Below.refl _ _).alloc (Nat.le_refl _) _).alloc (by simp) _).trans (hb1.mono (by simp; omega))
      go_wp2
      go_ret
      exact ⟨_, rfl, by rw [HF.out]; exact empty_row hb1, B1⟩
end Go.Proofs.Ytmcmfebmjfpmoaa
