/-
  What the exact laws' walks share.
-/
import Derived.Test.YtolbihilggkldaaArgsB
import Derived.Test.YtolbihilggkldaaOrd
namespace Go.Proofs.Ytolbihilggkldaa
open Go.ChangeShapes Go.WideShapes Go.ChangeAt Go.RowKit Go.Joins

theorem szProg_rest (A : Option Addr) (n cap : Nat) (h left : Int) (w : World) (hn : n ≤ maxLen) (h0 : 0 ≤ left) (h1 : left ≤ 1048576) :
    Calls Try.prog 9 #[.agg #[.slice A n cap, .int .i64 h], .int .i64 left] w fun e w' => e = .returned (.int .i64 (rest left n)) ∧ Below w.heap.size w w' := szProgram_any A n cap h left w hn h0 h1
theorem ProgMade.pr {rs : List Bt.C4} {w' : World} {g : Nat} (h : CodesOwn w' g rs) (hn : rs.length ≤ 1048576) : ArgPr w' g 0 rs.length rs.length rs := ⟨rfl, hn, Nat.le_refl _, h.codes⟩
theorem cellsChoice : Try.prog.cellsOf 65 = 3 := by kernel_rfl
set_option maxHeartbeats 1000000 in
theorem toChoice_any (a b c : Int) (w : World) :
    Calls Try.prog 41 #[.agg #[.int .i64 a, .int .i64 b, .int .i64 c]] w fun e w' => e = .returned (.agg #[.int .i64 a, .int .i64 b, .int .i64 c]) ∧ Below w.heap.size w w' := by
  go_enter Try.func41, Try.ntmps41
  go_wp2
  refine bodyPost_ret (v := .agg #[.int .i64 a, .int .i64 b, .int .i64 c]) (by simp [results, Try.results41, go_sem]) rfl ⟨rfl, ?_⟩
  repeat (first | (refine Below.setCell ?_ (by simp; try omega) _) | (refine Below.alloc ?_ (by simp; try omega) _))
  exact Below.refl _ _
/-- four cells of a block, and that they may be turned -/
def Four (w : World) (g : Nat) (a b c d : Value) : Prop := w.cell? ⟨g, 0, none⟩ = some a ∧ w.cell? ⟨g, 1, none⟩ = some b ∧ w.cell? ⟨g, 2, none⟩ = some c ∧ w.cell? ⟨g, 3, none⟩ = some d ∧
  w.frozen? ⟨g, 0, none⟩ = false ∧ w.frozen? ⟨g, 1, none⟩ = false ∧ w.frozen? ⟨g, 2, none⟩ = false ∧ w.frozen? ⟨g, 3, none⟩ = false
theorem Four.keep {w w' : World} {g : Nat} {a b c d : Value} (h : Four w g a b c d) (hb : Below w.heap.size w w') : Four w' g a b c d := by
  obtain ⟨h0, h1, h2, h3, f0, f1, f2, f3⟩ := h
  exact ⟨keeps hb h0, keeps hb h1, keeps hb h2, keeps hb h3, (hb.frozen (cell_lt h0)).trans f0, (hb.frozen (cell_lt h1)).trans f1, (hb.frozen (cell_lt h2)).trans f2, (hb.frozen (cell_lt h3)).trans f3⟩
end Go.Proofs.Ytolbihilggkldaa
