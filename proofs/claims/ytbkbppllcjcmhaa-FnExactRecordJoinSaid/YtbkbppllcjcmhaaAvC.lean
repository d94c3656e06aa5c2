/-
  A cut between two texts: what is told of memory may be less, and told another way. Over any program.
-/
import Derived.Test.YtbkbppllcjcmhaaAvD
set_option linter.unusedSimpArgs false
set_option linter.unusedVariables false
set_option linter.defProp false
namespace Go.Proofs.Ytbkbppllcjcmhaa
open Go.RowKit
namespace Av
/-- this machine tells less than that one (simp leaves it alone) -/
def LessC (m : Nat) (S : ASt) (ts : List (Nat × AV)) (hs : List (Nat × Blk)) : Prop := LessL m S ts hs
/-- behind the first of two texts -/
def cutQ (ts : List (Nat × AV)) (hs : List (Nat × Blk)) (m' : Nat) (Q : Post) : Post
  | .normal, S1, _ => LessC m' S1 ts hs
  | e, S, m => Q e S m
section
variable {ts : List (Nat × AV)} {hs : List (Nat × Blk)} {m' : Nat} {Q : Post} {S : ASt} {m : Nat}
theorem cutQ_normal : cutQ ts hs m' Q .normal S m = LessC m' S ts hs := rfl
theorem cutQ_ret : cutQ ts hs m' Q .ret S m = Q .ret S m := rfl
theorem cutQ_exit (i : Nat) : cutQ ts hs m' Q (.exit i) S m = Q (.exit i) S m := rfl
def cqs := (And.intro @cutQ_normal (And.intro @cutQ_ret @cutQ_exit))
end
theorem gh_less {P : Program} {S : ASt} {m : Nat} {ts : List (Nat × AV)} {hs : List (Nat × Blk)} (h : LessL m S ts hs) : Gh P S (mkS ts hs) := fun w0 N φ T M a w hr => ⟨_, _, _, hr.less (lessL_less h).1⟩
section
variable {E : Tab} {w0 : W0} {N : Nat} {S : ASt} {m : Nat} {Q : Post} {x y : Code}
theorem awpS_cut (hmix : E.P.follows .mixedOrders = true) (ts : List (Nat × AV)) (hs : List (Nat × Blk)) (m' : Nat) (h : awp E x (cutQ ts hs m' Q) S m) (h2 : awpS E.P w0 N y Q (mkS ts hs) m') : awpS E.P w0 N (.seq x y) Q S m := fun a w hd hM => by
  simp only [dstAll, Bool.and_eq_true] at hd
  refine wp_seq (wp_mono (awp_sound hmix x _ S m a w hd.1 h hM) (fun e a' w' he => ?_))
  obtain ⟨S', m1, h1, h3⟩ := he
  cases e with
  | normal =>
    obtain ⟨hl1, hl2⟩ := lessL_less (show LessL m' S' ts hs from h1)
    obtain ⟨⟨φ, T, M, hrel⟩, _⟩ := h3
    exact h2 a' w' hd.2 ⟨⟨_, _, _, hrel.less hl1⟩, hl2⟩
  | exit | goto | ret | panic | outgrown => exact ⟨S', m1, h1, h3⟩
/-- from here on less is told -/
theorem awpS_less {ts : List (Nat × AV)} {hs : List (Nat × Blk)} {m' : Nat} (hl : LessL m' S ts hs) (h : awpS E.P w0 N x Q (mkS ts hs) m') : awpS E.P w0 N x Q S m := awpS_gh (gh_less hl) (lessL_less hl).2 h
end
/-- what stands behind so many texts -/
def seqAt : Nat → Code → Option Code
  | 0, c => some c
  | n + 1, .seq _ y => seqAt n y
  | _, _ => none
end Av
end Go.Proofs.Ytbkbppllcjcmhaa
