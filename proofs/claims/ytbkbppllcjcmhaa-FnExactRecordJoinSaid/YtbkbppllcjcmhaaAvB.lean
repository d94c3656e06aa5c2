/-
  Cuts within loops: what a text does, whatever is said of it on the way, for blocks, loops and texts behind texts. Over any program.
-/
import Derived.Test.YtbkbppllcjcmhaaAvC
set_option linter.unusedSimpArgs false
set_option linter.unusedVariables false
namespace Go.Proofs.Ytbkbppllcjcmhaa
open Go.RowKit
namespace Av
section
variable {P : Program} {w0 : W0} {N : Nat} {S : ASt} {m : Nat} {Q : Post} {x y c : Code}
theorem awpS_seqS (h : awpS P w0 N x (seqQ (awpS P w0 N y) Q) S m) : awpS P w0 N (.seq x y) Q S m := fun a w hd hM => by
  simp only [dstAll, Bool.and_eq_true] at hd
  refine wp_seq (wp_mono (h a w hd.1 hM) (fun e a' w' he => ?_))
  obtain ⟨S', m', h1, h2⟩ := he
  cases e with
  | normal => exact h1 a' w' hd.2 h2
  | exit | goto | ret | panic | outgrown => exact ⟨S', m', h1, h2⟩
theorem awpS_block {id : Nat} (h : awpS P w0 N c (blockQ id Q) S m) : awpS P w0 N (.block id c) Q S m := fun a w hd hM => by
  refine wp_block (wp_mono (h a w (by simpa [dstAll] using hd) hM) (fun e a' w' he => ?_))
  obtain ⟨S', m', h1, h2⟩ := he
  cases e with
  | exit i =>
    unfold Exit.inBlock
    unfold blockQ at h1
    simp only at h1 ⊢
    split
    · rename_i e; rw [if_pos e] at h1; exact ⟨S', m', h1, h2⟩
    · rename_i e; rw [if_neg e] at h1; exact ⟨S', m', h1, h2⟩
  | normal | goto | ret | panic | outgrown => exact ⟨S', m', h1, h2⟩
theorem awpS_loop {X : Type} (ts : X → List (Nat × AV)) (hs : X → List (Nat × Blk)) (inv : X → Prop) (μ : X → Nat) (m' : Nat) (x0 : X) (h0 : inv x0) (hless : LessL m' S (ts x0) (hs x0))
    (hround : ∀ x, inv x → awpS P w0 N c (roundQ ts hs inv μ m' x Q) (mkS (ts x) (hs x)) m') : awpS P w0 N (.loop c) Q S m := fun a w hd hM => by
  have hM1 : Mem P w0 N (mkS (ts x0) (hs x0)) m' a w := by
    obtain ⟨hl1, hl2⟩ := lessL_less hless
    obtain ⟨⟨φ, T, M, hrel⟩, _⟩ := hM
    exact ⟨⟨_, _, _, hrel.less hl1⟩, hl2⟩
  intro b kk cs
  have key : ∀ k x a w, μ x = k → inv x → Mem P w0 N (mkS (ts x) (hs x)) m' a w → ∃ e a' w', (∃ S' m', Q e S' m' ∧ Mem P w0 N S' m' a' w') ∧ Arrives P (lone (b.at a (.code c :: .inLoop c :: kk)) cs w) b kk cs e a' w' := by
    intro k
    induction k using Nat.strongRecOn with
    | _ k ih =>
      intro x a w hk hI hM
      obtain ⟨e, a', w', ⟨S2, m2, hq, hM2⟩, harr⟩ := hround x hI a w (by simpa [dstAll] using hd) hM b (.inLoop c :: kk) cs
      cases e with
      | normal =>
        obtain ⟨x', hI', hlt, hl⟩ := hq
        have hM3 : Mem P w0 N (mkS (ts x') (hs x')) m' a' w' := by
          obtain ⟨hl1, hl2⟩ := lessL_less hl
          obtain ⟨⟨φ, T, M, hrel⟩, _⟩ := hM2
          exact ⟨⟨_, _, _, hrel.less hl1⟩, hl2⟩
        obtain ⟨e2, a2, w2, hq2, harr2⟩ := ih (μ x') (by omega) x' a' w' rfl hI' hM3
        exact ⟨e2, a2, w2, hq2, .of_steps (Go.Steps.trans harr (.one step_inLoop)) harr2⟩
      | exit id => exact ⟨_, a', w', ⟨S2, m2, hq, hM2⟩, .pass (x := .inLoop c) rfl (fun _ _ => .inl (by simp)) harr⟩
      | goto l => exact ⟨_, a', w', ⟨S2, m2, hq, hM2⟩, .pass (x := .inLoop c) rfl (fun _ _ => .inl (by simp)) harr⟩
      | ret => exact ⟨_, a', w', ⟨S2, m2, hq, hM2⟩, .pass (x := .inLoop c) rfl (fun _ _ => .inl (by simp)) harr⟩
      | panic ch => exact ⟨_, a', w', ⟨S2, m2, hq, hM2⟩, .pass (x := .inLoop c) rfl (fun _ _ => .inl (by simp)) harr⟩
      | outgrown => exact ⟨_, a', w', ⟨S2, m2, hq, hM2⟩, .pass (x := .inLoop c) rfl (fun _ _ => .inl (by simp)) harr⟩
  obtain ⟨e, a', w', hq, harr⟩ := key (μ x0) x0 a w rfl h0 hM1
  exact ⟨e, a', w', hq, .of_steps (.one step_loop) harr⟩
end
end Av
end Go.Proofs.Ytbkbppllcjcmhaa
