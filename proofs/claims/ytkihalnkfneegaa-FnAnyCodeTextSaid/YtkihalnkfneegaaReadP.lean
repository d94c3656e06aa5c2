/-
  What the words of an instruction's text tell, without any Go.
-/
import Derived.Test.YtkihalnkfneegaaReadI
namespace Go.Proofs.Ytkihalnkfneegaa.Bt

theorem below_unused {n top : Int} (h : below n top false = true) : n = 0 := by
  unfold below at h
  exact of_decide_eq_true h

theorem parseI {l : List UInt8} {W : List (List UInt8)} {o op a b c : Int} (hw : W = words l) (ho : ∀ j : Int, 0 ≤ j → j ≤ 17 → name j = W.getD 0 [] → o = j) (h : Is l op a b c) :
    o = op ∧ fI W 1 (fA o) = a ∧ fI W (1 + wf (fA o)) (fB o) = b ∧ fI W (1 + wf (fA o) + wf (fB o)) (fC o) = c := by
  obtain ⟨hok, ht⟩ := h
  have hop := codeOk_op hok
  obtain ⟨⟨a0, a1⟩, ⟨b0, b1⟩, c0, c1⟩ := codeOk_nums hok
  have hW := words_text hok
  rw [ht, ← hw] at hW
  have e : o = op := ho op hop.1 hop.2 (by rw [hW]; rfl)
  subst e
  have na : numI (dec a.toNat) = a := by rw [numI_dec (by omega)]; omega
  have nb : numI (dec b.toNat) = b := by rw [numI_dec (by omega)]; omega
  have nc : numI (dec c.toNat) = c := by rw [numI_dec (by omega)]; omega
  simp only [codeOk, Bool.and_eq_true] at hok
  obtain ⟨⟨⟨_, ha⟩, hb⟩, hc⟩ := hok
  have hC := fC_used o
  refine ⟨rfl, ?_⟩
  cases hA : uA o <;> cases hB : uB o <;> cases hD : decide (0 < uC o)
  all_goals
    rw [hA] at ha hW
    rw [hB] at hb hW
    rw [hD] at hc hW hC
    first | (have za := below_unused ha; subst za) | skip
    first | (have zb := below_unused hb; subst zb) | skip
    first | (have zc := below_unused hc; subst zc) | skip
    have hC' : (fC o = 0) ∨ (fC o ≠ 0) := Classical.em _
    clear ho ht
    rw [hW]
    clear hW hw
    simp_all [fI, wf, fA, fB, fw]
theorem name_inj_none {op : Int} (h : 0 ≤ op ∧ op ≤ 17) (e : name op = []) : False := by
  rcases (show op = 0 ∨ op = 1 ∨ op = 2 ∨ op = 3 ∨ op = 4 ∨ op = 5 ∨ op = 6 ∨ op = 7 ∨ op = 8 ∨ op = 9 ∨ op = 10 ∨ op = 11 ∨ op = 12 ∨ op = 13 ∨ op = 14 ∨ op = 15 ∨ op = 16 ∨ op = 17 by omega) with rfl | rfl | rfl | rfl | rfl | rfl | rfl | rfl | rfl | rfl | rfl | rfl | rfl | rfl | rfl | rfl | rfl | rfl
  all_goals exact absurd e (by decide)
theorem text_ne {op a b c : Int} (h : codeOk op a b c = true) : codeText op a b c ≠ [] := by
  have hop := codeOk_op h
  intro e
  have h1 := words_text h
  rw [e] at h1
  have h2 : (words []) = [[]] := rfl
  rw [h2] at h1
  simp only [List.cons.injEq] at h1
  have h3 := name_inj_none hop h1.1.symm
  exact h3
end Go.Proofs.Ytkihalnkfneegaa.Bt
