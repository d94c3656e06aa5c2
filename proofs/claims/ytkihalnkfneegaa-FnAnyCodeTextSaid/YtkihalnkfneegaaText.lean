/-
  How numbers and names are written, in both packages: contracts.
-/
import Derived.Test.YtkihalnkfneegaaDec
import Derived.Test.YtkihalnkfneegaaCodeC
import Derived.Deep.RegionWith
namespace Go.Proofs.Ytkihalnkfneegaa
open Go.RowKit

/-- one digit as a text -/
theorem conv1 (W : World) (g m : Nat) (hm : m < 10) (h : W.cell? ⟨g, 0, none⟩ = some (.int .u8 (48 + (m : Int)))) :
    (convert 45 9 (.slice (some ⟨g, 0, none⟩) 1 1)).run Try.prog W = .ok (.string ⟨#[Bt.digit m]⟩) W := by
  have e := run_convert_bytes_back (P := Try.prog) W 45 9 5 ⟨g, 0, none⟩ 1 [Bt.digit m] Try.underlying45 Try.underlying5 Try.underlying9 (fun j hj => by
    have hj0 : j = 0 := by simpa using hj
    subst hj0
    have e2 : (Bt.digit m).toNat = 48 + m := by unfold Bt.digit; rw [UInt8.toNat_ofNat']; omega
    show W.cell? ⟨g, 0, none⟩ = some (.int .u8 ((Bt.digit m).toNat : Int))
    rw [e2, h]
    rfl)
  exact e

theorem str_add (l m : List UInt8) : (⟨l.toArray⟩ : ByteArray) ++ ⟨m.toArray⟩ = ⟨(l ++ m).toArray⟩ := ByteArray.mk_append_mk _ _

theorem ret_str {a b : ByteArray} (h : a = b) : Ending.returned (.string a) = .returned (.string b) := by rw [h]

set_option maxHeartbeats 1000000 in
theorem specNumber_any (f : Nat) : ∀ (n : Nat) (w : World), n < f → n ≤ 1099511627776 →
    Calls Try.prog 14 #[.int .i64 n] w fun e w' => e = .returned (.string ⟨(Bt.dec n).toArray⟩) ∧ Below w.heap.size w w' := by
  induction f with
  | zero => intro n w h _; omega
  | succ f ih =>
    intro n w hf hn
    by_cases h : n < 10
    · have HD := Lib.hid (Bt.dec_small h)
      have hcv := conv1 (w.alloc (.cells #[.int .u8 (48 + (n : Int))] 5)) w.heap.size n h (by simp)
      go_enter Try.func14, Try.ntmps14
      go_wp2_with fail
      go_ret
      exact ⟨by rw [HD.out]; rfl, (Below.refl _ _).alloc (Nat.le_refl _) _⟩
    · have HD := Lib.hid (Bt.dec_big h)
      have hl := Bt.dec_len (n / 10)
      have hcv := fun W => conv1 W w.heap.size (n % 10) (by omega)
      have hcw : ∀ W : World, (convert 45 9 (.slice (some ⟨W.heap.size, 0, none⟩) 1 1)).run Try.prog (W.alloc (.cells #[.int .u8 (48 + (n : Int) % 10)] 5)) = .ok (.string ⟨#[Bt.digit (n % 10)]⟩) (W.alloc (.cells #[.int .u8 (48 + (n : Int) % 10)] 5)) :=
        fun W => conv1 _ W.heap.size (n % 10) (by omega) (by simp)
      go_enter Try.func14, Try.ntmps14
      go_wp2_with fail
      have q1 : IntKind.i64.wrap ((n : Int) / 10) = (n : Int) / 10 := by rw [IntKind.wrap_i64]; omega
      have q2 : IntKind.i64.wrap (48 + (n : Int) % 10) = 48 + (n : Int) % 10 := by rw [IntKind.wrap_i64]; omega
      have q0 : (n : Int).tmod 10 = (n : Int) % 10 := Int.tmod_eq_emod_of_nonneg (by omega)
      have q3 : IntKind.i64.wrap ((n : Int) % 10) = (n : Int) % 10 := by rw [IntKind.wrap_i64]; omega
      have q4 : IntKind.u8.wrap (48 + (n : Int) % 10) = 48 + (n : Int) % 10 := by rw [IntKind.wrap_u8]; omega
      go_region_with (go_at_call 14; refine (ih (n / 10) _ (by omega) (by omega)).mono ?_; rintro e w1 ⟨rfl, hb1⟩; obtain ⟨hc1, _⟩ := bcell hb1)
      all_goals
        go_wp2
        go_ret
      · exact ⟨ret_str (by rw [HD.out]; exact str_add _ _), (((Below.refl _ _).drew.trans hb1).alloc (by have := hb1.size; simpa using this) _)⟩
      · exact ⟨ret_str (by rw [HD.out]; exact str_add _ _), ((Below.refl _ _).alloc (Nat.le_refl _) _).drew.trans (hb1.mono (by simp))⟩
      · exact ⟨ret_str (by rw [HD.out]; exact str_add _ _), ((Below.refl _ _).alloc (Nat.le_refl _) _).drew.trans (hb1.mono (by simp))⟩

set_option maxHeartbeats 1000000 in
theorem implNumber_any (f : Nat) : ∀ (n : Nat) (w : World), n < f → n ≤ 1099511627776 →
    Calls Try.prog 20 #[.int .i64 n] w fun e w' => e = .returned (.string ⟨(Bt.dec n).toArray⟩) ∧ Below w.heap.size w w' := by
  induction f with
  | zero => intro n w h _; omega
  | succ f ih =>
    intro n w hf hn
    by_cases h : n < 10
    · have HD := Lib.hid (Bt.dec_small h)
      have hcv := conv1 (w.alloc (.cells #[.int .u8 (48 + (n : Int))] 5)) w.heap.size n h (by simp)
      go_enter Try.func20, Try.ntmps20
      go_wp2_with fail
      go_ret
      exact ⟨by rw [HD.out]; rfl, (Below.refl _ _).alloc (Nat.le_refl _) _⟩
    · have HD := Lib.hid (Bt.dec_big h)
      have hl := Bt.dec_len (n / 10)
      go_enter Try.func20, Try.ntmps20
      have hm := Bt.dec_len (n % 10)
      have HM := Lib.hid (Bt.dec_small (show n % 10 < 10 by omega))
      go_wp2_with fail
      refine (ih (n / 10) _ (by omega) (by omega)).mono ?_
      rintro e w1 ⟨rfl, hb1⟩
      go_wp2_with fail
      refine (ih (n % 10) _ (by omega) (by omega)).mono ?_
      rintro e w2 ⟨rfl, hb2⟩
      go_wp2_with fail
      go_ret
      exact ⟨ret_str (by rw [HD.out, HM.out, str_add]), hb1.trans (hb2.mono hb1.size)⟩
end Go.Proofs.Ytkihalnkfneegaa
