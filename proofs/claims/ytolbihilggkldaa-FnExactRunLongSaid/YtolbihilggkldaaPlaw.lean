/-
  How the laws copy, count and compare programs: contracts for every program in memory.
-/
import Derived.Test.YtolbihilggkldaaToProg
namespace Go.Proofs.Ytolbihilggkldaa
open Go.RowKit

/-- a slice of instructions that came in: a row somewhere, if there is one -/
def ArgCodes (w : World) (v : Value) (rs : List Bt.C4) : Prop :=
  ∃ A cap, v = .slice A rs.length cap ∧ rs.length ≤ cap ∧ (rs ≠ [] → ∃ b o, A = some ⟨b, o, none⟩ ∧ CodesAt w b o rs)

theorem ArgCodes.keep {w w' : World} {v : Value} {rs : List Bt.C4} (h : ArgCodes w v rs) (hb : Below w.heap.size w w') : ArgCodes w' v rs := by
  obtain ⟨A, cap, hv, hc, hr⟩ := h
  refine ⟨A, cap, hv, hc, fun hne => ?_⟩
  obtain ⟨b, o, hA, hr⟩ := hr hne
  exact ⟨b, o, hA, hr.keep hb⟩

set_option maxHeartbeats 1000000 in
theorem toCodes_nil (A : Option Addr) (cap : Nat) (w : World) :
    Calls Try.prog 40 #[.slice A 0 cap] w fun e w' => e = .returned (.slice (some ⟨w.heap.size, 0, none⟩) 0 0) ∧ Below w.heap.size w w' ∧ CodesOwn w' w.heap.size [] := by
  have hmk := run_make_codes 0 (by omega)
  simp only [Int.natCast_zero, Nat.zero_mul] at hmk
  go_enter Try.func40, Try.ntmps40
  go_wp2
  clear hmk
  go_loopw [4] (fun i wr => i = .int .i64 0 ∧ Below w.heap.size w wr ∧ CodesOwn wr w.heap.size []) (fun _ _ => 0)
  case atStart =>
    obtain ⟨f, hf⟩ := made_row w #[.int .i64 0, .int .i64 0, .int .i64 0, .int .i64 0] 0 77
    exact ⟨rfl, (Below.refl _ _).alloc (Nat.le_refl _) _, f, hf, fun j hj => absurd hj (by simp)⟩
  case round =>
    obtain ⟨rfl, hb, ho⟩ := hrel
    go_wp2
    go_ret
    exact ⟨rfl, hb, ho⟩

theorem toCodes_any (v : Value) (rs : List Bt.C4) (w : World) (hn : rs.length ≤ 1048576) (hv : ArgCodes w v rs) :
    Calls Try.prog 40 #[v] w fun e w' => e = .returned (.slice (some ⟨w.heap.size, 0, none⟩) rs.length rs.length) ∧ Below w.heap.size w w' ∧ CodesOwn w' w.heap.size rs := by
  obtain ⟨A, cap, rfl, hc, hr⟩ := hv
  by_cases hne : rs = []
  · subst hne
    exact toCodes_nil A cap w
  · obtain ⟨b, o, rfl, hr'⟩ := hr hne
    exact toCodes_some b o cap rs w hn hc hr'

/-- what a copied program is: a row of its own, made by the call -/
def ProgMade (rs : List Bt.C4) (h : Int) (w : World) (e : Ending) (w' : World) : Prop :=
  ∃ g, e = .returned (.agg #[.slice (some ⟨g, 0, none⟩) rs.length rs.length, .int .i64 h]) ∧ w.heap.size ≤ g ∧ Below w.heap.size w w' ∧ CodesOwn w' g rs

set_option maxHeartbeats 1000000 in
theorem toProgram_any (v : Value) (h : Int) (rs : List Bt.C4) (w : World) (hn : rs.length ≤ 1048576) (hv : ArgCodes w v rs) :
    Calls Try.prog 12 #[.agg #[v, .int .i64 h]] w (ProgMade rs h w) := by
  have HV := Lib.hid hv
  have hvc : v.cells = #[v] := by obtain ⟨A, cap, rfl, _⟩ := hv; rfl
  clear hv
  go_enter Try.func12, Try.ntmps12
  go_wp2_with fail
  refine (toCodes_any v rs _ hn (HV.out.keep (((Below.refl _ _).alloc (Nat.le_refl _) _).alloc (by simp) _ |>.alloc (by simp <;> omega) _))).mono ?_
  rintro e w1 ⟨rfl, hb1, ho1⟩
  obtain ⟨hc1, hf1⟩ := bcell hb1
  have hz : w.heap.size + 2 < w1.heap.size := by have := hb1.size; simp at this; omega
  go_wp2
  refine bodyPost_ret (v := .agg #[.slice (some ⟨w.heap.size + 3, 0, none⟩) rs.length rs.length, .int .i64 h]) (by simp [results, Try.results12, go_sem, hc1]) rfl ⟨w.heap.size + 3, rfl, by omega, ?_, ?_⟩
  · exact (((((((Below.refl _ _).alloc (Nat.le_refl _) _).alloc (by simp) _).alloc (by simp; omega) _).trans (hb1.mono (by simp; omega))).setCell (by simp; omega) _).setCell (by simp; omega) _).setCell (by simp) _ |>.setCell (by simp) _
  · have ho : CodesOwn w1 (w.heap.size + 3) rs := by simpa using ho1
    exact (((ho.setOther (by simp) _).setOther (by simp) _).setOther (by simp) _).setOther (by simp) _

set_option maxHeartbeats 1000000 in
theorem szCodes_any (A : Option Addr) (n cap : Nat) (left : Int) (w : World) (hn : n ≤ maxLen) (h0 : 0 ≤ left) (h1 : left ≤ 1048576) :
    Calls Try.prog 36 #[.slice A n cap, .int .i64 left] w fun e w' => e = .returned (.int .i64 (if left < n then -1 else left - n)) ∧ w = w' := by
  unfold maxLen at hn
  by_cases hlt : left < n
  · rw [if_pos hlt]
    go_enter Try.func36, Try.ntmps36
    go_wp2
    go_ret
    exact ⟨rfl, rfl⟩
  · rw [if_neg hlt]
    go_enter Try.func36, Try.ntmps36
    go_wp2
    go_ret
    exact ⟨rfl, rfl⟩

set_option maxHeartbeats 1000000 in
theorem szProgram_any (A : Option Addr) (n cap : Nat) (h left : Int) (w : World) (hn : n ≤ maxLen) (h0 : 0 ≤ left) (h1 : left ≤ 1048576) :
    Calls Try.prog 9 #[.agg #[.slice A n cap, .int .i64 h], .int .i64 left] w fun e w' => e = .returned (.int .i64 (if left < n then -1 else left - n)) ∧ Below w.heap.size w w' := by
  by_cases hlt : left < n
  · rw [if_pos hlt]
    go_enter Try.func9, Try.ntmps9
    go_wp2_with (go_at_call 36; refine (szCodes_any _ _ _ _ _ hn h0 h1).mono ?_; rw [if_pos hlt]; rintro e w' ⟨rfl, rfl⟩)
    go_ret
    exact ⟨rfl, (Below.refl _ _).alloc (Nat.le_refl _) _⟩
  · rw [if_neg hlt]
    go_enter Try.func9, Try.ntmps9
    go_wp2_with (go_at_call 36; refine (szCodes_any _ _ _ _ _ hn h0 h1).mono ?_; rw [if_neg hlt]; rintro e w' ⟨rfl, rfl⟩)
    go_ret
    exact ⟨rfl, (Below.refl _ _).alloc (Nat.le_refl _) _⟩

set_option maxHeartbeats 1000000 in
theorem eqCode_same (op a b c : Int) (w : World) :
    Calls Try.prog 67 #[.agg #[.int .i64 op, .int .i64 a, .int .i64 b, .int .i64 c], .agg #[.int .i64 op, .int .i64 a, .int .i64 b, .int .i64 c]] w fun e w' => e = .returned (.bool true) ∧ Below w.heap.size w w' := by
  go_enter Try.func67, Try.ntmps67
  go_wp2
  go_ret
  exact ⟨rfl, ((Below.refl _ _).alloc (Nat.le_refl _) _).alloc (by simp) _⟩

set_option maxHeartbeats 1000000 in
theorem eqCodes_same (b o cap b' o' cap' : Nat) (rs : List Bt.C4) (w : World) (hn : rs.length ≤ 1048576) (hcap : rs.length ≤ cap) (hcap' : rs.length ≤ cap')
    (hrs : CodesAt w b o rs) (hrs' : CodesAt w b' o' rs) :
    Calls Try.prog 43 #[.slice (some ⟨b, o, none⟩) rs.length cap, .slice (some ⟨b', o', none⟩) rs.length cap'] w fun e w' => e = .returned (.bool true) ∧ Below w.heap.size w w' := by
  generalize hN : rs.length = n at *
  have HN := Lib.hid hN; clear hN
  have HC := Lib.hid hrs; clear hrs
  have HC' := Lib.hid hrs'; clear hrs'
  go_enter Try.func43, Try.ntmps43
  go_wp2
  go_loopw [5] (fun i wr => ∃ k : Nat, k ≤ n ∧ i = .int .i64 k ∧ Below w.heap.size w wr) (fun i _ => n - (intOf i).toNat)
  case atStart => exact ⟨0, Nat.zero_le _, rfl, Below.refl _ _⟩
  case round =>
    obtain ⟨k, hk, rfl, hb⟩ := hrel
    by_cases hlt : k < n
    · have hlt' : k < rs.length := by rw [HN.out]; exact hlt
      obtain ⟨f0, f1, f2, f3⟩ := (CodesAt.keep HC.out hb) k hlt'
      obtain ⟨g0, g1, g2, g3⟩ := (CodesAt.keep HC'.out hb) k hlt'
      have q0 := Cls.keeps f0
      have q1 := Cls.keeps f1
      have q2 := Cls.keeps f2
      have q3 := Cls.keeps f3
      have p0 := Cls.keeps g0
      have p1 := Cls.keeps g1
      have p2 := Cls.keeps g2
      have p3 := Cls.keeps g3
      go_wp2
      refine wp_region_cls (by kernel_rfl) (by kernel_rfl) ?_
      repeat (go_big_quiet_step ((go_at_call 67; exact cls_of (eqCode_same _ _ _ _ _))))
      refine wpQuiet_nil ?_
      intro w2' hw2'
      obtain ⟨⟨w2, hb2⟩, rfl⟩ := hw2'
      go_wp2
      go_roundw
      case rel => exact ⟨k + 1, by omega, by go_num, hb.trans (hb2.mono hb.size)⟩
      case measure => simp [intOf]; omega
    · obtain rfl : k = n := by omega
      go_wp2
      go_ret
      exact ⟨rfl, hb⟩

set_option maxHeartbeats 1000000 in
theorem eqProgram_same (b o cap b' o' cap' : Nat) (rs : List Bt.C4) (h : Int) (w : World) (hn : rs.length ≤ 1048576) (hcap : rs.length ≤ cap) (hcap' : rs.length ≤ cap')
    (hrs : CodesAt w b o rs) (hrs' : CodesAt w b' o' rs) :
    Calls Try.prog 15 #[.agg #[.slice (some ⟨b, o, none⟩) rs.length cap, .int .i64 h], .agg #[.slice (some ⟨b', o', none⟩) rs.length cap', .int .i64 h]] w fun e w' => e = .returned (.bool true) ∧ Below w.heap.size w w' := by
  have HC := Lib.hid hrs; clear hrs
  have HC' := Lib.hid hrs'; clear hrs'
  go_enter Try.func15, Try.ntmps15
  go_wp2_with (go_at_call 43; refine (eqCodes_same _ _ _ _ _ _ rs _ hn hcap hcap' (HC.out.keep (((Below.refl _ _).alloc (Nat.le_refl _) _).alloc (by simp) _)) (HC'.out.keep (((Below.refl _ _).alloc (Nat.le_refl _) _).alloc (by simp) _))).mono ?_; rintro e w1 ⟨rfl, hb1⟩; obtain ⟨hc1, hf1⟩ := bcell hb1; have hz : w.heap.size + 1 < w1.heap.size := (by have := hb1.size; simp at this; omega))
  go_ret
  exact ⟨rfl, (((Below.refl _ _).alloc (Nat.le_refl _) _).alloc (by simp) _).trans (hb1.mono (by simp; omega))⟩
end Go.Proofs.Ytolbihilggkldaa
