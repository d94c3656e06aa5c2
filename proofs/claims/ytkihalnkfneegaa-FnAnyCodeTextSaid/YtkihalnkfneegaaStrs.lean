/-
  Slices of texts that a call made, and how a text is cut into words in both packages: contracts.
-/
import Derived.Test.YtkihalnkfneegaaNums
import Derived.Test.YtkihalnkfneegaaInts
import Derived.Lib.IndexBytes
namespace Go.Proofs.Ytkihalnkfneegaa
open Go.RowKit

/-- v is a slice of a call's own, from block base on, that holds these texts -/
def StrRow (w : World) (base : Nat) (v : Value) (ws : List ByteArray) : Prop := w.ownsRow base 9 1 v ws.length (ws.map Value.string)

theorem StrRow.forms {w : World} {base : Nat} {v : Value} {xs : List ByteArray} (h : StrRow w base v xs) (hne : 0 < xs.length) :
    ∃ g cap, v = .slice (some ⟨g, 0, none⟩) xs.length cap ∧ base ≤ g ∧ g < w.heap.size ∧ xs.length ≤ cap ∧ cap ≤ maxLen := by
  have h' : w.ownsRow base 9 1 v xs.length (xs.map Value.string) := h
  rcases h'.2 with ⟨rfl, h0⟩ | ⟨g, cap, cur, rfl, hb, hg, hn, hm, _, _⟩
  · omega
  · exact ⟨g, cap, rfl, hb, (Array.getElem?_eq_some_iff.1 hg).1, hn, hm⟩
theorem StrRow.cell {w : World} {base g cap : Nat} {xs : List ByteArray} (h : StrRow w base (.slice (some ⟨g, 0, none⟩) xs.length cap) xs) (i : Nat) (hi : i < xs.length) :
    w.cell? ⟨g, i, none⟩ = some (.string xs[i]) := by
  have h' : w.ownsRow base 9 1 (.slice (some ⟨g, 0, none⟩) xs.length cap) xs.length (xs.map Value.string) := h
  rw [h'.cellAt i (by omega)]
  simp [hi]
theorem StrRow.own {w : World} {base : Nat} {v : Value} {xs : List ByteArray} (h : StrRow w base v xs) : ∀ k, v.ownBlock = some k → base ≤ k ∧ k < w.heap.size := World.ownsRow.lt h
theorem StrRow.keep {w w' : World} {base : Nat} {v : Value} {xs : List ByteArray} (h : StrRow w base v xs) (hb : Below w.heap.size w w') : StrRow w' base v xs := by
  refine World.ownsRow.kept h (grown_below hb) ?_
  cases e : v.ownBlock with
  | none => exact .inl rfl
  | some k => exact .inr (by simp)
theorem StrRow.mono {w : World} {base base' : Nat} {v : Value} {xs : List ByteArray} (h : StrRow w base v xs) (hb : base' ≤ base) : StrRow w base' v xs := Joins.ownsRow_le h hb
theorem StrRow.lit (w : World) (xs : List ByteArray) (hn : xs.length ≤ maxLen) : StrRow (w.alloc (.cells (xs.map Value.string).toArray 9)) w.heap.size (.slice (some ⟨w.heap.size, 0, none⟩) xs.length xs.length) xs := by
  have h := World.ownsRow_lit (base := w.heap.size) (e := 9) (size := 1) w (xs.map Value.string).toArray xs.length (Nat.le_refl _) hn (by simp)
  simpa [StrRow] using h

theorem infoStr : (Try.prog.info? 9).map (fun i => (i.zero, i.size, i.bytes)) = some (some (.string ⟨#[]⟩), 1, 16) := by kernel_rfl

/-- append of one text to a slice of the call's own -/
theorem wp_app_str {ops : Array Oper} {rest : List Oper} {o : Oper} {a : Act} {Q : Exit → Act → World → Prop} {w : World} (hgd : o.guard = none) (s x : Operand)
    (ho : o.op = .call { callee := .builtin .append, args := #[s, x], argTypes := #[36, 36] }) (base : Nat) (v : Value) (xs : List ByteArray) (hs : a.eval s = v) (hown : StrRow w base v xs)
    (ad : Addr) (c : Nat) (q : ByteArray) (hx : a.eval x = .slice (some ad) 1 c) (hq : w.cell? ad = some (.string q)) (hlen : xs.length ≤ 1099511627776) (hbase : base ≤ w.heap.size)
    (h : ∀ v' w', StrRow w' base v' (xs ++ [q]) → w.grownBy w' v.ownBlock → wpList Try.prog ops Q rest (a.put o.dst v') w') : wpList Try.prog ops Q (o :: rest) a w := by
  obtain ⟨i, hi, hz⟩ := Option.map_eq_some_iff.1 infoStr
  simp only [Prod.mk.injEq] at hz
  obtain ⟨hz, hsz, hby⟩ := hz
  refine wpList_append_own (P := Try.prog) w hgd s x 36 ho base 9 i (.string ⟨#[]⟩) 1 16 Try.underlying36 hi hz hsz hby rfl (by decide) v xs.length (xs.map Value.string) hs hown ad 1 c [.string q] hx rfl ?_ ?_ ?_ ?_ hbase ?_
  · intro j u hu
    cases j with
    | zero =>
      simp only [List.getElem?_cons_zero, Option.some.injEq] at hu
      subst hu
      exact hq
    | succ j => simp at hu
  · intro u hu
    simp only [List.mem_singleton] at hu
    subst hu
    rfl
  · unfold maxLen; omega
  · omega
  · intro v' w' h1 h2 _
    refine h v' w' ?_ h2
    have e : (xs ++ [q]).length = xs.length + 1 := by simp
    unfold StrRow
    rw [e, List.map_append]
    exact h1

/-- the words of a text, made by a call -/
def WordsMade (s : ByteArray) (w : World) (e : Ending) (w' : World) : Prop := ∃ v ws, e = .returned v ∧ ws.map (fun x : ByteArray => x.data.toList) = Bt.words s.data.toList ∧ StrRow w' w.heap.size v ws ∧ Below w.heap.size w w'

namespace Bt
theorem spl_step {s : ByteArray} {k f : Nat} {W : List (List UInt8)} (hk : k < s.size) (hf : f ≤ k) (h : spl [] (s.data.toList.take k) = W ++ [(s.data.toList.take k).drop f]) :
    (s[k] = 32 → spl [] (s.data.toList.take (k + 1)) = W ++ [(s.data.toList.take k).drop f] ++ [(s.data.toList.take (k + 1)).drop (k + 1)]) ∧
    (s[k] ≠ 32 → spl [] (s.data.toList.take (k + 1)) = W ++ [(s.data.toList.take (k + 1)).drop f]) := by
  obtain ⟨W', x, h1, h2⟩ := spl_snoc (s.data.toList.take k) s[k] []
  rw [h] at h1
  obtain ⟨e1, e2⟩ := List.append_inj' h1 rfl
  simp only [List.cons.injEq, and_true] at e2
  have hsz : k < s.data.toList.length := by simpa using hk
  rw [take_one_more s k hk]
  refine ⟨fun e => ?_, fun e => ?_⟩
  · rw [h2, if_pos e, ← e1, ← e2]
    congr 1
    simp
    omega
  · rw [h2, if_neg e, ← e1, ← e2, List.drop_append_of_le_length (by rw [List.length_take]; omega)]
theorem extract_mid (s : ByteArray) (a b : Nat) : (s.extract a b).data.toList = (s.data.toList.take b).drop a := by
  rw [Lib.extract_data, List.drop_take]
theorem spl_len (l : List UInt8) : ∀ cur, (spl cur l).length ≤ l.length + 1 := by
  induction l with
  | nil => intro cur; simp [spl]
  | cons c l ih =>
    intro cur
    rw [spl]
    split
    · have := ih []; simp only [List.length_cons]; omega
    · have := ih (cur ++ [c]); simp only [List.length_cons]; omega
end Bt

set_option maxHeartbeats 1000000 in
theorem wordsOf_any (s : ByteArray) (w : World) (hs : s.size ≤ 1048576) :
    Calls Try.prog 15 #[.string s] w (WordsMade s w) := by
  go_enter Try.func15, Try.ntmps15
  go_wp2
  go_loopw [3, 4, 5] (fun v f i wr => ∃ k fr : Nat, ∃ ws : List ByteArray, k ≤ s.size ∧ fr ≤ k ∧ i = .int .i64 k ∧ f = .int .i64 fr ∧ StrRow wr w.heap.size v ws ∧ Below w.heap.size w wr ∧ Bt.spl [] (s.data.toList.take k) = ws.map (fun x : ByteArray => x.data.toList) ++ [(s.data.toList.take k).drop fr]) (fun _ _ i _ => s.size - (intOf i).toNat)
  case atStart => exact ⟨0, 0, [], Nat.zero_le _, Nat.le_refl _, rfl, rfl, StrRow.lit w [] (Nat.zero_le _), (Below.refl _ _).alloc (Nat.le_refl _) _, rfl⟩
  case round =>
    obtain ⟨k, fr, ws, hk, hf, rfl, rfl, hr, hb, hsp⟩ := hrel
    have HR := Lib.hid hr; clear hr
    have HP := Lib.hid hsp; clear hsp
    have hwl : ws.length ≤ k := by
      have h1 := Bt.spl_len (s.data.toList.take k) []
      rw [HP.out] at h1
      simp at h1
      omega
    have hz := hb.size
    by_cases hlt : k < s.size
    · by_cases hc : s[k] = 32
      · have hc' : ((s[k].toNat : Int) == 32) = true := by rw [hc]; rfl
        have HC := Lib.hid hc; clear hc
        go_wp2_with (at_builtin; refine wp_app_str rfl _ _ rfl w.heap.size _ ws rfl ?ca _ 1 (s.extract fr k) rfl ?cb ?cc ?cd ?_; (case ca => exact HR.out.keep ((Below.refl _ _).alloc (Nat.le_refl _) _)); (case cb => simp); (case cc => omega); (case cd => simp; omega); intro v2 w2 hr2 hg2; have HR2 := Lib.hid hr2; clear hr2; have HG2 := Lib.hid hg2; clear hg2)
        go_roundw
        case rel =>
          refine ⟨k + 1, k + 1, ws ++ [s.extract fr k], by omega, Nat.le_refl _, by go_num, by go_num, HR2.out, (hb.alloc hz _).grown HG2.out (by simp; omega) (fun j hj => (HR.out.own j hj).1), ?_⟩
          rw [(Bt.spl_step hlt hf HP.out).1 HC.out, List.map_append, ← Bt.extract_mid s fr k]
          rfl
        case measure => simp [intOf]; omega
      · have hc' : ((s[k].toNat : Int) == 32) = false := by
          rw [beq_eq_false_iff_ne]
          intro e
          apply hc
          apply UInt8.toNat_inj.1
          have h32 : (32 : UInt8).toNat = 32 := rfl
          omega
        have HC := Lib.hid hc; clear hc
        go_wp2
        go_roundw
        case rel => exact ⟨k + 1, fr, ws, by omega, by omega, by go_num, rfl, HR.out, hb, (Bt.spl_step hlt hf HP.out).2 HC.out⟩
        case measure => simp [intOf]; omega
    · have e : s.data.toList.take k = s.data.toList := List.take_of_length_le (by simp; omega)
      have HE := Lib.hid e; clear e
      have hks : k = s.size := by omega
      have HK := Lib.hid hks; clear hks
      go_wp2_with (at_builtin; refine wp_app_str rfl _ _ rfl w.heap.size _ ws rfl ?ca _ 1 (s.extract fr s.size) rfl ?cb ?cc ?cd ?_; (case ca => exact HR.out.keep ((Below.refl _ _).alloc (Nat.le_refl _) _)); (case cb => simp); (case cc => omega); (case cd => simp; omega); intro v2 w2 hr2 hg2; have HR2 := Lib.hid hr2; clear hr2; have HG2 := Lib.hid hg2; clear hg2)
      go_ret
      refine ⟨_, ws ++ [s.extract fr s.size], rfl, ?_, HR2.out, (hb.alloc hz _).grown HG2.out (by simp; omega) (fun j hj => (HR.out.own j hj).1)⟩
      have h := HP.out
      rw [HE.out] at h
      unfold Bt.words
      rw [h, List.map_append, ← Lib.extract_to_end]
      rfl

end Go.Proofs.Ytkihalnkfneegaa
