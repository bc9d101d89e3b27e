/-
  What the program's and the document's KeyBal answer at every account and every currency.
-/
import Derived.Test.YtinefencifbjnaaDoorKeyBal
namespace Go.Proofs.YtinefencifbjnaaDoor
open Go.RowKit Go.Shelf

/-- The key of a balance. -/
def keyBalB (s : ByteArray) (c : Int) : ByteArray := if acctB s = true ∧ 1 ≤ c ∧ c ≤ 3 then ⟨#[98, 47]⟩ ++ s ++ ⟨#[47]⟩ ++ ⟨#[dig c]⟩ else ⟨#[]⟩
theorem keyBal_no1 {s : ByteArray} {c : Int} (h : acctB s = false) : keyBalB s c = ⟨#[]⟩ := by unfold keyBalB; rw [h]; simp
theorem keyBal_no2 {s : ByteArray} {c : Int} (h : c < 1) : keyBalB s c = ⟨#[]⟩ := by unfold keyBalB; rw [if_neg (by omega)]
theorem keyBal_no3 {s : ByteArray} {c : Int} (h : 3 < c) : keyBalB s c = ⟨#[]⟩ := by unfold keyBalB; rw [if_neg (by omega)]
theorem keyBal_yes {s : ByteArray} {c : Int} (h : acctB s = true) (h1 : 1 ≤ c) (h2 : c ≤ 3) : keyBalB s c = ⟨#[98, 47]⟩ ++ s ++ ⟨#[47]⟩ ++ ⟨#[dig c]⟩ := by unfold keyBalB; rw [if_pos ⟨h, h1, h2⟩]
theorem acct_size {s : ByteArray} (h : acctB s = true) : s.size ≤ 4 := by
  unfold acctB at h
  simp only [Bool.and_eq_true, decide_eq_true_eq] at h
  exact h.2.1
theorem ret_str {a b : ByteArray} (h : a = b) : Ending.returned (.string a) = .returned (.string b) := by rw [h]

set_option maxHeartbeats 2000000 in
set_option maxRecDepth 100000 in
theorem specKeyBal (s : ByteArray) (c : Int) (w : World) (hs : s.size ≤ maxLen) :
    Calls Tryd.prog 7 #[.string s, .int .i64 c] w fun e w' => e = .returned (.string (keyBalB s c)) ∧ Below w.heap.size w w' := by
  cases ha : acctB s with
  | false =>
    go_enter Tryd.func7, Tryd.ntmps7
    go_wp2_with (go_at_call 25; refine (specAcct _ _ hs).mono ?_; rw [ha]; rintro e w' ⟨rfl, rfl⟩)
    go_ret
    exact ⟨ret_str (keyBal_no1 ha).symm, Below.refl _ _⟩
  | true =>
    by_cases h1 : c < 1
    · go_enter Tryd.func7, Tryd.ntmps7
      go_wp2_with (go_at_call 25; refine (specAcct _ _ hs).mono ?_; rw [ha]; rintro e w' ⟨rfl, rfl⟩)
      go_ret
      exact ⟨ret_str (keyBal_no2 h1).symm, Below.refl _ _⟩
    by_cases h2 : 3 < c
    · go_enter Tryd.func7, Tryd.ntmps7
      go_wp2_with (go_at_call 25; refine (specAcct _ _ hs).mono ?_; rw [ha]; rintro e w' ⟨rfl, rfl⟩)
      go_ret
      exact ⟨ret_str (keyBal_no3 h2).symm, Below.refl _ _⟩
    · have hz := acct_size ha
      have g1 : ¬ 9223372036854775807 < 2 + s.size := by omega
      have g2 : ¬ 9223372036854775807 < 2 + s.size + 1 := by omega
      have g3 : ¬ 9223372036854775807 < 2 + s.size + 1 + 1 := by omega
      go_enter Tryd.func7, Tryd.ntmps7
      go_wp2_with (first
        | (go_at_call 25; refine (specAcct _ _ hs).mono ?_; rw [ha]; rintro e w' ⟨rfl, rfl⟩)
        | (go_at_call 26; refine (dec_small c _ (by omega) (by omega)).mono ?_; rintro e w1 ⟨rfl, hb1⟩))
      go_ret
      exact ⟨ret_str (keyBal_yes ha (by omega) (by omega)).symm, hb1⟩

set_option maxHeartbeats 2000000 in
set_option maxRecDepth 100000 in
theorem implKeyBal (s : ByteArray) (c : Int) (w : World) (hs : s.size ≤ maxLen) :
    Calls Tryd.prog 6 #[.string s, .int .i64 c] w fun e w' => e = .returned (.string (keyBalB s c)) ∧ Below w.heap.size w w' := by
  cases ha : acctB s with
  | false =>
    go_enter Tryd.func6, Tryd.ntmps6
    go_wp2_with (go_at_call 8; refine (implAcct _ _ hs).mono ?_; rw [ha]; rintro e w1 ⟨rfl, hb1⟩)
    go_ret
    exact ⟨ret_str (keyBal_no1 ha).symm, hb1⟩
  | true =>
    by_cases h1 : c < 1
    · go_enter Tryd.func6, Tryd.ntmps6
      go_wp2_with (go_at_call 8; refine (implAcct _ _ hs).mono ?_; rw [ha]; rintro e w1 ⟨rfl, hb1⟩)
      go_ret
      exact ⟨ret_str (keyBal_no2 h1).symm, hb1⟩
    by_cases h2 : 3 < c
    · go_enter Tryd.func6, Tryd.ntmps6
      go_wp2_with (go_at_call 8; refine (implAcct _ _ hs).mono ?_; rw [ha]; rintro e w1 ⟨rfl, hb1⟩)
      go_ret
      exact ⟨ret_str (keyBal_no3 h2).symm, hb1⟩
    · have hz := acct_size ha
      go_enter Tryd.func6, Tryd.ntmps6
      go_wp2_with fail
      refine (implAcct _ _ hs).mono ?_
      rw [ha]
      rintro e w1 ⟨rfl, hb1⟩
      go_wp2_with fail
      have hB0 : Lib.IsBuilder 39 5 w1.heap.size w1.heap.size [] (w1.alloc (.cells #[.pointer none, .slice none 0 0] 39)) := Lib.fresh_isBuilder _ _ w1
      have k0 : Below w1.heap.size w1 (w1.alloc (.cells #[.pointer none, .slice none 0 0] 39)) := (Below.refl _ _).alloc (Nat.le_refl _) _
      refine (writeString_any w1.heap.size w1.heap.size [] ⟨#[98, 47]⟩ _ hB0 (by decide) k0.size).mono ?_
      rintro e w2 ⟨rfl, hB2, hb2⟩
      have k2 := k0.trans hb2
      clear hB0 k0 hb2
      go_wp2_with fail
      refine (writeString_any w1.heap.size w1.heap.size _ s _ (Or.inr hB2) (by simp [Lib.strCells]; omega) k2.size).mono ?_
      rintro e w3 ⟨rfl, hB3, hb3⟩
      have k3 := k2.trans hb3
      clear hB2 k2 hb3
      go_wp2_with fail
      refine (writeByte_any w1.heap.size w1.heap.size _ 47 _ (Or.inr hB3) (by simp [Lib.strCells]; omega) k3.size).mono ?_
      rintro e w4 ⟨rfl, hB4, hb4⟩
      have k4 := k3.trans hb4
      clear hB3 k3 hb4
      go_wp2_with fail
      refine (itoa_small c _ (by omega)).mono ?_
      rintro e w5 ⟨rfl, rfl⟩
      go_wp2_with fail
      refine (writeString_any w1.heap.size w1.heap.size _ ⟨#[dig c]⟩ _ (Or.inr hB4) (by have hd : (⟨#[dig c]⟩ : ByteArray).size = 1 := rfl; simp [Lib.strCells]; omega) k4.size).mono ?_
      rintro e w6 ⟨rfl, hB6, hb6⟩
      have k6 := k4.trans hb6
      clear hB4 k4 hb6
      have hl : [] ++ Lib.strCells ⟨#[98, 47]⟩ ++ Lib.strCells s ++ [Value.int .u8 47] ++ Lib.strCells ⟨#[dig c]⟩ = Lib.byteCells ([98, 47] ++ s.data.toList ++ [47] ++ [dig c]) := by
        simp [Lib.byteCells, Lib.strCells]
      rw [hl] at hB6
      go_wp2_with fail
      refine (Tryd.Builder_String w1.heap.size w1.heap.size _ _ (Or.inr hB6) (by simp)).mono ?_
      rintro e w7 ⟨rfl, hb7⟩
      go_wp2
      go_ret
      refine ⟨ret_str ?_, hb1.trans ((k6.trans hb7).mono hb1.size)⟩
      rw [keyBal_yes ha (by omega) (by omega)]
      apply ByteArray.ext
      apply Array.toList_inj.1
      simp

end Go.Proofs.YtinefencifbjnaaDoor
