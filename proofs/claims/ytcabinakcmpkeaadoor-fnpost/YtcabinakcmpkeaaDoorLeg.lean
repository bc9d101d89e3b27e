/-
  What the program's and the document's LegOk answer at every leg, by walks of their Go text.
-/
import Derived.Test.YtcabinakcmpkeaaDoorProg
import Derived.Test.YtcabinakcmpkeaaDoorPlain
import Derived.Test.YtcabinakcmpkeaaDoorAcct
import Derived.Test.YtcabinakcmpkeaaDoorBase
import Derived.WalkKit
import Derived.WalkSpells
import Derived.WalkLawsBesides
namespace Go.Proofs.YtcabinakcmpkeaaDoor
open Go.RowKit

theorem legB_acct {s : ByteArray} {c n : Int} (h : acctB s = false) : legB (s, c, n) = false := by simp [legB, h]
theorem legB_c1 {s : ByteArray} {c n : Int} (h : c < 1) : legB (s, c, n) = false := by
  have : decide (1 ≤ c) = false := decide_eq_false (by omega)
  simp [legB, this]
theorem legB_c3 {s : ByteArray} {c n : Int} (h : 3 < c) : legB (s, c, n) = false := by
  have : decide (c ≤ 3) = false := decide_eq_false (by omega)
  simp [legB, this]
theorem legB_n0 {s : ByteArray} {c n : Int} (h : n < -1000) : legB (s, c, n) = false := by
  have : decide (-1000 ≤ n) = false := decide_eq_false (by omega)
  simp [legB, this]
theorem legB_n1 {s : ByteArray} {c n : Int} (h : 1000 < n) : legB (s, c, n) = false := by
  have : decide (n ≤ 1000) = false := decide_eq_false (by omega)
  simp [legB, this]
theorem legB_z {s : ByteArray} {c : Int} : legB (s, c, 0) = false := by simp [legB]
theorem legB_yes {s : ByteArray} {c n : Int} (h : acctB s = true) (h1 : 1 ≤ c) (h2 : c ≤ 3) (h3 : -1000 ≤ n) (h4 : n ≤ 1000) (h5 : n ≠ 0) : legB (s, c, n) = true := by simp [legB, h, h1, h2, h3, h4, h5]

set_option maxHeartbeats 400000 in
theorem specLeg (s : ByteArray) (c n : Int) (w : World) (hs : s.size ≤ maxLen) :
    Calls Tryd.prog 63 #[.agg #[.string s, .int .i64 c, .int .i64 n]] w fun e w' => e = .returned (.bool (legB (s, c, n))) ∧ Below w.heap.size w w' := by
  cases ha : acctB s with
  | false =>
    go_enter Tryd.func63, Tryd.ntmps63
    go_wp2_with (go_at_call 92; refine (specAcct _ _ hs).mono ?_; rintro e w' ⟨rfl, rfl⟩)
    go_ret
    exact ⟨ret_bool (legB_acct ha).symm, (Below.refl _ _).alloc (Nat.le_refl _) _⟩
  | true =>
    by_cases h1 : c < 1
    · go_enter Tryd.func63, Tryd.ntmps63
      go_wp2_with (go_at_call 92; refine (specAcct _ _ hs).mono ?_; rintro e w' ⟨rfl, rfl⟩)
      go_ret
      exact ⟨ret_bool (legB_c1 h1).symm, (Below.refl _ _).alloc (Nat.le_refl _) _⟩
    by_cases h2 : 3 < c
    · go_enter Tryd.func63, Tryd.ntmps63
      go_wp2_with (go_at_call 92; refine (specAcct _ _ hs).mono ?_; rintro e w' ⟨rfl, rfl⟩)
      go_ret
      exact ⟨ret_bool (legB_c3 h2).symm, (Below.refl _ _).alloc (Nat.le_refl _) _⟩
    by_cases h3 : n < -1000
    · go_enter Tryd.func63, Tryd.ntmps63
      go_wp2_with (go_at_call 92; refine (specAcct _ _ hs).mono ?_; rintro e w' ⟨rfl, rfl⟩)
      go_ret
      exact ⟨ret_bool (legB_n0 h3).symm, (Below.refl _ _).alloc (Nat.le_refl _) _⟩
    by_cases h4 : 1000 < n
    · go_enter Tryd.func63, Tryd.ntmps63
      go_wp2_with (go_at_call 92; refine (specAcct _ _ hs).mono ?_; rintro e w' ⟨rfl, rfl⟩)
      go_ret
      exact ⟨ret_bool (legB_n1 h4).symm, (Below.refl _ _).alloc (Nat.le_refl _) _⟩
    by_cases h5 : n = 0
    · subst h5
      go_enter Tryd.func63, Tryd.ntmps63
      go_wp2_with (go_at_call 92; refine (specAcct _ _ hs).mono ?_; rintro e w' ⟨rfl, rfl⟩)
      go_ret
      exact ⟨ret_bool legB_z.symm, (Below.refl _ _).alloc (Nat.le_refl _) _⟩
    · have h6 : (n != 0) = true := by simpa using h5
      go_enter Tryd.func63, Tryd.ntmps63
      go_wp2_with (go_at_call 92; refine (specAcct _ _ hs).mono ?_; rintro e w' ⟨rfl, rfl⟩)
      go_ret
      exact ⟨ret_bool (legB_yes ha (by omega) (by omega) (by omega) (by omega) h5).symm, (Below.refl _ _).alloc (Nat.le_refl _) _⟩

set_option maxHeartbeats 400000 in
theorem implLeg (s : ByteArray) (c n : Int) (w : World) (hs : s.size ≤ maxLen) :
    Calls Tryd.prog 62 #[.agg #[.string s, .int .i64 c, .int .i64 n]] w fun e w' => e = .returned (.bool (legB (s, c, n))) ∧ Below w.heap.size w w' := by
  cases ha : acctB s with
  | false =>
    go_enter Tryd.func62, Tryd.ntmps62
    go_wp2_with (go_at_call 91; refine (implAcct _ _ hs).mono ?_; rintro e w1 ⟨rfl, hb⟩; obtain ⟨hc, hf⟩ := bcell hb)
    go_ret
    exact ⟨ret_bool (legB_acct ha).symm, ((Below.refl _ _).alloc (Nat.le_refl _) _).trans (hb.mono (by simp))⟩
  | true =>
    by_cases h1 : c < 1
    · go_enter Tryd.func62, Tryd.ntmps62
      go_wp2_with (go_at_call 91; refine (implAcct _ _ hs).mono ?_; rintro e w1 ⟨rfl, hb⟩; obtain ⟨hc, hf⟩ := bcell hb)
      go_ret
      exact ⟨ret_bool (legB_c1 h1).symm, ((Below.refl _ _).alloc (Nat.le_refl _) _).trans (hb.mono (by simp))⟩
    by_cases h2 : 3 < c
    · go_enter Tryd.func62, Tryd.ntmps62
      go_wp2_with (go_at_call 91; refine (implAcct _ _ hs).mono ?_; rintro e w1 ⟨rfl, hb⟩; obtain ⟨hc, hf⟩ := bcell hb)
      go_ret
      exact ⟨ret_bool (legB_c3 h2).symm, ((Below.refl _ _).alloc (Nat.le_refl _) _).trans (hb.mono (by simp))⟩
    by_cases h3 : n < -1000
    · go_enter Tryd.func62, Tryd.ntmps62
      go_wp2_with (go_at_call 91; refine (implAcct _ _ hs).mono ?_; rintro e w1 ⟨rfl, hb⟩; obtain ⟨hc, hf⟩ := bcell hb)
      go_ret
      exact ⟨ret_bool (legB_n0 h3).symm, ((Below.refl _ _).alloc (Nat.le_refl _) _).trans (hb.mono (by simp))⟩
    by_cases h4 : 1000 < n
    · go_enter Tryd.func62, Tryd.ntmps62
      go_wp2_with (go_at_call 91; refine (implAcct _ _ hs).mono ?_; rintro e w1 ⟨rfl, hb⟩; obtain ⟨hc, hf⟩ := bcell hb)
      go_ret
      exact ⟨ret_bool (legB_n1 h4).symm, ((Below.refl _ _).alloc (Nat.le_refl _) _).trans (hb.mono (by simp))⟩
    by_cases h5 : n = 0
    · subst h5
      go_enter Tryd.func62, Tryd.ntmps62
      go_wp2_with (go_at_call 91; refine (implAcct _ _ hs).mono ?_; rintro e w1 ⟨rfl, hb⟩; obtain ⟨hc, hf⟩ := bcell hb)
      go_ret
      exact ⟨ret_bool legB_z.symm, ((Below.refl _ _).alloc (Nat.le_refl _) _).trans (hb.mono (by simp))⟩
    · have h6 : (n != 0) = true := by simpa using h5
      go_enter Tryd.func62, Tryd.ntmps62
      go_wp2_with (go_at_call 91; refine (implAcct _ _ hs).mono ?_; rintro e w1 ⟨rfl, hb⟩; obtain ⟨hc, hf⟩ := bcell hb)
      go_ret
      exact ⟨ret_bool (legB_yes ha (by omega) (by omega) (by omega) (by omega) h5).symm, ((Below.refl _ _).alloc (Nat.le_refl _) _).trans (hb.mono (by simp))⟩

end Go.Proofs.YtcabinakcmpkeaaDoor
