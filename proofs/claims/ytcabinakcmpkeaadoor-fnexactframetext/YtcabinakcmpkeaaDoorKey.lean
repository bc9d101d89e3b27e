/-
  What the program's and the document's KeyOk answer at every text, by walks of their Go text.
-/
import Derived.Test.YtcabinakcmpkeaaDoorProg
import Derived.Test.YtcabinakcmpkeaaDoorPlain
import Derived.Test.YtcabinakcmpkeaaDoorRunP
import Derived.WalkKit
import Derived.WalkSpells
import Derived.WalkLawsBesides
namespace Go.Proofs.YtcabinakcmpkeaaDoor
open Go.RowKit

set_option maxHeartbeats 400000 in
theorem specKey (s : ByteArray) (w : World) (hs : s.size ≤ maxLen) :
    Calls Tryd.prog 99 #[.string s] w fun e w' => e = .returned (.bool (keyB s)) ∧ w' = w := by
  unfold maxLen at hs
  go_enter Tryd.func99, Tryd.ntmps99
  go_wp2
  go_loop [3] (fun i => ∃ k : Nat, k ≤ s.size ∧ i = .int .i64 k ∧ (s.data.toList.take k).all keyC = true) (fun i => s.size - (intOf i).toNat)
  case atStart => exact ⟨0, Nat.zero_le _, rfl, rfl⟩
  case round =>
    obtain ⟨k, hk, rfl, hall⟩ := hrel
    have HA : Hid ((s.data.toList.take k).all keyC = true) := hall
    clear hall
    by_cases hlt : k < s.size
    · cases hb : keyC s[k] with
      | true =>
        have h3 := keyC_true hb
        have HB : Hid (keyC s[k] = true) := hb
        clear hb
        rcases h3 with ⟨h31, h32⟩ | ⟨h31, h32⟩
        · go_wp2
          go_round
          case rel => exact ⟨k + 1, by omega, by go_num, key_take_snoc s k hlt HA.out HB.out⟩
          case measure => simp [intOf]; omega
        · go_wp2
          go_round
          case rel => exact ⟨k + 1, by omega, by go_num, key_take_snoc s k hlt HA.out HB.out⟩
          case measure => simp [intOf]; omega
      | false =>
        have h3 := keyC_false hb
        have HB : Hid (keyC s[k] = false) := hb
        clear hb
        rcases h3 with h3 | ⟨h3, h4⟩ | h3
        · go_wp2
          go_ret
          exact ⟨ret_bool (key_false_of s k hlt HB.out).symm, rfl⟩
        · go_wp2
          go_ret
          exact ⟨ret_bool (key_false_of s k hlt HB.out).symm, rfl⟩
        · go_wp2
          go_ret
          exact ⟨ret_bool (key_false_of s k hlt HB.out).symm, rfl⟩
    · go_wp2
      all_goals
        go_ret
        refine ⟨ret_bool ?_, rfl⟩
        rw [keyB_of_all s k (by omega) HA.out]
        first | exact sz8_yes _ (by omega) | exact sz8_no _ (by omega)

set_option maxHeartbeats 400000 in
theorem isKey_yes (b : Int) (w : World) (h : (97 ≤ b ∧ b ≤ 122) ∨ (47 ≤ b ∧ b ≤ 57)) : Calls Tryd.prog 120 #[.int .u8 b] w fun e w' => e = .returned (.bool true) ∧ w' = w := by
  rcases h with ⟨h1, h2⟩ | ⟨h1, h2⟩
  · go_enter Tryd.func120, Tryd.ntmps120
    go_wp2
    all_goals
      go_ret
      exact ⟨rfl, rfl⟩
  · by_cases h3 : b = 47
    · subst h3
      go_enter Tryd.func120, Tryd.ntmps120
      go_wp2
      all_goals
        go_ret
        exact ⟨rfl, rfl⟩
    · have h4 : 48 ≤ b := by omega
      go_enter Tryd.func120, Tryd.ntmps120
      go_wp2
      all_goals
        go_ret
        exact ⟨rfl, rfl⟩

set_option maxHeartbeats 400000 in
theorem isKey_no (b : Int) (w : World) (h : b < 47 ∨ (57 < b ∧ b < 97) ∨ 122 < b) : Calls Tryd.prog 120 #[.int .u8 b] w fun e w' => e = .returned (.bool false) ∧ w' = w := by
  have hd : (b == 47) = false := by rw [beq_eq_false_iff_ne]; omega
  have hd' : ¬ b = 47 := by omega
  rcases h with h | ⟨h, h'⟩ | h
  · go_enter Tryd.func120, Tryd.ntmps120
    go_wp2
    all_goals
      go_ret
      exact ⟨ret_bool (by first | rfl | (simp; omega) | simp), rfl⟩
  · go_enter Tryd.func120, Tryd.ntmps120
    go_wp2
    all_goals
      go_ret
      exact ⟨ret_bool (by first | rfl | (simp; omega) | simp), rfl⟩
  · go_enter Tryd.func120, Tryd.ntmps120
    go_wp2
    all_goals
      go_ret
      exact ⟨ret_bool (by first | rfl | (simp; omega) | simp), rfl⟩

set_option maxHeartbeats 400000 in
theorem implKey (s : ByteArray) (w : World) (hs : s.size ≤ maxLen) :
    Calls Tryd.prog 101 #[.string s] w fun e w' => e = .returned (.bool (keyB s)) ∧ w' = w := by
  unfold maxLen at hs
  by_cases h1 : s.size < 1
  · go_enter Tryd.func101, Tryd.ntmps101
    go_wp2
    go_ret
    exact ⟨ret_bool (keyB_small s h1).symm, rfl⟩
  by_cases h4 : 8 < s.size
  · go_enter Tryd.func101, Tryd.ntmps101
    go_wp2
    go_ret
    exact ⟨ret_bool (keyB_big s h4).symm, rfl⟩
  go_enter Tryd.func101, Tryd.ntmps101
  go_wp2
  go_loop [14] (fun i => ∃ k : Nat, k ≤ s.size ∧ i = .int .i64 k ∧ (s.data.toList.take k).all keyC = true) (fun i => s.size - (intOf i).toNat)
  case atStart => exact ⟨0, Nat.zero_le _, rfl, rfl⟩
  case round =>
    obtain ⟨k, hk, rfl, hall⟩ := hrel
    have HA : Hid ((s.data.toList.take k).all keyC = true) := hall
    clear hall
    by_cases hlt : k < s.size
    · cases hb : keyC s[k] with
      | true =>
        have h3 := keyC_true hb
        have H3 : Hid ((97 ≤ ((s[k]).toNat : Int) ∧ ((s[k]).toNat : Int) ≤ 122) ∨ (47 ≤ ((s[k]).toNat : Int) ∧ ((s[k]).toNat : Int) ≤ 57)) := h3
        have HB : Hid (keyC s[k] = true) := hb
        clear hb h3
        go_wp2_with (go_at_call 120; refine (isKey_yes _ _ H3.out).mono ?_; rintro e w' ⟨rfl, rfl⟩)
        go_round
        case rel => exact ⟨k + 1, by omega, by go_num, key_take_snoc s k hlt HA.out HB.out⟩
        case measure => simp [intOf]; omega
      | false =>
        have h3 := keyC_false hb
        have H3 : Hid (((s[k]).toNat : Int) < 47 ∨ (57 < ((s[k]).toNat : Int) ∧ ((s[k]).toNat : Int) < 97) ∨ 122 < ((s[k]).toNat : Int)) := h3
        have HB : Hid (keyC s[k] = false) := hb
        clear hb h3
        go_wp2_with (go_at_call 120; refine (isKey_no _ _ H3.out).mono ?_; rintro e w' ⟨rfl, rfl⟩)
        go_ret
        exact ⟨ret_bool (key_false_of s k hlt HB.out).symm, rfl⟩
    · go_wp2
      go_ret
      exact ⟨ret_bool (keyB_all s (by omega) (by omega) k (by omega) HA.out).symm, rfl⟩

end Go.Proofs.YtcabinakcmpkeaaDoor
