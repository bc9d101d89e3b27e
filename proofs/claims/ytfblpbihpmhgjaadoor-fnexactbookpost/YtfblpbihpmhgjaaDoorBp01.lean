/-
  What the program's and the document's AcctOk answer at every text, by walks of their Go text.
-/
import Derived.Test.YtfblpbihpmhgjaaDoorProg
import Derived.Test.YtfblpbihpmhgjaaDoorBp00
import Derived.WalkKit
import Derived.WalkSpells
import Derived.WalkLawsBesides
namespace Go.Proofs.YtfblpbihpmhgjaaDoor
open Go.RowKit

set_option maxHeartbeats 400000 in
theorem specAcct (s : ByteArray) (w : World) (hs : s.size ≤ maxLen) :
    Calls Tryd.prog 110 #[.string s] w fun e w' => e = .returned (.bool (acctB s)) ∧ w' = w := by
  unfold maxLen at hs
  go_enter Tryd.func110, Tryd.ntmps110
  go_wp2
  go_loop [3] (fun i => ∃ k : Nat, k ≤ s.size ∧ i = .int .i64 k ∧ (s.data.toList.take k).all lowB = true) (fun i => s.size - (intOf i).toNat)
  case atStart => exact ⟨0, Nat.zero_le _, rfl, rfl⟩
  case round =>
    obtain ⟨k, hk, rfl, hall⟩ := hrel
    have HA : Hid ((s.data.toList.take k).all lowB = true) := hall
    clear hall
    by_cases hlt : k < s.size
    · cases hb : lowB s[k] with
      | true =>
        have h3 := lowB_true hb
        obtain ⟨h31, h32, h33⟩ := h3
        have HB : Hid (lowB s[k] = true) := hb
        clear hb
        go_wp2
        go_round
        case rel => exact ⟨k + 1, by omega, by go_num, all_take_snoc s k hlt HA.out HB.out⟩
        case measure => simp [intOf]; omega
      | false =>
        have h3 := lowB_false hb
        have HB : Hid (lowB s[k] = false) := hb
        clear hb
        rcases h3 with h3 | h3
        · go_wp2
          go_ret
          exact ⟨ret_bool (acctB_false_of s k hlt HB.out).symm, rfl⟩
        · go_wp2
          go_ret
          exact ⟨ret_bool (acctB_false_of s k hlt HB.out).symm, rfl⟩
    · go_wp2
      all_goals
        go_ret
        refine ⟨ret_bool ?_, rfl⟩
        rw [acctB_of_all s k (by omega) HA.out]
        first | exact sz_yes _ (by omega) | exact sz_no _ (by omega)

set_option maxHeartbeats 400000 in
theorem isLetter_no (r : Int) (w : World) (h : r < 97 ∨ 122 < r) : Calls Tryd.prog 95 #[.int .i32 r] w fun e w' => e = .returned (.bool false) ∧ w' = w := by
  rcases h with h | h
  · go_enter Tryd.func95, Tryd.ntmps95
    go_wp2
    go_ret
    exact ⟨rfl, rfl⟩
  · have hd : decide (r ≤ 122) = false := decide_eq_false (by omega)
    go_enter Tryd.func95, Tryd.ntmps95
    go_wp2
    all_goals
      go_ret
      exact ⟨rfl, rfl⟩

set_option maxHeartbeats 400000 in
theorem implAcct (s : ByteArray) (w : World) (hs : s.size ≤ maxLen) :
    Calls Tryd.prog 109 #[.string s] w fun e w' => e = .returned (.bool (acctB s)) ∧ Below w.heap.size w w' := by
  unfold maxLen at hs
  by_cases h1 : s.size < 1
  · go_enter Tryd.func109, Tryd.ntmps109
    go_wp2
    go_ret
    exact ⟨ret_bool (acctB_small s h1).symm, Below.refl _ _⟩
  by_cases h4 : 4 < s.size
  · go_enter Tryd.func109, Tryd.ntmps109
    go_wp2
    go_ret
    exact ⟨ret_bool (acctB_big s h4).symm, Below.refl _ _⟩
  go_enter Tryd.func109, Tryd.ntmps109
  go_wp2
  go_loopw [4] (fun _ w' => ∃ pos : Nat, pos ≤ s.size ∧ w' = w.iter s pos ∧ (s.data.toList.take pos).all lowB = true) (fun _ w' => s.size - w'.iterPos w.heap.size)
  case atStart => exact ⟨0, Nat.zero_le _, rfl, rfl⟩
  case round =>
    obtain ⟨pos, hk, rfl, hall⟩ := hrel
    have HA : Hid ((s.data.toList.take pos).all lowB = true) := hall
    clear hall
    by_cases hlt : pos < s.size
    · cases hb : lowB s[pos] with
      | true =>
        have h3 := lowB_true hb
        obtain ⟨h31, h32, h33⟩ := h3
        have HB : Hid (lowB s[pos] = true) := hb
        clear hb
        have hnx : ∀ ty, (Instr.next (.pointer (some ⟨w.heap.size, 0, none⟩)) true ty).run Tryd.prog (w.iter s pos) = _ := fun ty => run_next_ascii w s pos ty hlt h33
        go_wp2
        go_roundw
        case rel => exact ⟨pos + 1, by omega, rfl, all_take_snoc s pos hlt HA.out HB.out⟩
        case measure => simp; omega
      | false =>
        have h3 := lowB_false hb
        have HB : Hid (lowB s[pos] = false) := hb
        clear hb
        by_cases ha : (s[pos]'hlt).toNat < 128
        · have hnx : ∀ ty, (Instr.next (.pointer (some ⟨w.heap.size, 0, none⟩)) true ty).run Tryd.prog (w.iter s pos) = _ := fun ty => run_next_ascii w s pos ty hlt ha
          go_wp2_with (go_at_call 95; refine (isLetter_no _ _ h3).mono ?_; rintro e w' ⟨rfl, rfl⟩)
          go_ret
          exact ⟨ret_bool (acctB_false_of s pos hlt HB.out).symm, below_iter _ _ _⟩
        · have hd := (decode_high s pos hlt (by omega)).1
          have h5 : ((Utf8.decode s pos).1 : Int) < 97 ∨ (122 : Int) < ((Utf8.decode s pos).1 : Int) := by omega
          have hnx : ∀ ty, (Instr.next (.pointer (some ⟨w.heap.size, 0, none⟩)) true ty).run Tryd.prog (w.iter s pos) = _ := fun ty => run_next_any w s pos ty hlt
          clear h3
          go_wp2_with (go_at_call 95; refine (isLetter_no _ _ h5).mono ?_; rintro e w' ⟨rfl, rfl⟩)
          go_ret
          exact ⟨ret_bool (acctB_false_of s pos hlt HB.out).symm, below_iter _ _ _⟩
    · have hnx : ∀ ty, (Instr.next (.pointer (some ⟨w.heap.size, 0, none⟩)) true ty).run Tryd.prog (w.iter s pos) = _ := fun ty => run_next_end w s pos ty hlt
      go_wp2
      go_ret
      exact ⟨ret_bool (acctB_all s (by omega) (by omega) pos (by omega) HA.out).symm, below_iter _ _ _⟩

end Go.Proofs.YtfblpbihpmhgjaaDoor
