/-
  The laws' own helpers over a posting (its size, its copy, that two are the same), by walks of their Go text.
-/
import Derived.Test.YtkeodfajgpbgaaaLegs
import Derived.Deep.RegionWith
import Derived.Deep.LoopGhost
namespace Go.Proofs.Ytkeodfajgpbgaaa
open Go.RowKit

set_option maxHeartbeats 400000 in
theorem szLegS_any (a : Option Addr) (len cap : Nat) (L : List LegD) (left : Int) (w : World) (hL : LegsAt w a len cap L) (h0 : 0 ≤ left) (h1 : left ≤ 1048576) :
    Calls Try.prog 159 #[.slice a len cap, .int .i64 left] w fun e w' => ∃ r : Int, e = .returned (.int .i64 r) ∧ (r = -1 ∨ (0 ≤ r ∧ r ≤ left ∧ (len : Int) ≤ left)) ∧ Below w.heap.size w w' := by
  have hbl := hL.room
  have hbc := hL.big
  unfold maxLen at hbc
  have HL : Hid (LegsAt w a len cap L) := hL
  clear hL
  by_cases hb : left < len
  · go_enter Try.func159, Try.ntmps159
    go_wp2
    go_ret
    exact ⟨-1, rfl, Or.inl rfl, Below.refl _ _⟩
  · go_enter Try.func159, Try.ntmps159
    go_wp2
    go_loopw [1, 5] (fun l i wr => ∃ (k : Nat) (r : Int), k ≤ len ∧ i = .int .i64 k ∧ l = .int .i64 r ∧ 0 ≤ r ∧ r ≤ left ∧ Below w.heap.size w wr) (fun _ i _ => len - (intOf i).toNat)
    case atStart => exact ⟨0, left - len, Nat.zero_le _, rfl, rfl, by omega, by omega, Below.refl _ _⟩
    case round =>
      obtain ⟨k, r, hk, rfl, rfl, hr0, hr1, hbw⟩ := hrel
      by_cases hlt : k < len
      · obtain ⟨b, off, rfl, hbb⟩ := HL.out.form (by omega)
        obtain ⟨s, c, n, hg, hlw, g0, g1, g2⟩ := HL.out.leg hbw hbb k hlt
        have hs := hlw.1
        simp only at hs
        clear hg hlw
        by_cases hsz : r < s.size
        · go_wp2_with (go_at_call 205; refine (szLeg_no _ _ _ _ _ hs hr0 (by omega) hsz).mono ?_; rintro e w1 ⟨rfl, hb1⟩)
          go_ret
          exact ⟨-1, rfl, Or.inl rfl, hbw.trans (hb1.mono hbw.size)⟩
        · go_wp2_with (go_at_call 205; refine (szLeg_yes _ _ _ _ _ hr0 (by omega) (by omega)).mono ?_; rintro e w1 ⟨rfl, hb1⟩)
          go_roundw
          case rel => exact ⟨k + 1, r - s.size, by omega, by go_num, rfl, by omega, by omega, hbw.trans (hb1.mono hbw.size)⟩
          case measure => simp [intOf]; omega
      · go_wp2
        go_ret
        exact ⟨r, rfl, Or.inr ⟨hr0, hr1, by omega⟩, hbw⟩

set_option maxHeartbeats 400000 in
theorem szPost_any (id : Int) (a : Option Addr) (len cap : Nat) (L : List LegD) (left : Int) (w : World) (hL : LegsAt w a len cap L) (h0 : 0 ≤ left) (h1 : left ≤ 1048576) :
    Calls Try.prog 93 #[.agg #[.int .i64 id, .slice a len cap], .int .i64 left] w fun e w' => ∃ r : Int, e = .returned (.int .i64 r) ∧ (r = -1 ∨ (0 ≤ r ∧ r ≤ left ∧ (len : Int) ≤ left)) ∧ Below w.heap.size w w' := by
  have hL1 : LegsAt (w.alloc (.cells #[.int .i64 id, .slice a len cap] 134)) a len cap L := hL.keep ((Below.refl _ _).alloc (Nat.le_refl _) _)
  go_enter Try.func93, Try.ntmps93
  go_wp2_with (go_at_call 159; refine (szLegS_any _ _ _ _ _ _ hL1 h0 h1).mono ?_; rintro e w1 ⟨r, rfl, hr, hb1⟩)
  · go_ret
    exact ⟨-1, rfl, Or.inl rfl, ((Below.refl _ _).alloc (Nat.le_refl _) _).trans (hb1.mono (by simp))⟩
  · go_ret
    exact ⟨r, rfl, hr, ((Below.refl _ _).alloc (Nat.le_refl _) _).trans (hb1.mono (by simp))⟩

set_option maxHeartbeats 400000 in
theorem eqLeg_same (s : ByteArray) (c n : Int) (w : World) :
    Calls Try.prog 214 #[.agg #[.string s, .int .i64 c, .int .i64 n], .agg #[.string s, .int .i64 c, .int .i64 n]] w fun e w' => e = .returned (.bool true) ∧ Below w.heap.size w w' := by
  go_enter Try.func214, Try.ntmps214
  go_wp2
  go_ret
  exact ⟨rfl, ((Below.refl _ _).alloc (Nat.le_refl _) _).alloc (by simp) _⟩

end Go.Proofs.Ytkeodfajgpbgaaa
