/-
  The walk of the law FnKeyMask: it answers true at all bytes.
-/
import Derived.Test.YtdedonabfjmfpaaDrawMask
import Derived.Test.YtdedonabfjmfpaaMask
import Derived.Test.YtdedonabfjmfpaaPopP
import Derived.Deep.RegionWith
namespace Go.Proofs.Ytdedonabfjmfpaa
open Go.RowKit

set_option maxRecDepth 100000 in
set_option maxHeartbeats 1000000 in
theorem walkFnKeyMask (a : Option Addr) (len cap : Nat) (w : World) (h : BytesAt w a len cap) :
    Calls Try.prog 8 #[.slice a len cap] w fun e w' => e = .returned (.bool true) ∧ Below w.heap.size w w' := by
  have H : Hid (BytesAt w a len cap) := h
  have hm := Nat.le_trans h.1 h.2.1
  unfold maxLen at hm
  clear h
  by_cases hbig : 1048576 < len
  · go_enter Try.func8, Try.ntmps8
    go_wp2
    go_ret
    exact ⟨rfl, Below.refl _ _⟩
  go_enter Try.func8, Try.ntmps8
  go_wp2_with fail
  refine (drawKeyMask_any a len cap w H.out).mono ?_
  rintro e w1 ⟨s, rfl, hs, hb1⟩
  have hs' : s.size ≤ maxLen := by unfold Few at hs; unfold maxLen; omega
  obtain ⟨m, hmm⟩ : ∃ m, m = maskK s := ⟨_, rfl⟩
  have hm1 : m < 65536 := by rw [hmm]; exact maskK_lt s
  have CI : Hid (∀ w, Calls Try.prog 15 #[.string s] w fun e w' => e = .returned (.int .i64 (m : Int)) ∧ Below w.heap.size w w') := by rw [hmm]; exact fun w => implMask s w hs'
  have CS : Hid (∀ w, Calls Try.prog 14 #[.string s] w fun e w' => e = .returned (.int .i64 (m : Int)) ∧ w' = w) := by rw [hmm]; exact fun w => specMask s w hs'
  have HP : Hid (∀ j, 0 < m / 2 ^ j → j < 16) := by rw [hmm]; exact mask_pos s
  have HC : Hid (∀ j, j ≤ 16 → m / 2 ^ j = 0 → 1 ≤ cntN m j ∧ cntN m j ≤ 2) := by rw [hmm]; exact cnt_mask s
  clear hmm hs hs'
  go_wp2_with fail
  refine (CI.out _).mono ?_
  rintro e w2 ⟨rfl, hb2⟩
  have HB2 : Hid (Below w.heap.size w w2) := hb1.trans (hb2.mono hb1.size)
  clear hb1 hb2
  go_wp2_with fail
  refine (CS.out _).mono ?_
  rintro e w3 ⟨rfl, rfl⟩
  go_wp2
  go_loop [5, 6] (fun n k => ∃ (j c p : Nat), j ≤ 16 ∧ c ≤ j ∧ n = .int .i64 c ∧ k = .int .i64 p ∧ p ≤ m ∧ c = cntN m j ∧ p = m / 2 ^ j) (fun _ k => (intOf k).toNat)
  case atStart => exact ⟨0, 0, m, by omega, by omega, rfl, rfl, by omega, rfl, by simp⟩
  case round =>
    obtain ⟨j, c, p, hj, hcj, rfl, rfl, hpm, hc, hp⟩ := hrel
    by_cases hp0 : p = 0
    · have h12 := HC.out j hj (by rw [← hp]; exact hp0)
      rw [← hc] at h12
      obtain ⟨h1, h2⟩ := h12
      subst hp0
      clear hc hp
      have h1' : (1 : Int) ≤ (c : Int) := by omega
      have h2' : (c : Int) ≤ 2 := by omega
      have h3' : (m : Int) < 65536 := by omega
      go_wp2
      go_ret
      exact ⟨rfl, HB2.out⟩
    · have hj16 : j < 16 := HP.out j (by rw [← hp]; omega)
      have hc1 : c + p % 2 = cntN m (j + 1) := by show c + p % 2 = cntN m j + m / 2 ^ j % 2; rw [hc, hp]
      have hp1 : p / 2 = m / 2 ^ (j + 1) := by rw [hp, div_next]
      have H1 : Hid (c + p % 2 = cntN m (j + 1)) := hc1
      have H2 : Hid (p / 2 = m / 2 ^ (j + 1)) := hp1
      have hpos : (0 : Int) < (p : Int) := by omega
      clear hc hp hc1 hp1
      go_wp2
      go_round
      case rel => exact ⟨j + 1, c + p % 2, p / 2, by omega, by omega, by go_num, by go_num, by omega, H1.out, H2.out⟩
      case measure => simp [intOf]; omega
end Go.Proofs.Ytdedonabfjmfpaa
