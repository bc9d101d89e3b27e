/-
  What the document's l9Many makes of a text and a number, by a walk of its Go text.
-/
import Derived.Test.YtfblpbihpmhgjaaDoorFm42
namespace Go.Proofs.YtfblpbihpmhgjaaDoor
open Go.RowKit

theorem many_step (o s m : Nat) (h : 0 < m) (hm : m % 2 = 1) : (o + s) + (s + s) * (m / 2) = o + s * m := by
  obtain ⟨k, rfl⟩ : ∃ k, m = 2 * k + 1 := ⟨m / 2, by omega⟩
  have : (2 * k + 1) / 2 = k := by omega
  rw [this]
  have : s * (2 * k + 1) = (s + s) * k + s := by rw [Nat.mul_add, Nat.mul_one, Nat.add_mul]; have := Nat.mul_comm s (2 * k); rw [this, Nat.mul_assoc, Nat.two_mul, Nat.mul_comm k s]
  omega
theorem many_even (o s m : Nat) (hm : m % 2 = 0) : o + (s + s) * (m / 2) = o + s * m := by
  obtain ⟨k, rfl⟩ : ∃ k, m = 2 * k := ⟨m / 2, by omega⟩
  have : 2 * k / 2 = k := by omega
  rw [this]
  have : s * (2 * k) = (s + s) * k := by rw [Nat.add_mul]; have := Nat.mul_comm s (2 * k); rw [this, Nat.mul_assoc, Nat.two_mul, Nat.mul_comm k s]
  omega
theorem size_app (a b : ByteArray) : (a ++ b).size = a.size + b.size := by simp

set_option maxRecDepth 100000 in
set_option maxHeartbeats 2000000 in
theorem many_any (s : ByteArray) (m : Nat) (w : World) (hs : s.size = 1) (hm : m ≤ 100) (h3 : m ≠ 3) :
    Calls Tryd.prog 114 #[.string s, .int .i64 m] w fun e w' => ∃ z : ByteArray, e = .returned (.string z) ∧ Few z ∧ w' = w := by
  go_enter Tryd.func114, Tryd.ntmps114
  go_wp2
  go_loop [0, 1, 5] (fun sv iv ov => ∃ (z o : ByteArray) (j : Nat), sv = .string z ∧ iv = .int .i64 j ∧ ov = .string o ∧ o.size + z.size * j = m ∧ j ≤ m) (fun _ i _ => (intOf i).toNat)
  case atStart => exact ⟨s, ⟨#[]⟩, m, rfl, rfl, rfl, by rw [hs]; show 0 + 1 * m = m; omega, Nat.le_refl _⟩
  case round =>
    obtain ⟨z, o, j, rfl, rfl, rfl, hsum, hjm⟩ := hrel
    have HS : Hid (o.size + z.size * j = m) := hsum
    clear hsum
    by_cases hj : j = 0
    · subst hj
      go_wp2
      go_ret
      refine ⟨o, rfl, ?_, rfl⟩
      have := HS.out
      refine ⟨by omega, fun e => ?_⟩
      have he := congrArg List.length e
      have hl : o.data.toList.length = o.size := rfl
      rw [hl] at he
      simp at he
      omega
    · have hj0 : (0 : Int) < (j : Int) := by omega
      have hj1 : (j : Int) ≤ 100 := by omega
      have hz1 : z.size ≤ z.size * j := Nat.le_mul_of_pos_right _ (by omega)
      have hsm := HS.out
      have g1 : ¬ 9223372036854775807 < o.size + z.size := by omega
      have g2 : ¬ 9223372036854775807 < z.size + z.size := by omega
      clear hz1 hsm
      by_cases h2 : j % 2 = 1
      · have h3 : (j : Int) % 2 = 1 := by omega
        go_wp2
        go_round
        case rel => exact ⟨z ++ z, o ++ z, j / 2, rfl, by go_num, rfl, by rw [size_app, size_app, many_step _ _ _ (by omega) h2]; exact HS.out, by omega⟩
        case measure => simp [intOf]; omega
      · have h3 : (j : Int) % 2 = 0 := by omega
        go_wp2
        go_round
        case rel => exact ⟨z ++ z, o, j / 2, rfl, by go_num, rfl, by rw [size_app, many_even _ _ _ (by omega)]; exact HS.out, by omega⟩
        case measure => simp [intOf]; omega
end Go.Proofs.YtfblpbihpmhgjaaDoor
