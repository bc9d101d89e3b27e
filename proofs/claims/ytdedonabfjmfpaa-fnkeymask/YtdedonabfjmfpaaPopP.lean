/-
  Plain: how many bits of a key's marks there are; no statement of the program stands here.
-/
import Derived.Test.YtdedonabfjmfpaaMaskP
namespace Go.Proofs.Ytdedonabfjmfpaa
open Go.RowKit

/-- The bits among the first j. -/
def cntN (m : Nat) : Nat → Nat
  | 0 => 0
  | j + 1 => cntN m j + m / 2 ^ j % 2
theorem cnt_all : ∀ x : Fin 16, ∀ y : Fin 16, ∀ j : Fin 17, (2 ^ x.val ||| 2 ^ y.val) / 2 ^ j.val = 0 → 1 ≤ cntN (2 ^ x.val ||| 2 ^ y.val) j.val ∧ cntN (2 ^ x.val ||| 2 ^ y.val) j.val ≤ 2 := by decide +kernel
theorem cnt_mask (s : ByteArray) (j : Nat) (hj : j ≤ 16) (h : maskK s / 2 ^ j = 0) : 1 ≤ cntN (maskK s) j ∧ cntN (maskK s) j ≤ 2 := by
  unfold maskK markN at h ⊢
  have := cnt_all ⟨hashN s.data.toList % 16, Nat.mod_lt _ (by omega)⟩ ⟨hashN s.data.toList / 16 % 16, Nat.mod_lt _ (by omega)⟩ ⟨j, by omega⟩ h
  exact this
theorem mask_pos (s : ByteArray) (j : Nat) (h : 0 < maskK s / 2 ^ j) : j < 16 := by
  have h1 := maskK_lt s
  by_cases hj : j < 16
  · exact hj
  · have h2 : 65536 ≤ 2 ^ j := by
      have : 2 ^ 16 ≤ 2 ^ j := Nat.pow_le_pow_right (by omega) (by omega)
      exact this
    have : maskK s / 2 ^ j = 0 := Nat.div_eq_of_lt (by omega)
    omega
theorem div_next (m j : Nat) : m / 2 ^ j / 2 = m / 2 ^ (j + 1) := by rw [Nat.pow_succ, Nat.div_div_eq_div_mul]
end Go.Proofs.Ytdedonabfjmfpaa
