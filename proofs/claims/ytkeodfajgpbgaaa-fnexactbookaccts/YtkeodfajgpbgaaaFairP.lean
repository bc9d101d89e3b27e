/-
  Plain: when a posting is fair.
-/
import Derived.Test.YtkeodfajgpbgaaaSumPlain
namespace Go.Proofs.Ytkeodfajgpbgaaa

def fairB (id : Int) (L : List LegD) : Bool := postB id L && (decide (totY (yieldsOf id L 1) = 0) && (decide (totY (yieldsOf id L 2) = 0) && decide (totY (yieldsOf id L 3) = 0)))

theorem fairB_bad {id : Int} {L : List LegD} (h : postB id L = false) : fairB id L = false := by simp [fairB, h]
theorem fairB_no {id : Int} {L : List LegD} {k : Nat} (h1 : 1 ≤ k) (h2 : k ≤ 3) (h : ¬ totY (yieldsOf id L k) = 0) : fairB id L = false := by
  have : k = 1 ∨ k = 2 ∨ k = 3 := by omega
  rcases this with rfl | rfl | rfl <;> simp_all [fairB]
theorem fairB_yes {id : Int} {L : List LegD} (hp : postB id L = true) (h : ∀ j : Nat, 1 ≤ j → j < 4 → totY (yieldsOf id L j) = 0) : fairB id L = true := by
  have h1 := h 1 (by omega) (by omega)
  have h2 := h 2 (by omega) (by omega)
  have h3 := h 3 (by omega) (by omega)
  simp only [Int.cast_ofNat_Int] at h1 h2 h3
  simp [fairB, hp]
  exact ⟨h1, h2, h3⟩
theorem fairB_all {id : Int} {L : List LegD} (h : ∀ j : Nat, 1 ≤ j → j < 4 → totY (yieldsOf id L j) = 0) : fairB id L = postB id L := by
  cases hp : postB id L with
  | false => exact fairB_bad hp
  | true => exact fairB_yes hp h

theorem upto_step {P : Nat → Prop} {k : Nat} (h : ∀ j : Nat, 1 ≤ j → j < k → P j) (hk : P k) (j : Nat) (h1 : 1 ≤ j) (h2 : j < k + 1) : P j := by
  by_cases e : j = k
  · subst e; exact hk
  · exact h j h1 (by omega)

end Go.Proofs.Ytkeodfajgpbgaaa
