/-
  Plain: the order of texts by their bytes, and of entries; no statement of the program stands here.
-/
import Derived.Test.YtkeodfajgpbgaaaKeyP
import Derived.Lib.Bytealg
import Derived.Lib.Small
import Derived.Lib.Strings
import Derived.WalkKit
namespace Go.Proofs.Ytkeodfajgpbgaaa
open Go.RowKit

theorem cmp_cases : ∀ (a b : List UInt8), (Lib.compareBytes a b = -1 ∧ Op.bytesLess a b = true ∧ a ≠ b) ∨ (Lib.compareBytes a b = 0 ∧ Op.bytesLess a b = false ∧ a = b) ∨ (Lib.compareBytes a b = 1 ∧ Op.bytesLess a b = false ∧ a ≠ b)
  | [], [] => Or.inr (Or.inl ⟨rfl, rfl, rfl⟩)
  | [], _ :: _ => Or.inl ⟨rfl, rfl, by simp⟩
  | _ :: _, [] => Or.inr (Or.inr ⟨rfl, rfl, by simp⟩)
  | x :: a, y :: b => by
    have ih := cmp_cases a b
    unfold Lib.compareBytes Op.bytesLess
    by_cases h1 : x < y
    · have hne : x ≠ y := fun e => UInt8.lt_irrefl y (e ▸ h1)
      exact Or.inl ⟨by simp [h1], by simp [h1], fun e => hne (by simpa using (List.cons.inj e).1)⟩
    · by_cases h2 : y < x
      · have hne : x ≠ y := fun e => UInt8.lt_irrefl y (e ▸ h2)
        exact Or.inr (Or.inr ⟨by simp [h1, h2], by simp [h1, hne], fun e => hne (by simpa using (List.cons.inj e).1)⟩)
      · have he : x = y := UInt8.le_antisymm (UInt8.not_lt.1 h2) (UInt8.not_lt.1 h1)
        subst he
        rcases ih with ⟨p, q, r⟩ | ⟨p, q, r⟩ | ⟨p, q, r⟩
        · exact Or.inl ⟨by simp [h1, p], by simp [q], by simpa using r⟩
        · exact Or.inr (Or.inl ⟨by simp [h1, p], by simp [h1, q], by simpa using r⟩)
        · exact Or.inr (Or.inr ⟨by simp [h1, p], by simp [h1, q], by simpa using r⟩)

/-- The first stands ahead. -/
def lessB (ka : ByteArray) (qa : Int) (kb : ByteArray) (qb : Int) : Bool :=
  Op.bytesLess ka.data.toList kb.data.toList || (decide (ka = kb) && decide (qb < qa))

end Go.Proofs.Ytkeodfajgpbgaaa
