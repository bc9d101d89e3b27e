/-
  The accounts of a book are short texts (plain).
-/
import Derived.Test.YtkeodfajgpbgaaaAcctsT
namespace Go.Proofs.Ytkeodfajgpbgaaa
open Go.RowKit

theorem leg_few {p : PostD} (h : postB p.1 p.2 = true) : ∀ l ∈ p.2, l.1.size ≤ maxLen := by
  intro l hl
  have h1 : p.2.all legB = true := by
    unfold postB at h
    simp only [Bool.and_eq_true] at h
    exact h.2.2.2.2
  have h2 := List.all_eq_true.1 h1 l hl
  unfold legB acctB at h2
  simp only [Bool.and_eq_true, decide_eq_true_eq] at h2
  unfold maxLen
  omega
theorem mem_putLs {y : ByteArray} (L : List LegD) : ∀ A, y ∈ putLs A L → y ∈ A ∨ ∃ l ∈ L, y = l.1 := by
  induction L with
  | nil => intro A h; exact Or.inl h
  | cons l L ih =>
    intro A h
    rcases ih (putL A l.1) h with h | ⟨l', hl', e⟩
    · rcases mem_putL h with h | h
      · exact Or.inr ⟨l, List.mem_cons_self .., h⟩
      · exact Or.inl h
    · exact Or.inr ⟨l', List.mem_cons_of_mem _ hl', e⟩
theorem mem_accS {B : List PostD} (h : ∀ p ∈ B, postB p.1 p.2 = true) : ∀ y ∈ accS B, y.size ≤ maxLen := by
  have key : ∀ (B : List PostD) (A : List ByteArray), (∀ p ∈ B, postB p.1 p.2 = true) → (∀ y ∈ A, y.size ≤ maxLen) → ∀ y ∈ B.foldl (fun A p => putLs A p.2) A, y.size ≤ maxLen := by
    intro B
    induction B with
    | nil => intro A _ h; exact h
    | cons p B ih =>
      intro A h1 h2
      refine ih (putLs A p.2) (fun q hq => h1 q (List.mem_cons_of_mem _ hq)) ?_
      intro y hy
      rcases mem_putLs p.2 A hy with hy | ⟨l, hl, rfl⟩
      · exact h2 y hy
      · exact leg_few (h1 p (List.mem_cons_self ..)) l hl
  exact key B [] h (fun y hy => by simp at hy)
end Go.Proofs.Ytkeodfajgpbgaaa
