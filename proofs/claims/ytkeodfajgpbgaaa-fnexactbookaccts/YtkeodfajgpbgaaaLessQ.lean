/-
  Plain: the order of entries is an order; no statement of the program stands here.
-/
import Derived.Test.YtkeodfajgpbgaaaLessP
namespace Go.Proofs.Ytkeodfajgpbgaaa
open Go.RowKit

theorem bless_self : ∀ a : List UInt8, Op.bytesLess a a = false
  | [] => rfl
  | x :: a => by
    unfold Op.bytesLess
    have := bless_self a
    simp [this]
theorem bless_asymm : ∀ a b : List UInt8, Op.bytesLess a b = true → Op.bytesLess b a = false
  | [], [], h => by simp [Op.bytesLess] at h
  | [], _ :: _, _ => rfl
  | _ :: _, [], h => by simp [Op.bytesLess] at h
  | x :: a, y :: b, h => by
    unfold Op.bytesLess at h ⊢
    have ih := bless_asymm a b
    simp only [Bool.or_eq_true, decide_eq_true_eq, Bool.and_eq_true, beq_iff_eq] at h
    rcases h with h | ⟨rfl, h⟩
    · have h1 : ¬ y < x := fun g => UInt8.lt_asymm h g
      have h2 : ¬ y = x := fun g => UInt8.lt_irrefl x (by rw [g] at h; exact h)
      simp [h1, h2]
    · simp [ih h]
theorem bless_total : ∀ a b : List UInt8, a ≠ b → Op.bytesLess a b = true ∨ Op.bytesLess b a = true
  | [], [], h => absurd rfl h
  | [], _ :: _, _ => Or.inl rfl
  | _ :: _, [], _ => Or.inr rfl
  | x :: a, y :: b, h => by
    unfold Op.bytesLess
    by_cases h1 : x < y
    · left; simp [h1]
    · by_cases h2 : y < x
      · right; simp [h2]
      · have he : x = y := UInt8.le_antisymm (UInt8.not_lt.1 h2) (UInt8.not_lt.1 h1)
        subst he
        have ih := bless_total a b (fun e => h (by rw [e]))
        rcases ih with ih | ih
        · left; simp [ih]
        · right; simp [ih]
theorem bless_trans : ∀ a b c : List UInt8, Op.bytesLess a b = true → Op.bytesLess b c = true → Op.bytesLess a c = true
  | _, _, [], _, h => by simp [Op.bytesLess] at h
  | [], _, _ :: _, _, _ => rfl
  | _ :: _, [], _ :: _, h, _ => by simp [Op.bytesLess] at h
  | x :: a, y :: b, z :: c, h, k => by
    unfold Op.bytesLess at h k ⊢
    simp only [Bool.or_eq_true, decide_eq_true_eq, Bool.and_eq_true, beq_iff_eq] at h k ⊢
    rcases h with h | ⟨rfl, h⟩
    · rcases k with k | ⟨rfl, k⟩
      · exact Or.inl (UInt8.lt_trans h k)
      · exact Or.inl h
    · rcases k with k | ⟨rfl, k⟩
      · exact Or.inl k
      · exact Or.inr ⟨rfl, bless_trans a b c h k⟩

theorem lessB_self (k : ByteArray) (q : Int) : lessB k q k q = false := by
  unfold lessB
  simp [bless_self]
theorem lessB_true {ka kb : ByteArray} {qa qb : Int} (h : lessB ka qa kb qb = true) : Op.bytesLess ka.data.toList kb.data.toList = true ∨ (ka = kb ∧ qb < qa) := by
  unfold lessB at h
  simpa using h
theorem lessB_asymm {ka kb : ByteArray} {qa qb : Int} (h : lessB ka qa kb qb = true) : lessB kb qb ka qa = false := by
  rcases lessB_true h with h | ⟨rfl, h⟩
  · have h1 := bless_asymm _ _ h
    have h2 : ¬ kb = ka := fun e => by rw [e, bless_self] at h; cases h
    unfold lessB
    simp [h1, h2]
  · unfold lessB
    have : ¬ qa < qb := by omega
    simp [bless_self, this]
theorem lessB_trans {ka kb kc : ByteArray} {qa qb qc : Int} (h : lessB ka qa kb qb = true) (k : lessB kb qb kc qc = true) : lessB ka qa kc qc = true := by
  unfold lessB
  rcases lessB_true h with h | ⟨rfl, h⟩
  · rcases lessB_true k with k | ⟨rfl, k⟩
    · simp [bless_trans _ _ _ h k]
    · simp [h]
  · rcases lessB_true k with k | ⟨rfl, k⟩
    · simp [k]
    · have : qc < qa := by omega
      simp [this]
theorem lessB_one (ka kb : ByteArray) (qa qb : Int) : (lessB ka qa kb qb || lessB kb qb ka qa) = (decide (¬ ka = kb) || decide (¬ qa = qb)) := by
  by_cases he : ka = kb
  · subst he
    unfold lessB
    rw [bless_self]
    by_cases h1 : qb < qa
    · have : ¬ qa = qb := by omega
      simp [h1, this]
    · by_cases h2 : qa < qb
      · have : ¬ qa = qb := by omega
        simp [h2, this]
      · have : qa = qb := by omega
        simp [this]
  · have hne : ka.data.toList ≠ kb.data.toList := fun e => he (ByteArray.ext (Array.toList_inj.1 e))
    unfold lessB
    rcases bless_total _ _ hne with h | h <;> simp [h, he]

end Go.Proofs.Ytkeodfajgpbgaaa
