/-
  What the document's BookAccts answers of every list of postings, by a walk of its Go text.
  The accounts of a book are short texts (plain).
-/
import Derived.Test.YtkhnknpacdmikaaAcctsS
namespace Go.Proofs.Ytkhnknpacdmikaa
open Go.RowKit

def accOf (B : List PostD) : List ByteArray := if bookB B = true then accS B else []
theorem book_40 {B : List PostD} (h : bookB B = true) : B.length ≤ 40 := okUp_len (Nat.le_refl _) h
theorem book_good {B : List PostD} (h : bookB B = true) : ∀ p ∈ B, postB p.1 p.2 = true := by
  have := okUp_good (Nat.le_refl _) h
  rwa [List.take_length] at this
theorem accOf_len (B : List PostD) : (accOf B).length ≤ 160 := by
  unfold accOf
  split
  · rename_i h
    have h1 := accS_len B (fun p hp => postB_len (book_good h p hp))
    have := book_40 h
    omega
  · simp

set_option maxRecDepth 100000 in
set_option maxHeartbeats 2000000 in
theorem specAccts (b off n c : Nat) (B : List PostD) (w : World) (hP : PostsAt w (some ⟨b, off, none⟩) n c B) (hbb : b < w.heap.size) :
    Calls Try.prog 24 #[.slice (some ⟨b, off, none⟩) n c] w fun e w' => ∃ v, e = .returned v ∧ RowS w w' v (accOf B) := by
  have HLEN : Hid (B.length = n) := hP.length
  have HP : Hid (PostsAt w (some ⟨b, off, none⟩) n c B) := hP
  clear hP
  cases hbk : bookB B with
  | false =>
    have HA : Hid (accOf B = []) := by show accOf B = []; unfold accOf; rw [hbk]; rfl
    go_enter Try.func24, Try.ntmps24
    go_wp2_with (go_at_call 63; refine (specBookOk _ _ _ B _ HP.out).mono ?_; rw [hbk]; rintro e w1 ⟨rfl, hb1⟩)
    go_ret
    refine ⟨_, rfl, ?_⟩
    rw [HA.out]
    exact RowS.next hb1 ⟨w1.heap.size, 0, rfl, World.ownsRow_made w1 #[] 0 (Nat.le_refl _) (by unfold maxLen; omega) rfl, (Below.refl _ _).alloc (Nat.le_refl _) _⟩
  | true =>
    have HA : Hid (accOf B = accS B) := by show accOf B = accS B; unfold accOf; rw [hbk]; rfl
    have h40 : n ≤ 40 := by have := book_40 hbk; rw [HLEN.out] at this; exact this
    have HL4 : Hid (∀ p ∈ B, p.2.length ≤ 4) := fun p hp => postB_len (book_good hbk p hp)
    go_enter Try.func24, Try.ntmps24
    go_wp2_with fail
    refine (specBookOk _ _ _ B _ HP.out).mono ?_
    rw [hbk]
    rintro e w1 ⟨rfl, hb1⟩
    go_wp2_with fail
    refine (l2Accts_any b off n c B _ (HP.out.keep hb1) (Nat.lt_of_lt_of_le hbb hb1.size) h40 HL4.out).mono ?_
    rintro e w2 ⟨v, rfl, hR⟩
    go_wp2
    go_ret
    refine ⟨v, rfl, ?_⟩
    rw [HA.out]
    exact RowS.next hb1 hR
end Go.Proofs.Ytkhnknpacdmikaa

namespace Go.Proofs.Ytkhnknpacdmikaa
open Go.RowKit

theorem leg_few {p : PostD} (h : postB p.1 p.2 = true) : ∀ l ∈ p.2, l.1.size ≤ maxLen := by
  intro l hl
  have h1 : p.2.all legB = true := by
    unfold postB at h
    simp only [Bool.and_eq_true] at h
    exact h.2.2.2.2
  have h2 := List.all_eq_true.1 h1 l hl
  unfold legB acctB at h2
  simp only [Bool.and_eq_true, decide_eq_true_eq] at h2
  unfold maxLen
  omega
theorem mem_putLs {y : ByteArray} (L : List LegD) : ∀ A, y ∈ putLs A L → y ∈ A ∨ ∃ l ∈ L, y = l.1 := by
  induction L with
  | nil => intro A h; exact Or.inl h
  | cons l L ih =>
    intro A h
    rcases ih (putL A l.1) h with h | ⟨l', hl', e⟩
    · rcases mem_putL h with h | h
      · exact Or.inr ⟨l, List.mem_cons_self .., h⟩
      · exact Or.inl h
    · exact Or.inr ⟨l', List.mem_cons_of_mem _ hl', e⟩
theorem mem_accS {B : List PostD} (h : ∀ p ∈ B, postB p.1 p.2 = true) : ∀ y ∈ accS B, y.size ≤ maxLen := by
  have key : ∀ (B : List PostD) (A : List ByteArray), (∀ p ∈ B, postB p.1 p.2 = true) → (∀ y ∈ A, y.size ≤ maxLen) → ∀ y ∈ B.foldl (fun A p => putLs A p.2) A, y.size ≤ maxLen := by
    intro B
    induction B with
    | nil => intro A _ h; exact h
    | cons p B ih =>
      intro A h1 h2
      refine ih (putLs A p.2) (fun q hq => h1 q (List.mem_cons_of_mem _ hq)) ?_
      intro y hy
      rcases mem_putLs p.2 A hy with hy | ⟨l, hl, rfl⟩
      · exact h2 y hy
      · exact leg_few (h1 p (List.mem_cons_self ..)) l hl
  exact key B [] h (fun y hy => by simp at hy)
end Go.Proofs.Ytkhnknpacdmikaa
