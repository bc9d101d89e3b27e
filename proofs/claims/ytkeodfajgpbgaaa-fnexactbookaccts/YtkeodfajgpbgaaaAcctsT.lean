/-
  What the document's BookAccts answers of every list of postings, by a walk of its Go text.
-/
import Derived.Test.YtkeodfajgpbgaaaAcctsS
namespace Go.Proofs.Ytkeodfajgpbgaaa
open Go.RowKit

def accOf (B : List PostD) : List ByteArray := if bookB B = true then accS B else []
theorem book_40 {B : List PostD} (h : bookB B = true) : B.length ≤ 40 := okUp_len (Nat.le_refl _) h
theorem book_good {B : List PostD} (h : bookB B = true) : ∀ p ∈ B, postB p.1 p.2 = true := by
  have := okUp_good (Nat.le_refl _) h
  rwa [List.take_length] at this
theorem accOf_len (B : List PostD) : (accOf B).length ≤ 160 := by
  unfold accOf
  split
  · rename_i h
    have h1 := accS_len B (fun p hp => postB_len (book_good h p hp))
    have := book_40 h
    omega
  · simp

set_option maxRecDepth 100000 in
set_option maxHeartbeats 2000000 in
theorem specAccts (b off n c : Nat) (B : List PostD) (w : World) (hP : PostsAt w (some ⟨b, off, none⟩) n c B) (hbb : b < w.heap.size) :
    Calls Try.prog 27 #[.slice (some ⟨b, off, none⟩) n c] w fun e w' => ∃ v, e = .returned v ∧ RowS w w' v (accOf B) := by
  have HLEN : Hid (B.length = n) := hP.length
  have HP : Hid (PostsAt w (some ⟨b, off, none⟩) n c B) := hP
  clear hP
  cases hbk : bookB B with
  | false =>
    have HA : Hid (accOf B = []) := by show accOf B = []; unfold accOf; rw [hbk]; rfl
    go_enter Try.func27, Try.ntmps27
    go_wp2_with (go_at_call 94; refine (specBookOk _ _ _ B _ HP.out).mono ?_; rw [hbk]; rintro e w1 ⟨rfl, hb1⟩)
    go_ret
    refine ⟨_, rfl, ?_⟩
    rw [HA.out]
    exact RowS.next hb1 ⟨w1.heap.size, 0, rfl, World.ownsRow_made w1 #[] 0 (Nat.le_refl _) (by unfold maxLen; omega) rfl, (Below.refl _ _).alloc (Nat.le_refl _) _⟩
  | true =>
    have HA : Hid (accOf B = accS B) := by show accOf B = accS B; unfold accOf; rw [hbk]; rfl
    have h40 : n ≤ 40 := by have := book_40 hbk; rw [HLEN.out] at this; exact this
    have HL4 : Hid (∀ p ∈ B, p.2.length ≤ 4) := fun p hp => postB_len (book_good hbk p hp)
    go_enter Try.func27, Try.ntmps27
    go_wp2_with fail
    refine (specBookOk _ _ _ B _ HP.out).mono ?_
    rw [hbk]
    rintro e w1 ⟨rfl, hb1⟩
    go_wp2_with fail
    refine (l2Accts_any b off n c B _ (HP.out.keep hb1) (Nat.lt_of_lt_of_le hbb hb1.size) h40 HL4.out).mono ?_
    rintro e w2 ⟨v, rfl, hR⟩
    go_wp2
    go_ret
    refine ⟨v, rfl, ?_⟩
    rw [HA.out]
    exact RowS.next hb1 hR
end Go.Proofs.Ytkeodfajgpbgaaa
