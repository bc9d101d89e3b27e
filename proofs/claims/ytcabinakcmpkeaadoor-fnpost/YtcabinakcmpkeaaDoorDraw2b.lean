/-
  The account that the laws draw, by a walk of its Go text.
-/
import Derived.Test.YtcabinakcmpkeaaDoorDraw2
namespace Go.Proofs.YtcabinakcmpkeaaDoor
open Go.RowKit

set_option maxHeartbeats 400000 in
theorem l1Acct_any (R P : Nat) (a : Option Addr) (len cap : Nat) (w : World) (h : RdAt w R a len cap P) (hP : P < 100000) :
    Calls Tryd.prog 94 #[.pointer (some ⟨R, 0, none⟩)] w fun e w' => ∃ z : ByteArray, e = .returned (.string z) ∧ FewB z ∧ RdAt w' R a len cap (P + 1) ∧ w.grownBy w' (some R) := by
  go_enter Tryd.func94, Tryd.ntmps94
  go_wp2_with fail
  have hb0 : Below w.heap.size w (w.alloc (.cells (([⟨#[97]⟩, ⟨#[98]⟩, ⟨#[97, 98]⟩, ⟨#[99]⟩, ⟨#[99, 97, 115, 104]⟩, ⟨#[97, 97]⟩] : List ByteArray).map Value.string).toArray 9)) := (Below.refl _ _).alloc (Nat.le_refl _) _
  refine (of_any FewB R P a len cap w.heap.size 0 6 6 _ (h.below hb0) hP (by omega) (by omega) (by have := h.lt; omega) (by simp) (strs_new w 9 [⟨#[97]⟩, ⟨#[98]⟩, ⟨#[97, 98]⟩, ⟨#[99]⟩, ⟨#[99, 97, 115, 104]⟩, ⟨#[97, 97]⟩] FewB ?_)).mono ?_
  · intro s hs
    simp only [List.mem_cons, List.not_mem_nil, or_false] at hs
    rcases hs with rfl | rfl | rfl | rfl | rfl | rfl <;> (unfold FewB; decide)
  rintro e w1 ⟨z, rfl, hz, hR1, hg1⟩
  go_wp2
  go_ret
  exact ⟨z, rfl, hz, hR1, grown_trans (grown_below hb0) hg1⟩

end Go.Proofs.YtcabinakcmpkeaaDoor
