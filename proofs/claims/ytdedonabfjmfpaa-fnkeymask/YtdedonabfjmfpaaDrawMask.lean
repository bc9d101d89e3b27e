/-
  The text that the law FnKeyMask draws, by a walk of its Go text.
-/
import Derived.Test.YtdedonabfjmfpaaDrawEnt
import Derived.Test.YtdedonabfjmfpaaBytesD
import Derived.Deep.RegionWith
namespace Go.Proofs.Ytdedonabfjmfpaa
open Go.RowKit

set_option maxRecDepth 100000 in
set_option maxHeartbeats 2000000 in
theorem drawKeyMask_any (a : Option Addr) (len cap : Nat) (w : World) (hb : BytesAt w a len cap) :
    Calls Try.prog 31 #[.slice a len cap] w fun e w' => ∃ s, e = .returned (.string s) ∧ Few s ∧ Below w.heap.size w w' := by
  obtain ⟨hc1, hc2, hc3⟩ := hb
  go_enter Try.func31, Try.ntmps31
  go_wp2_with fail
  refine (l9Open_any a len cap w hc1 hc2 hc3).mono ?_
  rintro e w1 ⟨len', rfl, hR1, hb1, hsz1⟩
  obtain ⟨R, hR⟩ : ∃ R, R = w.heap.size := ⟨_, rfl⟩
  rw [← hR] at hR1 ⊢
  have HRw : Hid (w.heap.size ≤ R) := by show w.heap.size ≤ R; omega
  clear hc1 hc2 hc3 hsz1 hR
  go_wp2_with fail
  refine (l3Key_any R 0 a len' cap w1 hR1 (by omega)).mono ?_
  rintro e w2 ⟨z1, rfl, hz1, hR2, hg2⟩
  have HG2 : Hid (Below w.heap.size w w2) := hb1.trans ⟨hg2.os, hg2.tape, hg2.output, hg2.size, fun k hk => hg2.block k (Nat.lt_of_lt_of_le hk hb1.size) (fun e => by cases e; have := HRw.out; omega)⟩
  clear hb1 hg2 hR1
  go_wp2_with fail
  refine (l3Key_any R 1 a len' cap w2 hR2 (by omega)).mono ?_
  rintro e w3 ⟨z2, rfl, hz2, hR3, hg3⟩
  have HG3 : Hid (Below w.heap.size w w3) := HG2.out.trans ⟨hg3.os, hg3.tape, hg3.output, hg3.size, fun k hk => hg3.block k (Nat.lt_of_lt_of_le hk HG2.out.size) (fun e => by cases e; have := HRw.out; omega)⟩
  clear HG2 hg3 hR2
  go_wp2_with fail
  have ka : Below w3.heap.size w3 (w3.alloc (.cells (([z1, z2, ⟨#[98, 47, 99, 97, 115, 104, 47, 51]⟩, ⟨#[105, 47, 48, 55]⟩, ⟨#[106, 47, 57, 57]⟩, ⟨#[]⟩, ⟨#[122, 122, 122, 122]⟩] : List ByteArray).map Value.string).toArray 9)) := (Below.refl _ _).alloc (Nat.le_refl _) _
  refine (of_any Few R 2 a len' cap w3.heap.size 0 7 7 _ (hR3.below ka) (by omega) (by omega) (by omega) (by have := hR3.lt; omega) (by simp) (strs_new w3 9 [z1, z2, ⟨#[98, 47, 99, 97, 115, 104, 47, 51]⟩, ⟨#[105, 47, 48, 55]⟩, ⟨#[106, 47, 57, 57]⟩, ⟨#[]⟩, ⟨#[122, 122, 122, 122]⟩] Few ?_)).mono ?_
  · intro s hs
    simp only [List.mem_cons, List.not_mem_nil, or_false] at hs
    rcases hs with rfl | rfl | rfl | rfl | rfl | rfl | rfl <;> first | assumption | (unfold Few; decide)
  rintro e w4 ⟨s, rfl, hs, hR4, hg4⟩
  have k3 : Below w.heap.size w (w3.alloc (.cells (([z1, z2, ⟨#[98, 47, 99, 97, 115, 104, 47, 51]⟩, ⟨#[105, 47, 48, 55]⟩, ⟨#[106, 47, 57, 57]⟩, ⟨#[]⟩, ⟨#[122, 122, 122, 122]⟩] : List ByteArray).map Value.string).toArray 9)) := HG3.out.trans (ka.mono HG3.out.size)
  have HG4 : Hid (Below w.heap.size w w4) := k3.trans ⟨hg4.os, hg4.tape, hg4.output, hg4.size, fun k hk => hg4.block k (Nat.lt_of_lt_of_le hk k3.size) (fun e => by cases e; have := HRw.out; omega)⟩
  clear ka k3 hg4
  go_wp2
  go_ret
  exact ⟨s, rfl, hs, HG4.out⟩
end Go.Proofs.Ytdedonabfjmfpaa
