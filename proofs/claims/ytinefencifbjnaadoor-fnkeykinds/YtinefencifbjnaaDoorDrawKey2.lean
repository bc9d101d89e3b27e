/-
  The numbers and the text of which a law makes keys, drawn, by walks of their Go text.
-/
import Derived.Test.YtinefencifbjnaaDoorDrawKey
namespace Go.Proofs.YtinefencifbjnaaDoor
open Go.RowKit

set_option maxRecDepth 100000 in
set_option maxHeartbeats 2000000 in
theorem drawKeyId_any (a : Option Addr) (len cap : Nat) (w : World) (hb : BytesAt w a len cap) :
    Calls Tryd.prog 10 #[.slice a len cap] w fun e w' => ∃ n, e = .returned (.int .i64 n) ∧ SmallK n ∧ Below w.heap.size w w' := by
  obtain ⟨hc1, hc2, hc3⟩ := hb
  go_enter Tryd.func10, Tryd.ntmps10
  go_wp2_with fail
  refine (l9Open_any a len cap w hc1 hc2 hc3).mono ?_
  rintro e w1 ⟨len', rfl, hR1, hb1, hsz1⟩
  obtain ⟨R, hR⟩ : ∃ R, R = w.heap.size := ⟨_, rfl⟩
  rw [← hR] at hR1 ⊢
  have HRw : Hid (w.heap.size ≤ R) := by show w.heap.size ≤ R; omega
  clear hc1 hc2 hc3 hsz1 hR
  go_wp2_with fail
  have kb : Below w1.heap.size w1 (w1.alloc (.cells (([0, 1, 9, 10, 42, 99, 100, -1] : List Int).map (Value.int .i64)).toArray 3)) := (Below.refl _ _).alloc (Nat.le_refl _) _
  refine (num_any SmallK R 0 a len' cap w1.heap.size 0 8 8 _ (hR1.below kb) (by omega) (by omega) (by omega) (by have := hR1.lt; omega) (by simp) (ints_new w1 3 [0, 1, 9, 10, 42, 99, 100, -1] SmallK ?_)).mono ?_
  · intro s hs
    simp only [List.mem_cons, List.not_mem_nil, or_false] at hs
    rcases hs with rfl | rfl | rfl | rfl | rfl | rfl | rfl | rfl <;> (unfold SmallK; decide)
  rintro e w3 ⟨c, rfl, hc, hR3, hg3⟩
  have HG3 : Hid (Below w.heap.size w w3) := below_nextK (hb1.trans (kb.mono hb1.size)) hg3 HRw.out
  go_wp2
  go_ret
  exact ⟨c, rfl, hc, HG3.out⟩

set_option maxRecDepth 100000 in
set_option maxHeartbeats 2000000 in
theorem drawKeyLog_any (a : Option Addr) (len cap : Nat) (w : World) (hb : BytesAt w a len cap) :
    Calls Tryd.prog 11 #[.slice a len cap] w fun e w' => ∃ n, e = .returned (.int .i64 n) ∧ SmallK n ∧ Below w.heap.size w w' := by
  obtain ⟨hc1, hc2, hc3⟩ := hb
  go_enter Tryd.func11, Tryd.ntmps11
  go_wp2_with fail
  refine (l9Open_any a len cap w hc1 hc2 hc3).mono ?_
  rintro e w1 ⟨len', rfl, hR1, hb1, hsz1⟩
  obtain ⟨R, hR⟩ : ∃ R, R = w.heap.size := ⟨_, rfl⟩
  rw [← hR] at hR1 ⊢
  have HRw : Hid (w.heap.size ≤ R) := by show w.heap.size ≤ R; omega
  clear hc1 hc2 hc3 hsz1 hR
  go_wp2_with fail
  have kb : Below w1.heap.size w1 (w1.alloc (.cells (([0, 1, 9, 10, 42, 99, 100, -1] : List Int).map (Value.int .i64)).toArray 3)) := (Below.refl _ _).alloc (Nat.le_refl _) _
  refine (num_any SmallK R 0 a len' cap w1.heap.size 0 8 8 _ (hR1.below kb) (by omega) (by omega) (by omega) (by have := hR1.lt; omega) (by simp) (ints_new w1 3 [0, 1, 9, 10, 42, 99, 100, -1] SmallK ?_)).mono ?_
  · intro s hs
    simp only [List.mem_cons, List.not_mem_nil, or_false] at hs
    rcases hs with rfl | rfl | rfl | rfl | rfl | rfl | rfl | rfl <;> (unfold SmallK; decide)
  rintro e w3 ⟨c, rfl, hc, hR3, hg3⟩
  have HG3 : Hid (Below w.heap.size w w3) := below_nextK (hb1.trans (kb.mono hb1.size)) hg3 HRw.out
  go_wp2
  go_ret
  exact ⟨c, rfl, hc, HG3.out⟩

set_option maxRecDepth 100000 in
set_option maxHeartbeats 2000000 in
theorem drawKeyOk_any (a : Option Addr) (len cap : Nat) (w : World) (hb : BytesAt w a len cap) :
    Calls Tryd.prog 12 #[.slice a len cap] w fun e w' => ∃ s, e = .returned (.string s) ∧ FewK s ∧ Below w.heap.size w w' := by
  obtain ⟨hc1, hc2, hc3⟩ := hb
  go_enter Tryd.func12, Tryd.ntmps12
  go_wp2_with fail
  refine (l9Open_any a len cap w hc1 hc2 hc3).mono ?_
  rintro e w1 ⟨len', rfl, hR1, hb1, hsz1⟩
  obtain ⟨R, hR⟩ : ∃ R, R = w.heap.size := ⟨_, rfl⟩
  rw [← hR] at hR1 ⊢
  have HRw : Hid (w.heap.size ≤ R) := by show w.heap.size ≤ R; omega
  clear hc1 hc2 hc3 hsz1 hR
  go_wp2_with fail
  have ka : Below w1.heap.size w1 (w1.alloc (.cells (([⟨#[97]⟩, ⟨#[98, 47, 97, 47, 49]⟩, ⟨#[]⟩, ⟨#[97, 98, 99, 100, 101, 102, 103, 104]⟩, ⟨#[97, 98, 99, 100, 101, 102, 103, 104, 105]⟩, ⟨#[65]⟩, ⟨#[97, 32, 98]⟩, ⟨#[48]⟩, ⟨#[47]⟩, ⟨#[58]⟩, ⟨#[97, 46, 98]⟩] : List ByteArray).map Value.string).toArray 9)) := (Below.refl _ _).alloc (Nat.le_refl _) _
  refine (of_any FewK R 0 a len' cap w1.heap.size 0 11 11 _ (hR1.below ka) (by omega) (by omega) (by omega) (by have := hR1.lt; omega) (by simp) (strs_new w1 9 [⟨#[97]⟩, ⟨#[98, 47, 97, 47, 49]⟩, ⟨#[]⟩, ⟨#[97, 98, 99, 100, 101, 102, 103, 104]⟩, ⟨#[97, 98, 99, 100, 101, 102, 103, 104, 105]⟩, ⟨#[65]⟩, ⟨#[97, 32, 98]⟩, ⟨#[48]⟩, ⟨#[47]⟩, ⟨#[58]⟩, ⟨#[97, 46, 98]⟩] FewK ?_)).mono ?_
  · intro s hs
    simp only [List.mem_cons, List.not_mem_nil, or_false] at hs
    rcases hs with rfl | rfl | rfl | rfl | rfl | rfl | rfl | rfl | rfl | rfl | rfl <;> (unfold FewK; decide)
  rintro e w2 ⟨s, rfl, hs, hR2, hg2⟩
  have HG2 : Hid (Below w.heap.size w w2) := below_nextK (hb1.trans (ka.mono hb1.size)) hg2 HRw.out
  go_wp2
  go_ret
  exact ⟨s, rfl, hs, HG2.out⟩

end Go.Proofs.YtinefencifbjnaaDoor
