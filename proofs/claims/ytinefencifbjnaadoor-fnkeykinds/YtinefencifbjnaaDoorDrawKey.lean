/-
  The accounts, currencies, numbers and texts of which the laws make keys, drawn, by walks of their Go text.
-/
import Derived.Test.YtinefencifbjnaaDoorBytesD
import Derived.Test.YtinefencifbjnaaDoorKeyP
namespace Go.Proofs.YtinefencifbjnaaDoor
open Go.RowKit

theorem below_nextK {w w1 w2 : World} {R : Nat} (h1 : Below w.heap.size w w1) (h : w1.grownBy w2 (some R)) (hR : w.heap.size ≤ R) : Below w.heap.size w w2 :=
  h1.trans ⟨h.os, h.tape, h.output, h.size, fun k hk => h.block k (Nat.lt_of_lt_of_le hk h1.size) (fun e => by cases e; omega)⟩
/-- A text of few bytes. -/
def FewK (s : ByteArray) : Prop := s.size ≤ 100
/-- A number that is drawn. -/
def SmallK (n : Int) : Prop := -1 ≤ n ∧ n ≤ 100

set_option maxRecDepth 100000 in
set_option maxHeartbeats 2000000 in
theorem drawKeyBal_any (a : Option Addr) (len cap : Nat) (w : World) (hb : BytesAt w a len cap) :
    Calls Tryd.prog 5 #[.slice a len cap] w fun e w' => ∃ s c, e = .returned (.tuple #[.string s, .int .i64 c]) ∧ FewK s ∧ SmallK c ∧ Below w.heap.size w w' := by
  obtain ⟨hc1, hc2, hc3⟩ := hb
  go_enter Tryd.func5, Tryd.ntmps5
  go_wp2_with fail
  refine (l9Open_any a len cap w hc1 hc2 hc3).mono ?_
  rintro e w1 ⟨len', rfl, hR1, hb1, hsz1⟩
  obtain ⟨R, hR⟩ : ∃ R, R = w.heap.size := ⟨_, rfl⟩
  rw [← hR] at hR1 ⊢
  have HRw : Hid (w.heap.size ≤ R) := by show w.heap.size ≤ R; omega
  clear hc1 hc2 hc3 hsz1 hR
  go_wp2_with fail
  have ka : Below w1.heap.size w1 (w1.alloc (.cells (([⟨#[97]⟩, ⟨#[97, 98]⟩, ⟨#[97, 98, 99]⟩, ⟨#[99, 97, 115, 104]⟩, ⟨#[98]⟩, ⟨#[122]⟩, ⟨#[]⟩, ⟨#[65]⟩] : List ByteArray).map Value.string).toArray 9)) := (Below.refl _ _).alloc (Nat.le_refl _) _
  refine (of_any FewK R 0 a len' cap w1.heap.size 0 8 8 _ (hR1.below ka) (by omega) (by omega) (by omega) (by have := hR1.lt; omega) (by simp) (strs_new w1 9 [⟨#[97]⟩, ⟨#[97, 98]⟩, ⟨#[97, 98, 99]⟩, ⟨#[99, 97, 115, 104]⟩, ⟨#[98]⟩, ⟨#[122]⟩, ⟨#[]⟩, ⟨#[65]⟩] FewK ?_)).mono ?_
  · intro s hs
    simp only [List.mem_cons, List.not_mem_nil, or_false] at hs
    rcases hs with rfl | rfl | rfl | rfl | rfl | rfl | rfl | rfl <;> (unfold FewK; decide)
  rintro e w2 ⟨s, rfl, hs, hR2, hg2⟩
  have HG2 : Hid (Below w.heap.size w w2) := below_nextK (hb1.trans (ka.mono hb1.size)) hg2 HRw.out
  clear hb1 ka hg2 hR1
  go_wp2_with fail
  have kb : Below w2.heap.size w2 (w2.alloc (.cells (([1, 2, 3, 1, 2, 0, 4] : List Int).map (Value.int .i64)).toArray 3)) := (Below.refl _ _).alloc (Nat.le_refl _) _
  refine (num_any SmallK R (0 + 1) a len' cap w2.heap.size 0 7 7 _ (hR2.below kb) (by omega) (by omega) (by omega) (by have := hR2.lt; omega) (by simp) (ints_new w2 3 [1, 2, 3, 1, 2, 0, 4] SmallK ?_)).mono ?_
  · intro s hs
    simp only [List.mem_cons, List.not_mem_nil, or_false] at hs
    rcases hs with rfl | rfl | rfl | rfl | rfl | rfl | rfl <;> (unfold SmallK; decide)
  rintro e w3 ⟨c, rfl, hc, hR3, hg3⟩
  have HG3 : Hid (Below w.heap.size w w3) := below_nextK (HG2.out.trans (kb.mono HG2.out.size)) hg3 HRw.out
  go_wp2
  refine bodyPost_ret (v := .tuple #[.string s, .int .i64 c]) (by simp [results, Tryd.results5, go_sem]) rfl ⟨s, c, rfl, hs, hc, HG3.out⟩

end Go.Proofs.YtinefencifbjnaaDoor
