/-
  The entry that a law draws, by a walk of its Go text.
-/
import Derived.Test.YtpaknibaeieobabBent3
import Derived.Test.YtpaknibaeieobabBytesD
namespace Go.Proofs.Ytpaknibaeieobab
open Go.RowKit

/-- An entry that has been drawn. -/
def OkR (w : World) (e : Ending) (w' : World) : Prop :=
  ∃ k t q d n, e = .returned (.agg #[.string k, .int .i64 q, .int .i64 d, .string t, .int .i64 n]) ∧ EntF k t q d n ∧ Below w.heap.size w w'

theorem wf_one_add9 {z : Int} (h : PickR 9 z) : (Lit.int .i64 (1 + z)).wf = true := by
  have := h.1
  have := h.2 (by omega)
  exact WalkArith.wf_i64 (by omega)
theorem below_next {w w1 w2 : World} {R : Nat} (h1 : Below w.heap.size w w1) (h : w1.grownBy w2 (some R)) (hR : w.heap.size ≤ R) : Below w.heap.size w w2 :=
  h1.trans ⟨h.os, h.tape, h.output, h.size, fun k hk => h.block k (Nat.lt_of_lt_of_le hk h1.size) (fun e => by cases e; omega)⟩

set_option maxRecDepth 100000 in
set_option maxHeartbeats 2000000 in
theorem drawOk_any (a : Option Addr) (len cap : Nat) (w : World) (hb : BytesAt w a len cap) :
    Calls Try.prog 4 #[.slice a len cap] w fun e w' => OkR w e w' := by
  have HB : Hid (BytesAt w a len cap) := hb
  clear hb
  obtain ⟨X, hX⟩ : ∃ X, X = w.heap.size := ⟨_, rfl⟩
  obtain ⟨W0, hW0⟩ : ∃ W, W = w.alloc (.cells #[.string ⟨#[]⟩, .int .i64 0, .int .i64 0, .string ⟨#[]⟩, .int .i64 0] 24) := ⟨_, rfl⟩
  have k0 : Below w.heap.size w W0 := by rw [hW0]; exact (Below.refl _ _).alloc (Nat.le_refl _) _
  have B0 : Box5 W0 X (.string ⟨#[]⟩) (.int .i64 0) (.int .i64 0) (.string ⟨#[]⟩) (.int .i64 0) := by rw [hW0, hX]; exact Box5.new _ _ _ _ _ _ _
  have hs0 : W0.heap.size = X + 1 := by rw [hW0, hX]; simp
  go_enter Try.func4, Try.ntmps4
  go_wp2_with fail
  rw [← hW0, ← hX]
  have HXw : Hid (w.heap.size ≤ X) := by show w.heap.size ≤ X; omega
  clear hW0 hX
  obtain ⟨hc1, hc2, hc3⟩ := HB.out.keep k0
  refine (l9Open_any a len cap W0 hc1 hc2 hc3).mono ?_
  rintro e w1 ⟨len', rfl, hR1, hb1, hsz1⟩
  rw [hs0] at hR1
  rw [hs0]
  have hXR : X ≠ X + 1 := by omega
  have B1 := B0.below hb1
  have HG1 : Hid (Below w.heap.size w w1) := k0.trans (hb1.mono k0.size)
  clear hc1 hc2 hc3 B0 hb1 k0 hs0 hsz1
  go_wp2_with fail
  refine (pick_any (X + 1) 0 a len' cap 9 _ hR1 (by omega) (by omega)).mono ?_
  rintro e w2 ⟨z, rfl, hz, hR2, hg2⟩
  have B2 := B1.grown hg2 hXR
  have HG2 : Hid (Below w.heap.size w w2) := below_next HG1.out hg2 (by have := HXw.out; omega)
  have hwz := wf_one_add9 hz
  have hz0 := hz.1
  have hz3 := hz.2 (by omega)
  clear B1 hg2 hR1 HG1
  go_wp2_with fail
  refine (l3Entry_any (X + 1) _ a len' cap (1 + z) _ hR2 (by omega) hwz).mono ?_
  rintro e w3 ⟨ek, et, eq, ed, en, P3, rfl, hF3, hR3, hP3, hg3⟩
  have B3 := B2.grown hg3 hXR
  have HG3 : Hid (Below w.heap.size w w3) := below_next HG2.out hg3 (by have := HXw.out; omega)
  clear B2 hg3 hR2 HG2 hz hz0 hz3 hwz
  go_wp2_with fail
  refine (l3Bent_any (X + 1) P3 a len' cap ek et eq ed en _ hR3 (by omega) hF3).mono ?_
  rintro e w4 ⟨k, t, q, d, n, P4, rfl, hF4, hR4, hP4, hg4⟩
  have B4 := B3.grown hg4 hXR
  have HG4 : Hid (Below w.heap.size w w4) := below_next HG3.out hg4 (by have := HXw.out; omega)
  have HF4 : Hid (EntF k t q d n) := hF4
  have x0 := B4.c0
  have x1 := B4.c1
  have x2 := B4.c2
  have x3 := B4.c3
  have x4 := B4.c4
  have f0 := B4.fr 0
  have f1 := B4.fr 1
  have f2 := B4.fr 2
  have f3 := B4.fr 3
  have f4 := B4.fr 4
  have lX := B4.lt
  clear B3 hg4 hR3 HG3 hF3 hF4 B4 hR4
  have hXw := HXw.out
  go_wp2
  refine bodyPost_ret (v := .agg #[.string k, .int .i64 q, .int .i64 d, .string t, .int .i64 n]) (by simp [results, Try.results4, go_sem, x0, x1, x2, x3, x4]) rfl ⟨k, t, q, d, n, rfl, HF4.out, ?_⟩
  exact ((((HG4.out.setCell (p := ⟨X, 0, none⟩) hXw _).setCell (p := ⟨X, 1, none⟩) hXw _).setCell (p := ⟨X, 2, none⟩) hXw _).setCell (p := ⟨X, 3, none⟩) hXw _).setCell (p := ⟨X, 4, none⟩) hXw _

end Go.Proofs.Ytpaknibaeieobab
