/-
  The two entries that a law draws, by a walk of its Go text.
-/
import Derived.Test.YtpaknibaeieobaaBent3
import Derived.Test.YtpaknibaeieobaaBytesD
namespace Go.Proofs.Ytpaknibaeieobaa
open Go.RowKit

attribute [local go_sem] Oper.semAt_some

/-- Two entries that have been drawn. -/
def LessR (w : World) (e : Ending) (w' : World) : Prop :=
  ∃ k t q d n k' t' q' d' n', e = .returned (.tuple #[.agg #[.string k, .int .i64 q, .int .i64 d, .string t, .int .i64 n], .agg #[.string k', .int .i64 q', .int .i64 d', .string t', .int .i64 n']]) ∧ EntF k t q d n ∧ EntF k' t' q' d' n' ∧ Below w.heap.size w w'

theorem wf_one_add {z : Int} (h : PickR 4 z) : (Lit.int .i64 (1 + z)).wf = true := by
  have := h.1
  have := h.2 (by omega)
  exact WalkArith.wf_i64 (by omega)
theorem below_next {w w1 w2 : World} {R : Nat} (h1 : Below w.heap.size w w1) (h : w1.grownBy w2 (some R)) (hR : w.heap.size ≤ R) : Below w.heap.size w w2 :=
  h1.trans ⟨h.os, h.tape, h.output, h.size, fun k hk => h.block k (Nat.lt_of_lt_of_le hk h1.size) (fun e => by cases e; omega)⟩

set_option maxRecDepth 100000 in
set_option maxHeartbeats 2000000 in
theorem drawLess_any (a : Option Addr) (len cap : Nat) (w : World) (hb : BytesAt w a len cap) :
    Calls Try.prog 51 #[.slice a len cap] w fun e w' => LessR w e w' := by
  have HB : Hid (BytesAt w a len cap) := hb
  clear hb
  obtain ⟨X, hX⟩ : ∃ X, X = w.heap.size := ⟨_, rfl⟩
  obtain ⟨W0, hW0⟩ : ∃ W, W = (w.alloc (.cells #[.string ⟨#[]⟩, .int .i64 0, .int .i64 0, .string ⟨#[]⟩, .int .i64 0] 27)).alloc (.cells #[.string ⟨#[]⟩, .int .i64 0, .int .i64 0, .string ⟨#[]⟩, .int .i64 0] 27) := ⟨_, rfl⟩
  have k0 : Below w.heap.size w W0 := by rw [hW0]; exact ((Below.refl _ _).alloc (Nat.le_refl _) _).alloc (by simp) _
  have B0 : Box5 W0 X (.string ⟨#[]⟩) (.int .i64 0) (.int .i64 0) (.string ⟨#[]⟩) (.int .i64 0) := by rw [hW0, hX]; exact (Box5.new _ _ _ _ _ _ _).alloc _
  have C0 : Box5 W0 (X + 1) (.string ⟨#[]⟩) (.int .i64 0) (.int .i64 0) (.string ⟨#[]⟩) (.int .i64 0) := by
    rw [hW0, hX]
    have := Box5.new (w.alloc (.cells #[.string ⟨#[]⟩, .int .i64 0, .int .i64 0, .string ⟨#[]⟩, .int .i64 0] 27)) 27 (.string ⟨#[]⟩) (.int .i64 0) (.int .i64 0) (.string ⟨#[]⟩) (.int .i64 0)
    simpa using this
  have hs0 : W0.heap.size = X + 1 + 1 := by rw [hW0, hX]; simp
  go_enter Try.func51, Try.ntmps51
  go_wp2_with fail
  rw [← hW0, ← hX]
  have HXw : Hid (w.heap.size ≤ X) := by show w.heap.size ≤ X; omega
  clear hW0 hX
  obtain ⟨hc1, hc2, hc3⟩ := HB.out.keep k0
  refine (l9Open_any a len cap W0 hc1 hc2 hc3).mono ?_
  rintro e w1 ⟨len', rfl, hR1, hb1, hsz1⟩
  rw [hs0] at hR1
  rw [hs0]
  have hXR : X ≠ X + 1 + 1 := by omega
  have hYR : X + 1 ≠ X + 1 + 1 := by omega
  have B1 := B0.below hb1
  have C1 := C0.below hb1
  have HG1 : Hid (Below w.heap.size w w1) := k0.trans (hb1.mono k0.size)
  clear hc1 hc2 hc3 B0 C0 hb1 k0 hs0 hsz1
  go_wp2_with fail
  refine (pick_any (X + 1 + 1) 0 a len' cap 4 _ hR1 (by omega) (by omega)).mono ?_
  rintro e w2 ⟨z, rfl, hz, hR2, hg2⟩
  have B2 := B1.grown hg2 hXR
  have C2 := C1.grown hg2 hYR
  have HG2 : Hid (Below w.heap.size w w2) := below_next HG1.out hg2 (by have := HXw.out; omega)
  have hwz := wf_one_add hz
  have hz0 := hz.1
  have hz3 := hz.2 (by omega)
  clear B1 C1 hg2 hR1 HG1
  go_wp2_with fail
  refine (l3Entry_any (X + 1 + 1) _ a len' cap (1 + z) _ hR2 (by omega) hwz).mono ?_
  rintro e w3 ⟨ek, et, eq, ed, en, P3, rfl, hF3, hR3, hP3, hg3⟩
  have B3 := B2.grown hg3 hXR
  have C3 := C2.grown hg3 hYR
  have HG3 : Hid (Below w.heap.size w w3) := below_next HG2.out hg3 (by have := HXw.out; omega)
  clear B2 C2 hg3 hR2 HG2 hz hz0 hz3 hwz
  go_wp2_with fail
  refine (l3Bent_any (X + 1 + 1) P3 a len' cap ek et eq ed en _ hR3 (by omega) hF3).mono ?_
  rintro e w4 ⟨k, t, q, d, n, P4, rfl, hF4, hR4, hP4, hg4⟩
  have B4 := B3.grown hg4 hXR
  have C4 := C3.grown hg4 hYR
  have HG4 : Hid (Below w.heap.size w w4) := below_next HG3.out hg4 (by have := HXw.out; omega)
  have HF4 : Hid (EntF k t q d n) := hF4
  clear B3 C3 hg4 hR3 HG3 hF3 hF4
  go_upto_region 3 with fail
  obtain ⟨A, hA⟩ : ∃ A, A = w4.heap.size := ⟨_, rfl⟩
  obtain ⟨W, hW⟩ : ∃ W, W = w4.alloc (.cells #[.string k, .int .i64 q, .int .i64 d, .string t, .int .i64 n] 27) := ⟨_, rfl⟩
  have kA : Below w4.heap.size w4 W := by rw [hW]; exact (Below.refl _ _).alloc (Nat.le_refl _) _
  have BA : Box5 W A (.string k) (.int .i64 q) (.int .i64 d) (.string t) (.int .i64 n) := by rw [hW, hA]; exact Box5.new _ _ _ _ _ _ _
  have BX := B4.below kA
  have BY := C4.below kA
  have hRW := hR4.below kA
  have hAR : A ≠ X + 1 + 1 := by have := hR4.lt; omega
  have hAX : A ≠ X := by have := B4.lt; omega
  have hAY : A ≠ X + 1 := by have := C4.lt; omega
  have HGW : Hid (Below w.heap.size w W) := HG4.out.trans (kA.mono HG4.out.size)
  rw [← hW, ← hA]
  clear hW hA kA B4 C4 hR4 HG4
  have BA0 : Box5 W.drew A (.string k) (.int .i64 q) (.int .i64 d) (.string t) (.int .i64 n) := BA.below (Below.refl _ _).drew
  have BX0 := BX.below (Below.refl _ W).drew
  have BY0 := BY.below (Below.refl _ W).drew
  have hR0 := hRW.below (Below.refl _ W).drew
  have HG0 : Hid (Below w.heap.size w W.drew) := HGW.out.drew
  have hXw := HXw.out
  have HSA : Hid (∀ w', Box5 w' A (.string k) (.int .i64 q) (.int .i64 d) (.string t) (.int .i64 n) → (w'.cell? ⟨A, 0, none⟩ = some (.string k) ∧ w'.cell? ⟨A, 1, none⟩ = some (.int .i64 q) ∧ w'.cell? ⟨A, 2, none⟩ = some (.int .i64 d) ∧ w'.cell? ⟨A, 3, none⟩ = some (.string t) ∧ w'.cell? ⟨A, 4, none⟩ = some (.int .i64 n) ∧ A < w'.heap.size)) := fun w' h => ⟨h.c0, h.c1, h.c2, h.c3, h.c4, h.lt⟩
  go_region_held3 (fun w' => w'.cell? ⟨A, 0, none⟩ = some (.string k) ∧ w'.cell? ⟨A, 1, none⟩ = some (.int .i64 q) ∧ w'.cell? ⟨A, 2, none⟩ = some (.int .i64 d) ∧ w'.cell? ⟨A, 3, none⟩ = some (.string t) ∧ w'.cell? ⟨A, 4, none⟩ = some (.int .i64 n) ∧ A < w'.heap.size) (first | with_reducible exact HSA.out _ (BA0) | with_reducible exact HSA.out _ (BA1) | with_reducible exact HSA.out _ (BA2) | with_reducible exact HSA.out _ (BA3) | with_reducible exact HSA.out _ ((((((BA3).other hAX 0 _).other hAX 1 _).other hAX 2 _).other hAX 3 _).other hAX 4 _) | with_reducible exact HSA.out _ ((((((BA3).other hAY 0 _).other hAY 1 _).other hAY 2 _).other hAY 3 _).other hAY 4 _) | with_reducible exact HSA.out _ (((((((((((BA3).other hAX 0 _).other hAX 1 _).other hAX 2 _).other hAX 3 _).other hAX 4 _).other hAY 0 _).other hAY 1 _).other hAY 2 _).other hAY 3 _).other hAY 4 _) | with_reducible exact HSA.out _ (((((((((((BA3).other hAY 0 _).other hAY 1 _).other hAY 2 _).other hAY 3 _).other hAY 4 _).other hAX 0 _).other hAX 1 _).other hAX 2 _).other hAX 3 _).other hAX 4 _)) (first
    | (go_at_call 74; refine (pick_any (X + 1 + 1) P4 a len' cap 4 _ hR0 (by omega) (by omega)).mono ?_; rintro e v1 ⟨z, rfl, hz, hR1, hg1⟩; have BA1 := BA0.grown hg1 hAR; have BX1 := BX0.grown hg1 hXR; have BY1 := BY0.grown hg1 hYR; have HG1 : Hid (Below w.heap.size w v1) := below_next HG0.out hg1 (by omega); have hwz := wf_one_add hz; have hz0 := hz.1; have hz3 := hz.2 (by omega); have ew : IntKind.i64.wrap (1 + z) = 1 + z := (by rw [IntKind.wrap_i64]; omega))
    | (go_at_call 75; refine (l3Entry_any (X + 1 + 1) _ a len' cap (1 + z) _ hR1 (by omega) hwz).mono ?_; rintro e v2 ⟨ek, et, eq, ed, en, P5, rfl, hF5, hR2, hP5, hg2⟩; have BA2 := BA1.grown hg2 hAR; have BX2 := BX1.grown hg2 hXR; have BY2 := BY1.grown hg2 hYR; have HG2 : Hid (Below w.heap.size w v2) := below_next HG1.out hg2 (by omega))
    | (go_at_call 77; refine (l3Bent_any (X + 1 + 1) P5 a len' cap ek et eq ed en _ hR2 (by omega) hF5).mono ?_; rintro e v3 ⟨k', t', q', d', n', P6, rfl, hF6, hR3, hP6, hg3⟩; have BA3 := BA2.grown hg3 hAR; have BX3 := BX2.grown hg3 hXR; have BY3 := BY2.grown hg3 hYR; have HG3 : Hid (Below w.heap.size w v3) := below_next HG2.out hg3 (by omega); have x0 := BX3.c0; have x1 := BX3.c1; have x2 := BX3.c2; have x3 := BX3.c3; have x4 := BX3.c4; have y0 := BY3.c0; have y1 := BY3.c1; have y2 := BY3.c2; have y3 := BY3.c3; have y4 := BY3.c4; have fx0 := BX3.fr 0; have fx1 := BX3.fr 1; have fx2 := BX3.fr 2; have fx3 := BX3.fr 3; have fx4 := BX3.fr 4; have fy0 := BY3.fr 0; have fy1 := BY3.fr 1; have fy2 := BY3.fr 2; have fy3 := BY3.fr 3; have fy4 := BY3.fr 4; have lX := BX3.lt; have lY := BY3.lt))
  all_goals
    go_wp2
    refine bodyPost_ret (v := .tuple #[.agg #[.string k, .int .i64 q, .int .i64 d, .string t, .int .i64 n], .agg #[.string k', .int .i64 q', .int .i64 d', .string t', .int .i64 n']]) (by simp [results, Try.results51, go_sem, x0, x1, x2, x3, x4, y0, y1, y2, y3, y4]) rfl ⟨k, t, q, d, n, k', t', q', d', n', rfl, HF4.out, hF6, ?_⟩
    have hYw : w.heap.size ≤ X + 1 := by omega
    exact (((((((((HG3.out.setCell (p := ⟨X, 0, none⟩) hXw _).setCell (p := ⟨X, 1, none⟩) hXw _).setCell (p := ⟨X, 2, none⟩) hXw _).setCell (p := ⟨X, 3, none⟩) hXw _).setCell (p := ⟨X, 4, none⟩) hXw _).setCell (p := ⟨X + 1, 0, none⟩) hYw _).setCell (p := ⟨X + 1, 1, none⟩) hYw _).setCell (p := ⟨X + 1, 2, none⟩) hYw _).setCell (p := ⟨X + 1, 3, none⟩) hYw _).setCell (p := ⟨X + 1, 4, none⟩) hYw _
end Go.Proofs.Ytpaknibaeieobaa
