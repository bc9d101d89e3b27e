/-
  The entries, some of them bent, that the laws draw, by a walk of their Go text.
-/
import Derived.Test.YtfblpbihpmhgjaaDoorFm43
namespace Go.Proofs.YtfblpbihpmhgjaaDoor
open Go.RowKit

set_option maxRecDepth 100000 in
set_option maxHeartbeats 4000000 in
theorem l3Bent_any (R P : Nat) (a : Option Addr) (len cap : Nat) (k t : ByteArray) (q d n : Int) (w : World) (h : RdAt w R a len cap P) (hP : P < 99000) (hF : EntF k t q d n) :
    Calls Tryd.prog 82 #[.pointer (some ⟨R, 0, none⟩), .agg #[.string k, .int .i64 q, .int .i64 d, .string t, .int .i64 n]] w fun e w' => EntR R a len cap P w e w' := by
  have hRw := h.lt
  obtain ⟨X, hX⟩ : ∃ X, X = w.heap.size := ⟨_, rfl⟩
  have HFX : Hid (∀ b off, a = some ⟨b, off, none⟩ → 0 < len → b ≠ X) := h.far (by omega)
  have HFY : Hid (∀ b off, a = some ⟨b, off, none⟩ → 0 < len → b ≠ X + 1) := h.far (by omega)
  have hXR : X ≠ R := by omega
  have hYR : X + 1 ≠ R := by omega
  have HF : Hid (EntF k t q d n) := hF
  have HR0 : Hid (RdAt w R a len cap P) := h
  clear h hF
  go_enter Tryd.func82, Tryd.ntmps82
  go_wp2_with fail
  obtain ⟨W0, hW0⟩ : ∃ W, W = (w.alloc (.cells #[.string k, .int .i64 q, .int .i64 d, .string t, .int .i64 n] 85)).alloc (.cells #[.string ⟨#[]⟩, .int .i64 0, .int .i64 0, .string ⟨#[]⟩, .int .i64 0] 85) := ⟨_, rfl⟩
  have k0 : Below w.heap.size w W0 := by rw [hW0]; exact ((Below.refl _ _).alloc (Nat.le_refl _) _).alloc (by simp) _
  have B0 : Box5 W0 X (.string k) (.int .i64 q) (.int .i64 d) (.string t) (.int .i64 n) := by rw [hW0, hX]; exact (Box5.new _ _ _ _ _ _ _).alloc _
  have C0 : Box5 W0 (X + 1) (.string ⟨#[]⟩) (.int .i64 0) (.int .i64 0) (.string ⟨#[]⟩) (.int .i64 0) := by
    rw [hW0, hX]
    have := Box5.new (w.alloc (.cells #[.string k, .int .i64 q, .int .i64 d, .string t, .int .i64 n] 85)) 85 (.string ⟨#[]⟩) (.int .i64 0) (.int .i64 0) (.string ⟨#[]⟩) (.int .i64 0)
    simpa using this
  rw [← hW0, ← hX]
  have HG0 : Hid (w.grownBy W0 (some R)) := grown_below k0
  have HXw : Hid (w.heap.size ≤ X) := by show w.heap.size ≤ X; omega
  have HYw : Hid (w.heap.size ≤ X + 1) := by show w.heap.size ≤ X + 1; omega
  refine (pick_any R P a len cap 48 _ (HR0.out.below k0) (by omega) (by omega)).mono ?_
  rintro e w1 ⟨z, rfl, hz, hR1, hg1⟩
  have BX := B0.grown hg1 hXR
  have BY := C0.grown hg1 hYR
  have HG1 : Hid (w.grownBy w1 (some R)) := grown_trans HG0.out hg1
  clear hW0 hX k0 B0 C0 hg1 HG0 HR0
  have hXY : X ≠ X + 1 := by omega
  by_cases z0 : z = 0
  · subst z0
    go_wp2_with fail
    have kc : Below w1.heap.size w1 (w1.alloc (.cells ((([⟨#[]⟩, ⟨#[65]⟩, ⟨#[97, 32, 98]⟩, ⟨#[97, 98, 99, 100, 101, 102, 103, 104, 105]⟩, ⟨#[97, 98, 99, 100, 101, 102, 103, 104]⟩, ⟨#[48, 47, 57]⟩] : List ByteArray).map Value.string).toArray) 9)) := (Below.refl _ _).alloc (Nat.le_refl _) _
    refine (of_any Few R (P + 1) a len cap w1.heap.size 0 6 6 _ (hR1.below kc) (by omega) (by omega) (by omega) (by have := hR1.lt; omega) (by simp) (strs_new w1 9 [⟨#[]⟩, ⟨#[65]⟩, ⟨#[97, 32, 98]⟩, ⟨#[97, 98, 99, 100, 101, 102, 103, 104, 105]⟩, ⟨#[97, 98, 99, 100, 101, 102, 103, 104]⟩, ⟨#[48, 47, 57]⟩] Few ?_)).mono ?_
    · intro s hs
      simp only [List.mem_cons, List.not_mem_nil, or_false] at hs
      rcases hs with rfl | rfl | rfl | rfl | rfl | rfl <;> (unfold Few; decide)
    rintro e w3 ⟨v, rfl, hv, hR3, hg3⟩
    have BX3 := (BX.below kc).grown hg3 hXR
    have BY3 := (BY.below kc).grown hg3 hYR
    have HG4 : Hid (w.grownBy w3 (some R)) := grown_trans (grown_trans HG1.out (grown_below kc)) hg3
    clear BX BY kc hg3 HG1
    obtain ⟨W3, hW3⟩ : ∃ W, W = w3.setCell ⟨X, 0, none⟩ (.string v) := ⟨_, rfl⟩
    have BXv := BX3.set0 (.string v)
    have BYv := BY3.other (Ne.symm hXY) 0 (.string v)
    have hR4 : RdAt W3 R a len cap (P + 1 + 1) := by rw [hW3]; exact hR3.other hXR HFX.out _ _
    have HG5 : Hid (w.grownBy W3 (some R)) := by show w.grownBy W3 (some R); rw [hW3]; exact grown_old HG4.out HXw.out (grown_put _ _ _ _)
    have xx := BX3.c0
    have ff := BX3.fr 0
    have lx := BX3.lt
    rw [← hW3] at BXv BYv
    go_upto_region 12 with fail
    rw [← hW3]
    clear hW3 BX3 BY3 hR3 HG4 xx ff lx
    have x0 := BXv.c0
    have x1 := BXv.c1
    have x2 := BXv.c2
    have x3 := BXv.c3
    have x4 := BXv.c4
    have y0 := BYv.c0
    have y1 := BYv.c1
    have y2 := BYv.c2
    have y3 := BYv.c3
    have y4 := BYv.c4
    have f0 := BYv.fr 0
    have f1 := BYv.fr 1
    have f2 := BYv.fr 2
    have f3 := BYv.fr 3
    have f4 := BYv.fr 4
    have lX := BXv.lt
    have lY := BYv.lt
    clear BXv
    go_wp2
    refine bodyPost_ret (v := .agg #[.string v, .int .i64 q, .int .i64 d, .string t, .int .i64 n]) (by simp [results, Tryd.results82, go_sem, y0, y1, y2, y3, y4]) rfl ⟨v, t, q, d, n, P + 1 + 1, rfl, ⟨hv, HF.out.2.1, HF.out.2.2.1, HF.out.2.2.2.1, HF.out.2.2.2.2⟩, ?_, by omega, ?_⟩
    · exact ((((hR4.other hYR HFY.out _ _).other hYR HFY.out _ _).other hYR HFY.out _ _).other hYR HFY.out _ _).other hYR HFY.out _ _
    · exact grown_old HG5.out HYw.out (grown_trans (grown_trans (grown_trans (grown_trans (grown_put _ _ _ _) (grown_put _ _ _ _)) (grown_put _ _ _ _)) (grown_put _ _ _ _)) (grown_put _ _ _ _))
  by_cases z1 : z = 1
  · subst z1
    go_wp2_with fail
    have kc : Below w1.heap.size w1 (w1.alloc (.cells ((([0, -1, 100000, 100001] : List Int).map (Value.int .i64)).toArray) 3)) := (Below.refl _ _).alloc (Nat.le_refl _) _
    refine (num_any Wf R (P + 1) a len cap w1.heap.size 0 4 4 _ (hR1.below kc) (by omega) (by omega) (by omega) (by have := hR1.lt; omega) (by simp) (ints_new w1 3 [0, -1, 100000, 100001] Wf ?_)).mono ?_
    · intro s hs
      simp only [List.mem_cons, List.not_mem_nil, or_false] at hs
      rcases hs with rfl | rfl | rfl | rfl <;> (unfold Wf; decide)
    rintro e w3 ⟨v, rfl, hv, hR3, hg3⟩
    have BX3 := (BX.below kc).grown hg3 hXR
    have BY3 := (BY.below kc).grown hg3 hYR
    have HG4 : Hid (w.grownBy w3 (some R)) := grown_trans (grown_trans HG1.out (grown_below kc)) hg3
    clear BX BY kc hg3 HG1
    obtain ⟨W3, hW3⟩ : ∃ W, W = w3.setCell ⟨X, 1, none⟩ (.int .i64 v) := ⟨_, rfl⟩
    have BXv := BX3.set1 (.int .i64 v)
    have BYv := BY3.other (Ne.symm hXY) 1 (.int .i64 v)
    have hR4 : RdAt W3 R a len cap (P + 1 + 1) := by rw [hW3]; exact hR3.other hXR HFX.out _ _
    have HG5 : Hid (w.grownBy W3 (some R)) := by show w.grownBy W3 (some R); rw [hW3]; exact grown_old HG4.out HXw.out (grown_put _ _ _ _)
    have xx := BX3.c1
    have ff := BX3.fr 1
    have lx := BX3.lt
    rw [← hW3] at BXv BYv
    go_upto_region 12 with fail
    rw [← hW3]
    clear hW3 BX3 BY3 hR3 HG4 xx ff lx
    have x0 := BXv.c0
    have x1 := BXv.c1
    have x2 := BXv.c2
    have x3 := BXv.c3
    have x4 := BXv.c4
    have y0 := BYv.c0
    have y1 := BYv.c1
    have y2 := BYv.c2
    have y3 := BYv.c3
    have y4 := BYv.c4
    have f0 := BYv.fr 0
    have f1 := BYv.fr 1
    have f2 := BYv.fr 2
    have f3 := BYv.fr 3
    have f4 := BYv.fr 4
    have lX := BXv.lt
    have lY := BYv.lt
    clear BXv
    go_wp2
    refine bodyPost_ret (v := .agg #[.string k, .int .i64 v, .int .i64 d, .string t, .int .i64 n]) (by simp [results, Tryd.results82, go_sem, y0, y1, y2, y3, y4]) rfl ⟨k, t, v, d, n, P + 1 + 1, rfl, ⟨HF.out.1, HF.out.2.1, hv, HF.out.2.2.2.1, HF.out.2.2.2.2⟩, ?_, by omega, ?_⟩
    · exact ((((hR4.other hYR HFY.out _ _).other hYR HFY.out _ _).other hYR HFY.out _ _).other hYR HFY.out _ _).other hYR HFY.out _ _
    · exact grown_old HG5.out HYw.out (grown_trans (grown_trans (grown_trans (grown_trans (grown_put _ _ _ _) (grown_put _ _ _ _)) (grown_put _ _ _ _)) (grown_put _ _ _ _)) (grown_put _ _ _ _))
  by_cases z2 : z = 2
  · subst z2
    go_wp2_with fail
    have kc : Below w1.heap.size w1 (w1.alloc (.cells ((([0, 4, -1, 1, 2, 3] : List Int).map (Value.int .i64)).toArray) 3)) := (Below.refl _ _).alloc (Nat.le_refl _) _
    refine (num_any Wf R (P + 1) a len cap w1.heap.size 0 6 6 _ (hR1.below kc) (by omega) (by omega) (by omega) (by have := hR1.lt; omega) (by simp) (ints_new w1 3 [0, 4, -1, 1, 2, 3] Wf ?_)).mono ?_
    · intro s hs
      simp only [List.mem_cons, List.not_mem_nil, or_false] at hs
      rcases hs with rfl | rfl | rfl | rfl | rfl | rfl <;> (unfold Wf; decide)
    rintro e w3 ⟨v, rfl, hv, hR3, hg3⟩
    have BX3 := (BX.below kc).grown hg3 hXR
    have BY3 := (BY.below kc).grown hg3 hYR
    have HG4 : Hid (w.grownBy w3 (some R)) := grown_trans (grown_trans HG1.out (grown_below kc)) hg3
    clear BX BY kc hg3 HG1
    obtain ⟨W3, hW3⟩ : ∃ W, W = w3.setCell ⟨X, 2, none⟩ (.int .i64 v) := ⟨_, rfl⟩
    have BXv := BX3.set2 (.int .i64 v)
    have BYv := BY3.other (Ne.symm hXY) 2 (.int .i64 v)
    have hR4 : RdAt W3 R a len cap (P + 1 + 1) := by rw [hW3]; exact hR3.other hXR HFX.out _ _
    have HG5 : Hid (w.grownBy W3 (some R)) := by show w.grownBy W3 (some R); rw [hW3]; exact grown_old HG4.out HXw.out (grown_put _ _ _ _)
    have xx := BX3.c2
    have ff := BX3.fr 2
    have lx := BX3.lt
    rw [← hW3] at BXv BYv
    go_upto_region 12 with fail
    rw [← hW3]
    clear hW3 BX3 BY3 hR3 HG4 xx ff lx
    have x0 := BXv.c0
    have x1 := BXv.c1
    have x2 := BXv.c2
    have x3 := BXv.c3
    have x4 := BXv.c4
    have y0 := BYv.c0
    have y1 := BYv.c1
    have y2 := BYv.c2
    have y3 := BYv.c3
    have y4 := BYv.c4
    have f0 := BYv.fr 0
    have f1 := BYv.fr 1
    have f2 := BYv.fr 2
    have f3 := BYv.fr 3
    have f4 := BYv.fr 4
    have lX := BXv.lt
    have lY := BYv.lt
    clear BXv
    go_wp2
    refine bodyPost_ret (v := .agg #[.string k, .int .i64 q, .int .i64 v, .string t, .int .i64 n]) (by simp [results, Tryd.results82, go_sem, y0, y1, y2, y3, y4]) rfl ⟨k, t, q, v, n, P + 1 + 1, rfl, ⟨HF.out.1, HF.out.2.1, HF.out.2.2.1, hv, HF.out.2.2.2.2⟩, ?_, by omega, ?_⟩
    · exact ((((hR4.other hYR HFY.out _ _).other hYR HFY.out _ _).other hYR HFY.out _ _).other hYR HFY.out _ _).other hYR HFY.out _ _
    · exact grown_old HG5.out HYw.out (grown_trans (grown_trans (grown_trans (grown_trans (grown_put _ _ _ _) (grown_put _ _ _ _)) (grown_put _ _ _ _)) (grown_put _ _ _ _)) (grown_put _ _ _ _))
  by_cases z3 : z = 3
  · subst z3
    go_wp2_with fail
    have kc : Below w1.heap.size w1 (w1.alloc (.cells ((([1000000, 1000001, -1000001, 9223372036854775807] : List Int).map (Value.int .i64)).toArray) 3)) := (Below.refl _ _).alloc (Nat.le_refl _) _
    refine (num_any Wf R (P + 1) a len cap w1.heap.size 0 4 4 _ (hR1.below kc) (by omega) (by omega) (by omega) (by have := hR1.lt; omega) (by simp) (ints_new w1 3 [1000000, 1000001, -1000001, 9223372036854775807] Wf ?_)).mono ?_
    · intro s hs
      simp only [List.mem_cons, List.not_mem_nil, or_false] at hs
      rcases hs with rfl | rfl | rfl | rfl <;> (unfold Wf; decide)
    rintro e w3 ⟨v, rfl, hv, hR3, hg3⟩
    have BX3 := (BX.below kc).grown hg3 hXR
    have BY3 := (BY.below kc).grown hg3 hYR
    have HG4 : Hid (w.grownBy w3 (some R)) := grown_trans (grown_trans HG1.out (grown_below kc)) hg3
    clear BX BY kc hg3 HG1
    obtain ⟨W3, hW3⟩ : ∃ W, W = w3.setCell ⟨X, 4, none⟩ (.int .i64 v) := ⟨_, rfl⟩
    have BXv := BX3.set4 (.int .i64 v)
    have BYv := BY3.other (Ne.symm hXY) 4 (.int .i64 v)
    have hR4 : RdAt W3 R a len cap (P + 1 + 1) := by rw [hW3]; exact hR3.other hXR HFX.out _ _
    have HG5 : Hid (w.grownBy W3 (some R)) := by show w.grownBy W3 (some R); rw [hW3]; exact grown_old HG4.out HXw.out (grown_put _ _ _ _)
    have xx := BX3.c4
    have ff := BX3.fr 4
    have lx := BX3.lt
    rw [← hW3] at BXv BYv
    go_upto_region 12 with fail
    rw [← hW3]
    clear hW3 BX3 BY3 hR3 HG4 xx ff lx
    have x0 := BXv.c0
    have x1 := BXv.c1
    have x2 := BXv.c2
    have x3 := BXv.c3
    have x4 := BXv.c4
    have y0 := BYv.c0
    have y1 := BYv.c1
    have y2 := BYv.c2
    have y3 := BYv.c3
    have y4 := BYv.c4
    have f0 := BYv.fr 0
    have f1 := BYv.fr 1
    have f2 := BYv.fr 2
    have f3 := BYv.fr 3
    have f4 := BYv.fr 4
    have lX := BXv.lt
    have lY := BYv.lt
    clear BXv
    go_wp2
    refine bodyPost_ret (v := .agg #[.string k, .int .i64 q, .int .i64 d, .string t, .int .i64 v]) (by simp [results, Tryd.results82, go_sem, y0, y1, y2, y3, y4]) rfl ⟨k, t, q, d, v, P + 1 + 1, rfl, ⟨HF.out.1, HF.out.2.1, HF.out.2.2.1, HF.out.2.2.2.1, hv⟩, ?_, by omega, ?_⟩
    · exact ((((hR4.other hYR HFY.out _ _).other hYR HFY.out _ _).other hYR HFY.out _ _).other hYR HFY.out _ _).other hYR HFY.out _ _
    · exact grown_old HG5.out HYw.out (grown_trans (grown_trans (grown_trans (grown_trans (grown_put _ _ _ _) (grown_put _ _ _ _)) (grown_put _ _ _ _)) (grown_put _ _ _ _)) (grown_put _ _ _ _))
  by_cases z4 : z = 4
  · subst z4
    go_wp2_with fail
    refine (many_any ⟨#[116]⟩ 60 _ rfl (by omega) (by omega)).mono ?_
    rintro e w' ⟨s1, rfl, hs1, hw⟩
    have hw' := hw.symm
    subst hw'
    go_wp2_with fail
    refine (many_any ⟨#[116]⟩ 61 _ rfl (by omega) (by omega)).mono ?_
    rintro e w' ⟨s2, rfl, hs2, hw⟩
    have hw' := hw.symm
    subst hw'
    have HS1 : Hid (Few s1) := hs1
    have HS2 : Hid (Few s2) := hs2
    clear hs1 hs2
    go_wp2_with fail
    have kc : Below w1.heap.size w1 (w1.alloc (.cells ((([⟨#[113]⟩, s1, s2] : List ByteArray).map Value.string).toArray) 9)) := (Below.refl _ _).alloc (Nat.le_refl _) _
    refine (of_any Few R (P + 1) a len cap w1.heap.size 0 3 3 _ (hR1.below kc) (by omega) (by omega) (by omega) (by have := hR1.lt; omega) (by simp) (strs_new w1 9 [⟨#[113]⟩, s1, s2] Few ?_)).mono ?_
    · intro s hs
      simp only [List.mem_cons, List.not_mem_nil, or_false] at hs
      rcases hs with rfl | rfl | rfl
      · unfold Few; decide
      · exact HS1.out
      · exact HS2.out
    rintro e w3 ⟨v, rfl, hv, hR3, hg3⟩
    have BX3 := (BX.below kc).grown hg3 hXR
    have BY3 := (BY.below kc).grown hg3 hYR
    have HG4 : Hid (w.grownBy w3 (some R)) := grown_trans (grown_trans HG1.out (grown_below kc)) hg3
    clear BX BY kc hg3 HG1
    obtain ⟨W3, hW3⟩ : ∃ W, W = w3.setCell ⟨X, 3, none⟩ (.string v) := ⟨_, rfl⟩
    have BXv := BX3.set3 (.string v)
    have BYv := BY3.other (Ne.symm hXY) 3 (.string v)
    have hR4 : RdAt W3 R a len cap (P + 1 + 1) := by rw [hW3]; exact hR3.other hXR HFX.out _ _
    have HG5 : Hid (w.grownBy W3 (some R)) := by show w.grownBy W3 (some R); rw [hW3]; exact grown_old HG4.out HXw.out (grown_put _ _ _ _)
    have xx := BX3.c3
    have ff := BX3.fr 3
    have lx := BX3.lt
    rw [← hW3] at BXv BYv
    go_upto_region 12 with fail
    rw [← hW3]
    clear hW3 BX3 BY3 hR3 HG4 xx ff lx
    have x0 := BXv.c0
    have x1 := BXv.c1
    have x2 := BXv.c2
    have x3 := BXv.c3
    have x4 := BXv.c4
    have y0 := BYv.c0
    have y1 := BYv.c1
    have y2 := BYv.c2
    have y3 := BYv.c3
    have y4 := BYv.c4
    have f0 := BYv.fr 0
    have f1 := BYv.fr 1
    have f2 := BYv.fr 2
    have f3 := BYv.fr 3
    have f4 := BYv.fr 4
    have lX := BXv.lt
    have lY := BYv.lt
    clear BXv
    go_wp2
    refine bodyPost_ret (v := .agg #[.string k, .int .i64 q, .int .i64 d, .string v, .int .i64 n]) (by simp [results, Tryd.results82, go_sem, y0, y1, y2, y3, y4]) rfl ⟨k, v, q, d, n, P + 1 + 1, rfl, ⟨HF.out.1, hv, HF.out.2.2.1, HF.out.2.2.2.1, HF.out.2.2.2.2⟩, ?_, by omega, ?_⟩
    · exact ((((hR4.other hYR HFY.out _ _).other hYR HFY.out _ _).other hYR HFY.out _ _).other hYR HFY.out _ _).other hYR HFY.out _ _
    · exact grown_old HG5.out HYw.out (grown_trans (grown_trans (grown_trans (grown_trans (grown_put _ _ _ _) (grown_put _ _ _ _)) (grown_put _ _ _ _)) (grown_put _ _ _ _)) (grown_put _ _ _ _))
  have e0 : (z == 0) = false := by simpa using z0
  have e1 : (z == 1) = false := by simpa using z1
  have e2 : (z == 2) = false := by simpa using z2
  have e3 : (z == 3) = false := by simpa using z3
  have e4 : (z == 4) = false := by simpa using z4
  have BXv := BX
  have BYv := BY
  clear BX BY
  have x0 := BXv.c0
  have x1 := BXv.c1
  have x2 := BXv.c2
  have x3 := BXv.c3
  have x4 := BXv.c4
  have y0 := BYv.c0
  have y1 := BYv.c1
  have y2 := BYv.c2
  have y3 := BYv.c3
  have y4 := BYv.c4
  have f0 := BYv.fr 0
  have f1 := BYv.fr 1
  have f2 := BYv.fr 2
  have f3 := BYv.fr 3
  have f4 := BYv.fr 4
  have lX := BXv.lt
  have lY := BYv.lt
  clear BXv
  go_wp2
  refine bodyPost_ret (v := .agg #[.string k, .int .i64 q, .int .i64 d, .string t, .int .i64 n]) (by simp [results, Tryd.results82, go_sem, y0, y1, y2, y3, y4]) rfl ⟨k, t, q, d, n, P + 1, rfl, HF.out, ?_, by omega, ?_⟩
  · exact ((((hR1.other hYR HFY.out _ _).other hYR HFY.out _ _).other hYR HFY.out _ _).other hYR HFY.out _ _).other hYR HFY.out _ _
  · exact grown_old HG1.out HYw.out (grown_trans (grown_trans (grown_trans (grown_trans (grown_put _ _ _ _) (grown_put _ _ _ _)) (grown_put _ _ _ _)) (grown_put _ _ _ _)) (grown_put _ _ _ _))

end Go.Proofs.YtfblpbihpmhgjaaDoor
