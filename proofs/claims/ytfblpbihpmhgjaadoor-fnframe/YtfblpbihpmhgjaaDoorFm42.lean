/-
  The entries that the laws draw, by walks of their Go text.
-/
import Derived.Test.YtfblpbihpmhgjaaDoorFm17
import Derived.Test.YtfblpbihpmhgjaaDoorFm03
import Derived.Test.YtfblpbihpmhgjaaDoorFm09
import Derived.Deep.RegionHeld3
import Derived.Deep.DeepCutAuto
namespace Go.Proofs.YtfblpbihpmhgjaaDoor
open Go.RowKit

theorem RdAt.far {w : World} {R : Nat} {a : Option Addr} {len cap P : Nat} (h : RdAt w R a len cap P) {X : Nat} (hX : w.heap.size ≤ X) : ∀ b off, a = some ⟨b, off, none⟩ → 0 < len → b ≠ X := by
  intro b off ha hl
  rcases h.bytes with h0 | ⟨b', off', ha', _, hb2, _⟩
  · omega
  · rw [ha'] at ha
    cases ha
    omega

theorem grown_put (w : World) (R o : Nat) (v : Value) : w.grownBy (w.setCell ⟨R, o, none⟩ v) (some R) :=
  ⟨rfl, rfl, rfl, by simp [World.setCell], fun k _ hk => Below.heap_setCell _ _ _ _ (fun e => hk (by rw [e]))⟩
/-- What is written into a block that is new since then. -/
theorem grown_old {a b c : World} {R : Option Nat} {X : Nat} (h : a.grownBy b R) (hX : a.heap.size ≤ X) (k : b.grownBy c (some X)) : a.grownBy c R :=
  ⟨k.os.trans h.os, k.tape.trans h.tape, k.output.trans h.output, Nat.le_trans h.size k.size, fun i hi hn => (k.block i (Nat.lt_of_lt_of_le hi h.size) (fun e => by cases e; omega)).trans (h.block i hi hn)⟩

/-- A text of few bytes. -/
def Few (s : ByteArray) : Prop := s.size ≤ 100 ∧ ¬ s.data.toList = [109, 47, 109]
/-- Texts of few bytes, numbers that an int holds. -/
def EntF (k t : ByteArray) (q d n : Int) : Prop := Few k ∧ Few t ∧ (Lit.int .i64 q).wf = true ∧ (Lit.int .i64 d).wf = true ∧ (Lit.int .i64 n).wf = true
/-- An entry that has been drawn. -/
def EntR (R : Nat) (a : Option Addr) (len cap P : Nat) (w : World) (e : Ending) (w' : World) : Prop :=
  ∃ k t q d n P', e = .returned (.agg #[.string k, .int .i64 q, .int .i64 d, .string t, .int .i64 n]) ∧ EntF k t q d n ∧ RdAt w' R a len cap P' ∧ P' ≤ P + 5 ∧ w.grownBy w' (some R)

set_option maxRecDepth 100000 in
set_option maxHeartbeats 400000 in
theorem l3Key_any (R P : Nat) (a : Option Addr) (len cap : Nat) (w : World) (h : RdAt w R a len cap P) (hP : P < 100000) :
    Calls Tryd.prog 138 #[.pointer (some ⟨R, 0, none⟩)] w fun e w' => ∃ z : ByteArray, e = .returned (.string z) ∧ Few z ∧ RdAt w' R a len cap (P + 1) ∧ w.grownBy w' (some R) := by
  go_enter Tryd.func138, Tryd.ntmps138
  go_wp2_with fail
  have hb0 : Below w.heap.size w (w.alloc (.cells (([⟨#[97]⟩, ⟨#[98]⟩, ⟨#[97, 98]⟩, ⟨#[98, 47, 97, 47, 49]⟩, ⟨#[98, 47, 97, 98, 47, 49]⟩, ⟨#[99]⟩] : List ByteArray).map Value.string).toArray 9)) := (Below.refl _ _).alloc (Nat.le_refl _) _
  refine (of_any Few R P a len cap w.heap.size 0 6 6 _ (h.below hb0) hP (by omega) (by omega) (by have := h.lt; omega) (by simp) (strs_new w 9 [⟨#[97]⟩, ⟨#[98]⟩, ⟨#[97, 98]⟩, ⟨#[98, 47, 97, 47, 49]⟩, ⟨#[98, 47, 97, 98, 47, 49]⟩, ⟨#[99]⟩] Few ?_)).mono ?_
  · intro s hs
    simp only [List.mem_cons, List.not_mem_nil, or_false] at hs
    rcases hs with rfl | rfl | rfl | rfl | rfl | rfl <;> (unfold Few; decide)
  rintro e w1 ⟨z, rfl, hz, hR1, hg1⟩
  go_wp2
  go_ret
  exact ⟨z, rfl, hz, hR1, grown_trans (grown_below hb0) hg1⟩

/-- A kind that is drawn. -/
def Kd (d : Int) : Prop := d = 1 ∨ d = 2 ∨ d = 3
/-- A number that an int holds. -/
def Wf (n : Int) : Prop := (Lit.int .i64 n).wf = true

set_option maxRecDepth 100000 in
set_option maxHeartbeats 2000000 in
theorem l3Entry_any (R P : Nat) (a : Option Addr) (len cap : Nat) (q : Int) (w : World) (h : RdAt w R a len cap P) (hP : P < 99000) (hq : (Lit.int .i64 q).wf = true) :
    Calls Tryd.prog 113 #[.pointer (some ⟨R, 0, none⟩), .int .i64 q] w fun e w' => EntR R a len cap P w e w' := by
  have hRw := h.lt
  obtain ⟨X, hX⟩ : ∃ X, X = w.heap.size := ⟨_, rfl⟩
  have HFX : Hid (∀ b off, a = some ⟨b, off, none⟩ → 0 < len → b ≠ X) := h.far (by omega)
  have hXR : X ≠ R := by omega
  have HQ : Hid ((Lit.int .i64 q).wf = true) := hq
  have HR0 : Hid (RdAt w R a len cap P) := h
  clear h hq
  go_enter Tryd.func113, Tryd.ntmps113
  go_wp2_with fail
  obtain ⟨W0, hW0⟩ : ∃ W, W = w.alloc (.cells #[.string ⟨#[]⟩, .int .i64 0, .int .i64 0, .string ⟨#[]⟩, .int .i64 0] 85) := ⟨_, rfl⟩
  have k0 : Below w.heap.size w W0 := by rw [hW0]; exact (Below.refl _ _).alloc (Nat.le_refl _) _
  have B0 : Box5 W0 X (.string ⟨#[]⟩) (.int .i64 0) (.int .i64 0) (.string ⟨#[]⟩) (.int .i64 0) := by rw [hW0, hX]; exact Box5.new _ _ _ _ _ _ _
  have hXW : X < W0.heap.size := B0.lt
  rw [← hW0, ← hX]
  have HG0 : Hid (w.grownBy W0 (some R)) := grown_below k0
  have HXw : Hid (w.heap.size ≤ X) := by show w.heap.size ≤ X; omega
  refine (l3Key_any R P a len cap _ (HR0.out.below k0) (by omega)).mono ?_
  rintro e w1 ⟨kz, rfl, hkz, hR1, hg1⟩
  have B1 := B0.grown hg1 hXR
  have HG1 : Hid (w.grownBy w1 (some R)) := grown_trans HG0.out hg1
  have HKZ : Hid (Few kz) := hkz
  clear hW0 hX k0 B0 hg1 HG0 HR0 hkz hXW
  go_wp2_with fail
  have ka : Below w1.heap.size w1 (w1.alloc (.cells (([1, 2, 3, 3, 3, 1] : List Int).map (Value.int .i64)).toArray 3)) := (Below.refl _ _).alloc (Nat.le_refl _) _
  refine (num_any Kd R (P + 1) a len cap w1.heap.size 0 6 6 _ (hR1.below ka) (by omega) (by omega) (by omega) (by have := hR1.lt; omega) (by simp) (ints_new w1 3 [1, 2, 3, 3, 3, 1] Kd ?_)).mono ?_
  · intro s hs
    simp only [List.mem_cons, List.not_mem_nil, or_false] at hs
    rcases hs with rfl | rfl | rfl | rfl | rfl | rfl <;> (unfold Kd; decide)
  rintro e w2 ⟨d, rfl, hd, hR2, hg2⟩
  have B2 := (B1.below ka).grown hg2 hXR
  have HG2 : Hid (w.grownBy w2 (some R)) := grown_trans (grown_trans HG1.out (grown_below ka)) hg2
  clear B1 ka hg2 HG1 hR1
  go_upto_region 2 with fail
  obtain ⟨Y, hY⟩ : ∃ Y, Y = w2.heap.size := ⟨_, rfl⟩
  obtain ⟨W2, hW2⟩ : ∃ W, W = w2.alloc (.cells #[.string kz, .int .i64 q, .int .i64 d, .string ⟨#[]⟩, .int .i64 0] 85) := ⟨_, rfl⟩
  have kb : Below w2.heap.size w2 W2 := by rw [hW2]; exact (Below.refl _ _).alloc (Nat.le_refl _) _
  have BY : Box5 W2 Y (.string kz) (.int .i64 q) (.int .i64 d) (.string ⟨#[]⟩) (.int .i64 0) := by rw [hW2, hY]; exact Box5.new _ _ _ _ _ _ _
  have BX := B2.below kb
  have hYR : Y ≠ R := by have := hR2.lt; omega
  have hYX : Y ≠ X := by have := B2.lt; omega
  have HFY : Hid (∀ b off, a = some ⟨b, off, none⟩ → 0 < len → b ≠ Y) := hR2.far (by omega)
  have HR2 : Hid (RdAt W2 R a len cap (P + 1 + 1)) := hR2.below kb
  have HG3 : Hid (w.grownBy W2 (some R)) := grown_trans HG2.out (grown_below kb)
  have hYw : w.heap.size ≤ Y := by have := HG2.out.size; omega
  clear kb B2 HG2 hR2
  rw [← hW2, ← hY]
  clear hW2 hY
  rcases hd with rfl | rfl | rfl
  · have hy2 := BY.c2
    have hlY := BY.lt
    go_wp2_with fail
    have kc1 : Below W2.heap.size W2 (W2.alloc (.cells ((([0, 1, 5, -3, 100, -7] : List Int).map (Value.int .i64)).toArray) 3)) := (Below.refl _ _).alloc (Nat.le_refl _) _
    refine (num_any Wf R (P + 1 + 1) a len cap W2.heap.size 0 6 6 _ (HR2.out.below kc1) (by omega) (by omega) (by omega) (by have := HR2.out.lt; omega) (by simp) (ints_new W2 3 [0, 1, 5, -3, 100, -7] Wf ?_)).mono ?_
    · intro s hs
      simp only [List.mem_cons, List.not_mem_nil, or_false] at hs
      rcases hs with rfl | rfl | rfl | rfl | rfl | rfl <;> (unfold Wf; decide)
    rintro e w3 ⟨n, rfl, hn, hR3, hg3⟩
    have BX3 := (BX.below kc1).grown hg3 hXR
    have BY3 := (BY.below kc1).grown hg3 hYR
    have HG4 : Hid (w.grownBy w3 (some R)) := grown_trans (grown_trans HG3.out (grown_below kc1)) hg3
    clear BX BY kc1 hg3 HG3 hy2 hlY
    obtain ⟨W3, hW3⟩ : ∃ W, W = w3.setCell ⟨Y, 4, none⟩ (.int .i64 n) := ⟨_, rfl⟩
    have BY4 : Box5 W3 Y (.string kz) (.int .i64 q) (.int .i64 1) (.string ⟨#[]⟩) (.int .i64 n) := by rw [hW3]; exact BY3.set4 _
    have BX4 : Box5 W3 X (.string ⟨#[]⟩) (.int .i64 0) (.int .i64 0) (.string ⟨#[]⟩) (.int .i64 0) := by rw [hW3]; exact BX3.other hYX.symm _ _
    have hR4 : RdAt W3 R a len cap (P + 1 + 1 + 1) := by rw [hW3]; exact hR3.other hYR HFY.out _ _
    have HG5 : Hid (w.grownBy W3 (some R)) := by show w.grownBy W3 (some R); rw [hW3]; exact grown_old HG4.out hYw (grown_put _ _ _ _)
    have y4 := BY3.c4
    have f4 := BY3.fr 4
    have lY := BY3.lt
    go_upto_region 4 with fail
    rw [← hW3]
    clear hW3 BX3 BY3 hR3 HG4 y4 f4 lY
    have hy2 := BY4.c2
    have hlY := BY4.lt
    go_wp2_with fail
    have kc2 : Below W3.heap.size W3 (W3.alloc (.cells ((([⟨#[]⟩, ⟨#[120]⟩, ⟨#[121, 121]⟩, ⟨#[122, 122, 122]⟩] : List ByteArray).map Value.string).toArray) 9)) := (Below.refl _ _).alloc (Nat.le_refl _) _
    refine (of_any Few R (P + 1 + 1 + 1) a len cap W3.heap.size 0 4 4 _ (hR4.below kc2) (by omega) (by omega) (by omega) (by have := hR4.lt; omega) (by simp) (strs_new W3 9 [⟨#[]⟩, ⟨#[120]⟩, ⟨#[121, 121]⟩, ⟨#[122, 122, 122]⟩] Few ?_)).mono ?_
    · intro s hs
      simp only [List.mem_cons, List.not_mem_nil, or_false] at hs
      rcases hs with rfl | rfl | rfl | rfl <;> (unfold Few; decide)
    rintro e w5 ⟨t, rfl, ht, hR5, hg5⟩
    have BX5 := (BX4.below kc2).grown hg5 hXR
    have BY5 := (BY4.below kc2).grown hg5 hYR
    have HG6 : Hid (w.grownBy w5 (some R)) := grown_trans (grown_trans HG5.out (grown_below kc2)) hg5
    clear BX4 BY4 kc2 hg5 HG5 hy2 hlY
    obtain ⟨W5, hW5⟩ : ∃ W, W = w5.setCell ⟨Y, 3, none⟩ (.string t) := ⟨_, rfl⟩
    have BYv : Box5 W5 Y (.string kz) (.int .i64 q) (.int .i64 1) (.string t) (.int .i64 n) := by rw [hW5]; exact BY5.set3 _
    have BXv : Box5 W5 X (.string ⟨#[]⟩) (.int .i64 0) (.int .i64 0) (.string ⟨#[]⟩) (.int .i64 0) := by rw [hW5]; exact BX5.other hYX.symm _ _
    have hR6 : RdAt W5 R a len cap (P + 1 + 1 + 1 + 1) := by rw [hW5]; exact hR5.other hYR HFY.out _ _
    have HG7 : Hid (w.grownBy W5 (some R)) := by show w.grownBy W5 (some R); rw [hW5]; exact grown_old HG6.out hYw (grown_put _ _ _ _)
    have y3 := BY5.c3
    have f3 := BY5.fr 3
    have lY := BY5.lt
    go_upto_region 6 with fail
    rw [← hW5]
    clear hW5 BX5 BY5 hR5 HG6 y3 f3 lY
    have y0 := BYv.c0
    have y1 := BYv.c1
    have y2 := BYv.c2
    have y3 := BYv.c3
    have y4 := BYv.c4
    have x0 := BXv.c0
    have x1 := BXv.c1
    have x2 := BXv.c2
    have x3 := BXv.c3
    have x4 := BXv.c4
    have f0 := BXv.fr 0
    have f1 := BXv.fr 1
    have f2 := BXv.fr 2
    have f3 := BXv.fr 3
    have f4 := BXv.fr 4
    have lX := BXv.lt
    have lY := BYv.lt
    clear BYv
    go_wp2
    refine bodyPost_ret (v := .agg #[.string kz, .int .i64 q, .int .i64 1, .string t, .int .i64 n]) (by simp [results, Tryd.results113, go_sem, x0, x1, x2, x3, x4]) rfl ⟨kz, t, q, 1, n, P + 1 + 1 + 1 + 1, rfl, ⟨HKZ.out, ht, HQ.out, by decide, hn⟩, ?_, by omega, ?_⟩
    · exact ((((hR6.other hXR HFX.out _ _).other hXR HFX.out _ _).other hXR HFX.out _ _).other hXR HFX.out _ _).other hXR HFX.out _ _
    · exact grown_old HG7.out HXw.out (grown_trans (grown_trans (grown_trans (grown_trans (grown_put _ _ _ _) (grown_put _ _ _ _)) (grown_put _ _ _ _)) (grown_put _ _ _ _)) (grown_put _ _ _ _))
  · have BYv := BY
    have BXv := BX
    have HR2' := HR2.out
    clear BY BX
    have y0 := BYv.c0
    have y1 := BYv.c1
    have y2 := BYv.c2
    have y3 := BYv.c3
    have y4 := BYv.c4
    have x0 := BXv.c0
    have x1 := BXv.c1
    have x2 := BXv.c2
    have x3 := BXv.c3
    have x4 := BXv.c4
    have f0 := BXv.fr 0
    have f1 := BXv.fr 1
    have f2 := BXv.fr 2
    have f3 := BXv.fr 3
    have f4 := BXv.fr 4
    have lX := BXv.lt
    have lY := BYv.lt
    clear BYv
    go_wp2
    refine bodyPost_ret (v := .agg #[.string kz, .int .i64 q, .int .i64 2, .string ⟨#[]⟩, .int .i64 0]) (by simp [results, Tryd.results113, go_sem, x0, x1, x2, x3, x4]) rfl ⟨kz, ⟨#[]⟩, q, 2, 0, P + 1 + 1, rfl, ⟨HKZ.out, (by unfold Few; decide), HQ.out, by decide, (by decide)⟩, ?_, by omega, ?_⟩
    · exact ((((HR2'.other hXR HFX.out _ _).other hXR HFX.out _ _).other hXR HFX.out _ _).other hXR HFX.out _ _).other hXR HFX.out _ _
    · exact grown_old HG3.out HXw.out (grown_trans (grown_trans (grown_trans (grown_trans (grown_put _ _ _ _) (grown_put _ _ _ _)) (grown_put _ _ _ _)) (grown_put _ _ _ _)) (grown_put _ _ _ _))
  · have hy2 := BY.c2
    have hlY := BY.lt
    go_wp2_with fail
    have kc1 : Below W2.heap.size W2 (W2.alloc (.cells ((([0, 1, 5, -3, 100, -7] : List Int).map (Value.int .i64)).toArray) 3)) := (Below.refl _ _).alloc (Nat.le_refl _) _
    refine (num_any Wf R (P + 1 + 1) a len cap W2.heap.size 0 6 6 _ (HR2.out.below kc1) (by omega) (by omega) (by omega) (by have := HR2.out.lt; omega) (by simp) (ints_new W2 3 [0, 1, 5, -3, 100, -7] Wf ?_)).mono ?_
    · intro s hs
      simp only [List.mem_cons, List.not_mem_nil, or_false] at hs
      rcases hs with rfl | rfl | rfl | rfl | rfl | rfl <;> (unfold Wf; decide)
    rintro e w3 ⟨n, rfl, hn, hR3, hg3⟩
    have BX3 := (BX.below kc1).grown hg3 hXR
    have BY3 := (BY.below kc1).grown hg3 hYR
    have HG4 : Hid (w.grownBy w3 (some R)) := grown_trans (grown_trans HG3.out (grown_below kc1)) hg3
    clear BX BY kc1 hg3 HG3 hy2 hlY
    obtain ⟨W3, hW3⟩ : ∃ W, W = w3.setCell ⟨Y, 4, none⟩ (.int .i64 n) := ⟨_, rfl⟩
    have BY4 : Box5 W3 Y (.string kz) (.int .i64 q) (.int .i64 3) (.string ⟨#[]⟩) (.int .i64 n) := by rw [hW3]; exact BY3.set4 _
    have BX4 : Box5 W3 X (.string ⟨#[]⟩) (.int .i64 0) (.int .i64 0) (.string ⟨#[]⟩) (.int .i64 0) := by rw [hW3]; exact BX3.other hYX.symm _ _
    have hR4 : RdAt W3 R a len cap (P + 1 + 1 + 1) := by rw [hW3]; exact hR3.other hYR HFY.out _ _
    have HG5 : Hid (w.grownBy W3 (some R)) := by show w.grownBy W3 (some R); rw [hW3]; exact grown_old HG4.out hYw (grown_put _ _ _ _)
    have y4 := BY3.c4
    have f4 := BY3.fr 4
    have lY := BY3.lt
    go_upto_region 4 with fail
    rw [← hW3]
    clear hW3 BX3 BY3 hR3 HG4 y4 f4 lY
    have BYv := BY4
    have BXv := BX4
    clear BY4 BX4
    have y0 := BYv.c0
    have y1 := BYv.c1
    have y2 := BYv.c2
    have y3 := BYv.c3
    have y4 := BYv.c4
    have x0 := BXv.c0
    have x1 := BXv.c1
    have x2 := BXv.c2
    have x3 := BXv.c3
    have x4 := BXv.c4
    have f0 := BXv.fr 0
    have f1 := BXv.fr 1
    have f2 := BXv.fr 2
    have f3 := BXv.fr 3
    have f4 := BXv.fr 4
    have lX := BXv.lt
    have lY := BYv.lt
    clear BYv
    go_wp2
    refine bodyPost_ret (v := .agg #[.string kz, .int .i64 q, .int .i64 3, .string ⟨#[]⟩, .int .i64 n]) (by simp [results, Tryd.results113, go_sem, x0, x1, x2, x3, x4]) rfl ⟨kz, ⟨#[]⟩, q, 3, n, P + 1 + 1 + 1, rfl, ⟨HKZ.out, (by unfold Few; decide), HQ.out, by decide, hn⟩, ?_, by omega, ?_⟩
    · exact ((((hR4.other hXR HFX.out _ _).other hXR HFX.out _ _).other hXR HFX.out _ _).other hXR HFX.out _ _).other hXR HFX.out _ _
    · exact grown_old HG5.out HXw.out (grown_trans (grown_trans (grown_trans (grown_trans (grown_put _ _ _ _) (grown_put _ _ _ _)) (grown_put _ _ _ _)) (grown_put _ _ _ _)) (grown_put _ _ _ _))

end Go.Proofs.YtfblpbihpmhgjaaDoor
