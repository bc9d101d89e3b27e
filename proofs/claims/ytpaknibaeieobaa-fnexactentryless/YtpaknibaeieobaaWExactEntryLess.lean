/-
  The walk of the law FnExactEntryLess: it answers true at every two arguments.
-/
import Derived.Test.YtpaknibaeieobaaLess
import Derived.Test.YtpaknibaeieobaaLawEnt
import Derived.Deep.RegionHeld3
import Derived.Deep.DeepCutAuto
namespace Go.Proofs.Ytpaknibaeieobaa
open Go.RowKit

attribute [local go_sem] Oper.semAt_some


set_option maxRecDepth 100000 in
set_option maxHeartbeats 2000000 in
theorem walkFnExactEntryLess (a0 a1 : EntD) (w : World) (w0 : EntW a0) (w1 : EntW a1) :
    Calls Try.prog 5 #[.agg #[.string a0.1, .int .i64 a0.2.1, .int .i64 a0.2.2.1, .string a0.2.2.2.1, .int .i64 a0.2.2.2.2], .agg #[.string a1.1, .int .i64 a1.2.1, .int .i64 a1.2.2.1, .string a1.2.2.2.1, .int .i64 a1.2.2.2.2]] w fun e w' => e = .returned (.bool true) ∧ Below w.heap.size w w' := by
  obtain ⟨k, q, d, t, n⟩ := a0
  obtain ⟨k', q', d', t', n'⟩ := a1
  obtain ⟨hk, _, _, ht, _⟩ := w0
  obtain ⟨gk, _, _, gt, _⟩ := w1
  simp only at hk ht gk gt ⊢
  have hk' := hk
  have ht' := ht
  have gk' := gk
  have gt' := gt
  unfold maxLen at hk' ht' gk' gt'
  have kB : Below w.heap.size w ((w.alloc (.cells #[.string k, .int .i64 q, .int .i64 d, .string t, .int .i64 n] 24)).alloc (.cells #[.string k', .int .i64 q', .int .i64 d', .string t', .int .i64 n'] 24)) := ((Below.refl _ _).alloc (Nat.le_refl _) _).alloc (by simp) _
  by_cases hbig : 1048576 < k.size + t.size
  · go_enter Try.func5, Try.ntmps5
    go_wp2_with (go_at_call 17; refine (szEnt_no _ _ _ _ _ _ _ hk ht (by omega) (by omega) (by omega)).mono ?_; rintro e w1 ⟨rfl, hb1⟩; obtain ⟨hc1, hf1⟩ := bcell hb1)
    go_ret
    exact ⟨rfl, kB.trans (hb1.mono (by simp; omega))⟩
  · go_enter Try.func5, Try.ntmps5
    go_wp2_with fail
    refine (szEnt_yes _ _ _ _ _ _ _ (by omega) (by omega)).mono ?_
    rintro e w1 ⟨rfl, hb1⟩
    obtain ⟨hc1, hf1⟩ := bcell hb1
    have hz1 : w.heap.size + 1 < w1.heap.size := by have := hb1.size; simp at this; omega
    have k1 : Below w.heap.size w w1 := kB.trans (hb1.mono (by simp; omega))
    clear kB
    by_cases hbig2 : (1048576 : Int) - k.size - t.size < k'.size + t'.size
    · go_wp2_with (go_at_call 17; refine (szEnt_no _ _ _ _ _ _ _ gk gt (by omega) (by omega) (by omega)).mono ?_; rintro e w2 ⟨rfl, hb2⟩; obtain ⟨hc2, hf2⟩ := bcell hb2)
      go_ret
      exact ⟨rfl, k1.trans (hb2.mono (by omega))⟩
    go_wp2_with fail
    refine (szEnt_yes _ _ _ _ _ _ _ (by omega) (by omega)).mono ?_
    rintro e w2 ⟨rfl, hb2⟩
    obtain ⟨hc2, hf2⟩ := bcell hb2
    have hz2 : w.heap.size + 1 < w2.heap.size := by have := hb2.size; omega
    have k2 : Below w.heap.size w w2 := k1.trans (hb2.mono (by omega))
    obtain ⟨X, hX⟩ : ∃ X, X = w.heap.size := ⟨_, rfl⟩
    have x00 : w2.cell? ⟨X, 0, none⟩ = some (.string k) := by rw [hX]; exact (hc2 _ _ (by omega)).trans ((hc1 _ _ (by simp only [World.size_alloc]; omega)).trans (by simp))
    have x01 : w2.cell? ⟨X, 1, none⟩ = some (.int .i64 q) := by rw [hX]; exact (hc2 _ _ (by omega)).trans ((hc1 _ _ (by simp only [World.size_alloc]; omega)).trans (by simp))
    have x02 : w2.cell? ⟨X, 2, none⟩ = some (.int .i64 d) := by rw [hX]; exact (hc2 _ _ (by omega)).trans ((hc1 _ _ (by simp only [World.size_alloc]; omega)).trans (by simp))
    have x03 : w2.cell? ⟨X, 3, none⟩ = some (.string t) := by rw [hX]; exact (hc2 _ _ (by omega)).trans ((hc1 _ _ (by simp only [World.size_alloc]; omega)).trans (by simp))
    have x04 : w2.cell? ⟨X, 4, none⟩ = some (.int .i64 n) := by rw [hX]; exact (hc2 _ _ (by omega)).trans ((hc1 _ _ (by simp only [World.size_alloc]; omega)).trans (by simp))
    have x10 : w2.cell? ⟨X + 1, 0, none⟩ = some (.string k') := by rw [hX]; exact (hc2 _ _ (by omega)).trans ((hc1 _ _ (by simp only [World.size_alloc]; omega)).trans (by simp))
    have x11 : w2.cell? ⟨X + 1, 1, none⟩ = some (.int .i64 q') := by rw [hX]; exact (hc2 _ _ (by omega)).trans ((hc1 _ _ (by simp only [World.size_alloc]; omega)).trans (by simp))
    have x12 : w2.cell? ⟨X + 1, 2, none⟩ = some (.int .i64 d') := by rw [hX]; exact (hc2 _ _ (by omega)).trans ((hc1 _ _ (by simp only [World.size_alloc]; omega)).trans (by simp))
    have x13 : w2.cell? ⟨X + 1, 3, none⟩ = some (.string t') := by rw [hX]; exact (hc2 _ _ (by omega)).trans ((hc1 _ _ (by simp only [World.size_alloc]; omega)).trans (by simp))
    have x14 : w2.cell? ⟨X + 1, 4, none⟩ = some (.int .i64 n') := by rw [hX]; exact (hc2 _ _ (by omega)).trans ((hc1 _ _ (by simp only [World.size_alloc]; omega)).trans (by simp))
    clear hc1 hc2 hf1 hf2
    go_wp2_with fail
    simp only [← hX] at hz2 ⊢
    have HK : Hid (Below w.heap.size w w2) := k2
    clear k2 k1 hb1 hb2 hz1
    clear hX
    obtain ⟨W, hW⟩ : ∃ W, W = w2 := ⟨_, rfl⟩
    rw [← hW] at x00 x01 x02 x03 x04 x10 x11 x12 x13 x14 HK hz2 ⊢
    clear hW w2

    have k0 : Below W.heap.size W W.drew := (Below.refl _ W).drew
    have HMK : Hid (∀ w', Below W.heap.size W w' → (w'.cell? ⟨X, 0, none⟩ = some (.string k) ∧ w'.cell? ⟨X, 1, none⟩ = some (.int .i64 q) ∧ w'.cell? ⟨X, 2, none⟩ = some (.int .i64 d) ∧ w'.cell? ⟨X, 3, none⟩ = some (.string t) ∧ w'.cell? ⟨X, 4, none⟩ = some (.int .i64 n) ∧ w'.cell? ⟨X + 1, 0, none⟩ = some (.string k') ∧ w'.cell? ⟨X + 1, 1, none⟩ = some (.int .i64 q') ∧ w'.cell? ⟨X + 1, 2, none⟩ = some (.int .i64 d') ∧ w'.cell? ⟨X + 1, 3, none⟩ = some (.string t') ∧ w'.cell? ⟨X + 1, 4, none⟩ = some (.int .i64 n') ∧ X + 1 < w'.heap.size ∧ Below W.heap.size W w')) := fun w' k => ⟨cell_later k x00, cell_later k x01, cell_later k x02, cell_later k x03, cell_later k x04, cell_later k x10, cell_later k x11, cell_later k x12, cell_later k x13, cell_later k x14, World.block_lt_of_cell? _ _ (cell_later k x10), k⟩
    go_region_held3 (fun w' => w'.cell? ⟨X, 0, none⟩ = some (.string k) ∧ w'.cell? ⟨X, 1, none⟩ = some (.int .i64 q) ∧ w'.cell? ⟨X, 2, none⟩ = some (.int .i64 d) ∧ w'.cell? ⟨X, 3, none⟩ = some (.string t) ∧ w'.cell? ⟨X, 4, none⟩ = some (.int .i64 n) ∧ w'.cell? ⟨X + 1, 0, none⟩ = some (.string k') ∧ w'.cell? ⟨X + 1, 1, none⟩ = some (.int .i64 q') ∧ w'.cell? ⟨X + 1, 2, none⟩ = some (.int .i64 d') ∧ w'.cell? ⟨X + 1, 3, none⟩ = some (.string t') ∧ w'.cell? ⟨X + 1, 4, none⟩ = some (.int .i64 n') ∧ X + 1 < w'.heap.size ∧ Below W.heap.size W w') (first | exact HMK.out _ k3 | exact HMK.out _ k2 | exact HMK.out _ k1 | exact HMK.out _ k0) (first
      | (go_at_call 21; refine (specLess k t k' t' q d n q' d' n' _).mono ?_; rintro e w3 ⟨rfl, hb3⟩; have k3 : Below W.heap.size W w3 := k2.trans (hb3.mono k2.size))
      | (have _ := k1; go_at_call 19; refine (toEnt_any k' t' q' d' n' _).mono ?_; rintro e w2 ⟨rfl, hb2⟩; have k2 : Below W.heap.size W w2 := k1.trans (hb2.mono k1.size))
      | (go_at_call 19; refine (toEnt_any k t q d n _).mono ?_; rintro e w1 ⟨rfl, hb1⟩; have k1 : Below W.heap.size W w1 := k0.trans (hb1.mono k0.size)))
    have HK2 : Hid (Below w.heap.size w w3) := HK.out.trans (k3.mono HK.out.size)
    have hb' := k3
    have y00 := cell_later hb' x00
    have y01 := cell_later hb' x01
    have y02 := cell_later hb' x02
    have y03 := cell_later hb' x03
    have y04 := cell_later hb' x04
    have y10 := cell_later hb' x10
    have y11 := cell_later hb' x11
    have y12 := cell_later hb' x12
    have y13 := cell_later hb' x13
    have y14 := cell_later hb' x14
    have hz3 : X + 1 < w3.heap.size := Nat.lt_of_lt_of_le hz2 k3.size
    clear k0 HMK k1 k2 k3 hb1 hb2 hb3 HK hz2 hb' x00 x01 x02 x03 x04 x10 x11 x12 x13 x14
    go_wp2_with fail

    have m0 : Below w3.heap.size w3 w3.drew := (Below.refl _ w3).drew
    have HMK : Hid (∀ w', Below w3.heap.size w3 w' → (w'.cell? ⟨X, 0, none⟩ = some (.string k) ∧ w'.cell? ⟨X, 1, none⟩ = some (.int .i64 q) ∧ w'.cell? ⟨X, 2, none⟩ = some (.int .i64 d) ∧ w'.cell? ⟨X, 3, none⟩ = some (.string t) ∧ w'.cell? ⟨X, 4, none⟩ = some (.int .i64 n) ∧ w'.cell? ⟨X + 1, 0, none⟩ = some (.string k') ∧ w'.cell? ⟨X + 1, 1, none⟩ = some (.int .i64 q') ∧ w'.cell? ⟨X + 1, 2, none⟩ = some (.int .i64 d') ∧ w'.cell? ⟨X + 1, 3, none⟩ = some (.string t') ∧ w'.cell? ⟨X + 1, 4, none⟩ = some (.int .i64 n') ∧ X + 1 < w'.heap.size ∧ Below w3.heap.size w3 w')) := fun w' k => ⟨cell_later k y00, cell_later k y01, cell_later k y02, cell_later k y03, cell_later k y04, cell_later k y10, cell_later k y11, cell_later k y12, cell_later k y13, cell_later k y14, World.block_lt_of_cell? _ _ (cell_later k y10), k⟩
    go_region_held3 (fun w' => w'.cell? ⟨X, 0, none⟩ = some (.string k) ∧ w'.cell? ⟨X, 1, none⟩ = some (.int .i64 q) ∧ w'.cell? ⟨X, 2, none⟩ = some (.int .i64 d) ∧ w'.cell? ⟨X, 3, none⟩ = some (.string t) ∧ w'.cell? ⟨X, 4, none⟩ = some (.int .i64 n) ∧ w'.cell? ⟨X + 1, 0, none⟩ = some (.string k') ∧ w'.cell? ⟨X + 1, 1, none⟩ = some (.int .i64 q') ∧ w'.cell? ⟨X + 1, 2, none⟩ = some (.int .i64 d') ∧ w'.cell? ⟨X + 1, 3, none⟩ = some (.string t') ∧ w'.cell? ⟨X + 1, 4, none⟩ = some (.int .i64 n') ∧ X + 1 < w'.heap.size ∧ Below w3.heap.size w3 w') (first | exact HMK.out _ m3 | exact HMK.out _ m2 | exact HMK.out _ m1 | exact HMK.out _ m0) (first
      | (go_at_call 22; refine (implLess k t k' t' q d n q' d' n' _).mono ?_; rintro e u3 ⟨rfl, hb3⟩; have m3 : Below w3.heap.size w3 u3 := m2.trans (hb3.mono m2.size))
      | (have _ := m1; go_at_call 19; refine (toEnt_any k' t' q' d' n' _).mono ?_; rintro e u2 ⟨rfl, hb2⟩; have m2 : Below w3.heap.size w3 u2 := m1.trans (hb2.mono m1.size))
      | (go_at_call 19; refine (toEnt_any k t q d n _).mono ?_; rintro e u1 ⟨rfl, hb1⟩; have m1 : Below w3.heap.size w3 u1 := m0.trans (hb1.mono m0.size)))
    go_wp2
    go_ret
    exact ⟨rfl, HK2.out.trans (m3.mono HK2.out.size)⟩

end Go.Proofs.Ytpaknibaeieobaa
