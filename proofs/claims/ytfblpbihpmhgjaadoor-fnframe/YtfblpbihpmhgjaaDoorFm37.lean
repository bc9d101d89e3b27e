/-
  Sameness of lists of lists of entries, by a walk of the law's Go text.
-/
import Derived.Test.YtfblpbihpmhgjaaDoorFm34
import Derived.Test.YtfblpbihpmhgjaaDoorFm36
namespace Go.Proofs.YtfblpbihpmhgjaaDoor
open Go.RowKit Go.Joins Go.ChangeShapes Go.WideShapes

set_option maxHeartbeats 1600000 in
theorem eqEntSS_any (a1 a2 : Option Addr) (len cap1 cap2 : Nat) (P : List (List EntD)) (w : World) (h1 : PartsAt w a1 len cap1 P) (h2 : PartsAt w a2 len cap2 P) :
    Calls Tryd.prog 27 #[.slice a1 len cap1, .slice a2 len cap2] w fun e w' => e = .returned (.bool true) ∧ Below w.heap.size w w' := by
  have hbl := h1.room
  have hbc := h1.big
  unfold maxLen at hbc
  have H1 : Hid (PartsAt w a1 len cap1 P) := h1
  have H2 : Hid (PartsAt w a2 len cap2 P) := h2
  clear h1 h2
  go_enter Tryd.func27, Tryd.ntmps27
  go_wp2
  go_loopw [5] (fun i wr => ∃ k : Nat, k ≤ len ∧ i = .int .i64 k ∧ Below w.heap.size w wr) (fun i _ => len - (intOf i).toNat)
  case atStart => exact ⟨0, Nat.zero_le _, rfl, Below.refl _ _⟩
  case round =>
    obtain ⟨k, hk, rfl, hb⟩ := hrel
    have HB : Hid (Below w.heap.size w wr) := hb
    by_cases hlt : k < len
    · obtain ⟨b1, o1, rfl, hb1⟩ := H1.out.form (by omega)
      obtain ⟨b2, o2, rfl, hb2⟩ := H2.out.form (by omega)
      obtain ⟨L, s1, m1, d1, hg, g0, e1⟩ := H1.out.list hb k hlt
      obtain ⟨L', s2, m2, d2, hg', q0, e2⟩ := H2.out.list hb k hlt
      rw [hg] at hg'
      cases hg'
      obtain rfl : m1 = m2 := by have h1 := e1.length; have h2 := e2.length; omega
      have z1 : b1 < wr.heap.size := Nat.lt_of_lt_of_le hb1 hb.size
      have z2 : b2 < wr.heap.size := Nat.lt_of_lt_of_le hb2 hb.size
      have hltI : (k : Int) < (len : Int) := by omega
      have HE1 : Hid (∀ w', Below wr.heap.size wr w' → EntsAt w' s1 m1 d1 L) := fun w' kk => e1.keep kk
      have HE2 : Hid (∀ w', Below wr.heap.size wr w' → EntsAt w' s2 m1 d2 L) := fun w' kk => e2.keep kk
      have k0 : Below wr.heap.size wr wr.drew := (Below.refl _ wr).drew
      have HMK : Hid (∀ w', Below wr.heap.size wr w' → (w'.cell? ⟨b1, o1 + k, none⟩ = some (.slice s1 m1 d1) ∧ w'.cell? ⟨b2, o2 + k, none⟩ = some (.slice s2 m1 d2) ∧ b1 < w'.heap.size ∧ b2 < w'.heap.size)) := fun w' kk => ⟨cell_later kk g0, cell_later kk q0, Nat.lt_of_lt_of_le z1 kk.size, Nat.lt_of_lt_of_le z2 kk.size⟩
      clear hg g0 q0 e1 e2 hb z1 z2
      go_wp2_with fail
      refine wp_region_held_drew (S := (fun w' => w'.cell? ⟨b1, o1 + k, none⟩ = some (.slice s1 m1 d1) ∧ w'.cell? ⟨b2, o2 + k, none⟩ = some (.slice s2 m1 d2) ∧ b1 < w'.heap.size ∧ b2 < w'.heap.size)) (by kernel_rfl) (HMK.out _ k0) (fun hHeld => ?_)
      refine wpAnyH_takeL (i := 0) (v := ?_) rfl (by kernel_rfl) (by kernel_rfl) (by kernel_rfl) (fun _ _ _ h => h) (Or.inl ⟨by rfl, ?_⟩) hHeld ?_
      rotate_left
      · (intro w hSw; (try dsimp only at hSw); go_simp; try with_reducible rfl)
      try go_frame
      refine wpAnyH_takeL (i := 1) (v := ?_) rfl (by kernel_rfl) (by kernel_rfl) (by kernel_rfl) (fun _ _ _ h => h) (Or.inl ⟨by rfl, ?_⟩) hHeld ?_
      rotate_left
      · (intro w hSw; (try dsimp only at hSw); go_simp; try with_reducible rfl)
      try go_frame
      refine wpAnyH_takeL (i := 2) (v := ?_) rfl (by kernel_rfl) (by kernel_rfl) (by kernel_rfl) (fun _ _ _ h => h) (Or.inl ⟨by rfl, ?_⟩) hHeld ?_
      rotate_left
      · (intro w hSw; (try dsimp only at hSw); go_simp; try with_reducible rfl)
      try go_frame
      refine wpAnyH_takeL (i := 3) (v := ?_) rfl (by kernel_rfl) (by kernel_rfl) (by kernel_rfl) (fun _ _ _ h => h) (Or.inl ⟨by rfl, ?_⟩) hHeld ?_
      rotate_left
      · (intro w hSw; (try dsimp only at hSw); go_simp; try with_reducible rfl)
      try go_frame
      refine wpAnyH_takeL (i := 4) (v := ?_) rfl (by kernel_rfl) (by kernel_rfl) (by kernel_rfl) (fun _ _ _ h => h) (Or.inl ⟨by rfl, ?_⟩) hHeld ?_
      rotate_left
      · (intro w hSw; (try dsimp only at hSw); go_simp; try with_reducible rfl)
      try go_frame
      refine wpAnyH_takeL (i := 5) (v := ?_) rfl (by kernel_rfl) (by kernel_rfl) (by kernel_rfl) (fun _ _ _ h => h) (Or.inl ⟨by rfl, ?_⟩) hHeld ?_
      rotate_left
      · (intro w hSw; (try dsimp only at hSw); go_simp; try with_reducible rfl)
      try go_frame
      refine wpAnyH_takeL (i := 6) (v := ?_) rfl (by kernel_rfl) (by kernel_rfl) (by kernel_rfl) (fun _ _ _ h => h) (Or.inl ⟨by rfl, ?_⟩) hHeld ?_
      rotate_left
      · (intro w hSw; (try dsimp only at hSw); go_simp; try with_reducible rfl)
      try go_frame
      refine wpAnyH_takeL (i := 7) (v := ?_) rfl (by kernel_rfl) (by kernel_rfl) (by kernel_rfl) (fun _ _ _ h => h) (Or.inl ⟨by rfl, ?_⟩) hHeld ?_
      rotate_left
      · (intro w hSw; (try dsimp only at hSw); go_simp; try with_reducible rfl)
      try go_frame
      refine wpAnyH_ready (rs := [8]) (by kernel_rfl) (by simp) ?_
      refine consL rfl (fun K hK => ?_) AllReadyH.nil
      go_simp
      refine (eqEntS_opt _ _ _ _ _ L _ (HE1.out _ k0) (HE2.out _ k0)).mono ?_
      rintro e w1 ⟨rfl, b1'⟩
      have k1 : Below wr.heap.size wr w1 := k0.trans (b1'.mono k0.size)
      go_wp2_with fail
      refine hK.out _ _ (HMK.out _ k1) (fun hHeld => ?_)
      clear hK K
      try go_frame
      refine wpAnyH_takeL (i := 9) (v := ?_) rfl (by kernel_rfl) (by kernel_rfl) (by kernel_rfl) (fun _ _ _ h => h) (Or.inl ⟨by rfl, ?_⟩) hHeld ?_
      rotate_left
      · (intro w hSw; (try dsimp only at hSw); go_simp; try with_reducible rfl)
      try go_frame
      refine wpAnyH_done (by kernel_rfl) ?_ _
      clear HMK hHeld
      have HB2 : Hid (Below w.heap.size w w1) := HB.out.trans (k1.mono HB.out.size)
      clear k0 k1 b1' HB
      go_wp2
      go_roundw
      case rel => exact ⟨k + 1, by omega, by go_num, HB2.out⟩
      case measure => simp [intOf]; omega
    · go_wp2
      go_ret
      exact ⟨rfl, HB.out⟩

end Go.Proofs.YtfblpbihpmhgjaaDoor
