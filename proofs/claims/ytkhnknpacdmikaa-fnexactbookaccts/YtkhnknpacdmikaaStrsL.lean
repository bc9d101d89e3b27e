/-
  The laws' eqStringS, markStringS and heldStringS, by walks of their Go text.
-/
import Derived.Test.YtkhnknpacdmikaaAcctsI
import Derived.Test.YtkhnknpacdmikaaMarkE
import Derived.Test.YtkhnknpacdmikaaHeld
namespace Go.Proofs.Ytkhnknpacdmikaa
open Go.RowKit

attribute [local go_sem] Oper.semAt_some

theorem StrsIn.cell {lo : Nat} {w : World} {a : Option Addr} {n c : Nat} {A : List ByteArray} (h : StrsIn lo w a n c A) {k : Nat} (hk : k < n) : ∃ g x, a = some ⟨g, 0, none⟩ ∧ lo ≤ g ∧ g < w.heap.size ∧ n ≤ c ∧ c ≤ maxLen ∧ A[k]? = some x ∧ w.cell? ⟨g, k, none⟩ = some (.string x) ∧ w.frozen? ⟨g, k, none⟩ = false := by
  have hkA : k < A.length := by rw [h.2]; exact hk
  rcases strs_form h.1 with ⟨_, h0, _⟩ | ⟨g, cur', rfl, hg0, hg, h1, h2, _⟩
  · omega
  · exact ⟨g, A[k], rfl, hg0, (Array.getElem?_eq_some_iff.1 hg).1, h1, h2, List.getElem?_eq_getElem hkA, str_cell h.1 (List.getElem?_eq_getElem hkA), h.1.frozenAt _⟩
theorem StrsIn.big {lo : Nat} {w : World} {a : Option Addr} {n c : Nat} {A : List ByteArray} (h : StrsIn lo w a n c A) : n ≤ maxLen := by
  rcases strs_form h.1 with ⟨_, h0, _⟩ | ⟨g, cur', rfl, hg0, hg, h1, h2, _⟩
  · rw [h0]; exact Nat.zero_le _
  · exact Nat.le_trans h1 h2

set_option maxRecDepth 100000 in
set_option maxHeartbeats 1000000 in
theorem eqStrs_same (l1 l2 : Nat) (a1 a2 : Option Addr) (n c1 c2 : Nat) (A : List ByteArray) (w : World) (h1 : StrsIn l1 w a1 n c1 A) (h2 : StrsIn l2 w a2 n c2 A) :
    Calls Try.prog 27 #[.slice a1 n c1, .slice a2 n c2] w fun e w' => e = .returned (.bool true) ∧ Below w.heap.size w w' := by
  have hbg := h1.big
  unfold maxLen at hbg
  have H1 : Hid (StrsIn l1 w a1 n c1 A) := h1
  have H2 : Hid (StrsIn l2 w a2 n c2 A) := h2
  clear h1 h2
  go_enter Try.func27, Try.ntmps27
  go_wp2
  go_loopw [5] (fun i wr => ∃ k : Nat, k ≤ n ∧ i = .int .i64 k ∧ Below w.heap.size w wr) (fun i _ => n - (intOf i).toNat)
  case atStart => exact ⟨0, Nat.zero_le _, rfl, Below.refl _ _⟩
  case round =>
    obtain ⟨k, hk, rfl, hb⟩ := hrel
    by_cases hlt : k < n
    · obtain ⟨g1, x, rfl, _, hg1, hr1, hm1, hx1, e1, _⟩ := (H1.out.below hb).cell hlt
      obtain ⟨g2, y, rfl, _, hg2, hr2, hm2, hx2, e2, _⟩ := (H2.out.below hb).cell hlt
      rw [hx1] at hx2
      cases hx2
      unfold maxLen at hm1 hm2
      have hltI : (k : Int) < (n : Int) := by omega
      clear hx1
      have HMK : Hid (∀ w', Below wr.heap.size wr w' → (w'.cell? ⟨g1, k, none⟩ = some (.string x) ∧ g1 < w'.heap.size ∧ w'.cell? ⟨g2, k, none⟩ = some (.string x) ∧ g2 < w'.heap.size)) := fun w' kk => ⟨cell_later kk e1, Nat.lt_of_lt_of_le hg1 kk.size, cell_later kk e2, Nat.lt_of_lt_of_le hg2 kk.size⟩
      have k0 : Below wr.heap.size wr wr.drew := (Below.refl _ wr).drew
      have HB : Hid (Below w.heap.size w wr) := hb
      clear hb
      go_wp2_with fail
      refine wp_region_held_drew (S := (fun w' => w'.cell? ⟨g1, k, none⟩ = some (.string x) ∧ g1 < w'.heap.size ∧ w'.cell? ⟨g2, k, none⟩ = some (.string x) ∧ g2 < w'.heap.size)) (by kernel_rfl) (HMK.out _ k0) (fun hHeld => ?_)
      refine wpAnyH_takeL (i := 0) (v := ?_) rfl (by kernel_rfl) (by kernel_rfl) (by kernel_rfl) (fun _ _ _ h => h) (Or.inl ⟨by rfl, ?_⟩) hHeld ?_
      rotate_left
      · (intro w hSw; (try dsimp only at hSw); go_simp; try with_reducible rfl)
      try go_frame
      refine wpAnyH_takeL (i := 1) (v := ?_) rfl (by kernel_rfl) (by kernel_rfl) (by kernel_rfl) (fun _ _ _ h => h) (Or.inl ⟨by rfl, ?_⟩) hHeld ?_
      rotate_left
      · (intro w hSw; (try dsimp only at hSw); go_simp; try with_reducible rfl)
      try go_frame
      refine wpAnyH_takeL (i := 2) (v := ?_) rfl (by kernel_rfl) (by kernel_rfl) (by kernel_rfl) (fun _ _ _ h => h) (Or.inl ⟨by rfl, ?_⟩) hHeld ?_
      rotate_left
      · (intro w hSw; (try dsimp only at hSw); go_simp; try with_reducible rfl)
      try go_frame
      refine wpAnyH_takeL (i := 3) (v := ?_) rfl (by kernel_rfl) (by kernel_rfl) (by kernel_rfl) (fun _ _ _ h => h) (Or.inl ⟨by rfl, ?_⟩) hHeld ?_
      rotate_left
      · (intro w hSw; (try dsimp only at hSw); go_simp; try with_reducible rfl)
      try go_frame
      refine wpAnyH_takeL (i := 4) (v := ?_) rfl (by kernel_rfl) (by kernel_rfl) (by kernel_rfl) (fun _ _ _ h => h) (Or.inl ⟨by rfl, ?_⟩) hHeld ?_
      rotate_left
      · (intro w hSw; (try dsimp only at hSw); go_simp; try with_reducible rfl)
      try go_frame
      refine wpAnyH_takeL (i := 5) (v := ?_) rfl (by kernel_rfl) (by kernel_rfl) (by kernel_rfl) (fun _ _ _ h => h) (Or.inl ⟨by rfl, ?_⟩) hHeld ?_
      rotate_left
      · (intro w hSw; (try dsimp only at hSw); go_simp; try with_reducible rfl)
      try go_frame
      refine wpAnyH_takeL (i := 6) (v := ?_) rfl (by kernel_rfl) (by kernel_rfl) (by kernel_rfl) (fun _ _ _ h => h) (Or.inl ⟨by rfl, ?_⟩) hHeld ?_
      rotate_left
      · (intro w hSw; (try dsimp only at hSw); go_simp; try with_reducible rfl)
      try go_frame
      refine wpAnyH_takeL (i := 7) (v := ?_) rfl (by kernel_rfl) (by kernel_rfl) (by kernel_rfl) (fun _ _ _ h => h) (Or.inl ⟨by rfl, ?_⟩) hHeld ?_
      rotate_left
      · (intro w hSw; (try dsimp only at hSw); go_simp; try with_reducible rfl)
      try go_frame
      refine wpAnyH_takeL (i := 8) (v := ?_) rfl (by kernel_rfl) (by kernel_rfl) (by kernel_rfl) (fun _ _ _ h => h) (Or.inl ⟨by rfl, ?_⟩) hHeld ?_
      rotate_left
      · (intro w hSw; (try dsimp only at hSw); go_simp; try with_reducible rfl)
      try go_frame
      refine wpAnyH_done (by kernel_rfl) ?_ _
      have HK1 : Hid (Below wr.heap.size wr wr.drew) := k0
      clear k0 hHeld HMK
      go_wp2
      go_roundw
      case rel => exact ⟨k + 1, by omega, by go_num, HB.out.trans (HK1.out.mono HB.out.size)⟩
      case measure => simp [intOf]; omega
    · have hltI : ¬ (k : Int) < (n : Int) := by omega
      go_wp2
      go_ret
      exact ⟨rfl, hb⟩

/-- The texts of marks. -/
def markS (k n : Nat) : List ByteArray := (List.range n).map (fun j => markT (k + j))
theorem markS_len (k n : Nat) : (markS k n).length = n := by simp [markS]
theorem markS_at {k n j : Nat} (h : j < n) : (markS k n)[j]? = some (markT (k + j)) := by simp [markS, h]

set_option maxRecDepth 100000 in
set_option maxHeartbeats 1000000 in
theorem markStrs_any (lo : Nat) (a : Option Addr) (n c k : Nat) (A : List ByteArray) (w : World) (h : StrsIn lo w a n c A) (hk : 1 ≤ k) (hn : k + n ≤ 1000000000) :
    Calls Try.prog 30 #[.slice a n c, .int .i64 k] w fun e w' => e = .returned (.int .i64 ((k + n : Nat) : Int)) ∧ StrsIn lo w' a n c (markS k n) ∧ Below lo w w' := by
  have H0 : Hid (StrsIn lo w a n c A) := h
  clear h
  go_enter Try.func30, Try.ntmps30
  go_wp2
  go_loopw [1, 5] (fun kv iv wr => ∃ (j : Nat) (A' : List ByteArray), j ≤ n ∧ iv = .int .i64 j ∧ kv = .int .i64 ((k + j : Nat) : Int) ∧ StrsIn lo wr a n c A' ∧ Below lo w wr ∧ ∀ i, i < j → A'[i]? = some (markT (k + i))) (fun _ iv _ => n - (intOf iv).toNat)
  case atStart => exact ⟨0, A, Nat.zero_le _, rfl, rfl, H0.out, Below.refl _ _, fun i hi => absurd hi (Nat.not_lt_zero _)⟩
  case round =>
    obtain ⟨j, A', hj, rfl, rfl, hs, hb, hrow⟩ := hrel
    have HS : Hid (StrsIn lo wr a n c A') := hs
    have HB : Hid (Below lo w wr) := hb
    have HROW : Hid (∀ i, i < j → A'[i]? = some (markT (k + i))) := hrow
    clear hrow hb
    obtain ⟨K, hK⟩ : ∃ K, K = k + j := ⟨_, rfl⟩
    have HK : Hid (K = k + j) := hK
    rw [← hK]
    by_cases hlt : j < n
    · have hK1 : 1 ≤ K := by omega
      have hK2 : K + 1 ≤ 1000000000 := by omega
      have hltI : (j : Int) < (n : Int) := by omega
      clear hs hK
      go_wp2_with fail
      refine (markText_any K _ hK1 (by omega)).mono ?_
      rintro e w1 ⟨rfl, hb1⟩
      have hs1 := HS.out.below hb1
      obtain ⟨g, x, rfl, hg0, hg1, hr1, hm1, hx1, c0, f0⟩ := hs1.cell hlt
      unfold maxLen at hm1
      have HS1 : Hid (StrsIn lo w1 (some ⟨g, 0, none⟩) n c A') := hs1
      have HB1 : Hid (Below lo w w1) := HB.out.trans (hb1.mono (by have h0 := (HS.out.cell hlt).choose_spec.choose_spec; omega))
      have HG : Hid (lo ≤ g) := hg0
      clear hs1 hb1 hx1 hg0
      go_wp2
      go_roundw
      case rel =>
        have t0 := HS1.out.1.stored j (.string (markT K))
        refine ⟨j + 1, A'.set j (markT K), by omega, by go_num, by have := HK.out; go_num, ⟨by rw [List.map_set]; exact t0.1, by rw [List.length_set]; exact HS1.out.2⟩, HB1.out.setCell (p := ⟨g, j, none⟩) HG.out _, ?_⟩
        intro i hi
        by_cases e : j = i
        · subst e
          rw [List.getElem?_set_self (by rw [HS1.out.2]; exact hlt), HK.out]
        · rw [List.getElem?_set_ne e]
          exact HROW.out i (by omega)
      case measure => simp [intOf]; omega
    · have hltI : ¬ (j : Int) < (n : Int) := by omega
      have hjn : j = n := by omega
      have HE : Hid (A' = markS k n) := by
        show A' = markS k n
        apply List.ext_getElem?
        intro i
        by_cases hi : i < n
        · rw [HROW.out i (by omega), markS_at hi]
        · rw [List.getElem?_eq_none (by rw [hs.2]; omega), List.getElem?_eq_none (by rw [markS_len]; omega)]
      clear hs
      go_wp2
      go_ret
      exact ⟨by first | rfl | simp, by rw [← HE.out]; exact HS.out, HB.out⟩

set_option maxRecDepth 100000 in
set_option maxHeartbeats 1000000 in
theorem heldStrs_any (lo : Nat) (a : Option Addr) (n c k : Nat) (w : World) (h : StrsIn lo w a n c (markS k n)) (hk : 1 ≤ k) (hn : k + n ≤ 1000000000) :
    Calls Try.prog 31 #[.slice a n c, .int .i64 k] w fun e w' => e = .returned (.int .i64 ((k + n : Nat) : Int)) ∧ Below w.heap.size w w' := by
  have H0 : Hid (StrsIn lo w a n c (markS k n)) := h
  clear h
  go_enter Try.func31, Try.ntmps31
  go_wp2
  go_loopw [1, 5] (fun kv iv wr => ∃ (j : Nat), j ≤ n ∧ iv = .int .i64 j ∧ kv = .int .i64 ((k + j : Nat) : Int) ∧ Below w.heap.size w wr) (fun _ iv _ => n - (intOf iv).toNat)
  case atStart => exact ⟨0, Nat.zero_le _, rfl, rfl, Below.refl _ _⟩
  case round =>
    obtain ⟨j, hj, rfl, rfl, hb⟩ := hrel
    obtain ⟨K, hK⟩ : ∃ K, K = k + j := ⟨_, rfl⟩
    have HK : Hid (K = k + j) := hK
    have HB : Hid (Below w.heap.size w wr) := hb
    rw [← hK]
    by_cases hlt : j < n
    · have hK1 : 1 ≤ K := by omega
      have hK2 : K + 1 ≤ 1000000000 := by omega
      have hltI : (j : Int) < (n : Int) := by omega
      obtain ⟨g, x, rfl, _, hg1, hr1, hm1, hx1, c0, _⟩ := (H0.out.below hb).cell hlt
      rw [markS_at hlt, ← hK] at hx1
      cases hx1
      unfold maxLen at hm1
      have CM : Hid (∀ w, Calls Try.prog 70 #[.int .i64 (K : Int)] w fun e w' => e = .returned (.string (markT K)) ∧ Below w.heap.size w w') := fun w => markText_any K w hK1 (by omega)
      have HMK : Hid (∀ w', Below wr.heap.size wr w' → (w'.cell? ⟨g, j, none⟩ = some (.string (markT K)) ∧ g < w'.heap.size)) := fun w' kk => ⟨cell_later kk c0, Nat.lt_of_lt_of_le hg1 kk.size⟩
      have k0 : Below wr.heap.size wr wr.drew := (Below.refl _ wr).drew
      clear hK hb
      go_wp2_with fail
      refine wp_region_held_drew (S := (fun w' => w'.cell? ⟨g, j, none⟩ = some (.string (markT K)) ∧ g < w'.heap.size)) (by kernel_rfl) (HMK.out _ k0) (fun hHeld => ?_)
      refine wpAnyH_takeL (i := 0) (v := ?_) rfl (by kernel_rfl) (by kernel_rfl) (by kernel_rfl) (fun _ _ _ h => h) (Or.inl ⟨by rfl, ?_⟩) hHeld ?_
      rotate_left
      · (intro w hSw; (try dsimp only at hSw); go_simp; try with_reducible rfl)
      try go_frame
      refine wpAnyH_takeL (i := 1) (v := ?_) rfl (by kernel_rfl) (by kernel_rfl) (by kernel_rfl) (fun _ _ _ h => h) (Or.inl ⟨by rfl, ?_⟩) hHeld ?_
      rotate_left
      · (intro w hSw; (try dsimp only at hSw); go_simp; try with_reducible rfl)
      try go_frame
      refine wpAnyH_takeL (i := 2) (v := ?_) rfl (by kernel_rfl) (by kernel_rfl) (by kernel_rfl) (fun _ _ _ h => h) (Or.inl ⟨by rfl, ?_⟩) hHeld ?_
      rotate_left
      · (intro w hSw; (try dsimp only at hSw); go_simp; try with_reducible rfl)
      try go_frame
      refine wpAnyH_takeL (i := 3) (v := ?_) rfl (by kernel_rfl) (by kernel_rfl) (by kernel_rfl) (fun _ _ _ h => h) (Or.inl ⟨by rfl, ?_⟩) hHeld ?_
      rotate_left
      · (intro w hSw; (try dsimp only at hSw); go_simp; try with_reducible rfl)
      try go_frame
      refine wpAnyH_takeL (i := 4) (v := ?_) rfl (by kernel_rfl) (by kernel_rfl) (by kernel_rfl) (fun _ _ _ h => h) (Or.inl ⟨by rfl, ?_⟩) hHeld ?_
      rotate_left
      · (intro w hSw; (try dsimp only at hSw); go_simp; try with_reducible rfl)
      try go_frame
      refine wpAnyH_ready (rs := [5]) (by kernel_rfl) (by simp) ?_
      refine consL rfl (fun K hK => ?_) AllReadyH.nil
      go_simp
      refine (CM.out _).mono ?_
      rintro e wk1 ⟨rfl, bk1⟩
      have k1 : Below wr.heap.size wr wk1 := k0.trans (bk1.mono k0.size)
      go_wp2_with fail
      refine hK.out _ _ (HMK.out _ k1) (fun hHeld => ?_)
      clear hK K
      try go_frame
      refine wpAnyH_takeL (i := 6) (v := ?_) rfl (by kernel_rfl) (by kernel_rfl) (by kernel_rfl) (fun _ _ _ h => h) (Or.inl ⟨by rfl, ?_⟩) hHeld ?_
      rotate_left
      · (intro w hSw; (try dsimp only at hSw); go_simp; try with_reducible rfl)
      try go_frame
      refine wpAnyH_done (by kernel_rfl) ?_ _
      have HK1 : Hid (Below wr.heap.size wr wk1) := k1
      clear k0 k1 bk1 hHeld HMK
      go_wp2
      go_roundw
      case rel => exact ⟨j + 1, by omega, by go_num, by have := HK.out; go_num, HB.out.trans (HK1.out.mono HB.out.size)⟩
      case measure => simp [intOf]; omega
    · have hltI : ¬ (j : Int) < (n : Int) := by omega
      have hjn : j = n := by omega
      clear hb
      go_wp2
      go_ret
      exact ⟨by first | rfl | simp, HB.out⟩
end Go.Proofs.Ytkhnknpacdmikaa
