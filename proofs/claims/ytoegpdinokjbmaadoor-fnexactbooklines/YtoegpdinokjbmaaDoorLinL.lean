/-
  Lines in rows of a call's own, and the laws' eqLineS, markLineS and heldLineS, by walks of their Go text.
-/
import Derived.Test.YtoegpdinokjbmaaDoorHeld
import Derived.Test.YtoegpdinokjbmaaDoorLawPosts
namespace Go.Proofs.YtoegpdinokjbmaaDoor
open Go.RowKit

/-- A row of lines: three numbers each, laid flat. -/
def LinIn (lo : Nat) (w : World) (a : Option Addr) (n c : Nat) (F : List Int) : Prop := w.ownsRow lo 69 3 (.slice a n c) n (F.map (Value.int .i64)) ∧ F.length = n * 3
theorem LinIn.below {lo : Nat} {w w' : World} {a : Option Addr} {n c : Nat} {F : List Int} (h : LinIn lo w a n c F) (hb : Below w.heap.size w w') : LinIn lo w' a n c F := ⟨h.1.kept (row := none) ⟨hb.os, hb.tape, hb.output, hb.size, fun k hk _ => hb.block k hk⟩ (by
  cases e : (Value.slice a n c).ownBlock with
  | none => exact .inl rfl
  | some x => exact .inr (by simp)), h.2⟩
theorem lin_form {lo : Nat} {w : World} {a : Option Addr} {n c : Nat} {F : List Int} (h : LinIn lo w a n c F) : (n = 0 ∧ a = none ∧ c = 0) ∨ ∃ g, a = some ⟨g, 0, none⟩ ∧ lo ≤ g ∧ g < w.heap.size ∧ n ≤ c ∧ c ≤ maxLen := by
  rcases h.1.2 with ⟨h1, h2⟩ | ⟨g, cap, cur, h1, h2, h3, h4, h5, _⟩
  · cases h1
    exact .inl ⟨h2, rfl, rfl⟩
  · cases h1
    exact .inr ⟨g, rfl, h2, (Array.getElem?_eq_some_iff.1 h3).1, h4, h5⟩
theorem LinIn.move {lo : Nat} {w w' : World} {a : Option Addr} {n c : Nat} {F : List Int} (h : LinIn lo w a n c F) (hm : ∀ g, a = some ⟨g, 0, none⟩ → lo ≤ g → g < w.heap.size → w'.heap[g]? = w.heap[g]?) : LinIn lo w' a n c F := by
  refine ⟨⟨h.1.1, ?_⟩, h.2⟩
  rcases h.1.2 with h1 | ⟨g, cap, cur, h1, h2, h3, h4⟩
  · exact .inl h1
  · refine .inr ⟨g, cap, cur, h1, h2, ?_, h4⟩
    cases h1
    rw [hm g rfl h2 (Array.getElem?_eq_some_iff.1 h3).1]
    exact h3
theorem LinIn.big {lo : Nat} {w : World} {a : Option Addr} {n c : Nat} {F : List Int} (h : LinIn lo w a n c F) : n ≤ maxLen := by
  rcases lin_form h with ⟨rfl, _⟩ | ⟨g, _, _, _, h1, h2⟩
  · exact Nat.zero_le _
  · exact Nat.le_trans h1 h2
theorem LinIn.cell {lo : Nat} {w : World} {a : Option Addr} {n c : Nat} {F : List Int} (h : LinIn lo w a n c F) {k : Nat} (hk : k < n) : ∃ g x y z, a = some ⟨g, 0, none⟩ ∧ lo ≤ g ∧ g < w.heap.size ∧ n ≤ c ∧ c ≤ maxLen ∧ (F[k * 3]? = some x ∧ F[k * 3 + 1]? = some y ∧ F[k * 3 + 2]? = some z) ∧ w.cell? ⟨g, k * 3, none⟩ = some (.int .i64 x) ∧ w.cell? ⟨g, k * 3 + 1, none⟩ = some (.int .i64 y) ∧ w.cell? ⟨g, k * 3 + 2, none⟩ = some (.int .i64 z) ∧ (∀ o, w.frozen? ⟨g, o, none⟩ = false) := by
  rcases lin_form h with ⟨rfl, _⟩ | ⟨g, rfl, h1, h2, h3, h4⟩
  · exact absurd hk (Nat.not_lt_zero _)
  · have hl := h.2
    have key : ∀ j (hj : j < F.length), w.cell? ⟨g, j, none⟩ = some (.int .i64 F[j]) := fun j hj => by
      have := h.1.cells (g := g) rfl j (.int .i64 F[j]) (by rw [List.getElem?_map, List.getElem?_eq_getElem hj]; rfl)
      rwa [Go.WideShapes.add_plain, Nat.zero_add] at this
    exact ⟨g, F[k * 3]'(by omega), F[k * 3 + 1]'(by omega), F[k * 3 + 2]'(by omega), rfl, h1, h2, h3, h4, ⟨List.getElem?_eq_getElem _, List.getElem?_eq_getElem _, List.getElem?_eq_getElem _⟩, key _ _, key _ _, key _ _, h.1.frozenAt⟩

set_option maxRecDepth 100000 in
set_option maxHeartbeats 1000000 in
theorem eqLine_same (x y z : Int) (w : World) :
    Calls Tryd.prog 32 #[.agg #[.int .i64 x, .int .i64 y, .int .i64 z], .agg #[.int .i64 x, .int .i64 y, .int .i64 z]] w fun e w' => e = .returned (.bool true) ∧ Below w.heap.size w w' := by
  have k : Hid (Below w.heap.size w ((w.alloc (.cells #[.int .i64 x, .int .i64 y, .int .i64 z] 69)).alloc (.cells #[.int .i64 x, .int .i64 y, .int .i64 z] 69))) := ((Below.refl _ _).alloc (Nat.le_refl _) _).alloc (by simp) _
  go_enter Tryd.func32, Tryd.ntmps32
  go_wp2
  go_ret
  exact ⟨rfl, k.out⟩

set_option maxRecDepth 100000 in
set_option maxHeartbeats 1000000 in
theorem eqLines_same (l1 l2 : Nat) (a1 a2 : Option Addr) (n c1 c2 : Nat) (F : List Int) (w : World) (h1 : LinIn l1 w a1 n c1 F) (h2 : LinIn l2 w a2 n c2 F) :
    Calls Tryd.prog 14 #[.slice a1 n c1, .slice a2 n c2] w fun e w' => e = .returned (.bool true) ∧ Below w.heap.size w w' := by
  have hbg := h1.big
  unfold maxLen at hbg
  have H1 : Hid (LinIn l1 w a1 n c1 F) := h1
  have H2 : Hid (LinIn l2 w a2 n c2 F) := h2
  clear h1 h2
  go_enter Tryd.func14, Tryd.ntmps14
  go_wp2
  go_loopw [5] (fun i wr => ∃ k : Nat, k ≤ n ∧ i = .int .i64 k ∧ Below w.heap.size w wr) (fun i _ => n - (intOf i).toNat)
  case atStart => exact ⟨0, Nat.zero_le _, rfl, Below.refl _ _⟩
  case round =>
    obtain ⟨k, hk, rfl, hb⟩ := hrel
    by_cases hlt : k < n
    · obtain ⟨g1, x, y, z, rfl, _, hg1, hr1, hm1, ⟨f0, f1, f2⟩, e0, e1, e2, _⟩ := (H1.out.below hb).cell hlt
      obtain ⟨g2, x', y', z', rfl, _, hg2, hr2, hm2, ⟨d0, d1, d2⟩, q0, q1, q2, _⟩ := (H2.out.below hb).cell hlt
      rw [f0] at d0
      rw [f1] at d1
      rw [f2] at d2
      cases d0
      cases d1
      cases d2
      unfold maxLen at hm1 hm2
      have hltI : (k : Int) < (n : Int) := by omega
      have HMK : Hid (∀ w', Below wr.heap.size wr w' → (w'.cell? ⟨g1, k * 3, none⟩ = some (.int .i64 x) ∧ w'.cell? ⟨g1, k * 3 + 1, none⟩ = some (.int .i64 y) ∧ w'.cell? ⟨g1, k * 3 + 2, none⟩ = some (.int .i64 z) ∧ g1 < w'.heap.size ∧ w'.cell? ⟨g2, k * 3, none⟩ = some (.int .i64 x) ∧ w'.cell? ⟨g2, k * 3 + 1, none⟩ = some (.int .i64 y) ∧ w'.cell? ⟨g2, k * 3 + 2, none⟩ = some (.int .i64 z) ∧ g2 < w'.heap.size)) := fun w' kk => ⟨cell_later kk e0, cell_later kk e1, cell_later kk e2, Nat.lt_of_lt_of_le hg1 kk.size, cell_later kk q0, cell_later kk q1, cell_later kk q2, Nat.lt_of_lt_of_le hg2 kk.size⟩
      have k0 : Below wr.heap.size wr wr.drew := (Below.refl _ wr).drew
      have HB : Hid (Below w.heap.size w wr) := hb
      clear hb f0 f1 f2 e0 e1 e2 q0 q1 q2
      go_wp2_with fail
      refine wp_region_held_drew (S := (fun w' => w'.cell? ⟨g1, k * 3, none⟩ = some (.int .i64 x) ∧ w'.cell? ⟨g1, k * 3 + 1, none⟩ = some (.int .i64 y) ∧ w'.cell? ⟨g1, k * 3 + 2, none⟩ = some (.int .i64 z) ∧ g1 < w'.heap.size ∧ w'.cell? ⟨g2, k * 3, none⟩ = some (.int .i64 x) ∧ w'.cell? ⟨g2, k * 3 + 1, none⟩ = some (.int .i64 y) ∧ w'.cell? ⟨g2, k * 3 + 2, none⟩ = some (.int .i64 z) ∧ g2 < w'.heap.size)) (by kernel_rfl) (HMK.out _ k0) (fun hHeld => ?_)
      refine wpAnyH_takeL (i := 0) (v := ?_) rfl (by kernel_rfl) (by kernel_rfl) (by kernel_rfl) (fun _ _ _ h => h) (Or.inl ⟨by rfl, ?_⟩) hHeld ?_
      rotate_left
      · (intro w hSw; (try dsimp only at hSw); go_simp; try with_reducible rfl)
      try go_frame
      refine wpAnyH_takeL (i := 1) (v := ?_) rfl (by kernel_rfl) (by kernel_rfl) (by kernel_rfl) (fun _ _ _ h => h) (Or.inl ⟨by rfl, ?_⟩) hHeld ?_
      rotate_left
      · (intro w hSw; (try dsimp only at hSw); go_simp; try with_reducible rfl)
      try go_frame
      refine wpAnyH_takeL (i := 2) (v := ?_) rfl (by kernel_rfl) (by kernel_rfl) (by kernel_rfl) (fun _ _ _ h => h) (Or.inl ⟨by rfl, ?_⟩) hHeld ?_
      rotate_left
      · (intro w hSw; (try dsimp only at hSw); go_simp; try with_reducible rfl)
      try go_frame
      refine wpAnyH_takeL (i := 3) (v := ?_) rfl (by kernel_rfl) (by kernel_rfl) (by kernel_rfl) (fun _ _ _ h => h) (Or.inl ⟨by rfl, ?_⟩) hHeld ?_
      rotate_left
      · (intro w hSw; (try dsimp only at hSw); go_simp; try with_reducible rfl)
      try go_frame
      refine wpAnyH_takeL (i := 4) (v := ?_) rfl (by kernel_rfl) (by kernel_rfl) (by kernel_rfl) (fun _ _ _ h => h) (Or.inl ⟨by rfl, ?_⟩) hHeld ?_
      rotate_left
      · (intro w hSw; (try dsimp only at hSw); go_simp; try with_reducible rfl)
      try go_frame
      refine wpAnyH_takeL (i := 5) (v := ?_) rfl (by kernel_rfl) (by kernel_rfl) (by kernel_rfl) (fun _ _ _ h => h) (Or.inl ⟨by rfl, ?_⟩) hHeld ?_
      rotate_left
      · (intro w hSw; (try dsimp only at hSw); go_simp; try with_reducible rfl)
      try go_frame
      refine wpAnyH_takeL (i := 6) (v := ?_) rfl (by kernel_rfl) (by kernel_rfl) (by kernel_rfl) (fun _ _ _ h => h) (Or.inl ⟨by rfl, ?_⟩) hHeld ?_
      rotate_left
      · (intro w hSw; (try dsimp only at hSw); go_simp; try with_reducible rfl)
      try go_frame
      refine wpAnyH_takeL (i := 7) (v := ?_) rfl (by kernel_rfl) (by kernel_rfl) (by kernel_rfl) (fun _ _ _ h => h) (Or.inl ⟨by rfl, ?_⟩) hHeld ?_
      rotate_left
      · (intro w hSw; (try dsimp only at hSw); go_simp; try with_reducible rfl)
      try go_frame
      refine wpAnyH_ready (rs := [8]) (by kernel_rfl) (by simp) ?_
      refine consL rfl (fun K hK => ?_) AllReadyH.nil
      go_simp
      refine (eqLine_same x y z _).mono ?_
      rintro e wE ⟨rfl, hbE⟩
      have k1 : Below wr.heap.size wr wE := k0.trans (hbE.mono k0.size)
      clear hbE
      go_wp2_with fail
      refine hK.out _ _ (HMK.out _ k1) (fun hHeld => ?_)
      clear hK K
      try go_frame
      refine wpAnyH_takeL (i := 9) (v := ?_) rfl (by kernel_rfl) (by kernel_rfl) (by kernel_rfl) (fun _ _ _ h => h) (Or.inl ⟨by rfl, ?_⟩) hHeld ?_
      rotate_left
      · (intro w hSw; (try dsimp only at hSw); go_simp; try with_reducible rfl)
      try go_frame
      refine wpAnyH_done (by kernel_rfl) ?_ _
      have KK : Hid (Below w.heap.size w wE) := HB.out.trans (k1.mono HB.out.size)
      clear k0 k1 hHeld HMK
      go_wp2
      go_roundw
      case rel => exact ⟨k + 1, by omega, by go_num, KK.out⟩
      case measure => simp [intOf]; omega
    · have hltI : ¬ (k : Int) < (n : Int) := by omega
      go_wp2
      go_ret
      exact ⟨rfl, hb⟩

/-- The numbers of marks. -/
def markF (k m : Nat) : List Int := (List.range m).map (fun j => ((k + j : Nat) : Int))
theorem markF_len (k m : Nat) : (markF k m).length = m := by simp [markF]
theorem markF_at {k m j : Nat} (h : j < m) : (markF k m)[j]? = some ((k + j : Nat) : Int) := by simp [markF, h]

set_option maxRecDepth 100000 in
set_option maxHeartbeats 2000000 in
theorem markLines_any (lo : Nat) (a : Option Addr) (n c k : Nat) (F : List Int) (w : World) (h : LinIn lo w a n c F) (hn : k + 3 * n ≤ 1000000000) :
    Calls Tryd.prog 16 #[.slice a n c, .int .i64 k] w fun e w' => e = .returned (.int .i64 ((k + 3 * n : Nat) : Int)) ∧ LinIn lo w' a n c (markF k (n * 3)) ∧ Below lo w w' := by
  have H0 : Hid (LinIn lo w a n c F) := h
  clear h
  go_enter Tryd.func16, Tryd.ntmps16
  go_wp2
  go_loopw [1, 5] (fun kv iv wr => ∃ (j : Nat) (F' : List Int), j ≤ n ∧ iv = .int .i64 j ∧ kv = .int .i64 ((k + 3 * j : Nat) : Int) ∧ LinIn lo wr a n c F' ∧ Below lo w wr ∧ ∀ i, i < j * 3 → F'[i]? = some ((k + i : Nat) : Int)) (fun _ iv _ => n - (intOf iv).toNat)
  case atStart => exact ⟨0, F, Nat.zero_le _, rfl, rfl, H0.out, Below.refl _ _, fun i hi => absurd hi (by omega)⟩
  case round =>
    obtain ⟨j, F', hj, rfl, rfl, hs, hb, hrow⟩ := hrel
    have HS : Hid (LinIn lo wr a n c F') := hs
    have HB : Hid (Below lo w wr) := hb
    have HROW : Hid (∀ i, i < j * 3 → F'[i]? = some ((k + i : Nat) : Int)) := hrow
    clear hrow hb
    by_cases hlt : j < n
    · have hltI : (j : Int) < (n : Int) := by omega
      obtain ⟨g, x, y, z, rfl, hg0, hg1, hr1, hm1, _, c0, c1, c2, f0⟩ := hs.cell hlt
      unfold maxLen at hm1
      obtain ⟨K, hK⟩ : ∃ K, K = k + 3 * j := ⟨_, rfl⟩
      have HK : Hid (K = k + 3 * j) := hK
      have HG : Hid (lo ≤ g) := hg0
      have hK2 : K + 3 ≤ 1000000000 := by omega
      rw [← hK]
      clear hs hK hg0
      go_wp2
      go_roundw
      case rel =>
        have t0 := (HS.out.1.stored (j * 3) (.int .i64 (K : Int))).1
        have t1 := (t0.stored (j * 3 + 1) (.int .i64 ((K + 1 : Nat) : Int))).1
        have t2 := (t1.stored (j * 3 + 2) (.int .i64 ((K + 2 : Nat) : Int))).1
        have hl := HS.out.2
        refine ⟨j + 1, ((F'.set (j * 3) (K : Int)).set (j * 3 + 1) ((K + 1 : Nat) : Int)).set (j * 3 + 2) ((K + 2 : Nat) : Int), by omega, by go_num, by have := HK.out; go_num, ⟨?_, by rw [List.length_set, List.length_set, List.length_set]; exact hl⟩, ((HB.out.setCell (p := ⟨g, j * 3, none⟩) HG.out _).setCell (p := ⟨g, j * 3 + 1, none⟩) HG.out _).setCell (p := ⟨g, j * 3 + 2, none⟩) HG.out _, ?_⟩
        · rw [List.map_set, List.map_set, List.map_set]
          exact t2
        · intro i hi
          have hKK := HK.out
          by_cases e2 : j * 3 + 2 = i
          · subst e2
            rw [List.getElem?_set_self (by rw [List.length_set, List.length_set]; omega)]
            congr 2
            omega
          · rw [List.getElem?_set_ne e2]
            by_cases e1 : j * 3 + 1 = i
            · subst e1
              rw [List.getElem?_set_self (by rw [List.length_set]; omega)]
              congr 2
              omega
            · rw [List.getElem?_set_ne e1]
              by_cases e0 : j * 3 = i
              · subst e0
                rw [List.getElem?_set_self (by omega)]
                congr 2
                omega
              · rw [List.getElem?_set_ne e0]
                exact HROW.out i (by omega)
      case measure => simp [intOf]; omega
    · have hltI : ¬ (j : Int) < (n : Int) := by omega
      have hjn : j = n := by omega
      have HE : Hid (F' = markF k (n * 3)) := by
        show F' = markF k (n * 3)
        apply List.ext_getElem?
        intro i
        by_cases hi : i < n * 3
        · rw [HROW.out i (by omega), markF_at hi]
        · rw [List.getElem?_eq_none (by rw [hs.2]; omega), List.getElem?_eq_none (by rw [markF_len]; omega)]
      clear hs
      subst hjn
      go_wp2
      go_ret
      exact ⟨by first | rfl | simp, by rw [← HE.out]; exact HS.out, HB.out⟩

set_option maxRecDepth 100000 in
set_option maxHeartbeats 2000000 in
theorem heldLines_any (lo : Nat) (a : Option Addr) (n c k : Nat) (w : World) (h : LinIn lo w a n c (markF k (n * 3))) (hn : k + 3 * n ≤ 1000000000) :
    Calls Tryd.prog 17 #[.slice a n c, .int .i64 k] w fun e w' => e = .returned (.int .i64 ((k + 3 * n : Nat) : Int)) ∧ Below w.heap.size w w' := by
  have H0 : Hid (LinIn lo w a n c (markF k (n * 3))) := h
  clear h
  go_enter Tryd.func17, Tryd.ntmps17
  go_wp2
  go_loopw [1, 5] (fun kv iv wr => ∃ j : Nat, j ≤ n ∧ iv = .int .i64 j ∧ kv = .int .i64 ((k + 3 * j : Nat) : Int) ∧ Below w.heap.size w wr) (fun _ iv _ => n - (intOf iv).toNat)
  case atStart => exact ⟨0, Nat.zero_le _, rfl, rfl, Below.refl _ _⟩
  case round =>
    obtain ⟨j, hj, rfl, rfl, hb⟩ := hrel
    have HB : Hid (Below w.heap.size w wr) := hb
    by_cases hlt : j < n
    · have hltI : (j : Int) < (n : Int) := by omega
      obtain ⟨g, x, y, z, rfl, hg0, hg1, hr1, hm1, ⟨f0, f1, f2⟩, c0, c1, c2, _⟩ := (H0.out.below hb).cell hlt
      unfold maxLen at hm1
      rw [markF_at (by omega)] at f0 f1 f2
      cases f0
      cases f1
      cases f2
      obtain ⟨K, hK⟩ : ∃ K, K = k + 3 * j := ⟨_, rfl⟩
      have HK : Hid (K = k + 3 * j) := hK
      have hK2 : K + 3 ≤ 1000000000 := by omega
      rw [show k + j * 3 = K by omega] at c0
      rw [show k + (j * 3 + 1) = K + 1 by omega] at c1
      rw [show k + (j * 3 + 2) = K + 2 by omega] at c2
      rw [← hK]
      clear hK hg0 hb
      go_wp2
      go_roundw
      case rel => exact ⟨j + 1, by omega, by go_num, by have := HK.out; go_num, HB.out⟩
      case measure => simp [intOf]; omega
    · have hltI : ¬ (j : Int) < (n : Int) := by omega
      have hjn : j = n := by omega
      subst hjn
      go_wp2
      go_ret
      exact ⟨by first | rfl | simp, HB.out⟩
end Go.Proofs.YtoegpdinokjbmaaDoor
