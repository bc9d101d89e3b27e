/-
  Pieces of TreeOk of both sides, by walks of their Go text.
-/
import Derived.Deep.LoopGhost
import Derived.Deep.CutBlock
import Derived.Test.YtapjkbpfhmbfaaaGreatDoorSo25
import Derived.Test.YtapjkbpfhmbfaaaGreatDoorSo26
import Derived.Test.YtapjkbpfhmbfaaaGreatDoorSo03
namespace Go.Proofs.YtapjkbpfhmbfaaaGreatDoor
open Go.RowKit
set_option maxRecDepth 100000
set_option maxHeartbeats 3200000
theorem specWithin (a : Option Addr) (n c : Nat) (M : List EntD) (q : Int) (w : World) (h : EntsAt w a n c M) :
    Calls Tryz.prog 75 #[.slice a n c, .int .i64 q] w fun e w' => e = .returned (.bool (withinB M q)) ∧ w' = w := by
  have hr := h.room
  have hbg := h.big
  unfold maxLen at hbg
  have HLN : Hid (M.length = n) := h.length
  have H : Hid (EntsAt w a n c M) := h
  clear h
  go_enter Tryz.func75, Tryz.ntmps75
  go_wp2
  go_loopw [5] (fun i wr => ∃ k : Nat, k ≤ n ∧ i = .int .i64 k ∧ wr = w ∧ withinB (M.take k) q = true) (fun i _ => n - (intOf i).toNat)
  case atStart => exact ⟨0, Nat.zero_le _, rfl, rfl, by simp [withinB]⟩
  case round =>
    obtain ⟨k, hk, rfl, rfl, hw⟩ := hrel
    have HW : Hid (withinB (M.take k) q = true) := hw
    clear hw
    by_cases hlt : k < n
    · have hltI : (k : Int) < (n : Int) := by omega
      obtain ⟨b, off, rfl, hbb⟩ := H.out.form (by omega)
      obtain ⟨s, qe, d, t, nn, hg, _, g0, g1, g2, g3, g4⟩ := H.out.ent (Below.refl _ wr) hbb k hlt
      have HG : Hid (M[k]? = some (s, qe, d, t, nn)) := hg
      clear hg
      by_cases hq : q < qe
      · go_wp2
        go_ret
        exact ⟨ret_bool (within_no HG.out (by simp only; omega)).symm, rfl⟩
      · go_wp2
        go_roundw
        case rel => exact ⟨k + 1, by omega, by go_num, by first | rfl | trivial, within_snoc HW.out HG.out (by simp only; omega)⟩
        case measure => simp [intOf]; omega
    · go_wp2
      go_ret
      have hall := HW.out
      rw [List.take_of_length_le (by rw [HLN.out]; omega)] at hall
      exact ⟨ret_bool hall.symm, rfl⟩
theorem implSnaps (lo : Nat) (a : Option Addr) (n c : Nat) (S : List Int) (q : Int) (w : World) (h : IntsIn lo w a n c S) :
    Calls Tryz.prog 141 #[.slice a n c, .int .i64 q] w fun e w' => e = .returned (.bool (snapsB S q)) ∧ w' = w := by
  have hr := h.room
  have hbg := h.big
  unfold maxLen at hbg
  have HLN : Hid (S.length = n) := h.length
  have H : Hid (IntsIn lo w a n c S) := h
  clear h
  by_cases hm : 4 < n
  · go_enter Tryz.func141, Tryz.ntmps141
    go_wp2
    go_ret
    exact ⟨ret_bool (snaps_many (by rw [HLN.out]; exact hm)).symm, rfl⟩
  go_enter Tryz.func141, Tryz.ntmps141
  go_wp2
  go_loopw [12] (fun i wr => ∃ k : Nat, k ≤ n ∧ i = .int .i64 k ∧ wr = w ∧ SnapsTo S q k) (fun i _ => n - (intOf i).toNat)
  case atStart => exact ⟨0, Nat.zero_le _, rfl, rfl, fun j hj => absurd hj (Nat.not_lt_zero _)⟩
  case round =>
    obtain ⟨k, hk, rfl, rfl, hw⟩ := hrel
    have HW : Hid (SnapsTo S q k) := hw
    clear hw
    by_cases hlt : k < n
    · have hltI : (k : Int) < (n : Int) := by omega
      have hkl : k < S.length := by rw [HLN.out]; exact hlt
      have HKL : Hid (k < S.length) := hkl
      clear hkl
      obtain ⟨b, off, rfl, hbb⟩ := H.out.form (by omega)
      obtain ⟨s, hg, _, g0⟩ := H.out.num (Below.refl _ wr) k hlt
      have HG : Hid (S[k]? = some s) := hg
      clear hg
      by_cases hs0 : s < 0
      · go_wp2
        go_ret
        exact ⟨ret_bool (snaps_no HKL.out (snap_low HG.out hs0)).symm, rfl⟩
      by_cases hsq : q < s
      · go_wp2
        go_ret
        exact ⟨ret_bool (snaps_no HKL.out (snap_high HG.out hsq)).symm, rfl⟩
      by_cases hk0 : k = 0
      · subst hk0
        simp only [Nat.add_zero] at g0
        have HN : Hid (snapAt S q 0 = true) := by show snapAt S q 0 = true; rw [snap_zero HG.out, decide_eq_true (show 0 ≤ s by omega), decide_eq_true (show s ≤ q by omega)]; rfl
        go_wp2
        go_roundw
        case rel => exact ⟨0 + 1, by omega, by go_num, by first | rfl | trivial, snaps_snoc HW.out HN.out⟩
        case measure => simp [intOf]; omega
      · have hkp : (0 : Int) < (k : Int) := by omega
        have hj1 : (0 : Int) ≤ (k : Int) - 1 := by omega
        have hj2 : (k : Int) - 1 < (n : Int) := by omega
        have hjt : ((k : Int) - 1).toNat = k - 1 := by omega
        have wj : IntKind.i64.wrap ((k : Int) - 1) = (k : Int) - 1 := by rw [IntWalk.i64_left]; unfold wrap64; omega
        obtain ⟨p, hp, _, e0⟩ := H.out.num (Below.refl _ wr) (k - 1) (by omega)
        obtain ⟨j, rfl⟩ : ∃ j, k = j + 1 := ⟨k - 1, by omega⟩
        simp only [Nat.add_sub_cancel] at hp e0 hjt
        have HSU := snap_succ (q := q) HG.out hp
        have HSU' : Hid (snapAt S q (j + 1) = (decide (0 ≤ s) && (decide (s ≤ q) && decide (p < s)))) := HSU
        clear hp HSU
        by_cases hps : p < s
        · have HN : Hid (snapAt S q (j + 1) = true) := by show snapAt S q (j + 1) = true; rw [HSU'.out, decide_eq_true (show 0 ≤ s by omega), decide_eq_true (show s ≤ q by omega), decide_eq_true hps]; rfl
          go_wp2
          go_roundw
          case rel => exact ⟨j + 1 + 1, by omega, by go_num, by first | rfl | trivial, snaps_snoc HW.out HN.out⟩
          case measure => simp [intOf]; omega
        · have HN : Hid (snapAt S q (j + 1) = false) := by show snapAt S q (j + 1) = false; rw [HSU'.out, decide_eq_false hps]; simp
          go_wp2
          go_ret
          exact ⟨ret_bool (snaps_no HKL.out HN.out).symm, rfl⟩
    · go_wp2
      go_ret
      refine ⟨ret_bool ?_, rfl⟩
      have hkn : k = S.length := by rw [HLN.out]; omega
      have hw := HW.out
      rw [hkn] at hw
      rw [snaps_all hw, decide_eq_true (by rw [HLN.out]; omega)]
theorem specLow (m : Int) (b off n c : Nat) (L : List EntD) (w : World) (h : EntsAt w (some ⟨b, off, none⟩) n c L) (e : EntD) (h0 : L[0]? = some e) :
    Calls Tryz.prog 132 #[.agg #[.slice (some ⟨b, off, none⟩) n c, .int .i64 m]] w fun r w' => r = .returned (.string e.1) ∧ Below w.heap.size w w' := by
  have hl := (List.getElem?_eq_some_iff.1 h0).1
  rw [h.length] at hl
  have hnI : (0 : Int) < (n : Int) := by omega
  have kW : Below w.heap.size w (w.alloc (.cells #[.slice (some ⟨b, off, none⟩) n c, .int .i64 m] 135)) := (Below.refl _ _).alloc (Nat.le_refl _) _
  have hbb := (h.lies _ rfl hl).1
  simp only at hbb
  obtain ⟨s, q, d, t, nn, hg, _, g0, _⟩ := h.ent (Below.refl _ w) hbb 0 hl
  rw [h0] at hg
  cases hg
  simp only [Nat.zero_mul, Nat.add_zero] at g0
  clear h h0
  go_enter Tryz.func132, Tryz.ntmps132
  go_wp2
  go_ret
  exact ⟨rfl, kW⟩
theorem specHigh (m : Int) (b off n c : Nat) (L : List EntD) (w : World) (h : EntsAt w (some ⟨b, off, none⟩) n c L) (e : EntD) (h0 : L[n - 1]? = some e) (hn : 1 ≤ n) :
    Calls Tryz.prog 131 #[.agg #[.slice (some ⟨b, off, none⟩) n c, .int .i64 m]] w fun r w' => r = .returned (.string e.1) ∧ Below w.heap.size w w' := by
  have hr := h.room
  have hbg := h.big
  unfold maxLen at hbg
  have hj1 : (0 : Int) ≤ (n : Int) - 1 := by omega
  have hj2 : (n : Int) - 1 < (n : Int) := by omega
  have hjt : ((n : Int) - 1).toNat = n - 1 := by omega
  have wj : IntKind.i64.wrap ((n : Int) - 1) = (n : Int) - 1 := by rw [IntWalk.i64_left]; unfold wrap64; omega
  have kW : Below w.heap.size w (w.alloc (.cells #[.slice (some ⟨b, off, none⟩) n c, .int .i64 m] 135)) := (Below.refl _ _).alloc (Nat.le_refl _) _
  have hbb := (h.lies _ rfl (by omega)).1
  simp only at hbb
  obtain ⟨s, q, d, t, nn, hg, _, g0, _⟩ := h.ent (Below.refl _ w) hbb (n - 1) (by omega)
  rw [h0] at hg
  cases hg
  clear h h0
  go_enter Tryz.func131, Tryz.ntmps131
  go_wp2
  go_ret
  exact ⟨rfl, kW⟩
theorem implNoRun (m : Int) (a : Option Addr) (n c : Nat) (L : List EntD) (w : World) (h : EntsAt w a n c L) :
    Calls Tryz.prog 193 #[.agg #[.slice a n c, .int .i64 m]] w fun r w' => r = .returned (.bool (!runB L m)) ∧ Below w.heap.size w w' := by
  have kW : Below w.heap.size w (w.alloc (.cells #[.slice a n c, .int .i64 m] 135)) := (Below.refl _ _).alloc (Nat.le_refl _) _
  go_enter Tryz.func193, Tryz.ntmps193
  go_wp2_with fail
  refine (implRunOk _ _ _ L m _ (h.keep kW)).mono ?_
  rintro e w1 ⟨rfl, hb1⟩
  go_wp2
  go_ret
  exact ⟨rfl, kW.trans (hb1.mono kW.size)⟩
theorem specSnaps (q : Int) (lo : Nat) (v0 v1 : Value) (a : Option Addr) (n c : Nat) (S : List Int) (w : World) (h : IntsIn lo w a n c S) :
    Calls Tryz.prog 76 #[.agg #[.int .i64 q, v0, v1, .slice a n c]] w fun e w' => e = .returned (.bool (snapsB S q)) ∧ Below w.heap.size w w' := by
  have hr := h.room
  have hbg := h.big
  unfold maxLen at hbg
  have HLN : Hid (S.length = n) := h.length
  obtain ⟨X, hX⟩ : ∃ X, X = w.heap.size := ⟨_, rfl⟩
  obtain ⟨W, hW⟩ : ∃ W, W = w.alloc (.cells #[.int .i64 q, v0, v1, .slice a n c] 36) := ⟨_, rfl⟩
  have kW : Below w.heap.size w W := by rw [hW]; exact (Below.refl _ _).alloc (Nat.le_refl _) _
  have x0 : W.cell? ⟨X, 0, none⟩ = some (.int .i64 q) := by rw [hW, hX]; simp
  have x3 : W.cell? ⟨X, 3, none⟩ = some (.slice a n c) := by rw [hW, hX]; simp
  have H : Hid (IntsIn lo W a n c S) := h.keep kW
  have KW : Hid (Below w.heap.size w W) := kW
  have zx := World.block_lt_of_cell? _ _ x0
  simp only at zx
  have HP : Hid (∀ e w', (e = Ending.returned (.bool (snapsB S q)) ∧ Below W.heap.size W w') → e = Ending.returned (.bool (snapsB S q)) ∧ Below w.heap.size w w') := fun e w' hh => ⟨hh.1, KW.out.trans (hh.2.mono KW.out.size)⟩
  clear h kW
  go_enter Tryz.func76, Tryz.ntmps76
  go_upto_block 0 with fail
  rw [← hX, ← hW]
  clear hX hW
  go_wp2
  go_loopw [3] (fun i wr => ∃ k : Nat, k ≤ n ∧ i = .int .i64 k ∧ Below W.heap.size W wr ∧ SnapsTo S q k) (fun i _ => n - (intOf i).toNat)
  case atStart => exact ⟨0, Nat.zero_le _, rfl, Below.refl _ _, fun j hj => absurd hj (Nat.not_lt_zero _)⟩
  case round =>
    obtain ⟨k, hk, rfl, hb, hw⟩ := hrel
    have HW : Hid (SnapsTo S q k) := hw
    have HB : Hid (Below W.heap.size W wr) := hb
    have y0 := cell_later hb x0
    have y3 := cell_later hb x3
    have zy := World.block_lt_of_cell? _ _ y0
    simp only at zy
    clear hw
    by_cases hlt : k < n
    · have hltI : (k : Int) < (n : Int) := by omega
      have hkl : k < S.length := by rw [HLN.out]; exact hlt
      have HKL : Hid (k < S.length) := hkl
      clear hkl
      obtain ⟨b, off, rfl, hbb⟩ := H.out.form (by omega)
      obtain ⟨s, hg, _, g0⟩ := H.out.num hb k hlt
      have HG : Hid (S[k]? = some s) := hg
      have zb := Nat.lt_of_lt_of_le hbb hb.size
      have k0 : Below wr.heap.size wr wr.drew := (Below.refl _ wr).drew
      have HMK : Hid (∀ w', Below wr.heap.size wr w' → (w'.cell? ⟨X, 0, none⟩ = some (.int .i64 q) ∧ w'.cell? ⟨X, 3, none⟩ = some (.slice (some ⟨b, off, none⟩) n c) ∧ X < w'.heap.size ∧ w'.cell? ⟨b, off + k, none⟩ = some (.int .i64 s) ∧ b < w'.heap.size)) := fun w' kk => ⟨cell_later kk y0, cell_later kk y3, Nat.lt_of_lt_of_le zy kk.size, cell_later kk g0, Nat.lt_of_lt_of_le zb kk.size⟩
      have KZ : Hid (Below W.heap.size W wr.drew) := HB.out.trans (k0.mono HB.out.size)
      clear hg hb
      by_cases hs0 : s < 0
      · have hs0d : decide (s < 0) = true := decide_eq_true hs0
        go_wp2_with fail
        refine wp_region_held_drew (S := (fun w' => w'.cell? ⟨X, 0, none⟩ = some (.int .i64 q) ∧ w'.cell? ⟨X, 3, none⟩ = some (.slice (some ⟨b, off, none⟩) n c) ∧ X < w'.heap.size ∧ w'.cell? ⟨b, off + k, none⟩ = some (.int .i64 s) ∧ b < w'.heap.size)) (by kernel_rfl) (HMK.out _ k0) (fun hHeld => ?_)
        refine tkL 0 hHeld ?_; try go_frame
        refine tkL 1 hHeld ?_; try go_frame
        refine tkL 2 hHeld ?_; try go_frame
        refine tkL 3 hHeld ?_; try go_frame
        refine tkL 4 hHeld ?_; try go_frame
        refine tkL 5 hHeld ?_; try go_frame
        refine tkL 6 hHeld ?_; try go_frame
        refine tkN 7 hHeld ?_; try go_frame
        refine tkN 8 hHeld ?_; try go_frame
        refine tkN 9 hHeld ?_; try go_frame
        refine tkN 10 hHeld ?_; try go_frame
        refine tkN 11 hHeld ?_; try go_frame
        refine tkN 12 hHeld ?_; try go_frame
        refine tkN 13 hHeld ?_; try go_frame
        refine tkN 14 hHeld ?_; try go_frame
        refine tkL 15 hHeld ?_; try go_frame
        refine tkL 16 hHeld ?_; try go_frame
        refine tkN 17 hHeld ?_; try go_frame
        refine tkN 18 hHeld ?_; try go_frame
        refine tkN 19 hHeld ?_; try go_frame
        refine tkN 20 hHeld ?_; try go_frame
        refine tkN 21 hHeld ?_; try go_frame
        refine tkN 22 hHeld ?_; try go_frame
        refine tkN 23 hHeld ?_; try go_frame
        refine tkN 24 hHeld ?_; try go_frame
        refine tkN 25 hHeld ?_; try go_frame
        refine tkN 26 hHeld ?_; try go_frame
        refine tkN 27 hHeld ?_; try go_frame
        refine tkN 28 hHeld ?_; try go_frame
        refine tkN 29 hHeld ?_; try go_frame
        refine tkN 30 hHeld ?_; try go_frame
        refine tkN 31 hHeld ?_; try go_frame
        refine tkN 32 hHeld ?_; try go_frame
        refine tkL 33 hHeld ?_; try go_frame
        refine wpAnyH_done (by kernel_rfl) ?_ _
        clear k0 HMK hHeld
        go_wp2
        go_ret
        exact HP.out _ _ ⟨ret_bool (snaps_no HKL.out (snap_low HG.out hs0)).symm, KZ.out⟩
      have hs0d : decide (s < 0) = false := decide_eq_false hs0
      by_cases hsq : q < s
      · have hsqd : decide (q < s) = true := decide_eq_true hsq
        go_wp2_with fail
        refine wp_region_held_drew (S := (fun w' => w'.cell? ⟨X, 0, none⟩ = some (.int .i64 q) ∧ w'.cell? ⟨X, 3, none⟩ = some (.slice (some ⟨b, off, none⟩) n c) ∧ X < w'.heap.size ∧ w'.cell? ⟨b, off + k, none⟩ = some (.int .i64 s) ∧ b < w'.heap.size)) (by kernel_rfl) (HMK.out _ k0) (fun hHeld => ?_)
        refine tkL 0 hHeld ?_; try go_frame
        refine tkL 1 hHeld ?_; try go_frame
        refine tkL 2 hHeld ?_; try go_frame
        refine tkL 3 hHeld ?_; try go_frame
        refine tkL 4 hHeld ?_; try go_frame
        refine tkL 5 hHeld ?_; try go_frame
        refine tkL 6 hHeld ?_; try go_frame
        refine tkL 7 hHeld ?_; try go_frame
        refine tkL 8 hHeld ?_; try go_frame
        refine tkL 9 hHeld ?_; try go_frame
        refine tkL 10 hHeld ?_; try go_frame
        refine tkL 11 hHeld ?_; try go_frame
        refine tkL 12 hHeld ?_; try go_frame
        refine tkL 13 hHeld ?_; try go_frame
        refine tkL 14 hHeld ?_; try go_frame
        refine tkL 15 hHeld ?_; try go_frame
        refine tkL 16 hHeld ?_; try go_frame
        refine tkN 17 hHeld ?_; try go_frame
        refine tkN 18 hHeld ?_; try go_frame
        refine tkN 19 hHeld ?_; try go_frame
        refine tkN 20 hHeld ?_; try go_frame
        refine tkN 21 hHeld ?_; try go_frame
        refine tkN 22 hHeld ?_; try go_frame
        refine tkN 23 hHeld ?_; try go_frame
        refine tkN 24 hHeld ?_; try go_frame
        refine tkN 25 hHeld ?_; try go_frame
        refine tkN 26 hHeld ?_; try go_frame
        refine tkN 27 hHeld ?_; try go_frame
        refine tkN 28 hHeld ?_; try go_frame
        refine tkN 29 hHeld ?_; try go_frame
        refine tkN 30 hHeld ?_; try go_frame
        refine tkN 31 hHeld ?_; try go_frame
        refine tkN 32 hHeld ?_; try go_frame
        refine tkL 33 hHeld ?_; try go_frame
        refine wpAnyH_done (by kernel_rfl) ?_ _
        clear k0 HMK hHeld
        go_wp2
        go_ret
        exact HP.out _ _ ⟨ret_bool (snaps_no HKL.out (snap_high HG.out hsq)).symm, KZ.out⟩
      have hsqd : decide (q < s) = false := decide_eq_false hsq
      by_cases hk0 : k = 0
      · subst hk0
        simp only [Nat.add_zero] at g0 HMK
        have HN : Hid (snapAt S q 0 = true) := by show snapAt S q 0 = true; rw [snap_zero HG.out, decide_eq_true (show 0 ≤ s by omega), decide_eq_true (show s ≤ q by omega)]; rfl
        go_wp2_with fail
        refine wp_region_held_drew (S := (fun w' => w'.cell? ⟨X, 0, none⟩ = some (.int .i64 q) ∧ w'.cell? ⟨X, 3, none⟩ = some (.slice (some ⟨b, off, none⟩) n c) ∧ X < w'.heap.size ∧ w'.cell? ⟨b, off, none⟩ = some (.int .i64 s) ∧ b < w'.heap.size)) (by kernel_rfl) (HMK.out _ k0) (fun hHeld => ?_)
        refine tkL 0 hHeld ?_; try go_frame
        refine tkL 1 hHeld ?_; try go_frame
        refine tkL 2 hHeld ?_; try go_frame
        refine tkL 3 hHeld ?_; try go_frame
        refine tkL 4 hHeld ?_; try go_frame
        refine tkL 5 hHeld ?_; try go_frame
        refine tkL 6 hHeld ?_; try go_frame
        refine tkL 7 hHeld ?_; try go_frame
        refine tkL 8 hHeld ?_; try go_frame
        refine tkL 9 hHeld ?_; try go_frame
        refine tkL 10 hHeld ?_; try go_frame
        refine tkL 11 hHeld ?_; try go_frame
        refine tkL 12 hHeld ?_; try go_frame
        refine tkL 13 hHeld ?_; try go_frame
        refine tkL 14 hHeld ?_; try go_frame
        refine tkL 15 hHeld ?_; try go_frame
        refine tkL 16 hHeld ?_; try go_frame
        refine tkL 17 hHeld ?_; try go_frame
        refine tkL 18 hHeld ?_; try go_frame
        refine tkL 19 hHeld ?_; try go_frame
        refine tkN 20 hHeld ?_; try go_frame
        refine tkN 21 hHeld ?_; try go_frame
        refine tkN 22 hHeld ?_; try go_frame
        refine tkN 23 hHeld ?_; try go_frame
        refine tkN 24 hHeld ?_; try go_frame
        refine tkN 25 hHeld ?_; try go_frame
        refine tkN 26 hHeld ?_; try go_frame
        refine tkN 27 hHeld ?_; try go_frame
        refine tkN 28 hHeld ?_; try go_frame
        refine tkN 29 hHeld ?_; try go_frame
        refine tkN 30 hHeld ?_; try go_frame
        refine tkN 31 hHeld ?_; try go_frame
        refine tkL 32 hHeld ?_; try go_frame
        refine tkL 33 hHeld ?_; try go_frame
        refine wpAnyH_done (by kernel_rfl) ?_ _
        clear k0 HMK hHeld
        go_wp2
        go_roundw
        case rel => exact ⟨0 + 1, by omega, by go_num, KZ.out, snaps_snoc HW.out HN.out⟩
        case measure => simp [intOf]; omega
      · have hkp : (0 : Int) < (k : Int) := by omega
        have hkpN : 0 < k := by omega
        have hkpM : decide (0 < k) = true := decide_eq_true hkpN
        have hj1 : (0 : Int) ≤ (k : Int) - 1 := by omega
        have hj2 : (k : Int) - 1 < (n : Int) := by omega
        have hj3 : (1 : Int) ≤ (k : Int) := by omega
        have hjt : ((k : Int) - 1).toNat = k - 1 := by omega
        have wj : IntKind.i64.wrap ((k : Int) - 1) = (k : Int) - 1 := by rw [IntWalk.i64_left]; unfold wrap64; omega
        obtain ⟨p, hp, _, e0⟩ := H.out.num HB.out (k - 1) (by omega)
        have HM2 : Hid (∀ w', Below wr.heap.size wr w' → (w'.cell? ⟨X, 0, none⟩ = some (.int .i64 q) ∧ w'.cell? ⟨X, 3, none⟩ = some (.slice (some ⟨b, off, none⟩) n c) ∧ X < w'.heap.size ∧ w'.cell? ⟨b, off + k, none⟩ = some (.int .i64 s) ∧ b < w'.heap.size ∧ w'.cell? ⟨b, off + (k - 1), none⟩ = some (.int .i64 p))) := fun w' kk => ⟨cell_later kk y0, cell_later kk y3, Nat.lt_of_lt_of_le zy kk.size, cell_later kk g0, Nat.lt_of_lt_of_le zb kk.size, cell_later kk e0⟩
        have HSU : Hid (snapAt S q k = (decide (0 ≤ s) && (decide (s ≤ q) && decide (p < s)))) := by
          obtain ⟨j, rfl⟩ : ∃ j, k = j + 1 := ⟨k - 1, by omega⟩
          exact snap_succ HG.out hp
        clear hp HMK
        by_cases hps : p < s
        · have HN : Hid (snapAt S q k = true) := by show snapAt S q k = true; rw [HSU.out, decide_eq_true (show 0 ≤ s by omega), decide_eq_true (show s ≤ q by omega), decide_eq_true hps]; rfl
          have hps' : ¬ s ≤ p := by omega
          have hpsd : decide (s ≤ p) = false := decide_eq_false hps'
          go_wp2_with fail
          refine wp_region_held_drew (S := (fun w' => w'.cell? ⟨X, 0, none⟩ = some (.int .i64 q) ∧ w'.cell? ⟨X, 3, none⟩ = some (.slice (some ⟨b, off, none⟩) n c) ∧ X < w'.heap.size ∧ w'.cell? ⟨b, off + k, none⟩ = some (.int .i64 s) ∧ b < w'.heap.size ∧ w'.cell? ⟨b, off + (k - 1), none⟩ = some (.int .i64 p))) (by kernel_rfl) (HM2.out _ k0) (fun hHeld => ?_)
          refine tkL 0 hHeld ?_; try go_frame
          refine tkL 1 hHeld ?_; try go_frame
          refine tkL 2 hHeld ?_; try go_frame
          refine tkL 3 hHeld ?_; try go_frame
          refine tkL 4 hHeld ?_; try go_frame
          refine tkL 5 hHeld ?_; try go_frame
          refine tkL 6 hHeld ?_; try go_frame
          refine tkL 7 hHeld ?_; try go_frame
          refine tkL 8 hHeld ?_; try go_frame
          refine tkL 9 hHeld ?_; try go_frame
          refine tkL 10 hHeld ?_; try go_frame
          refine tkL 11 hHeld ?_; try go_frame
          refine tkL 12 hHeld ?_; try go_frame
          refine tkL 13 hHeld ?_; try go_frame
          refine tkL 14 hHeld ?_; try go_frame
          refine tkL 15 hHeld ?_; try go_frame
          refine tkL 16 hHeld ?_; try go_frame
          refine tkL 17 hHeld ?_; try go_frame
          refine tkL 18 hHeld ?_; try go_frame
          refine tkL 19 hHeld ?_; try go_frame
          refine tkL 20 hHeld ?_; try go_frame
          refine tkL 21 hHeld ?_; try go_frame
          refine tkL 22 hHeld ?_; try go_frame
          refine tkL 23 hHeld ?_; try go_frame
          refine tkL 24 hHeld ?_; try go_frame
          refine tkL 25 hHeld ?_; try go_frame
          refine tkL 26 hHeld ?_; try go_frame
          refine tkL 27 hHeld ?_; try go_frame
          refine tkL 28 hHeld ?_; try go_frame
          refine tkL 29 hHeld ?_; try go_frame
          refine tkL 30 hHeld ?_; try go_frame
          refine tkL 31 hHeld ?_; try go_frame
          refine tkL 32 hHeld ?_; try go_frame
          refine tkL 33 hHeld ?_; try go_frame
          refine wpAnyH_done (by kernel_rfl) ?_ _
          clear k0 HM2 hHeld
          go_wp2
          go_roundw
          case rel => exact ⟨k + 1, by omega, by go_num, KZ.out, snaps_snoc HW.out HN.out⟩
          case measure => simp [intOf]; omega
        · have HN : Hid (snapAt S q k = false) := by show snapAt S q k = false; rw [HSU.out, decide_eq_false hps]; simp
          have hps' : s ≤ p := by omega
          have hpsd : decide (s ≤ p) = true := decide_eq_true hps'
          go_wp2_with fail
          refine wp_region_held_drew (S := (fun w' => w'.cell? ⟨X, 0, none⟩ = some (.int .i64 q) ∧ w'.cell? ⟨X, 3, none⟩ = some (.slice (some ⟨b, off, none⟩) n c) ∧ X < w'.heap.size ∧ w'.cell? ⟨b, off + k, none⟩ = some (.int .i64 s) ∧ b < w'.heap.size ∧ w'.cell? ⟨b, off + (k - 1), none⟩ = some (.int .i64 p))) (by kernel_rfl) (HM2.out _ k0) (fun hHeld => ?_)
          refine tkL 0 hHeld ?_; try go_frame
          refine tkL 1 hHeld ?_; try go_frame
          refine tkL 2 hHeld ?_; try go_frame
          refine tkL 3 hHeld ?_; try go_frame
          refine tkL 4 hHeld ?_; try go_frame
          refine tkL 5 hHeld ?_; try go_frame
          refine tkL 6 hHeld ?_; try go_frame
          refine tkL 7 hHeld ?_; try go_frame
          refine tkL 8 hHeld ?_; try go_frame
          refine tkL 9 hHeld ?_; try go_frame
          refine tkL 10 hHeld ?_; try go_frame
          refine tkL 11 hHeld ?_; try go_frame
          refine tkL 12 hHeld ?_; try go_frame
          refine tkL 13 hHeld ?_; try go_frame
          refine tkL 14 hHeld ?_; try go_frame
          refine tkL 15 hHeld ?_; try go_frame
          refine tkL 16 hHeld ?_; try go_frame
          refine tkL 17 hHeld ?_; try go_frame
          refine tkL 18 hHeld ?_; try go_frame
          refine tkL 19 hHeld ?_; try go_frame
          refine tkL 20 hHeld ?_; try go_frame
          refine tkL 21 hHeld ?_; try go_frame
          refine tkL 22 hHeld ?_; try go_frame
          refine tkL 23 hHeld ?_; try go_frame
          refine tkL 24 hHeld ?_; try go_frame
          refine tkL 25 hHeld ?_; try go_frame
          refine tkL 26 hHeld ?_; try go_frame
          refine tkL 27 hHeld ?_; try go_frame
          refine tkL 28 hHeld ?_; try go_frame
          refine tkL 29 hHeld ?_; try go_frame
          refine tkL 30 hHeld ?_; try go_frame
          refine tkL 31 hHeld ?_; try go_frame
          refine tkL 32 hHeld ?_; try go_frame
          refine tkL 33 hHeld ?_; try go_frame
          refine wpAnyH_done (by kernel_rfl) ?_ _
          clear k0 HM2 hHeld
          go_wp2
          go_ret
          exact HP.out _ _ ⟨ret_bool (snaps_no HKL.out HN.out).symm, KZ.out⟩
    · have hltI : ¬ (k : Int) < (n : Int) := by omega
      have hres : snapsB S q = decide ((n : Int) ≤ 4) := by
        have hkn : k = S.length := by rw [HLN.out]; omega
        have hw := HW.out
        rw [hkn] at hw
        rw [snaps_all hw, HLN.out]
        by_cases h4 : n ≤ 4
        · rw [decide_eq_true h4, decide_eq_true (by omega)]
        · rw [decide_eq_false h4, decide_eq_false (by omega)]
      have HRS : Hid (snapsB S q = decide ((n : Int) ≤ 4)) := hres
      clear hres
      go_wp2
      go_ret
      exact HP.out _ _ ⟨ret_bool HRS.out.symm, HB.out⟩
end Go.Proofs.YtapjkbpfhmbfaaaGreatDoor
