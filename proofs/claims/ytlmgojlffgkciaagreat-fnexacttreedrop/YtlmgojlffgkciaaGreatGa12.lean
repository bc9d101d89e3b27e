/-
  Pieces of TreeOk of both sides, by walks of their Go text.
  Pieces of TreeOk of both sides: what is newer, by walks of their Go text.
-/
import Derived.Deep.LoopGhost
import Derived.Deep.CutBlock
import Derived.Test.YtlmgojlffgkciaaGreatGa09
import Derived.Test.YtlmgojlffgkciaaGreatGa11
import Derived.Test.YtlmgojlffgkciaaGreatGa01
namespace Go.Proofs.YtlmgojlffgkciaaGreat
open Go.RowKit
set_option maxRecDepth 100000
set_option maxHeartbeats 3200000
theorem specWithin (a : Option Addr) (n c : Nat) (M : List EntD) (q : Int) (w : World) (h : EntsAt w a n c M) :
    Calls Tryz.prog 73 #[.slice a n c, .int .i64 q] w fun e w' => e = .returned (.bool (withinB M q)) ∧ w' = w := by
  have hr := h.room
  have hbg := h.big
  unfold maxLen at hbg
  have HLN : Hid (M.length = n) := h.length
  have H : Hid (EntsAt w a n c M) := h
  clear h
  go_enter Tryz.func73, Tryz.ntmps73
  go_wp2
  go_loopw [5] (fun i wr => ∃ k : Nat, k ≤ n ∧ i = .int .i64 k ∧ wr = w ∧ withinB (M.take k) q = true) (fun i _ => n - (intOf i).toNat)
  case atStart => exact ⟨0, Nat.zero_le _, rfl, rfl, by simp [withinB]⟩
  case round =>
    obtain ⟨k, hk, rfl, rfl, hw⟩ := hrel
    have HW : Hid (withinB (M.take k) q = true) := hw
    clear hw
    by_cases hlt : k < n
    · have hltI : (k : Int) < (n : Int) := by omega
      obtain ⟨b, off, rfl, hbb⟩ := H.out.form (by omega)
      obtain ⟨s, qe, d, t, nn, hg, _, g0, g1, g2, g3, g4⟩ := H.out.ent (Below.refl _ wr) hbb k hlt
      have HG : Hid (M[k]? = some (s, qe, d, t, nn)) := hg
      clear hg
      by_cases hq : q < qe
      · go_wp2
        go_ret
        exact ⟨ret_bool (within_no HG.out (by simp only; omega)).symm, rfl⟩
      · go_wp2
        go_roundw
        case rel => exact ⟨k + 1, by omega, by go_num, by first | rfl | trivial, within_snoc HW.out HG.out (by simp only; omega)⟩
        case measure => simp [intOf]; omega
    · go_wp2
      go_ret
      have hall := HW.out
      rw [List.take_of_length_le (by rw [HLN.out]; omega)] at hall
      exact ⟨ret_bool hall.symm, rfl⟩
theorem implSnaps (lo : Nat) (a : Option Addr) (n c : Nat) (S : List Int) (q : Int) (w : World) (h : IntsIn lo w a n c S) :
    Calls Tryz.prog 126 #[.slice a n c, .int .i64 q] w fun e w' => e = .returned (.bool (snapsB S q)) ∧ w' = w := by
  have hr := h.room
  have hbg := h.big
  unfold maxLen at hbg
  have HLN : Hid (S.length = n) := h.length
  have H : Hid (IntsIn lo w a n c S) := h
  clear h
  by_cases hm : 4 < n
  · go_enter Tryz.func126, Tryz.ntmps126
    go_wp2
    go_ret
    exact ⟨ret_bool (snaps_many (by rw [HLN.out]; exact hm)).symm, rfl⟩
  go_enter Tryz.func126, Tryz.ntmps126
  go_wp2
  go_loopw [12] (fun i wr => ∃ k : Nat, k ≤ n ∧ i = .int .i64 k ∧ wr = w ∧ SnapsTo S q k) (fun i _ => n - (intOf i).toNat)
  case atStart => exact ⟨0, Nat.zero_le _, rfl, rfl, fun j hj => absurd hj (Nat.not_lt_zero _)⟩
  case round =>
    obtain ⟨k, hk, rfl, rfl, hw⟩ := hrel
    have HW : Hid (SnapsTo S q k) := hw
    clear hw
    by_cases hlt : k < n
    · have hltI : (k : Int) < (n : Int) := by omega
      have hkl : k < S.length := by rw [HLN.out]; exact hlt
      have HKL : Hid (k < S.length) := hkl
      clear hkl
      obtain ⟨b, off, rfl, hbb⟩ := H.out.form (by omega)
      obtain ⟨s, hg, _, g0⟩ := H.out.num (Below.refl _ wr) k hlt
      have HG : Hid (S[k]? = some s) := hg
      clear hg
      by_cases hs0 : s < 0
      · go_wp2
        go_ret
        exact ⟨ret_bool (snaps_no HKL.out (snap_low HG.out hs0)).symm, rfl⟩
      by_cases hsq : q < s
      · go_wp2
        go_ret
        exact ⟨ret_bool (snaps_no HKL.out (snap_high HG.out hsq)).symm, rfl⟩
      by_cases hk0 : k = 0
      · subst hk0
        simp only [Nat.add_zero] at g0
        have HN : Hid (snapAt S q 0 = true) := by show snapAt S q 0 = true; rw [snap_zero HG.out, decide_eq_true (show 0 ≤ s by omega), decide_eq_true (show s ≤ q by omega)]; rfl
        go_wp2
        go_roundw
        case rel => exact ⟨0 + 1, by omega, by go_num, by first | rfl | trivial, snaps_snoc HW.out HN.out⟩
        case measure => simp [intOf]; omega
      · have hkp : (0 : Int) < (k : Int) := by omega
        have hj1 : (0 : Int) ≤ (k : Int) - 1 := by omega
        have hj2 : (k : Int) - 1 < (n : Int) := by omega
        have hjt : ((k : Int) - 1).toNat = k - 1 := by omega
        have wj : IntKind.i64.wrap ((k : Int) - 1) = (k : Int) - 1 := by rw [IntWalk.i64_left]; unfold wrap64; omega
        obtain ⟨p, hp, _, e0⟩ := H.out.num (Below.refl _ wr) (k - 1) (by omega)
        obtain ⟨j, rfl⟩ : ∃ j, k = j + 1 := ⟨k - 1, by omega⟩
        simp only [Nat.add_sub_cancel] at hp e0 hjt
        have HSU := snap_succ (q := q) HG.out hp
        have HSU' : Hid (snapAt S q (j + 1) = (decide (0 ≤ s) && (decide (s ≤ q) && decide (p < s)))) := HSU
        clear hp HSU
        by_cases hps : p < s
        · have HN : Hid (snapAt S q (j + 1) = true) := by show snapAt S q (j + 1) = true; rw [HSU'.out, decide_eq_true (show 0 ≤ s by omega), decide_eq_true (show s ≤ q by omega), decide_eq_true hps]; rfl
          go_wp2
          go_roundw
          case rel => exact ⟨j + 1 + 1, by omega, by go_num, by first | rfl | trivial, snaps_snoc HW.out HN.out⟩
          case measure => simp [intOf]; omega
        · have HN : Hid (snapAt S q (j + 1) = false) := by show snapAt S q (j + 1) = false; rw [HSU'.out, decide_eq_false hps]; simp
          go_wp2
          go_ret
          exact ⟨ret_bool (snaps_no HKL.out HN.out).symm, rfl⟩
    · go_wp2
      go_ret
      refine ⟨ret_bool ?_, rfl⟩
      have hkn : k = S.length := by rw [HLN.out]; omega
      have hw := HW.out
      rw [hkn] at hw
      rw [snaps_all hw, decide_eq_true (by rw [HLN.out]; omega)]
theorem specLow (m : Int) (b off n c : Nat) (L : List EntD) (w : World) (h : EntsAt w (some ⟨b, off, none⟩) n c L) (e : EntD) (h0 : L[0]? = some e) :
    Calls Tryz.prog 118 #[.agg #[.slice (some ⟨b, off, none⟩) n c, .int .i64 m]] w fun r w' => r = .returned (.string e.1) ∧ Below w.heap.size w w' := by
  have hl := (List.getElem?_eq_some_iff.1 h0).1
  rw [h.length] at hl
  have hnI : (0 : Int) < (n : Int) := by omega
  have kW : Below w.heap.size w (w.alloc (.cells #[.slice (some ⟨b, off, none⟩) n c, .int .i64 m] 102)) := (Below.refl _ _).alloc (Nat.le_refl _) _
  have hbb := (h.lies _ rfl hl).1
  simp only at hbb
  obtain ⟨s, q, d, t, nn, hg, _, g0, _⟩ := h.ent (Below.refl _ w) hbb 0 hl
  rw [h0] at hg
  cases hg
  simp only [Nat.zero_mul, Nat.add_zero] at g0
  clear h h0
  go_enter Tryz.func118, Tryz.ntmps118
  go_wp2
  go_ret
  exact ⟨rfl, kW⟩
theorem specHigh (m : Int) (b off n c : Nat) (L : List EntD) (w : World) (h : EntsAt w (some ⟨b, off, none⟩) n c L) (e : EntD) (h0 : L[n - 1]? = some e) (hn : 1 ≤ n) :
    Calls Tryz.prog 117 #[.agg #[.slice (some ⟨b, off, none⟩) n c, .int .i64 m]] w fun r w' => r = .returned (.string e.1) ∧ Below w.heap.size w w' := by
  have hr := h.room
  have hbg := h.big
  unfold maxLen at hbg
  have hj1 : (0 : Int) ≤ (n : Int) - 1 := by omega
  have hj2 : (n : Int) - 1 < (n : Int) := by omega
  have hjt : ((n : Int) - 1).toNat = n - 1 := by omega
  have wj : IntKind.i64.wrap ((n : Int) - 1) = (n : Int) - 1 := by rw [IntWalk.i64_left]; unfold wrap64; omega
  have kW : Below w.heap.size w (w.alloc (.cells #[.slice (some ⟨b, off, none⟩) n c, .int .i64 m] 102)) := (Below.refl _ _).alloc (Nat.le_refl _) _
  have hbb := (h.lies _ rfl (by omega)).1
  simp only at hbb
  obtain ⟨s, q, d, t, nn, hg, _, g0, _⟩ := h.ent (Below.refl _ w) hbb (n - 1) (by omega)
  rw [h0] at hg
  cases hg
  clear h h0
  go_enter Tryz.func117, Tryz.ntmps117
  go_wp2
  go_ret
  exact ⟨rfl, kW⟩
theorem implNoRun (m : Int) (a : Option Addr) (n c : Nat) (L : List EntD) (w : World) (h : EntsAt w a n c L) :
    Calls Tryz.prog 169 #[.agg #[.slice a n c, .int .i64 m]] w fun r w' => r = .returned (.bool (!runB L m)) ∧ Below w.heap.size w w' := by
  have kW : Below w.heap.size w (w.alloc (.cells #[.slice a n c, .int .i64 m] 102)) := (Below.refl _ _).alloc (Nat.le_refl _) _
  go_enter Tryz.func169, Tryz.ntmps169
  go_wp2_with fail
  refine (implRunOk _ _ _ L m _ (h.keep kW)).mono ?_
  rintro e w1 ⟨rfl, hb1⟩
  go_wp2
  go_ret
  exact ⟨rfl, kW.trans (hb1.mono kW.size)⟩
theorem specSnaps (q : Int) (lo : Nat) (v0 v1 : Value) (a : Option Addr) (n c : Nat) (S : List Int) (w : World) (h : IntsIn lo w a n c S) :
    Calls Tryz.prog 74 #[.agg #[.int .i64 q, v0, v1, .slice a n c]] w fun e w' => e = .returned (.bool (snapsB S q)) ∧ Below w.heap.size w w' := by
  have hr := h.room
  have hbg := h.big
  unfold maxLen at hbg
  have HLN : Hid (S.length = n) := h.length
  obtain ⟨X, hX⟩ : ∃ X, X = w.heap.size := ⟨_, rfl⟩
  obtain ⟨W, hW⟩ : ∃ W, W = w.alloc (.cells #[.int .i64 q, v0, v1, .slice a n c] 31) := ⟨_, rfl⟩
  have kW : Below w.heap.size w W := by rw [hW]; exact (Below.refl _ _).alloc (Nat.le_refl _) _
  have x0 : W.cell? ⟨X, 0, none⟩ = some (.int .i64 q) := by rw [hW, hX]; simp
  have x3 : W.cell? ⟨X, 3, none⟩ = some (.slice a n c) := by rw [hW, hX]; simp
  have H : Hid (IntsIn lo W a n c S) := h.keep kW
  have KW : Hid (Below w.heap.size w W) := kW
  have zx := World.block_lt_of_cell? _ _ x0
  simp only at zx
  have HP : Hid (∀ e w', (e = Ending.returned (.bool (snapsB S q)) ∧ Below W.heap.size W w') → e = Ending.returned (.bool (snapsB S q)) ∧ Below w.heap.size w w') := fun e w' hh => ⟨hh.1, KW.out.trans (hh.2.mono KW.out.size)⟩
  clear h kW
  go_enter Tryz.func74, Tryz.ntmps74
  go_upto_block 0 with fail
  rw [← hX, ← hW]
  clear hX hW
  go_wp2
  go_loopw [3] (fun i wr => ∃ k : Nat, k ≤ n ∧ i = .int .i64 k ∧ Below W.heap.size W wr ∧ SnapsTo S q k) (fun i _ => n - (intOf i).toNat)
  case atStart => exact ⟨0, Nat.zero_le _, rfl, Below.refl _ _, fun j hj => absurd hj (Nat.not_lt_zero _)⟩
  case round =>
    obtain ⟨k, hk, rfl, hb, hw⟩ := hrel
    have HW : Hid (SnapsTo S q k) := hw
    have HB : Hid (Below W.heap.size W wr) := hb
    have y0 := cell_later hb x0
    have y3 := cell_later hb x3
    have zy := World.block_lt_of_cell? _ _ y0
    simp only at zy
    clear hw
    by_cases hlt : k < n
    · have hltI : (k : Int) < (n : Int) := by omega
      have hkl : k < S.length := by rw [HLN.out]; exact hlt
      have HKL : Hid (k < S.length) := hkl
      clear hkl
      obtain ⟨b, off, rfl, hbb⟩ := H.out.form (by omega)
      obtain ⟨s, hg, _, g0⟩ := H.out.num hb k hlt
      have HG : Hid (S[k]? = some s) := hg
      have zb := Nat.lt_of_lt_of_le hbb hb.size
      have k0 : Below wr.heap.size wr wr.drew := (Below.refl _ wr).drew
      have HMK : Hid (∀ w', Below wr.heap.size wr w' → (w'.cell? ⟨X, 0, none⟩ = some (.int .i64 q) ∧ w'.cell? ⟨X, 3, none⟩ = some (.slice (some ⟨b, off, none⟩) n c) ∧ X < w'.heap.size ∧ w'.cell? ⟨b, off + k, none⟩ = some (.int .i64 s) ∧ b < w'.heap.size)) := fun w' kk => ⟨cell_later kk y0, cell_later kk y3, Nat.lt_of_lt_of_le zy kk.size, cell_later kk g0, Nat.lt_of_lt_of_le zb kk.size⟩
      have KZ : Hid (Below W.heap.size W wr.drew) := HB.out.trans (k0.mono HB.out.size)
      clear hg hb
      by_cases hs0 : s < 0
      · have hs0d : decide (s < 0) = true := decide_eq_true hs0
        go_wp2_with fail
        refine wp_region_held_drew (S := (fun w' => w'.cell? ⟨X, 0, none⟩ = some (.int .i64 q) ∧ w'.cell? ⟨X, 3, none⟩ = some (.slice (some ⟨b, off, none⟩) n c) ∧ X < w'.heap.size ∧ w'.cell? ⟨b, off + k, none⟩ = some (.int .i64 s) ∧ b < w'.heap.size)) (by kernel_rfl) (HMK.out _ k0) (fun hHeld => ?_)
        refine tkL 0 hHeld ?_; try go_frame
        refine tkL 1 hHeld ?_; try go_frame
        refine tkL 2 hHeld ?_; try go_frame
        refine tkL 3 hHeld ?_; try go_frame
        refine tkL 4 hHeld ?_; try go_frame
        refine tkL 5 hHeld ?_; try go_frame
        refine tkL 6 hHeld ?_; try go_frame
        refine tkN 7 hHeld ?_; try go_frame
        refine tkN 8 hHeld ?_; try go_frame
        refine tkN 9 hHeld ?_; try go_frame
        refine tkN 10 hHeld ?_; try go_frame
        refine tkN 11 hHeld ?_; try go_frame
        refine tkN 12 hHeld ?_; try go_frame
        refine tkN 13 hHeld ?_; try go_frame
        refine tkN 14 hHeld ?_; try go_frame
        refine tkL 15 hHeld ?_; try go_frame
        refine tkL 16 hHeld ?_; try go_frame
        refine tkN 17 hHeld ?_; try go_frame
        refine tkN 18 hHeld ?_; try go_frame
        refine tkN 19 hHeld ?_; try go_frame
        refine tkN 20 hHeld ?_; try go_frame
        refine tkN 21 hHeld ?_; try go_frame
        refine tkN 22 hHeld ?_; try go_frame
        refine tkN 23 hHeld ?_; try go_frame
        refine tkN 24 hHeld ?_; try go_frame
        refine tkN 25 hHeld ?_; try go_frame
        refine tkN 26 hHeld ?_; try go_frame
        refine tkN 27 hHeld ?_; try go_frame
        refine tkN 28 hHeld ?_; try go_frame
        refine tkN 29 hHeld ?_; try go_frame
        refine tkN 30 hHeld ?_; try go_frame
        refine tkN 31 hHeld ?_; try go_frame
        refine tkN 32 hHeld ?_; try go_frame
        refine tkL 33 hHeld ?_; try go_frame
        refine wpAnyH_done (by kernel_rfl) ?_ _
        clear k0 HMK hHeld
        go_wp2
        go_ret
        exact HP.out _ _ ⟨ret_bool (snaps_no HKL.out (snap_low HG.out hs0)).symm, KZ.out⟩
      have hs0d : decide (s < 0) = false := decide_eq_false hs0
      by_cases hsq : q < s
      · have hsqd : decide (q < s) = true := decide_eq_true hsq
        go_wp2_with fail
        refine wp_region_held_drew (S := (fun w' => w'.cell? ⟨X, 0, none⟩ = some (.int .i64 q) ∧ w'.cell? ⟨X, 3, none⟩ = some (.slice (some ⟨b, off, none⟩) n c) ∧ X < w'.heap.size ∧ w'.cell? ⟨b, off + k, none⟩ = some (.int .i64 s) ∧ b < w'.heap.size)) (by kernel_rfl) (HMK.out _ k0) (fun hHeld => ?_)
        refine tkL 0 hHeld ?_; try go_frame
        refine tkL 1 hHeld ?_; try go_frame
        refine tkL 2 hHeld ?_; try go_frame
        refine tkL 3 hHeld ?_; try go_frame
        refine tkL 4 hHeld ?_; try go_frame
        refine tkL 5 hHeld ?_; try go_frame
        refine tkL 6 hHeld ?_; try go_frame
        refine tkL 7 hHeld ?_; try go_frame
        refine tkL 8 hHeld ?_; try go_frame
        refine tkL 9 hHeld ?_; try go_frame
        refine tkL 10 hHeld ?_; try go_frame
        refine tkL 11 hHeld ?_; try go_frame
        refine tkL 12 hHeld ?_; try go_frame
        refine tkL 13 hHeld ?_; try go_frame
        refine tkL 14 hHeld ?_; try go_frame
        refine tkL 15 hHeld ?_; try go_frame
        refine tkL 16 hHeld ?_; try go_frame
        refine tkN 17 hHeld ?_; try go_frame
        refine tkN 18 hHeld ?_; try go_frame
        refine tkN 19 hHeld ?_; try go_frame
        refine tkN 20 hHeld ?_; try go_frame
        refine tkN 21 hHeld ?_; try go_frame
        refine tkN 22 hHeld ?_; try go_frame
        refine tkN 23 hHeld ?_; try go_frame
        refine tkN 24 hHeld ?_; try go_frame
        refine tkN 25 hHeld ?_; try go_frame
        refine tkN 26 hHeld ?_; try go_frame
        refine tkN 27 hHeld ?_; try go_frame
        refine tkN 28 hHeld ?_; try go_frame
        refine tkN 29 hHeld ?_; try go_frame
        refine tkN 30 hHeld ?_; try go_frame
        refine tkN 31 hHeld ?_; try go_frame
        refine tkN 32 hHeld ?_; try go_frame
        refine tkL 33 hHeld ?_; try go_frame
        refine wpAnyH_done (by kernel_rfl) ?_ _
        clear k0 HMK hHeld
        go_wp2
        go_ret
        exact HP.out _ _ ⟨ret_bool (snaps_no HKL.out (snap_high HG.out hsq)).symm, KZ.out⟩
      have hsqd : decide (q < s) = false := decide_eq_false hsq
      by_cases hk0 : k = 0
      · subst hk0
        simp only [Nat.add_zero] at g0 HMK
        have HN : Hid (snapAt S q 0 = true) := by show snapAt S q 0 = true; rw [snap_zero HG.out, decide_eq_true (show 0 ≤ s by omega), decide_eq_true (show s ≤ q by omega)]; rfl
        go_wp2_with fail
        refine wp_region_held_drew (S := (fun w' => w'.cell? ⟨X, 0, none⟩ = some (.int .i64 q) ∧ w'.cell? ⟨X, 3, none⟩ = some (.slice (some ⟨b, off, none⟩) n c) ∧ X < w'.heap.size ∧ w'.cell? ⟨b, off, none⟩ = some (.int .i64 s) ∧ b < w'.heap.size)) (by kernel_rfl) (HMK.out _ k0) (fun hHeld => ?_)
        refine tkL 0 hHeld ?_; try go_frame
        refine tkL 1 hHeld ?_; try go_frame
        refine tkL 2 hHeld ?_; try go_frame
        refine tkL 3 hHeld ?_; try go_frame
        refine tkL 4 hHeld ?_; try go_frame
        refine tkL 5 hHeld ?_; try go_frame
        refine tkL 6 hHeld ?_; try go_frame
        refine tkL 7 hHeld ?_; try go_frame
        refine tkL 8 hHeld ?_; try go_frame
        refine tkL 9 hHeld ?_; try go_frame
        refine tkL 10 hHeld ?_; try go_frame
        refine tkL 11 hHeld ?_; try go_frame
        refine tkL 12 hHeld ?_; try go_frame
        refine tkL 13 hHeld ?_; try go_frame
        refine tkL 14 hHeld ?_; try go_frame
        refine tkL 15 hHeld ?_; try go_frame
        refine tkL 16 hHeld ?_; try go_frame
        refine tkL 17 hHeld ?_; try go_frame
        refine tkL 18 hHeld ?_; try go_frame
        refine tkL 19 hHeld ?_; try go_frame
        refine tkN 20 hHeld ?_; try go_frame
        refine tkN 21 hHeld ?_; try go_frame
        refine tkN 22 hHeld ?_; try go_frame
        refine tkN 23 hHeld ?_; try go_frame
        refine tkN 24 hHeld ?_; try go_frame
        refine tkN 25 hHeld ?_; try go_frame
        refine tkN 26 hHeld ?_; try go_frame
        refine tkN 27 hHeld ?_; try go_frame
        refine tkN 28 hHeld ?_; try go_frame
        refine tkN 29 hHeld ?_; try go_frame
        refine tkN 30 hHeld ?_; try go_frame
        refine tkN 31 hHeld ?_; try go_frame
        refine tkL 32 hHeld ?_; try go_frame
        refine tkL 33 hHeld ?_; try go_frame
        refine wpAnyH_done (by kernel_rfl) ?_ _
        clear k0 HMK hHeld
        go_wp2
        go_roundw
        case rel => exact ⟨0 + 1, by omega, by go_num, KZ.out, snaps_snoc HW.out HN.out⟩
        case measure => simp [intOf]; omega
      · have hkp : (0 : Int) < (k : Int) := by omega
        have hkpN : 0 < k := by omega
        have hkpM : decide (0 < k) = true := decide_eq_true hkpN
        have hj1 : (0 : Int) ≤ (k : Int) - 1 := by omega
        have hj2 : (k : Int) - 1 < (n : Int) := by omega
        have hj3 : (1 : Int) ≤ (k : Int) := by omega
        have hjt : ((k : Int) - 1).toNat = k - 1 := by omega
        have wj : IntKind.i64.wrap ((k : Int) - 1) = (k : Int) - 1 := by rw [IntWalk.i64_left]; unfold wrap64; omega
        obtain ⟨p, hp, _, e0⟩ := H.out.num HB.out (k - 1) (by omega)
        have HM2 : Hid (∀ w', Below wr.heap.size wr w' → (w'.cell? ⟨X, 0, none⟩ = some (.int .i64 q) ∧ w'.cell? ⟨X, 3, none⟩ = some (.slice (some ⟨b, off, none⟩) n c) ∧ X < w'.heap.size ∧ w'.cell? ⟨b, off + k, none⟩ = some (.int .i64 s) ∧ b < w'.heap.size ∧ w'.cell? ⟨b, off + (k - 1), none⟩ = some (.int .i64 p))) := fun w' kk => ⟨cell_later kk y0, cell_later kk y3, Nat.lt_of_lt_of_le zy kk.size, cell_later kk g0, Nat.lt_of_lt_of_le zb kk.size, cell_later kk e0⟩
        have HSU : Hid (snapAt S q k = (decide (0 ≤ s) && (decide (s ≤ q) && decide (p < s)))) := by
          obtain ⟨j, rfl⟩ : ∃ j, k = j + 1 := ⟨k - 1, by omega⟩
          exact snap_succ HG.out hp
        clear hp HMK
        by_cases hps : p < s
        · have HN : Hid (snapAt S q k = true) := by show snapAt S q k = true; rw [HSU.out, decide_eq_true (show 0 ≤ s by omega), decide_eq_true (show s ≤ q by omega), decide_eq_true hps]; rfl
          have hps' : ¬ s ≤ p := by omega
          have hpsd : decide (s ≤ p) = false := decide_eq_false hps'
          go_wp2_with fail
          refine wp_region_held_drew (S := (fun w' => w'.cell? ⟨X, 0, none⟩ = some (.int .i64 q) ∧ w'.cell? ⟨X, 3, none⟩ = some (.slice (some ⟨b, off, none⟩) n c) ∧ X < w'.heap.size ∧ w'.cell? ⟨b, off + k, none⟩ = some (.int .i64 s) ∧ b < w'.heap.size ∧ w'.cell? ⟨b, off + (k - 1), none⟩ = some (.int .i64 p))) (by kernel_rfl) (HM2.out _ k0) (fun hHeld => ?_)
          refine tkL 0 hHeld ?_; try go_frame
          refine tkL 1 hHeld ?_; try go_frame
          refine tkL 2 hHeld ?_; try go_frame
          refine tkL 3 hHeld ?_; try go_frame
          refine tkL 4 hHeld ?_; try go_frame
          refine tkL 5 hHeld ?_; try go_frame
          refine tkL 6 hHeld ?_; try go_frame
          refine tkL 7 hHeld ?_; try go_frame
          refine tkL 8 hHeld ?_; try go_frame
          refine tkL 9 hHeld ?_; try go_frame
          refine tkL 10 hHeld ?_; try go_frame
          refine tkL 11 hHeld ?_; try go_frame
          refine tkL 12 hHeld ?_; try go_frame
          refine tkL 13 hHeld ?_; try go_frame
          refine tkL 14 hHeld ?_; try go_frame
          refine tkL 15 hHeld ?_; try go_frame
          refine tkL 16 hHeld ?_; try go_frame
          refine tkL 17 hHeld ?_; try go_frame
          refine tkL 18 hHeld ?_; try go_frame
          refine tkL 19 hHeld ?_; try go_frame
          refine tkL 20 hHeld ?_; try go_frame
          refine tkL 21 hHeld ?_; try go_frame
          refine tkL 22 hHeld ?_; try go_frame
          refine tkL 23 hHeld ?_; try go_frame
          refine tkL 24 hHeld ?_; try go_frame
          refine tkL 25 hHeld ?_; try go_frame
          refine tkL 26 hHeld ?_; try go_frame
          refine tkL 27 hHeld ?_; try go_frame
          refine tkL 28 hHeld ?_; try go_frame
          refine tkL 29 hHeld ?_; try go_frame
          refine tkL 30 hHeld ?_; try go_frame
          refine tkL 31 hHeld ?_; try go_frame
          refine tkL 32 hHeld ?_; try go_frame
          refine tkL 33 hHeld ?_; try go_frame
          refine wpAnyH_done (by kernel_rfl) ?_ _
          clear k0 HM2 hHeld
          go_wp2
          go_roundw
          case rel => exact ⟨k + 1, by omega, by go_num, KZ.out, snaps_snoc HW.out HN.out⟩
          case measure => simp [intOf]; omega
        · have HN : Hid (snapAt S q k = false) := by show snapAt S q k = false; rw [HSU.out, decide_eq_false hps]; simp
          have hps' : s ≤ p := by omega
          have hpsd : decide (s ≤ p) = true := decide_eq_true hps'
          go_wp2_with fail
          refine wp_region_held_drew (S := (fun w' => w'.cell? ⟨X, 0, none⟩ = some (.int .i64 q) ∧ w'.cell? ⟨X, 3, none⟩ = some (.slice (some ⟨b, off, none⟩) n c) ∧ X < w'.heap.size ∧ w'.cell? ⟨b, off + k, none⟩ = some (.int .i64 s) ∧ b < w'.heap.size ∧ w'.cell? ⟨b, off + (k - 1), none⟩ = some (.int .i64 p))) (by kernel_rfl) (HM2.out _ k0) (fun hHeld => ?_)
          refine tkL 0 hHeld ?_; try go_frame
          refine tkL 1 hHeld ?_; try go_frame
          refine tkL 2 hHeld ?_; try go_frame
          refine tkL 3 hHeld ?_; try go_frame
          refine tkL 4 hHeld ?_; try go_frame
          refine tkL 5 hHeld ?_; try go_frame
          refine tkL 6 hHeld ?_; try go_frame
          refine tkL 7 hHeld ?_; try go_frame
          refine tkL 8 hHeld ?_; try go_frame
          refine tkL 9 hHeld ?_; try go_frame
          refine tkL 10 hHeld ?_; try go_frame
          refine tkL 11 hHeld ?_; try go_frame
          refine tkL 12 hHeld ?_; try go_frame
          refine tkL 13 hHeld ?_; try go_frame
          refine tkL 14 hHeld ?_; try go_frame
          refine tkL 15 hHeld ?_; try go_frame
          refine tkL 16 hHeld ?_; try go_frame
          refine tkL 17 hHeld ?_; try go_frame
          refine tkL 18 hHeld ?_; try go_frame
          refine tkL 19 hHeld ?_; try go_frame
          refine tkL 20 hHeld ?_; try go_frame
          refine tkL 21 hHeld ?_; try go_frame
          refine tkL 22 hHeld ?_; try go_frame
          refine tkL 23 hHeld ?_; try go_frame
          refine tkL 24 hHeld ?_; try go_frame
          refine tkL 25 hHeld ?_; try go_frame
          refine tkL 26 hHeld ?_; try go_frame
          refine tkL 27 hHeld ?_; try go_frame
          refine tkL 28 hHeld ?_; try go_frame
          refine tkL 29 hHeld ?_; try go_frame
          refine tkL 30 hHeld ?_; try go_frame
          refine tkL 31 hHeld ?_; try go_frame
          refine tkL 32 hHeld ?_; try go_frame
          refine tkL 33 hHeld ?_; try go_frame
          refine wpAnyH_done (by kernel_rfl) ?_ _
          clear k0 HM2 hHeld
          go_wp2
          go_ret
          exact HP.out _ _ ⟨ret_bool (snaps_no HKL.out HN.out).symm, KZ.out⟩
    · have hltI : ¬ (k : Int) < (n : Int) := by omega
      have hres : snapsB S q = decide ((n : Int) ≤ 4) := by
        have hkn : k = S.length := by rw [HLN.out]; omega
        have hw := HW.out
        rw [hkn] at hw
        rw [snaps_all hw, HLN.out]
        by_cases h4 : n ≤ 4
        · rw [decide_eq_true h4, decide_eq_true (by omega)]
        · rw [decide_eq_false h4, decide_eq_false (by omega)]
      have HRS : Hid (snapsB S q = decide ((n : Int) ≤ 4)) := hres
      clear hres
      go_wp2
      go_ret
      exact HP.out _ _ ⟨ret_bool HRS.out.symm, HB.out⟩
end Go.Proofs.YtlmgojlffgkciaaGreat

namespace Go.Proofs.YtlmgojlffgkciaaGreat
open Go.RowKit
set_option maxRecDepth 100000
set_option maxHeartbeats 3200000
def clash (x y : EntD) : Bool := decide (x.1 = y.1) && decide (x.2.1 ≤ y.2.1)
def aboveB (A B : List EntD) : Bool := A.all (fun x => B.all (fun y => !clash x y))
theorem all_snoc {α : Type} {L : List α} {f : α → Bool} {k : Nat} {e : α} (h : (L.take k).all f = true) (hk : L[k]? = some e) (he : f e = true) : (L.take (k + 1)).all f = true := by
  rw [List.take_add_one, hk]
  simp [List.all_append, h, he]
theorem all_no {α : Type} {L : List α} {f : α → Bool} {k : Nat} {e : α} (hk : L[k]? = some e) (he : f e = false) : L.all f = false := by
  rw [Bool.eq_false_iff]
  intro h
  rw [List.all_eq_true] at h
  rw [h e (List.mem_of_getElem? hk)] at he
  cases he
theorem specAbove (a1 a2 : Option Addr) (n1 c1 n2 c2 : Nat) (A B : List EntD) (w : World) (h1 : EntsAt w a1 n1 c1 A) (h2 : EntsAt w a2 n2 c2 B) :
    Calls Tryz.prog 119 #[.slice a1 n1 c1, .slice a2 n2 c2] w fun e w' => e = .returned (.bool (aboveB A B)) ∧ Below w.heap.size w w' := by
  have HN1 : Hid (A.length = n1) := h1.length
  have HN2 : Hid (B.length = n2) := h2.length
  have hr1 := h1.room
  have hb1 := h1.big
  have hr2 := h2.room
  have hb2 := h2.big
  unfold maxLen at hb1 hb2
  have H1 : Hid (EntsAt w a1 n1 c1 A) := h1
  have H2 : Hid (EntsAt w a2 n2 c2 B) := h2
  clear h1 h2
  go_enter Tryz.func119, Tryz.ntmps119
  go_wp2
  go_loopw [5] (fun iv wr => ∃ i : Nat, i ≤ n1 ∧ iv = .int .i64 i ∧ Below w.heap.size w wr ∧ (A.take i).all (fun x => B.all (fun y => !clash x y)) = true) (fun iv _ => n1 - (intOf iv).toNat)
  case atStart => exact ⟨0, Nat.zero_le _, rfl, Below.refl _ _, by simp⟩
  case round =>
    obtain ⟨i, hi, rfl, hb, hw⟩ := hrel
    have HW : Hid ((A.take i).all (fun x => B.all (fun y => !clash x y)) = true) := hw
    have HB : Hid (Below w.heap.size w wr) := hb
    clear hw
    by_cases hin : i < n1
    · have hinI : (i : Int) < (n1 : Int) := by omega
      obtain ⟨b1, o1, rfl, hx1⟩ := H1.out.form (by omega)
      obtain ⟨s, q, d, t, nn, hg, _, _⟩ := H1.out.ent hb hx1 i hin
      have HG : Hid (A[i]? = some (s, q, d, t, nn)) := hg
      clear hg hb
      go_wp2
      go_loopw [6] (fun kv wq => ∃ k : Nat, k ≤ n2 ∧ kv = .int .i64 k ∧ Below w.heap.size w wq ∧ (B.take k).all (fun y => !clash (s, q, d, t, nn) y) = true) (fun kv _ => n2 - (intOf kv).toNat)
      case atStart => exact ⟨0, Nat.zero_le _, rfl, HB.out, by simp⟩
      case round =>
        obtain ⟨k, hk, rfl, hbk, hwk⟩ := hrel
        have HWK : Hid ((B.take k).all (fun y => !clash (s, q, d, t, nn) y) = true) := hwk
        have HBK : Hid (Below w.heap.size w wr) := hbk
        clear hwk
        by_cases hkn : k < n2
        · have hknI : (k : Int) < (n2 : Int) := by omega
          obtain ⟨b2, o2, rfl, hx2⟩ := H2.out.form (by omega)
          obtain ⟨s1, q1, d1, t1, nn1, hL1, _, g0, g1, _⟩ := H1.out.ent hbk hx1 i hin
          rw [HG.out] at hL1
          cases hL1
          obtain ⟨s', q', d', t', nn', hF, _, e0, e1, _⟩ := H2.out.ent hbk hx2 k hkn
          have HF : Hid (B[k]? = some (s', q', d', t', nn')) := hF
          have z1 := Nat.lt_of_lt_of_le hx1 hbk.size
          have z2 := Nat.lt_of_lt_of_le hx2 hbk.size
          have k0 : Below wr.heap.size wr wr.drew := (Below.refl _ wr).drew
          have HMK : Hid (∀ w', Below wr.heap.size wr w' → (w'.cell? ⟨b1, o1 + i * 5, none⟩ = some (.string s) ∧ w'.cell? ⟨b1, o1 + i * 5 + 1, none⟩ = some (.int .i64 q) ∧ b1 < w'.heap.size ∧ w'.cell? ⟨b2, o2 + k * 5, none⟩ = some (.string s') ∧ w'.cell? ⟨b2, o2 + k * 5 + 1, none⟩ = some (.int .i64 q') ∧ b2 < w'.heap.size)) := fun w' kk => ⟨cell_later kk g0, cell_later kk g1, Nat.lt_of_lt_of_le z1 kk.size, cell_later kk e0, cell_later kk e1, Nat.lt_of_lt_of_le z2 kk.size⟩
          have KZ : Hid (Below w.heap.size w wr.drew) := HBK.out.trans (k0.mono HBK.out.size)
          clear hF hbk
          by_cases hs : s = s'
          · subst hs
            by_cases hq : q ≤ q'
            · have hqd : decide (q ≤ q') = true := decide_eq_true hq
              have HC : Hid ((!clash (s, q, d, t, nn) (s, q', d', t', nn')) = false) := by show (!clash _ _) = false; unfold clash; simp [hq]
              go_wp2_with fail
              refine wp_region_held_drew (S := (fun w' => w'.cell? ⟨b1, o1 + i * 5, none⟩ = some (.string s) ∧ w'.cell? ⟨b1, o1 + i * 5 + 1, none⟩ = some (.int .i64 q) ∧ b1 < w'.heap.size ∧ w'.cell? ⟨b2, o2 + k * 5, none⟩ = some (.string s) ∧ w'.cell? ⟨b2, o2 + k * 5 + 1, none⟩ = some (.int .i64 q') ∧ b2 < w'.heap.size)) (by kernel_rfl) (HMK.out _ k0) (fun hHeld => ?_)
              refine tkL 0 hHeld ?_; try go_frame
              refine tkL 1 hHeld ?_; try go_frame
              refine tkL 2 hHeld ?_; try go_frame
              refine tkL 3 hHeld ?_; try go_frame
              refine tkL 4 hHeld ?_; try go_frame
              refine tkL 5 hHeld ?_; try go_frame
              refine tkL 6 hHeld ?_; try go_frame
              refine tkL 7 hHeld ?_; try go_frame
              refine tkL 8 hHeld ?_; try go_frame
              refine tkL 9 hHeld ?_; try go_frame
              refine tkL 10 hHeld ?_; try go_frame
              refine tkL 11 hHeld ?_; try go_frame
              refine tkL 12 hHeld ?_; try go_frame
              refine tkL 13 hHeld ?_; try go_frame
              refine tkL 14 hHeld ?_; try go_frame
              refine tkL 15 hHeld ?_; try go_frame
              refine tkL 16 hHeld ?_; try go_frame
              refine tkL 17 hHeld ?_; try go_frame
              refine tkL 18 hHeld ?_; try go_frame
              refine tkL 19 hHeld ?_; try go_frame
              refine tkL 20 hHeld ?_; try go_frame
              refine tkL 21 hHeld ?_; try go_frame
              refine tkL 22 hHeld ?_; try go_frame
              refine tkL 23 hHeld ?_; try go_frame
              refine wpAnyH_done (by kernel_rfl) ?_ _
              clear k0 HMK hHeld
              go_wp2
              go_ret
              exact ⟨ret_bool (all_no HG.out (all_no HF.out HC.out)).symm, KZ.out⟩
            · have hqd : decide (q ≤ q') = false := decide_eq_false hq
              have HC : Hid ((!clash (s, q, d, t, nn) (s, q', d', t', nn')) = true) := by show (!clash _ _) = true; unfold clash; simp [hq]
              go_wp2_with fail
              refine wp_region_held_drew (S := (fun w' => w'.cell? ⟨b1, o1 + i * 5, none⟩ = some (.string s) ∧ w'.cell? ⟨b1, o1 + i * 5 + 1, none⟩ = some (.int .i64 q) ∧ b1 < w'.heap.size ∧ w'.cell? ⟨b2, o2 + k * 5, none⟩ = some (.string s) ∧ w'.cell? ⟨b2, o2 + k * 5 + 1, none⟩ = some (.int .i64 q') ∧ b2 < w'.heap.size)) (by kernel_rfl) (HMK.out _ k0) (fun hHeld => ?_)
              refine tkL 0 hHeld ?_; try go_frame
              refine tkL 1 hHeld ?_; try go_frame
              refine tkL 2 hHeld ?_; try go_frame
              refine tkL 3 hHeld ?_; try go_frame
              refine tkL 4 hHeld ?_; try go_frame
              refine tkL 5 hHeld ?_; try go_frame
              refine tkL 6 hHeld ?_; try go_frame
              refine tkL 7 hHeld ?_; try go_frame
              refine tkL 8 hHeld ?_; try go_frame
              refine tkL 9 hHeld ?_; try go_frame
              refine tkL 10 hHeld ?_; try go_frame
              refine tkL 11 hHeld ?_; try go_frame
              refine tkL 12 hHeld ?_; try go_frame
              refine tkL 13 hHeld ?_; try go_frame
              refine tkL 14 hHeld ?_; try go_frame
              refine tkL 15 hHeld ?_; try go_frame
              refine tkL 16 hHeld ?_; try go_frame
              refine tkL 17 hHeld ?_; try go_frame
              refine tkL 18 hHeld ?_; try go_frame
              refine tkL 19 hHeld ?_; try go_frame
              refine tkL 20 hHeld ?_; try go_frame
              refine tkL 21 hHeld ?_; try go_frame
              refine tkL 22 hHeld ?_; try go_frame
              refine tkL 23 hHeld ?_; try go_frame
              refine wpAnyH_done (by kernel_rfl) ?_ _
              clear k0 HMK hHeld
              go_wp2
              go_roundw
              case rel => exact ⟨k + 1, by omega, by go_num, KZ.out, all_snoc HWK.out HF.out HC.out⟩
              case measure => simp [intOf]; omega
          · have hne : ¬ s.toList = s'.toList := by
              rw [ByteArray.toList_eq, ByteArray.toList_eq]
              intro h
              exact hs (ByteArray.ext (Array.toList_inj.1 h))
            have hne' : (s.toList == s'.toList) = false := by simpa using hne
            have HC : Hid ((!clash (s, q, d, t, nn) (s', q', d', t', nn')) = true) := by show (!clash _ _) = true; unfold clash; simp [hs]
            clear hs
            go_wp2_with fail
            refine wp_region_held_drew (S := (fun w' => w'.cell? ⟨b1, o1 + i * 5, none⟩ = some (.string s) ∧ w'.cell? ⟨b1, o1 + i * 5 + 1, none⟩ = some (.int .i64 q) ∧ b1 < w'.heap.size ∧ w'.cell? ⟨b2, o2 + k * 5, none⟩ = some (.string s') ∧ w'.cell? ⟨b2, o2 + k * 5 + 1, none⟩ = some (.int .i64 q') ∧ b2 < w'.heap.size)) (by kernel_rfl) (HMK.out _ k0) (fun hHeld => ?_)
            refine tkL 0 hHeld ?_; try go_frame
            refine tkL 1 hHeld ?_; try go_frame
            refine tkL 2 hHeld ?_; try go_frame
            refine tkL 3 hHeld ?_; try go_frame
            refine tkL 4 hHeld ?_; try go_frame
            refine tkL 5 hHeld ?_; try go_frame
            refine tkL 6 hHeld ?_; try go_frame
            refine tkL 7 hHeld ?_; try go_frame
            refine tkL 8 hHeld ?_; try go_frame
            refine tkL 9 hHeld ?_; try go_frame
            refine tkL 10 hHeld ?_; try go_frame
            refine tkL 11 hHeld ?_; try go_frame
            refine tkN 12 hHeld ?_; try go_frame
            refine tkN 13 hHeld ?_; try go_frame
            refine tkN 14 hHeld ?_; try go_frame
            refine tkN 15 hHeld ?_; try go_frame
            refine tkN 16 hHeld ?_; try go_frame
            refine tkN 17 hHeld ?_; try go_frame
            refine tkN 18 hHeld ?_; try go_frame
            refine tkN 19 hHeld ?_; try go_frame
            refine tkN 20 hHeld ?_; try go_frame
            refine tkN 21 hHeld ?_; try go_frame
            refine tkN 22 hHeld ?_; try go_frame
            refine tkL 23 hHeld ?_; try go_frame
            refine wpAnyH_done (by kernel_rfl) ?_ _
            clear k0 HMK hHeld
            go_wp2
            go_roundw
            case rel => exact ⟨k + 1, by omega, by go_num, KZ.out, all_snoc HWK.out HF.out HC.out⟩
            case measure => simp [intOf]; omega
        · have hknI : ¬ (k : Int) < (n2 : Int) := by omega
          have HC : Hid (B.all (fun y => !clash (s, q, d, t, nn) y) = true) := by
            have := HWK.out
            rw [List.take_of_length_le (by rw [HN2.out]; omega)] at this
            exact this
          go_wp2
          go_roundw
          case rel => exact ⟨i + 1, by omega, by go_num, HBK.out, all_snoc (f := fun x => B.all (fun y => !clash x y)) HW.out HG.out HC.out⟩
          case measure => simp [intOf]; omega
    · have hinI : ¬ (i : Int) < (n1 : Int) := by omega
      have HC : Hid (aboveB A B = true) := by
        have := HW.out
        rw [List.take_of_length_le (by rw [HN1.out]; omega)] at this
        exact this
      go_wp2
      go_ret
      exact ⟨ret_bool HC.out.symm, HB.out⟩
end Go.Proofs.YtlmgojlffgkciaaGreat
