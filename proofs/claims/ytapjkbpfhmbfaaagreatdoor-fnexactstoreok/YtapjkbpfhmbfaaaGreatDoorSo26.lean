/-
  What the document's l4Right and l4Mask answer of every list of entries, by walks of their Go text.
  What the program's areInOrder answers of every list of entries, by a walk of its Go text.
  What the document's and the program's RunOk answer at every run, by walks of their Go text.
-/
import Derived.Deep.LoopGhost
import Derived.Deep.RegionWith
import Derived.Test.YtapjkbpfhmbfaaaGreatDoorSo00
import Derived.Test.YtapjkbpfhmbfaaaGreatDoorSo02
import Derived.Test.YtapjkbpfhmbfaaaGreatDoorSo06
import Derived.Test.YtapjkbpfhmbfaaaGreatDoorSo15
import Derived.Test.YtapjkbpfhmbfaaaGreatDoorSo25
import Derived.Test.YtapjkbpfhmbfaaaGreatDoorSo03
namespace Go.Proofs.YtapjkbpfhmbfaaaGreatDoor
open Go.RowKit
set_option maxRecDepth 100000
set_option maxHeartbeats 1000000
theorem specRight (a : Option Addr) (len cap : Nat) (L : List EntD) (w : World) (hL : EntsAt w a len cap L) :
    Calls Tryz.prog 74 #[.slice a len cap] w fun e w' => e = .returned (.bool (rightB L)) ∧ Below w.heap.size w w' := by
  have HLEN : Hid (L.length = len) := hL.length
  have hbl := hL.room
  have hbc := hL.big
  unfold maxLen at hbc
  have HL : Hid (EntsAt w a len cap L) := hL
  clear hL
  go_enter Tryz.func74, Tryz.ntmps74
  go_wp2
  go_loopw [3] (fun i wr => ∃ k : Nat, k ≤ len ∧ i = .int .i64 k ∧ Below w.heap.size w wr ∧ RightTo L k) (fun i _ => len - (intOf i).toNat)
  case atStart => exact ⟨0, Nat.zero_le _, rfl, Below.refl _ _, fun j hj => absurd hj (Nat.not_lt_zero _)⟩
  case round =>
    obtain ⟨k, hk, rfl, hb, hall⟩ := hrel
    have HALL : Hid (RightTo L k) := hall
    clear hall
    by_cases hlt : k < len
    · obtain ⟨b, off, rfl, hbb⟩ := HL.out.form (by omega)
      obtain ⟨s, q, d, t, n, hg, hlw, g0, g1, g2, g3, g4⟩ := HL.out.ent hb hbb k hlt
      have HG : Hid (L[k]? = some (s, q, d, t, n)) := hg
      have hs := hlw.1
      have ht := hlw.2.2.2.1
      simp only at hs ht
      clear hg hlw
      cases hv : entB s q d t n with
      | false =>
        have CE : Hid (∀ w, Calls Tryz.prog 128 #[.agg #[.string s, .int .i64 q, .int .i64 d, .string t, .int .i64 n]] w fun e w' => e = .returned (.bool false) ∧ Below w.heap.size w w') := by rw [← hv]; exact fun w => specEnt s t q d n w hs ht
        go_wp2_with fail
        have k0 : Below wr.heap.size wr wr.drew := (Below.refl _ wr).drew
        have hbr : b < wr.heap.size := Nat.lt_of_lt_of_le hbb hb.size
        have HMK : Hid (∀ w', Below wr.heap.size wr w' → (w'.cell? ⟨b, off + k * 5, none⟩ = some (.string s) ∧ w'.cell? ⟨b, off + k * 5 + 1, none⟩ = some (.int .i64 q) ∧ w'.cell? ⟨b, off + k * 5 + 2, none⟩ = some (.int .i64 d) ∧ w'.cell? ⟨b, off + k * 5 + 3, none⟩ = some (.string t) ∧ w'.cell? ⟨b, off + k * 5 + 4, none⟩ = some (.int .i64 n) ∧ b < w'.heap.size)) := fun w' kk => ⟨cell_later kk g0, cell_later kk g1, cell_later kk g2, cell_later kk g3, cell_later kk g4, Nat.lt_of_lt_of_le hbr kk.size⟩
        refine wp_region_held_drew (S := (fun w' => w'.cell? ⟨b, off + k * 5, none⟩ = some (.string s) ∧ w'.cell? ⟨b, off + k * 5 + 1, none⟩ = some (.int .i64 q) ∧ w'.cell? ⟨b, off + k * 5 + 2, none⟩ = some (.int .i64 d) ∧ w'.cell? ⟨b, off + k * 5 + 3, none⟩ = some (.string t) ∧ w'.cell? ⟨b, off + k * 5 + 4, none⟩ = some (.int .i64 n) ∧ b < w'.heap.size)) (by kernel_rfl) (HMK.out _ k0) (fun hHeld => ?_)
        refine tkL 0 hHeld ?_; try go_frame
        refine tkL 1 hHeld ?_; try go_frame
        refine tkL 2 hHeld ?_; try go_frame
        refine tkL 3 hHeld ?_; try go_frame
        refine wpAnyH_ready (rs := [4]) (by kernel_rfl) (by simp) ?_
        refine consL rfl (fun K hK => ?_) AllReadyH.nil
        go_simp
        refine (CE.out _).mono ?_
        rintro e w1 ⟨rfl, b1⟩
        have k1 : Below wr.heap.size wr w1 := k0.trans (b1.mono k0.size)
        go_wp2_with fail
        refine hK.out _ _ (HMK.out _ k1) (fun hHeld => ?_)
        clear hK K
        try go_frame
        refine tkL 5 hHeld ?_; try go_frame
        refine tkL 6 hHeld ?_; try go_frame
        refine tkN 7 hHeld ?_; try go_frame
        refine tkN 8 hHeld ?_; try go_frame
        refine tkN 9 hHeld ?_; try go_frame
        refine tkN 10 hHeld ?_; try go_frame
        refine tkN 11 hHeld ?_; try go_frame
        refine tkN 12 hHeld ?_; try go_frame
        refine tkN 13 hHeld ?_; try go_frame
        refine tkN 14 hHeld ?_; try go_frame
        refine tkN 15 hHeld ?_; try go_frame
        refine tkN 16 hHeld ?_; try go_frame
        refine tkN 17 hHeld ?_; try go_frame
        refine tkN 18 hHeld ?_; try go_frame
        refine wpAnyH_ready (rs := [19]) (by kernel_rfl) (by simp) ?_
        refine consL rfl (fun K hK => ?_) AllReadyH.nil
        go_simp
        refine hK.out _ _ (HMK.out _ k1) (fun hHeld => ?_)
        clear hK K
        try go_frame
        refine tkN 20 hHeld ?_; try go_frame
        refine tkN 21 hHeld ?_; try go_frame
        refine tkL 22 hHeld ?_; try go_frame
        refine wpAnyH_done (by kernel_rfl) ?_ _
        go_wp2
        go_ret
        exact ⟨ret_bool (right_no (by rw [HLEN.out]; exact hlt) (okAt_ent HG.out hv)).symm, hb.trans (k1.mono hb.size)⟩
      | true =>
        have CE : Hid (∀ w, Calls Tryz.prog 128 #[.agg #[.string s, .int .i64 q, .int .i64 d, .string t, .int .i64 n]] w fun e w' => e = .returned (.bool true) ∧ Below w.heap.size w w') := by rw [← hv]; exact fun w => specEnt s t q d n w hs ht
        by_cases hk0 : k = 0
        · subst hk0
          simp only [Nat.zero_mul, Nat.add_zero] at g0 g1 g2 g3 g4
          go_wp2_with fail
          have k0 : Below wr.heap.size wr wr.drew := (Below.refl _ wr).drew
          have hbr : b < wr.heap.size := Nat.lt_of_lt_of_le hbb hb.size
          have HMK : Hid (∀ w', Below wr.heap.size wr w' → (w'.cell? ⟨b, off, none⟩ = some (.string s) ∧ w'.cell? ⟨b, off + 1, none⟩ = some (.int .i64 q) ∧ w'.cell? ⟨b, off + 2, none⟩ = some (.int .i64 d) ∧ w'.cell? ⟨b, off + 3, none⟩ = some (.string t) ∧ w'.cell? ⟨b, off + 4, none⟩ = some (.int .i64 n) ∧ b < w'.heap.size)) := fun w' kk => ⟨cell_later kk g0, cell_later kk g1, cell_later kk g2, cell_later kk g3, cell_later kk g4, Nat.lt_of_lt_of_le hbr kk.size⟩
          refine wp_region_held_drew (S := (fun w' => w'.cell? ⟨b, off, none⟩ = some (.string s) ∧ w'.cell? ⟨b, off + 1, none⟩ = some (.int .i64 q) ∧ w'.cell? ⟨b, off + 2, none⟩ = some (.int .i64 d) ∧ w'.cell? ⟨b, off + 3, none⟩ = some (.string t) ∧ w'.cell? ⟨b, off + 4, none⟩ = some (.int .i64 n) ∧ b < w'.heap.size)) (by kernel_rfl) (HMK.out _ k0) (fun hHeld => ?_)
          refine tkL 0 hHeld ?_; try go_frame
          refine tkL 1 hHeld ?_; try go_frame
          refine tkL 2 hHeld ?_; try go_frame
          refine tkL 3 hHeld ?_; try go_frame
          refine wpAnyH_ready (rs := [4]) (by kernel_rfl) (by simp) ?_
          refine consL rfl (fun K hK => ?_) AllReadyH.nil
          go_simp
          refine (CE.out _).mono ?_
          rintro e w1 ⟨rfl, b1⟩
          have k1 : Below wr.heap.size wr w1 := k0.trans (b1.mono k0.size)
          go_wp2_with fail
          refine hK.out _ _ (HMK.out _ k1) (fun hHeld => ?_)
          clear hK K
          try go_frame
          refine tkL 5 hHeld ?_; try go_frame
          refine tkL 6 hHeld ?_; try go_frame
          refine tkL 7 hHeld ?_; try go_frame
          refine tkL 8 hHeld ?_; try go_frame
          refine tkL 9 hHeld ?_; try go_frame
          refine tkN 10 hHeld ?_; try go_frame
          refine tkN 11 hHeld ?_; try go_frame
          refine tkN 12 hHeld ?_; try go_frame
          refine tkN 13 hHeld ?_; try go_frame
          refine tkN 14 hHeld ?_; try go_frame
          refine tkN 15 hHeld ?_; try go_frame
          refine tkN 16 hHeld ?_; try go_frame
          refine tkN 17 hHeld ?_; try go_frame
          refine tkN 18 hHeld ?_; try go_frame
          refine wpAnyH_ready (rs := [19]) (by kernel_rfl) (by simp) ?_
          refine consL rfl (fun K hK => ?_) AllReadyH.nil
          go_simp
          refine hK.out _ _ (HMK.out _ k1) (fun hHeld => ?_)
          clear hK K
          try go_frame
          refine tkN 20 hHeld ?_; try go_frame
          refine tkL 21 hHeld ?_; try go_frame
          refine tkL 22 hHeld ?_; try go_frame
          refine wpAnyH_done (by kernel_rfl) ?_ _
          go_wp2
          go_roundw
          case rel => exact ⟨1, by omega, by go_num, hb.trans (k1.mono hb.size), right_snoc HALL.out (by rw [okAt_zero HG.out]; exact hv)⟩
          case measure => simp [intOf]; omega
        · obtain ⟨j, rfl⟩ : ∃ j, k = j + 1 := ⟨k - 1, by omega⟩
          obtain ⟨s', q', d', t', n', hg', hlw', g0', g1', g2', g3', g4'⟩ := HL.out.ent hb hbb j (by omega)
          have HG' : Hid (L[j]? = some (s', q', d', t', n')) := hg'
          clear hg' hlw'
          obtain ⟨B, hB⟩ : ∃ B, B = lessB s' q' s q := ⟨_, rfl⟩
          have CL : Hid (∀ w, Calls Tryz.prog 129 #[.agg #[.string s', .int .i64 q', .int .i64 d', .string t', .int .i64 n'], .agg #[.string s, .int .i64 q, .int .i64 d, .string t, .int .i64 n]] w fun e w' => e = .returned (.bool B) ∧ Below w.heap.size w w') := by rw [hB]; exact fun w => specLess s' t' s t q' d' n' q d n w
          have HOK : Hid (okAt L (j + 1) = B) := by
            show okAt L (j + 1) = B
            rw [okAt_succ HG.out HG'.out, hB, hv]; rfl
          clear hB
          have h0j : (0 : Int) ≤ (j : Int) + 1 := by omega
          have h0j' : (0 : Int) < (j : Int) + 1 := by omega
          have hjl : (j : Int) < (len : Int) := by omega
          have wj : IntKind.i64.wrap (j : Int) = (j : Int) := by rw [IntWalk.i64_left]; unfold wrap64; omega
          go_wp2_with fail
          have k0 : Below wr.heap.size wr wr.drew := (Below.refl _ wr).drew
          have hbr : b < wr.heap.size := Nat.lt_of_lt_of_le hbb hb.size
          have HMK : Hid (∀ w', Below wr.heap.size wr w' → (w'.cell? ⟨b, off + j * 5, none⟩ = some (.string s') ∧ w'.cell? ⟨b, off + j * 5 + 1, none⟩ = some (.int .i64 q') ∧ w'.cell? ⟨b, off + j * 5 + 2, none⟩ = some (.int .i64 d') ∧ w'.cell? ⟨b, off + j * 5 + 3, none⟩ = some (.string t') ∧ w'.cell? ⟨b, off + j * 5 + 4, none⟩ = some (.int .i64 n') ∧ w'.cell? ⟨b, off + (j + 1) * 5, none⟩ = some (.string s) ∧ w'.cell? ⟨b, off + (j + 1) * 5 + 1, none⟩ = some (.int .i64 q) ∧ w'.cell? ⟨b, off + (j + 1) * 5 + 2, none⟩ = some (.int .i64 d) ∧ w'.cell? ⟨b, off + (j + 1) * 5 + 3, none⟩ = some (.string t) ∧ w'.cell? ⟨b, off + (j + 1) * 5 + 4, none⟩ = some (.int .i64 n) ∧ b < w'.heap.size)) := fun w' kk => ⟨cell_later kk g0', cell_later kk g1', cell_later kk g2', cell_later kk g3', cell_later kk g4', cell_later kk g0, cell_later kk g1, cell_later kk g2, cell_later kk g3, cell_later kk g4, Nat.lt_of_lt_of_le hbr kk.size⟩
          refine wp_region_held_drew (S := (fun w' => w'.cell? ⟨b, off + j * 5, none⟩ = some (.string s') ∧ w'.cell? ⟨b, off + j * 5 + 1, none⟩ = some (.int .i64 q') ∧ w'.cell? ⟨b, off + j * 5 + 2, none⟩ = some (.int .i64 d') ∧ w'.cell? ⟨b, off + j * 5 + 3, none⟩ = some (.string t') ∧ w'.cell? ⟨b, off + j * 5 + 4, none⟩ = some (.int .i64 n') ∧ w'.cell? ⟨b, off + (j + 1) * 5, none⟩ = some (.string s) ∧ w'.cell? ⟨b, off + (j + 1) * 5 + 1, none⟩ = some (.int .i64 q) ∧ w'.cell? ⟨b, off + (j + 1) * 5 + 2, none⟩ = some (.int .i64 d) ∧ w'.cell? ⟨b, off + (j + 1) * 5 + 3, none⟩ = some (.string t) ∧ w'.cell? ⟨b, off + (j + 1) * 5 + 4, none⟩ = some (.int .i64 n) ∧ b < w'.heap.size)) (by kernel_rfl) (HMK.out _ k0) (fun hHeld => ?_)
          refine tkL 0 hHeld ?_; try go_frame
          refine tkL 1 hHeld ?_; try go_frame
          refine tkL 2 hHeld ?_; try go_frame
          refine tkL 3 hHeld ?_; try go_frame
          refine wpAnyH_ready (rs := [4]) (by kernel_rfl) (by simp) ?_
          refine consL rfl (fun K hK => ?_) AllReadyH.nil
          go_simp
          refine (CE.out _).mono ?_
          rintro e w1 ⟨rfl, b1⟩
          have k1 : Below wr.heap.size wr w1 := k0.trans (b1.mono k0.size)
          go_wp2_with fail
          refine hK.out _ _ (HMK.out _ k1) (fun hHeld => ?_)
          clear hK K
          try go_frame
          refine tkL 5 hHeld ?_; try go_frame
          refine tkL 6 hHeld ?_; try go_frame
          refine tkL 7 hHeld ?_; try go_frame
          refine tkL 8 hHeld ?_; try go_frame
          refine tkL 9 hHeld ?_; try go_frame
          refine tkL 10 hHeld ?_; try go_frame
          refine tkL 11 hHeld ?_; try go_frame
          refine tkL 12 hHeld ?_; try go_frame
          refine tkL 13 hHeld ?_; try go_frame
          refine tkL 14 hHeld ?_; try go_frame
          refine tkL 15 hHeld ?_; try go_frame
          refine tkL 16 hHeld ?_; try go_frame
          refine tkL 17 hHeld ?_; try go_frame
          refine tkL 18 hHeld ?_; try go_frame
          refine wpAnyH_ready (rs := [19]) (by kernel_rfl) (by simp) ?_
          refine consL rfl (fun K hK => ?_) AllReadyH.nil
          go_simp
          refine (CL.out _).mono ?_
          rintro e w2 ⟨rfl, b2⟩
          have k2 : Below wr.heap.size wr w2 := k1.trans (b2.mono k1.size)
          go_wp2_with fail
          refine hK.out _ _ (HMK.out _ k2) (fun hHeld => ?_)
          clear hK K
          try go_frame
          refine tkL 20 hHeld ?_; try go_frame
          refine tkL 21 hHeld ?_; try go_frame
          refine tkL 22 hHeld ?_; try go_frame
          refine wpAnyH_done (by kernel_rfl) ?_ _
          cases B with
          | true =>
            go_wp2
            go_roundw
            case rel => exact ⟨j + 1 + 1, by omega, by go_num, hb.trans (k2.mono hb.size), right_snoc HALL.out HOK.out⟩
            case measure => simp [intOf]; omega
          | false =>
            go_wp2
            go_ret
            exact ⟨ret_bool (right_no (by rw [HLEN.out]; exact hlt) HOK.out).symm, hb.trans (k2.mono hb.size)⟩
    · go_wp2
      go_ret
      exact ⟨ret_bool (right_of HALL.out (by rw [HLEN.out]; omega)).symm, hb⟩
end Go.Proofs.YtapjkbpfhmbfaaaGreatDoor
namespace Go.Proofs.YtapjkbpfhmbfaaaGreatDoor
open Go.RowKit
set_option maxRecDepth 100000
set_option maxHeartbeats 1000000
theorem implRight (a : Option Addr) (len cap : Nat) (L : List EntD) (w : World) (hL : EntsAt w a len cap L) :
    Calls Tryz.prog 142 #[.slice a len cap] w fun e w' => e = .returned (.bool (rightB L)) ∧ Below w.heap.size w w' := by
  have HLEN : Hid (L.length = len) := hL.length
  have hbl := hL.room
  have hbc := hL.big
  unfold maxLen at hbc
  have HL : Hid (EntsAt w a len cap L) := hL
  clear hL
  go_enter Tryz.func142, Tryz.ntmps142
  go_wp2
  go_loopw [7] (fun i wr => ∃ k : Nat, k ≤ len ∧ i = .int .i64 k ∧ Below w.heap.size w wr ∧ RightTo L k) (fun i _ => len - (intOf i).toNat)
  case atStart => exact ⟨0, Nat.zero_le _, rfl, Below.refl _ _, fun j hj => absurd hj (Nat.not_lt_zero _)⟩
  case round =>
    obtain ⟨k, hk, rfl, hb, hall⟩ := hrel
    have HALL : Hid (RightTo L k) := hall
    clear hall
    by_cases hlt : k < len
    · obtain ⟨b, off, rfl, hbb⟩ := HL.out.form (by omega)
      obtain ⟨s, q, d, t, n, hg, hlw, g0, g1, g2, g3, g4⟩ := HL.out.ent hb hbb k hlt
      have HG : Hid (L[k]? = some (s, q, d, t, n)) := hg
      have hs := hlw.1
      simp only at hs
      clear hg hlw
      cases hv : entB s q d t n with
      | false =>
        have CE : Hid (∀ w, Calls Tryz.prog 165 #[.agg #[.string s, .int .i64 q, .int .i64 d, .string t, .int .i64 n]] w fun e w' => e = .returned (.bool false) ∧ Below w.heap.size w w') := by rw [← hv]; exact fun w => implEnt s t q d n w hs
        go_wp2_with fail
        obtain ⟨X, hX⟩ : ∃ X, X = wr.heap.size := ⟨_, rfl⟩
        obtain ⟨W, hW⟩ : ∃ W, W = wr.alloc (.cells #[.string s, .int .i64 q, .int .i64 d, .string t, .int .i64 n] 87) := ⟨_, rfl⟩
        have x0 : W.cell? ⟨X, 0, none⟩ = some (.string s) := by rw [hW, hX]; simp
        have x1 : W.cell? ⟨X, 1, none⟩ = some (.int .i64 q) := by rw [hW, hX]; simp
        have x2 : W.cell? ⟨X, 2, none⟩ = some (.int .i64 d) := by rw [hW, hX]; simp
        have x3 : W.cell? ⟨X, 3, none⟩ = some (.string t) := by rw [hW, hX]; simp
        have x4 : W.cell? ⟨X, 4, none⟩ = some (.int .i64 n) := by rw [hW, hX]; simp
        have kW : Below wr.heap.size wr W := by rw [hW]; exact (Below.refl _ _).alloc (Nat.le_refl _) _
        have hbr : b < wr.heap.size := Nat.lt_of_lt_of_le hbb hb.size
        have hbW : b < W.heap.size := Nat.lt_of_lt_of_le hbr kW.size
        have HKW : Hid (Below w.heap.size w W) := hb.trans (kW.mono hb.size)
        rw [← hW, ← hX]
        clear hW hX kW
        have k0 : Below W.heap.size W W.drew := (Below.refl _ W).drew
        have HMK : Hid (∀ w', Below W.heap.size W w' → (w'.cell? ⟨X, 0, none⟩ = some (.string s) ∧ w'.cell? ⟨X, 1, none⟩ = some (.int .i64 q) ∧ w'.cell? ⟨X, 2, none⟩ = some (.int .i64 d) ∧ w'.cell? ⟨X, 3, none⟩ = some (.string t) ∧ w'.cell? ⟨X, 4, none⟩ = some (.int .i64 n) ∧ X < w'.heap.size)) := fun w' kk => ⟨cell_later kk x0, cell_later kk x1, cell_later kk x2, cell_later kk x3, cell_later kk x4, World.block_lt_of_cell? _ _ (cell_later kk x0)⟩
        refine wp_region_held_drew (S := (fun w' => w'.cell? ⟨X, 0, none⟩ = some (.string s) ∧ w'.cell? ⟨X, 1, none⟩ = some (.int .i64 q) ∧ w'.cell? ⟨X, 2, none⟩ = some (.int .i64 d) ∧ w'.cell? ⟨X, 3, none⟩ = some (.string t) ∧ w'.cell? ⟨X, 4, none⟩ = some (.int .i64 n) ∧ X < w'.heap.size)) (by kernel_rfl) (HMK.out _ k0) (fun hHeld => ?_)
        refine tkL 0 hHeld ?_; try go_frame
        refine wpAnyH_ready (rs := [1]) (by kernel_rfl) (by simp) ?_
        refine consL rfl (fun K hK => ?_) AllReadyH.nil
        go_simp
        refine (CE.out _).mono ?_
        rintro e w1 ⟨rfl, b1⟩
        have k1 : Below W.heap.size W w1 := k0.trans (b1.mono k0.size)
        go_wp2_with fail
        refine hK.out _ _ (HMK.out _ k1) (fun hHeld => ?_)
        clear hK K
        try go_frame
        refine tkL 2 hHeld ?_; try go_frame
        refine tkL 3 hHeld ?_; try go_frame
        refine tkN 4 hHeld ?_; try go_frame
        refine tkN 5 hHeld ?_; try go_frame
        refine tkN 6 hHeld ?_; try go_frame
        refine tkN 7 hHeld ?_; try go_frame
        refine tkN 8 hHeld ?_; try go_frame
        refine tkN 9 hHeld ?_; try go_frame
        refine tkN 10 hHeld ?_; try go_frame
        refine tkN 11 hHeld ?_; try go_frame
        refine tkN 12 hHeld ?_; try go_frame
        refine wpAnyH_ready (rs := [13]) (by kernel_rfl) (by simp) ?_
        refine consL rfl (fun K hK => ?_) AllReadyH.nil
        go_simp
        refine hK.out _ _ (HMK.out _ k1) (fun hHeld => ?_)
        clear hK K
        try go_frame
        refine tkN 14 hHeld ?_; try go_frame
        refine tkN 15 hHeld ?_; try go_frame
        refine tkL 16 hHeld ?_; try go_frame
        refine wpAnyH_done (by kernel_rfl) ?_ _
        go_wp2
        go_ret
        exact ⟨ret_bool (right_no (by rw [HLEN.out]; exact hlt) (okAt_ent HG.out hv)).symm, HKW.out.trans (k1.mono HKW.out.size)⟩
      | true =>
        have CE : Hid (∀ w, Calls Tryz.prog 165 #[.agg #[.string s, .int .i64 q, .int .i64 d, .string t, .int .i64 n]] w fun e w' => e = .returned (.bool true) ∧ Below w.heap.size w w') := by rw [← hv]; exact fun w => implEnt s t q d n w hs
        by_cases hk0 : k = 0
        · subst hk0
          simp only [Nat.zero_mul, Nat.add_zero] at g0 g1 g2 g3 g4
          go_wp2_with fail
          obtain ⟨X, hX⟩ : ∃ X, X = wr.heap.size := ⟨_, rfl⟩
          obtain ⟨W, hW⟩ : ∃ W, W = wr.alloc (.cells #[.string s, .int .i64 q, .int .i64 d, .string t, .int .i64 n] 87) := ⟨_, rfl⟩
          have x0 : W.cell? ⟨X, 0, none⟩ = some (.string s) := by rw [hW, hX]; simp
          have x1 : W.cell? ⟨X, 1, none⟩ = some (.int .i64 q) := by rw [hW, hX]; simp
          have x2 : W.cell? ⟨X, 2, none⟩ = some (.int .i64 d) := by rw [hW, hX]; simp
          have x3 : W.cell? ⟨X, 3, none⟩ = some (.string t) := by rw [hW, hX]; simp
          have x4 : W.cell? ⟨X, 4, none⟩ = some (.int .i64 n) := by rw [hW, hX]; simp
          have kW : Below wr.heap.size wr W := by rw [hW]; exact (Below.refl _ _).alloc (Nat.le_refl _) _
          have hbr : b < wr.heap.size := Nat.lt_of_lt_of_le hbb hb.size
          have hbW : b < W.heap.size := Nat.lt_of_lt_of_le hbr kW.size
          have HKW : Hid (Below w.heap.size w W) := hb.trans (kW.mono hb.size)
          rw [← hW, ← hX]
          clear hW hX kW
          have k0 : Below W.heap.size W W.drew := (Below.refl _ W).drew
          have HMK : Hid (∀ w', Below W.heap.size W w' → (w'.cell? ⟨X, 0, none⟩ = some (.string s) ∧ w'.cell? ⟨X, 1, none⟩ = some (.int .i64 q) ∧ w'.cell? ⟨X, 2, none⟩ = some (.int .i64 d) ∧ w'.cell? ⟨X, 3, none⟩ = some (.string t) ∧ w'.cell? ⟨X, 4, none⟩ = some (.int .i64 n) ∧ X < w'.heap.size)) := fun w' kk => ⟨cell_later kk x0, cell_later kk x1, cell_later kk x2, cell_later kk x3, cell_later kk x4, World.block_lt_of_cell? _ _ (cell_later kk x0)⟩
          refine wp_region_held_drew (S := (fun w' => w'.cell? ⟨X, 0, none⟩ = some (.string s) ∧ w'.cell? ⟨X, 1, none⟩ = some (.int .i64 q) ∧ w'.cell? ⟨X, 2, none⟩ = some (.int .i64 d) ∧ w'.cell? ⟨X, 3, none⟩ = some (.string t) ∧ w'.cell? ⟨X, 4, none⟩ = some (.int .i64 n) ∧ X < w'.heap.size)) (by kernel_rfl) (HMK.out _ k0) (fun hHeld => ?_)
          refine tkL 0 hHeld ?_; try go_frame
          refine wpAnyH_ready (rs := [1]) (by kernel_rfl) (by simp) ?_
          refine consL rfl (fun K hK => ?_) AllReadyH.nil
          go_simp
          refine (CE.out _).mono ?_
          rintro e w1 ⟨rfl, b1⟩
          have k1 : Below W.heap.size W w1 := k0.trans (b1.mono k0.size)
          go_wp2_with fail
          refine hK.out _ _ (HMK.out _ k1) (fun hHeld => ?_)
          clear hK K
          try go_frame
          refine tkL 2 hHeld ?_; try go_frame
          refine tkL 3 hHeld ?_; try go_frame
          refine tkL 4 hHeld ?_; try go_frame
          refine tkL 5 hHeld ?_; try go_frame
          refine tkL 6 hHeld ?_; try go_frame
          refine tkN 7 hHeld ?_; try go_frame
          refine tkN 8 hHeld ?_; try go_frame
          refine tkN 9 hHeld ?_; try go_frame
          refine tkN 10 hHeld ?_; try go_frame
          refine tkN 11 hHeld ?_; try go_frame
          refine tkN 12 hHeld ?_; try go_frame
          refine wpAnyH_ready (rs := [13]) (by kernel_rfl) (by simp) ?_
          refine consL rfl (fun K hK => ?_) AllReadyH.nil
          go_simp
          refine hK.out _ _ (HMK.out _ k1) (fun hHeld => ?_)
          clear hK K
          try go_frame
          refine tkN 14 hHeld ?_; try go_frame
          refine tkL 15 hHeld ?_; try go_frame
          refine tkL 16 hHeld ?_; try go_frame
          refine wpAnyH_done (by kernel_rfl) ?_ _
          go_wp2
          go_roundw
          case rel => exact ⟨1, by omega, by go_num, HKW.out.trans (k1.mono HKW.out.size), right_snoc HALL.out (by rw [okAt_zero HG.out]; exact hv)⟩
          case measure => simp [intOf]; omega
        · obtain ⟨j, rfl⟩ : ∃ j, k = j + 1 := ⟨k - 1, by omega⟩
          obtain ⟨s', q', d', t', n', hg', hlw', g0', g1', g2', g3', g4'⟩ := HL.out.ent hb hbb j (by omega)
          have HG' : Hid (L[j]? = some (s', q', d', t', n')) := hg'
          clear hg' hlw'
          obtain ⟨B, hB⟩ : ∃ B, B = lessB s' q' s q := ⟨_, rfl⟩
          have CL : Hid (∀ w, Calls Tryz.prog 190 #[.agg #[.string s', .int .i64 q', .int .i64 d', .string t', .int .i64 n'], .agg #[.string s, .int .i64 q, .int .i64 d, .string t, .int .i64 n]] w fun e w' => e = .returned (.bool B) ∧ Below w.heap.size w w') := by rw [hB]; exact fun w => implLess s' t' s t q' d' n' q d n w
          have HOK : Hid (okAt L (j + 1) = B) := by
            show okAt L (j + 1) = B
            rw [okAt_succ HG.out HG'.out, hB, hv]; rfl
          clear hB
          have h0j : (0 : Int) ≤ (j : Int) + 1 := by omega
          have h0j' : (0 : Int) < (j : Int) + 1 := by omega
          have hjl : (j : Int) < (len : Int) := by omega
          have wj : IntKind.i64.wrap (j : Int) = (j : Int) := by rw [IntWalk.i64_left]; unfold wrap64; omega
          go_wp2_with fail
          obtain ⟨X, hX⟩ : ∃ X, X = wr.heap.size := ⟨_, rfl⟩
          obtain ⟨W, hW⟩ : ∃ W, W = wr.alloc (.cells #[.string s, .int .i64 q, .int .i64 d, .string t, .int .i64 n] 87) := ⟨_, rfl⟩
          have x0 : W.cell? ⟨X, 0, none⟩ = some (.string s) := by rw [hW, hX]; simp
          have x1 : W.cell? ⟨X, 1, none⟩ = some (.int .i64 q) := by rw [hW, hX]; simp
          have x2 : W.cell? ⟨X, 2, none⟩ = some (.int .i64 d) := by rw [hW, hX]; simp
          have x3 : W.cell? ⟨X, 3, none⟩ = some (.string t) := by rw [hW, hX]; simp
          have x4 : W.cell? ⟨X, 4, none⟩ = some (.int .i64 n) := by rw [hW, hX]; simp
          have kW : Below wr.heap.size wr W := by rw [hW]; exact (Below.refl _ _).alloc (Nat.le_refl _) _
          have hbr : b < wr.heap.size := Nat.lt_of_lt_of_le hbb hb.size
          have hbW : b < W.heap.size := Nat.lt_of_lt_of_le hbr kW.size
          have y0 := cell_later kW g0'
          have y1 := cell_later kW g1'
          have y2 := cell_later kW g2'
          have y3 := cell_later kW g3'
          have y4 := cell_later kW g4'
          have HKW : Hid (Below w.heap.size w W) := hb.trans (kW.mono hb.size)
          rw [← hW, ← hX]
          clear hW hX kW
          have k0 : Below W.heap.size W W.drew := (Below.refl _ W).drew
          have HMK : Hid (∀ w', Below W.heap.size W w' → (w'.cell? ⟨X, 0, none⟩ = some (.string s) ∧ w'.cell? ⟨X, 1, none⟩ = some (.int .i64 q) ∧ w'.cell? ⟨X, 2, none⟩ = some (.int .i64 d) ∧ w'.cell? ⟨X, 3, none⟩ = some (.string t) ∧ w'.cell? ⟨X, 4, none⟩ = some (.int .i64 n) ∧ X < w'.heap.size ∧ w'.cell? ⟨b, off + j * 5, none⟩ = some (.string s') ∧ w'.cell? ⟨b, off + j * 5 + 1, none⟩ = some (.int .i64 q') ∧ w'.cell? ⟨b, off + j * 5 + 2, none⟩ = some (.int .i64 d') ∧ w'.cell? ⟨b, off + j * 5 + 3, none⟩ = some (.string t') ∧ w'.cell? ⟨b, off + j * 5 + 4, none⟩ = some (.int .i64 n') ∧ b < w'.heap.size)) := fun w' kk => ⟨cell_later kk x0, cell_later kk x1, cell_later kk x2, cell_later kk x3, cell_later kk x4, World.block_lt_of_cell? _ _ (cell_later kk x0), cell_later kk y0, cell_later kk y1, cell_later kk y2, cell_later kk y3, cell_later kk y4, Nat.lt_of_lt_of_le hbW kk.size⟩
          refine wp_region_held_drew (S := (fun w' => w'.cell? ⟨X, 0, none⟩ = some (.string s) ∧ w'.cell? ⟨X, 1, none⟩ = some (.int .i64 q) ∧ w'.cell? ⟨X, 2, none⟩ = some (.int .i64 d) ∧ w'.cell? ⟨X, 3, none⟩ = some (.string t) ∧ w'.cell? ⟨X, 4, none⟩ = some (.int .i64 n) ∧ X < w'.heap.size ∧ w'.cell? ⟨b, off + j * 5, none⟩ = some (.string s') ∧ w'.cell? ⟨b, off + j * 5 + 1, none⟩ = some (.int .i64 q') ∧ w'.cell? ⟨b, off + j * 5 + 2, none⟩ = some (.int .i64 d') ∧ w'.cell? ⟨b, off + j * 5 + 3, none⟩ = some (.string t') ∧ w'.cell? ⟨b, off + j * 5 + 4, none⟩ = some (.int .i64 n') ∧ b < w'.heap.size)) (by kernel_rfl) (HMK.out _ k0) (fun hHeld => ?_)
          refine tkL 0 hHeld ?_; try go_frame
          refine wpAnyH_ready (rs := [1]) (by kernel_rfl) (by simp) ?_
          refine consL rfl (fun K hK => ?_) AllReadyH.nil
          go_simp
          refine (CE.out _).mono ?_
          rintro e w1 ⟨rfl, b1⟩
          have k1 : Below W.heap.size W w1 := k0.trans (b1.mono k0.size)
          go_wp2_with fail
          refine hK.out _ _ (HMK.out _ k1) (fun hHeld => ?_)
          clear hK K
          try go_frame
          refine tkL 2 hHeld ?_; try go_frame
          refine tkL 3 hHeld ?_; try go_frame
          refine tkL 4 hHeld ?_; try go_frame
          refine tkL 5 hHeld ?_; try go_frame
          refine tkL 6 hHeld ?_; try go_frame
          refine tkL 7 hHeld ?_; try go_frame
          refine tkL 8 hHeld ?_; try go_frame
          refine tkL 9 hHeld ?_; try go_frame
          refine tkL 10 hHeld ?_; try go_frame
          refine tkL 11 hHeld ?_; try go_frame
          refine tkL 12 hHeld ?_; try go_frame
          refine wpAnyH_ready (rs := [13]) (by kernel_rfl) (by simp) ?_
          refine consL rfl (fun K hK => ?_) AllReadyH.nil
          go_simp
          refine (CL.out _).mono ?_
          rintro e w2 ⟨rfl, b2⟩
          have k2 : Below W.heap.size W w2 := k1.trans (b2.mono k1.size)
          go_wp2_with fail
          refine hK.out _ _ (HMK.out _ k2) (fun hHeld => ?_)
          clear hK K
          try go_frame
          refine tkL 14 hHeld ?_; try go_frame
          refine tkL 15 hHeld ?_; try go_frame
          refine tkL 16 hHeld ?_; try go_frame
          refine wpAnyH_done (by kernel_rfl) ?_ _
          cases B with
          | true =>
            go_wp2
            go_roundw
            case rel => exact ⟨j + 1 + 1, by omega, by go_num, HKW.out.trans (k2.mono HKW.out.size), right_snoc HALL.out HOK.out⟩
            case measure => simp [intOf]; omega
          | false =>
            go_wp2
            go_ret
            exact ⟨ret_bool (right_no (by rw [HLEN.out]; exact hlt) HOK.out).symm, HKW.out.trans (k2.mono HKW.out.size)⟩
    · go_wp2
      go_ret
      exact ⟨ret_bool (right_of HALL.out (by rw [HLEN.out]; omega)).symm, hb⟩
end Go.Proofs.YtapjkbpfhmbfaaaGreatDoor
namespace Go.Proofs.YtapjkbpfhmbfaaaGreatDoor
open Go.RowKit
set_option maxRecDepth 100000
set_option maxHeartbeats 1000000
theorem specRunOk (a : Option Addr) (len cap : Nat) (L : List EntD) (m : Int) (w : World) (hL : EntsAt w a len cap L) :
    Calls Tryz.prog 130 #[.agg #[.slice a len cap, .int .i64 m]] w fun e w' => e = .returned (.bool (runB L m)) ∧ Below w.heap.size w w' := by
  have HLEN : Hid (L.length = len) := hL.length
  have hbl := hL.room
  have hbc := hL.big
  unfold maxLen at hbc
  obtain ⟨X, hX⟩ : ∃ X, X = w.heap.size := ⟨_, rfl⟩
  obtain ⟨W, hW⟩ : ∃ W, W = w.alloc (.cells #[.slice a len cap, .int .i64 m] 135) := ⟨_, rfl⟩
  have x0 : W.cell? ⟨X, 0, none⟩ = some (.slice a len cap) := by rw [hW, hX]; simp
  have x1 : W.cell? ⟨X, 1, none⟩ = some (.int .i64 m) := by rw [hW, hX]; simp
  have kW : Below w.heap.size w W := by rw [hW]; exact (Below.refl _ _).alloc (Nat.le_refl _) _
  have hLW : EntsAt W a len cap L := hL.keep kW
  have k0 : Below W.heap.size W W.drew := (Below.refl _ W).drew
  have HKW : Hid (Below w.heap.size w W) := kW
  have CM : Hid (∀ w', Below W.heap.size W w' → Calls Tryz.prog 186 #[.slice a len cap] w' fun e w'' => e = .returned (.int .i64 ((maskL L : Nat) : Int)) ∧ Below w'.heap.size w' w'') := fun w' kk => specMaskL a len cap L w' (hLW.keep kk)
  have HMK : Hid (∀ w', Below W.heap.size W w' → (w'.cell? ⟨X, 0, none⟩ = some (.slice a len cap) ∧ w'.cell? ⟨X, 1, none⟩ = some (.int .i64 m) ∧ X < w'.heap.size)) := fun w' kk => ⟨cell_later kk x0, cell_later kk x1, World.block_lt_of_cell? _ _ (cell_later kk x0)⟩
  have HLW : Hid (EntsAt W a len cap L) := hLW
  clear kW hL hLW
  by_cases h1 : len < 1
  · have h1' : ¬ (1 : Int) ≤ (len : Int) := by omega
    have h1d : decide ((1 : Int) ≤ (len : Int)) = false := decide_eq_false h1'
    go_enter Tryz.func130, Tryz.ntmps130
    go_wp2_with fail
    rw [← hW, ← hX]
    clear hW hX
    refine wp_region_held_drew (S := (fun w' => w'.cell? ⟨X, 0, none⟩ = some (.slice a len cap) ∧ w'.cell? ⟨X, 1, none⟩ = some (.int .i64 m) ∧ X < w'.heap.size)) (by kernel_rfl) (HMK.out _ k0) (fun hHeld => ?_)
    refine tkL 0 hHeld ?_; try go_frame
    refine tkL 1 hHeld ?_; try go_frame
    refine tkL 2 hHeld ?_; try go_frame
    refine tkL 3 hHeld ?_; try go_frame
    refine tkL 4 hHeld ?_; try go_frame
    refine tkN 5 hHeld ?_; try go_frame
    refine tkN 6 hHeld ?_; try go_frame
    refine tkN 7 hHeld ?_; try go_frame
    refine tkN 8 hHeld ?_; try go_frame
    refine tkL 9 hHeld ?_; try go_frame
    refine tkL 10 hHeld ?_; try go_frame
    refine tkN 11 hHeld ?_; try go_frame
    refine tkN 12 hHeld ?_; try go_frame
    refine wpAnyH_ready (rs := [13]) (by kernel_rfl) (by simp) ?_
    refine consL rfl (fun K hK => ?_) AllReadyH.nil
    go_simp
    refine hK.out _ _ (HMK.out _ k0) (fun hHeld => ?_)
    clear hK K
    try go_frame
    refine tkL 14 hHeld ?_; try go_frame
    refine tkL 15 hHeld ?_; try go_frame
    refine tkN 16 hHeld ?_; try go_frame
    refine tkN 17 hHeld ?_; try go_frame
    refine tkN 18 hHeld ?_; try go_frame
    refine tkN 19 hHeld ?_; try go_frame
    refine wpAnyH_ready (rs := [20]) (by kernel_rfl) (by simp) ?_
    refine consL rfl (fun K hK => ?_) AllReadyH.nil
    go_simp
    refine hK.out _ _ (HMK.out _ k0) (fun hHeld => ?_)
    clear hK K
    try go_frame
    refine tkN 21 hHeld ?_; try go_frame
    refine tkL 22 hHeld ?_; try go_frame
    refine tkL 23 hHeld ?_; try go_frame
    refine wpAnyH_done (by kernel_rfl) ?_ _
    go_wp2
    go_ret
    exact ⟨ret_bool (runB_few (by rw [HLEN.out]; exact h1)).symm, HKW.out.trans (k0.mono HKW.out.size)⟩
  by_cases h2 : 150 < len
  · have h1' : (1 : Int) ≤ (len : Int) := by omega
    have h2' : ¬ (len : Int) ≤ 150 := by omega
    have h2d : decide ((len : Int) ≤ 150) = false := decide_eq_false h2'
    go_enter Tryz.func130, Tryz.ntmps130
    go_wp2_with fail
    rw [← hW, ← hX]
    clear hW hX
    refine wp_region_held_drew (S := (fun w' => w'.cell? ⟨X, 0, none⟩ = some (.slice a len cap) ∧ w'.cell? ⟨X, 1, none⟩ = some (.int .i64 m) ∧ X < w'.heap.size)) (by kernel_rfl) (HMK.out _ k0) (fun hHeld => ?_)
    refine tkL 0 hHeld ?_; try go_frame
    refine tkL 1 hHeld ?_; try go_frame
    refine tkL 2 hHeld ?_; try go_frame
    refine tkL 3 hHeld ?_; try go_frame
    refine tkL 4 hHeld ?_; try go_frame
    refine tkL 5 hHeld ?_; try go_frame
    refine tkL 6 hHeld ?_; try go_frame
    refine tkL 7 hHeld ?_; try go_frame
    refine tkL 8 hHeld ?_; try go_frame
    refine tkL 9 hHeld ?_; try go_frame
    refine tkL 10 hHeld ?_; try go_frame
    refine tkN 11 hHeld ?_; try go_frame
    refine tkN 12 hHeld ?_; try go_frame
    refine wpAnyH_ready (rs := [13]) (by kernel_rfl) (by simp) ?_
    refine consL rfl (fun K hK => ?_) AllReadyH.nil
    go_simp
    refine hK.out _ _ (HMK.out _ k0) (fun hHeld => ?_)
    clear hK K
    try go_frame
    refine tkL 14 hHeld ?_; try go_frame
    refine tkL 15 hHeld ?_; try go_frame
    refine tkN 16 hHeld ?_; try go_frame
    refine tkN 17 hHeld ?_; try go_frame
    refine tkN 18 hHeld ?_; try go_frame
    refine tkN 19 hHeld ?_; try go_frame
    refine wpAnyH_ready (rs := [20]) (by kernel_rfl) (by simp) ?_
    refine consL rfl (fun K hK => ?_) AllReadyH.nil
    go_simp
    refine hK.out _ _ (HMK.out _ k0) (fun hHeld => ?_)
    clear hK K
    try go_frame
    refine tkN 21 hHeld ?_; try go_frame
    refine tkL 22 hHeld ?_; try go_frame
    refine tkL 23 hHeld ?_; try go_frame
    refine wpAnyH_done (by kernel_rfl) ?_ _
    go_wp2
    go_ret
    exact ⟨ret_bool (runB_many (by rw [HLEN.out]; exact h2)).symm, HKW.out.trans (k0.mono HKW.out.size)⟩
  have h1' : (1 : Int) ≤ (len : Int) := by omega
  have h2' : (len : Int) ≤ 150 := by omega
  cases hr : rightB L with
  | false =>
    have CR : Hid (∀ w', Below W.heap.size W w' → Calls Tryz.prog 74 #[.slice a len cap] w' fun e w'' => e = .returned (.bool false) ∧ Below w'.heap.size w' w'') := by rw [← hr]; exact fun w' kk => specRight a len cap L w' (HLW.out.keep kk)
    go_enter Tryz.func130, Tryz.ntmps130
    go_wp2_with fail
    rw [← hW, ← hX]
    clear hW hX
    refine wp_region_held_drew (S := (fun w' => w'.cell? ⟨X, 0, none⟩ = some (.slice a len cap) ∧ w'.cell? ⟨X, 1, none⟩ = some (.int .i64 m) ∧ X < w'.heap.size)) (by kernel_rfl) (HMK.out _ k0) (fun hHeld => ?_)
    refine tkL 0 hHeld ?_; try go_frame
    refine tkL 1 hHeld ?_; try go_frame
    refine tkL 2 hHeld ?_; try go_frame
    refine tkL 3 hHeld ?_; try go_frame
    refine tkL 4 hHeld ?_; try go_frame
    refine tkL 5 hHeld ?_; try go_frame
    refine tkL 6 hHeld ?_; try go_frame
    refine tkL 7 hHeld ?_; try go_frame
    refine tkL 8 hHeld ?_; try go_frame
    refine tkL 9 hHeld ?_; try go_frame
    refine tkL 10 hHeld ?_; try go_frame
    refine tkL 11 hHeld ?_; try go_frame
    refine tkL 12 hHeld ?_; try go_frame
    refine wpAnyH_ready (rs := [13]) (by kernel_rfl) (by simp) ?_
    refine consL rfl (fun K hK => ?_) AllReadyH.nil
    go_simp
    refine (CR.out _ k0).mono ?_
    rintro e w1 ⟨rfl, b1⟩
    have k1 : Below W.heap.size W w1 := k0.trans (b1.mono k0.size)
    go_wp2_with fail
    refine hK.out _ _ (HMK.out _ k1) (fun hHeld => ?_)
    clear hK K
    try go_frame
    refine tkL 14 hHeld ?_; try go_frame
    refine tkL 15 hHeld ?_; try go_frame
    refine tkN 16 hHeld ?_; try go_frame
    refine tkN 17 hHeld ?_; try go_frame
    refine tkN 18 hHeld ?_; try go_frame
    refine tkN 19 hHeld ?_; try go_frame
    refine wpAnyH_ready (rs := [20]) (by kernel_rfl) (by simp) ?_
    refine consL rfl (fun K hK => ?_) AllReadyH.nil
    go_simp
    refine hK.out _ _ (HMK.out _ k1) (fun hHeld => ?_)
    clear hK K
    try go_frame
    refine tkN 21 hHeld ?_; try go_frame
    refine tkL 22 hHeld ?_; try go_frame
    refine tkL 23 hHeld ?_; try go_frame
    refine wpAnyH_done (by kernel_rfl) ?_ _
    go_wp2
    go_ret
    exact ⟨ret_bool (runB_right hr).symm, HKW.out.trans (k1.mono HKW.out.size)⟩
  | true =>
    have CR : Hid (∀ w', Below W.heap.size W w' → Calls Tryz.prog 74 #[.slice a len cap] w' fun e w'' => e = .returned (.bool true) ∧ Below w'.heap.size w' w'') := by rw [← hr]; exact fun w' kk => specRight a len cap L w' (HLW.out.keep kk)
    go_enter Tryz.func130, Tryz.ntmps130
    go_wp2_with fail
    rw [← hW, ← hX]
    clear hW hX
    refine wp_region_held_drew (S := (fun w' => w'.cell? ⟨X, 0, none⟩ = some (.slice a len cap) ∧ w'.cell? ⟨X, 1, none⟩ = some (.int .i64 m) ∧ X < w'.heap.size)) (by kernel_rfl) (HMK.out _ k0) (fun hHeld => ?_)
    refine tkL 0 hHeld ?_; try go_frame
    refine tkL 1 hHeld ?_; try go_frame
    refine tkL 2 hHeld ?_; try go_frame
    refine tkL 3 hHeld ?_; try go_frame
    refine tkL 4 hHeld ?_; try go_frame
    refine tkL 5 hHeld ?_; try go_frame
    refine tkL 6 hHeld ?_; try go_frame
    refine tkL 7 hHeld ?_; try go_frame
    refine tkL 8 hHeld ?_; try go_frame
    refine tkL 9 hHeld ?_; try go_frame
    refine tkL 10 hHeld ?_; try go_frame
    refine tkL 11 hHeld ?_; try go_frame
    refine tkL 12 hHeld ?_; try go_frame
    refine wpAnyH_ready (rs := [13]) (by kernel_rfl) (by simp) ?_
    refine consL rfl (fun K hK => ?_) AllReadyH.nil
    go_simp
    refine (CR.out _ k0).mono ?_
    rintro e w1 ⟨rfl, b1⟩
    have k1 : Below W.heap.size W w1 := k0.trans (b1.mono k0.size)
    go_wp2_with fail
    refine hK.out _ _ (HMK.out _ k1) (fun hHeld => ?_)
    clear hK K
    try go_frame
    refine tkL 14 hHeld ?_; try go_frame
    refine tkL 15 hHeld ?_; try go_frame
    refine tkL 16 hHeld ?_; try go_frame
    refine tkL 17 hHeld ?_; try go_frame
    refine tkL 18 hHeld ?_; try go_frame
    refine tkL 19 hHeld ?_; try go_frame
    refine wpAnyH_ready (rs := [20]) (by kernel_rfl) (by simp) ?_
    refine consL rfl (fun K hK => ?_) AllReadyH.nil
    go_simp
    refine (CM.out _ k1).mono ?_
    rintro e w2 ⟨rfl, b2⟩
    have k2 : Below W.heap.size W w2 := k1.trans (b2.mono k1.size)
    go_wp2_with fail
    refine hK.out _ _ (HMK.out _ k2) (fun hHeld => ?_)
    clear hK K
    try go_frame
    refine tkL 21 hHeld ?_; try go_frame
    refine tkL 22 hHeld ?_; try go_frame
    refine tkL 23 hHeld ?_; try go_frame
    refine wpAnyH_done (by kernel_rfl) ?_ _
    go_wp2
    go_ret
    refine ⟨ret_bool ?_, HKW.out.trans (k2.mono HKW.out.size)⟩
    rw [runB_mask (by rw [HLEN.out]; omega) (by rw [HLEN.out]; omega) hr]
    first | rfl | (rw [Bool.eq_iff_iff]; simp)
theorem implRunOk (a : Option Addr) (len cap : Nat) (L : List EntD) (m : Int) (w : World) (hL : EntsAt w a len cap L) :
    Calls Tryz.prog 217 #[.agg #[.slice a len cap, .int .i64 m]] w fun e w' => e = .returned (.bool (runB L m)) ∧ Below w.heap.size w w' := by
  have HLEN : Hid (L.length = len) := hL.length
  have hbl := hL.room
  have hbc := hL.big
  unfold maxLen at hbc
  obtain ⟨X, hX⟩ : ∃ X, X = w.heap.size := ⟨_, rfl⟩
  obtain ⟨W, hW⟩ : ∃ W, W = w.alloc (.cells #[.slice a len cap, .int .i64 m] 135) := ⟨_, rfl⟩
  have x0 : W.cell? ⟨X, 0, none⟩ = some (.slice a len cap) := by rw [hW, hX]; simp
  have x1 : W.cell? ⟨X, 1, none⟩ = some (.int .i64 m) := by rw [hW, hX]; simp
  have kW : Below w.heap.size w W := by rw [hW]; exact (Below.refl _ _).alloc (Nat.le_refl _) _
  have hLW : EntsAt W a len cap L := hL.keep kW
  have k0 : Below W.heap.size W W.drew := (Below.refl _ W).drew
  have HKW : Hid (Below w.heap.size w W) := kW
  have CM : Hid (∀ w', Below W.heap.size W w' → Calls Tryz.prog 216 #[.slice a len cap] w' fun e w'' => e = .returned (.int .i64 ((maskL L : Nat) : Int)) ∧ Below w'.heap.size w' w'') := fun w' kk => implMaskL a len cap L w' (hLW.keep kk)
  have HMK : Hid (∀ w', Below W.heap.size W w' → (w'.cell? ⟨X, 0, none⟩ = some (.slice a len cap) ∧ w'.cell? ⟨X, 1, none⟩ = some (.int .i64 m) ∧ X < w'.heap.size)) := fun w' kk => ⟨cell_later kk x0, cell_later kk x1, World.block_lt_of_cell? _ _ (cell_later kk x0)⟩
  have HLW : Hid (EntsAt W a len cap L) := hLW
  clear kW hL hLW
  by_cases h1 : len < 1
  · have h1' : ¬ (1 : Int) ≤ (len : Int) := by omega
    have h1d : decide ((1 : Int) ≤ (len : Int)) = false := decide_eq_false h1'
    go_enter Tryz.func217, Tryz.ntmps217
    go_wp2_with fail
    rw [← hW, ← hX]
    clear hW hX
    refine wp_region_held_drew (S := (fun w' => w'.cell? ⟨X, 0, none⟩ = some (.slice a len cap) ∧ w'.cell? ⟨X, 1, none⟩ = some (.int .i64 m) ∧ X < w'.heap.size)) (by kernel_rfl) (HMK.out _ k0) (fun hHeld => ?_)
    refine tkL 0 hHeld ?_; try go_frame
    refine tkL 1 hHeld ?_; try go_frame
    refine tkL 2 hHeld ?_; try go_frame
    refine tkL 3 hHeld ?_; try go_frame
    refine tkL 4 hHeld ?_; try go_frame
    refine tkN 5 hHeld ?_; try go_frame
    refine tkN 6 hHeld ?_; try go_frame
    refine tkN 7 hHeld ?_; try go_frame
    refine tkN 8 hHeld ?_; try go_frame
    refine tkL 9 hHeld ?_; try go_frame
    refine tkL 10 hHeld ?_; try go_frame
    refine tkN 11 hHeld ?_; try go_frame
    refine tkN 12 hHeld ?_; try go_frame
    refine wpAnyH_ready (rs := [13]) (by kernel_rfl) (by simp) ?_
    refine consL rfl (fun K hK => ?_) AllReadyH.nil
    go_simp
    refine hK.out _ _ (HMK.out _ k0) (fun hHeld => ?_)
    clear hK K
    try go_frame
    refine tkL 14 hHeld ?_; try go_frame
    refine tkL 15 hHeld ?_; try go_frame
    refine tkN 16 hHeld ?_; try go_frame
    refine tkN 17 hHeld ?_; try go_frame
    refine tkN 18 hHeld ?_; try go_frame
    refine tkN 19 hHeld ?_; try go_frame
    refine wpAnyH_ready (rs := [20]) (by kernel_rfl) (by simp) ?_
    refine consL rfl (fun K hK => ?_) AllReadyH.nil
    go_simp
    refine hK.out _ _ (HMK.out _ k0) (fun hHeld => ?_)
    clear hK K
    try go_frame
    refine tkN 21 hHeld ?_; try go_frame
    refine tkL 22 hHeld ?_; try go_frame
    refine tkL 23 hHeld ?_; try go_frame
    refine wpAnyH_done (by kernel_rfl) ?_ _
    go_wp2
    go_ret
    exact ⟨ret_bool (runB_few (by rw [HLEN.out]; exact h1)).symm, HKW.out.trans (k0.mono HKW.out.size)⟩
  by_cases h2 : 150 < len
  · have h1' : (1 : Int) ≤ (len : Int) := by omega
    have h2' : ¬ (len : Int) ≤ 150 := by omega
    have h2d : decide ((len : Int) ≤ 150) = false := decide_eq_false h2'
    go_enter Tryz.func217, Tryz.ntmps217
    go_wp2_with fail
    rw [← hW, ← hX]
    clear hW hX
    refine wp_region_held_drew (S := (fun w' => w'.cell? ⟨X, 0, none⟩ = some (.slice a len cap) ∧ w'.cell? ⟨X, 1, none⟩ = some (.int .i64 m) ∧ X < w'.heap.size)) (by kernel_rfl) (HMK.out _ k0) (fun hHeld => ?_)
    refine tkL 0 hHeld ?_; try go_frame
    refine tkL 1 hHeld ?_; try go_frame
    refine tkL 2 hHeld ?_; try go_frame
    refine tkL 3 hHeld ?_; try go_frame
    refine tkL 4 hHeld ?_; try go_frame
    refine tkL 5 hHeld ?_; try go_frame
    refine tkL 6 hHeld ?_; try go_frame
    refine tkL 7 hHeld ?_; try go_frame
    refine tkL 8 hHeld ?_; try go_frame
    refine tkL 9 hHeld ?_; try go_frame
    refine tkL 10 hHeld ?_; try go_frame
    refine tkN 11 hHeld ?_; try go_frame
    refine tkN 12 hHeld ?_; try go_frame
    refine wpAnyH_ready (rs := [13]) (by kernel_rfl) (by simp) ?_
    refine consL rfl (fun K hK => ?_) AllReadyH.nil
    go_simp
    refine hK.out _ _ (HMK.out _ k0) (fun hHeld => ?_)
    clear hK K
    try go_frame
    refine tkL 14 hHeld ?_; try go_frame
    refine tkL 15 hHeld ?_; try go_frame
    refine tkN 16 hHeld ?_; try go_frame
    refine tkN 17 hHeld ?_; try go_frame
    refine tkN 18 hHeld ?_; try go_frame
    refine tkN 19 hHeld ?_; try go_frame
    refine wpAnyH_ready (rs := [20]) (by kernel_rfl) (by simp) ?_
    refine consL rfl (fun K hK => ?_) AllReadyH.nil
    go_simp
    refine hK.out _ _ (HMK.out _ k0) (fun hHeld => ?_)
    clear hK K
    try go_frame
    refine tkN 21 hHeld ?_; try go_frame
    refine tkL 22 hHeld ?_; try go_frame
    refine tkL 23 hHeld ?_; try go_frame
    refine wpAnyH_done (by kernel_rfl) ?_ _
    go_wp2
    go_ret
    exact ⟨ret_bool (runB_many (by rw [HLEN.out]; exact h2)).symm, HKW.out.trans (k0.mono HKW.out.size)⟩
  have h1' : (1 : Int) ≤ (len : Int) := by omega
  have h2' : (len : Int) ≤ 150 := by omega
  cases hr : rightB L with
  | false =>
    have CR : Hid (∀ w', Below W.heap.size W w' → Calls Tryz.prog 142 #[.slice a len cap] w' fun e w'' => e = .returned (.bool false) ∧ Below w'.heap.size w' w'') := by rw [← hr]; exact fun w' kk => implRight a len cap L w' (HLW.out.keep kk)
    go_enter Tryz.func217, Tryz.ntmps217
    go_wp2_with fail
    rw [← hW, ← hX]
    clear hW hX
    refine wp_region_held_drew (S := (fun w' => w'.cell? ⟨X, 0, none⟩ = some (.slice a len cap) ∧ w'.cell? ⟨X, 1, none⟩ = some (.int .i64 m) ∧ X < w'.heap.size)) (by kernel_rfl) (HMK.out _ k0) (fun hHeld => ?_)
    refine tkL 0 hHeld ?_; try go_frame
    refine tkL 1 hHeld ?_; try go_frame
    refine tkL 2 hHeld ?_; try go_frame
    refine tkL 3 hHeld ?_; try go_frame
    refine tkL 4 hHeld ?_; try go_frame
    refine tkL 5 hHeld ?_; try go_frame
    refine tkL 6 hHeld ?_; try go_frame
    refine tkL 7 hHeld ?_; try go_frame
    refine tkL 8 hHeld ?_; try go_frame
    refine tkL 9 hHeld ?_; try go_frame
    refine tkL 10 hHeld ?_; try go_frame
    refine tkL 11 hHeld ?_; try go_frame
    refine tkL 12 hHeld ?_; try go_frame
    refine wpAnyH_ready (rs := [13]) (by kernel_rfl) (by simp) ?_
    refine consL rfl (fun K hK => ?_) AllReadyH.nil
    go_simp
    refine (CR.out _ k0).mono ?_
    rintro e w1 ⟨rfl, b1⟩
    have k1 : Below W.heap.size W w1 := k0.trans (b1.mono k0.size)
    go_wp2_with fail
    refine hK.out _ _ (HMK.out _ k1) (fun hHeld => ?_)
    clear hK K
    try go_frame
    refine tkL 14 hHeld ?_; try go_frame
    refine tkL 15 hHeld ?_; try go_frame
    refine tkN 16 hHeld ?_; try go_frame
    refine tkN 17 hHeld ?_; try go_frame
    refine tkN 18 hHeld ?_; try go_frame
    refine tkN 19 hHeld ?_; try go_frame
    refine wpAnyH_ready (rs := [20]) (by kernel_rfl) (by simp) ?_
    refine consL rfl (fun K hK => ?_) AllReadyH.nil
    go_simp
    refine hK.out _ _ (HMK.out _ k1) (fun hHeld => ?_)
    clear hK K
    try go_frame
    refine tkN 21 hHeld ?_; try go_frame
    refine tkL 22 hHeld ?_; try go_frame
    refine tkL 23 hHeld ?_; try go_frame
    refine wpAnyH_done (by kernel_rfl) ?_ _
    go_wp2
    go_ret
    exact ⟨ret_bool (runB_right hr).symm, HKW.out.trans (k1.mono HKW.out.size)⟩
  | true =>
    have CR : Hid (∀ w', Below W.heap.size W w' → Calls Tryz.prog 142 #[.slice a len cap] w' fun e w'' => e = .returned (.bool true) ∧ Below w'.heap.size w' w'') := by rw [← hr]; exact fun w' kk => implRight a len cap L w' (HLW.out.keep kk)
    go_enter Tryz.func217, Tryz.ntmps217
    go_wp2_with fail
    rw [← hW, ← hX]
    clear hW hX
    refine wp_region_held_drew (S := (fun w' => w'.cell? ⟨X, 0, none⟩ = some (.slice a len cap) ∧ w'.cell? ⟨X, 1, none⟩ = some (.int .i64 m) ∧ X < w'.heap.size)) (by kernel_rfl) (HMK.out _ k0) (fun hHeld => ?_)
    refine tkL 0 hHeld ?_; try go_frame
    refine tkL 1 hHeld ?_; try go_frame
    refine tkL 2 hHeld ?_; try go_frame
    refine tkL 3 hHeld ?_; try go_frame
    refine tkL 4 hHeld ?_; try go_frame
    refine tkL 5 hHeld ?_; try go_frame
    refine tkL 6 hHeld ?_; try go_frame
    refine tkL 7 hHeld ?_; try go_frame
    refine tkL 8 hHeld ?_; try go_frame
    refine tkL 9 hHeld ?_; try go_frame
    refine tkL 10 hHeld ?_; try go_frame
    refine tkL 11 hHeld ?_; try go_frame
    refine tkL 12 hHeld ?_; try go_frame
    refine wpAnyH_ready (rs := [13]) (by kernel_rfl) (by simp) ?_
    refine consL rfl (fun K hK => ?_) AllReadyH.nil
    go_simp
    refine (CR.out _ k0).mono ?_
    rintro e w1 ⟨rfl, b1⟩
    have k1 : Below W.heap.size W w1 := k0.trans (b1.mono k0.size)
    go_wp2_with fail
    refine hK.out _ _ (HMK.out _ k1) (fun hHeld => ?_)
    clear hK K
    try go_frame
    refine tkL 14 hHeld ?_; try go_frame
    refine tkL 15 hHeld ?_; try go_frame
    refine tkL 16 hHeld ?_; try go_frame
    refine tkL 17 hHeld ?_; try go_frame
    refine tkL 18 hHeld ?_; try go_frame
    refine tkL 19 hHeld ?_; try go_frame
    refine wpAnyH_ready (rs := [20]) (by kernel_rfl) (by simp) ?_
    refine consL rfl (fun K hK => ?_) AllReadyH.nil
    go_simp
    refine (CM.out _ k1).mono ?_
    rintro e w2 ⟨rfl, b2⟩
    have k2 : Below W.heap.size W w2 := k1.trans (b2.mono k1.size)
    go_wp2_with fail
    refine hK.out _ _ (HMK.out _ k2) (fun hHeld => ?_)
    clear hK K
    try go_frame
    refine tkL 21 hHeld ?_; try go_frame
    refine tkL 22 hHeld ?_; try go_frame
    refine tkL 23 hHeld ?_; try go_frame
    refine wpAnyH_done (by kernel_rfl) ?_ _
    go_wp2
    go_ret
    refine ⟨ret_bool ?_, HKW.out.trans (k2.mono HKW.out.size)⟩
    rw [runB_mask (by rw [HLEN.out]; omega) (by rw [HLEN.out]; omega) hr]
    first | rfl | (rw [Bool.eq_iff_iff]; simp)
end Go.Proofs.YtapjkbpfhmbfaaaGreatDoor
