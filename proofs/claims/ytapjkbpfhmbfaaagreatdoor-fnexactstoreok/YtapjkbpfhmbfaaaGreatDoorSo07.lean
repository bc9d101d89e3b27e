/-
  What the document's l6Batch and the program's wasDone answer of every list of entries, by walks of their Go text.
-/
import Derived.Deep.RegionHeld3
import Derived.Deep.RegionWith
import Derived.Deep.DeepCutAuto
import Derived.Test.YtapjkbpfhmbfaaaGreatDoorSo01
import Derived.Test.YtapjkbpfhmbfaaaGreatDoorSo06
import Derived.Test.YtapjkbpfhmbfaaaGreatDoorSo02
import Derived.Test.YtapjkbpfhmbfaaaGreatDoorSo03
namespace Go.Proofs.YtapjkbpfhmbfaaaGreatDoor
open Go.RowKit
set_option maxRecDepth 100000
set_option maxHeartbeats 2000000
theorem specDone (a : Option Addr) (len cap : Nat) (L : List EntD) (w : World) (hL : EntsAt w a len cap L) :
    Calls Tryz.prog 163 #[.slice a len cap] w fun e w' => e = .returned (.bool (doneB L)) ∧ Below w.heap.size w w' := by
  have HLEN : Hid (L.length = len) := hL.length
  have hbl := hL.room
  have hbc := hL.big
  unfold maxLen at hbc
  have HL : Hid (EntsAt w a len cap L) := hL
  clear hL
  go_enter Tryz.func163, Tryz.ntmps163
  go_wp2
  go_loopw [3] (fun i wr => ∃ k : Nat, k ≤ len ∧ i = .int .i64 k ∧ Below w.heap.size w wr ∧ stepsB L k = true) (fun i _ => len - (intOf i).toNat)
  case atStart => exact ⟨0, Nat.zero_le _, rfl, Below.refl _ _, rfl⟩
  case round =>
    obtain ⟨k, hk, rfl, hb, hall⟩ := hrel
    have HALL : Hid (stepsB L k = true) := hall
    clear hall
    by_cases hlt : k < len
    · obtain ⟨b, off, rfl, hbb⟩ := HL.out.form (by omega)
      obtain ⟨s, q, d, t, n, hg, hlw, g0, g1, g2, g3, g4⟩ := HL.out.ent hb hbb k hlt
      have HG : Hid (L[k]? = some (s, q, d, t, n)) := hg
      have hs := hlw.1
      have ht := hlw.2.2.2.1
      simp only at hs ht
      clear hg hlw
      cases hv : entB s q d t n with
      | false =>
        have CE : Hid (∀ w, Calls Tryz.prog 128 #[.agg #[.string s, .int .i64 q, .int .i64 d, .string t, .int .i64 n]] w fun e w' => e = .returned (.bool false) ∧ Below w.heap.size w w') := by rw [← hv]; exact fun w => specEnt s t q d n w hs ht
        go_wp2_with fail
        obtain ⟨W, hW⟩ : ∃ W, W = wr := ⟨_, rfl⟩
        have kW : Below wr.heap.size wr W := by rw [hW]; exact Below.refl _ _
        have hbr : b < wr.heap.size := Nat.lt_of_lt_of_le hbb hb.size
        have hbW : b < W.heap.size := Nat.lt_of_lt_of_le hbr kW.size
        have z0 := cell_later kW g0
        have z1 := cell_later kW g1
        have z2 := cell_later kW g2
        have z3 := cell_later kW g3
        have z4 := cell_later kW g4
        have HKW : Hid (Below w.heap.size w W) := hb.trans (kW.mono hb.size)
        rw [← hW]
        clear hW kW
        have k0 : Below W.heap.size W W.drew := (Below.refl _ W).drew
        have HMK : Hid (∀ w', Below W.heap.size W w' → (w'.cell? ⟨b, off + k * 5, none⟩ = some (.string s) ∧ w'.cell? ⟨b, off + k * 5 + 1, none⟩ = some (.int .i64 q) ∧ w'.cell? ⟨b, off + k * 5 + 2, none⟩ = some (.int .i64 d) ∧ w'.cell? ⟨b, off + k * 5 + 3, none⟩ = some (.string t) ∧ w'.cell? ⟨b, off + k * 5 + 4, none⟩ = some (.int .i64 n) ∧ b < w'.heap.size)) := fun w' kk => ⟨cell_later kk z0, cell_later kk z1, cell_later kk z2, cell_later kk z3, cell_later kk z4, Nat.lt_of_lt_of_le hbW kk.size⟩
        refine wp_region_held_drew (S := (fun w' => w'.cell? ⟨b, off + k * 5, none⟩ = some (.string s) ∧ w'.cell? ⟨b, off + k * 5 + 1, none⟩ = some (.int .i64 q) ∧ w'.cell? ⟨b, off + k * 5 + 2, none⟩ = some (.int .i64 d) ∧ w'.cell? ⟨b, off + k * 5 + 3, none⟩ = some (.string t) ∧ w'.cell? ⟨b, off + k * 5 + 4, none⟩ = some (.int .i64 n) ∧ b < w'.heap.size)) (by kernel_rfl) (HMK.out _ k0) (fun hHeld => ?_)
        refine tkL 0 hHeld ?_; try go_frame
        refine tkL 1 hHeld ?_; try go_frame
        refine tkL 2 hHeld ?_; try go_frame
        refine tkL 3 hHeld ?_; try go_frame
        refine wpAnyH_ready (rs := [4]) (by kernel_rfl) (by simp) ?_
        refine consL rfl (fun K hK => ?_) AllReadyH.nil
        go_simp
        refine (CE.out _).mono ?_
        rintro e w1 ⟨rfl, b1⟩
        have k1 : Below W.heap.size W w1 := k0.trans (b1.mono k0.size)
        go_wp2_with fail
        refine hK.out _ _ (HMK.out _ k1) (fun hHeld => ?_)
        clear hK K
        try go_frame
        refine tkL 5 hHeld ?_; try go_frame
        refine tkL 6 hHeld ?_; try go_frame
        refine tkN 7 hHeld ?_; try go_frame
        refine tkN 8 hHeld ?_; try go_frame
        refine tkN 9 hHeld ?_; try go_frame
        refine tkN 10 hHeld ?_; try go_frame
        refine tkN 11 hHeld ?_; try go_frame
        refine tkN 12 hHeld ?_; try go_frame
        refine tkN 13 hHeld ?_; try go_frame
        refine tkN 14 hHeld ?_; try go_frame
        refine tkN 15 hHeld ?_; try go_frame
        refine tkN 16 hHeld ?_; try go_frame
        refine tkN 17 hHeld ?_; try go_frame
        refine tkN 18 hHeld ?_; try go_frame
        refine tkN 19 hHeld ?_; try go_frame
        refine tkN 20 hHeld ?_; try go_frame
        refine tkN 21 hHeld ?_; try go_frame
        refine tkN 22 hHeld ?_; try go_frame
        refine tkN 23 hHeld ?_; try go_frame
        refine tkL 24 hHeld ?_; try go_frame
        refine wpAnyH_done (by kernel_rfl) ?_ _
        go_wp2
        go_ret
        exact ⟨ret_bool (done_no (by rw [HLEN.out]; exact hlt) (step_ent' HG.out hv)).symm, HKW.out.trans (k1.mono HKW.out.size)⟩
      | true =>
        have CE : Hid (∀ w, Calls Tryz.prog 128 #[.agg #[.string s, .int .i64 q, .int .i64 d, .string t, .int .i64 n]] w fun e w' => e = .returned (.bool true) ∧ Below w.heap.size w w') := by rw [← hv]; exact fun w => specEnt s t q d n w hs ht
        by_cases hk0 : k = 0
        · subst hk0
          try simp only [Nat.zero_mul, Nat.add_zero] at g0 g1 g2 g3 g4
          go_wp2_with fail
          obtain ⟨W, hW⟩ : ∃ W, W = wr := ⟨_, rfl⟩
          have kW : Below wr.heap.size wr W := by rw [hW]; exact Below.refl _ _
          have hbr : b < wr.heap.size := Nat.lt_of_lt_of_le hbb hb.size
          have hbW : b < W.heap.size := Nat.lt_of_lt_of_le hbr kW.size
          have z0 := cell_later kW g0
          have z1 := cell_later kW g1
          have z2 := cell_later kW g2
          have z3 := cell_later kW g3
          have z4 := cell_later kW g4
          have HKW : Hid (Below w.heap.size w W) := hb.trans (kW.mono hb.size)
          rw [← hW]
          clear hW kW
          have k0 : Below W.heap.size W W.drew := (Below.refl _ W).drew
          have HMK : Hid (∀ w', Below W.heap.size W w' → (w'.cell? ⟨b, off, none⟩ = some (.string s) ∧ w'.cell? ⟨b, off + 1, none⟩ = some (.int .i64 q) ∧ w'.cell? ⟨b, off + 2, none⟩ = some (.int .i64 d) ∧ w'.cell? ⟨b, off + 3, none⟩ = some (.string t) ∧ w'.cell? ⟨b, off + 4, none⟩ = some (.int .i64 n) ∧ b < w'.heap.size)) := fun w' kk => ⟨cell_later kk z0, cell_later kk z1, cell_later kk z2, cell_later kk z3, cell_later kk z4, Nat.lt_of_lt_of_le hbW kk.size⟩
          refine wp_region_held_drew (S := (fun w' => w'.cell? ⟨b, off, none⟩ = some (.string s) ∧ w'.cell? ⟨b, off + 1, none⟩ = some (.int .i64 q) ∧ w'.cell? ⟨b, off + 2, none⟩ = some (.int .i64 d) ∧ w'.cell? ⟨b, off + 3, none⟩ = some (.string t) ∧ w'.cell? ⟨b, off + 4, none⟩ = some (.int .i64 n) ∧ b < w'.heap.size)) (by kernel_rfl) (HMK.out _ k0) (fun hHeld => ?_)
          refine tkL 0 hHeld ?_; try go_frame
          refine tkL 1 hHeld ?_; try go_frame
          refine tkL 2 hHeld ?_; try go_frame
          refine tkL 3 hHeld ?_; try go_frame
          refine wpAnyH_ready (rs := [4]) (by kernel_rfl) (by simp) ?_
          refine consL rfl (fun K hK => ?_) AllReadyH.nil
          go_simp
          refine (CE.out _).mono ?_
          rintro e w1 ⟨rfl, b1⟩
          have k1 : Below W.heap.size W w1 := k0.trans (b1.mono k0.size)
          go_wp2_with fail
          refine hK.out _ _ (HMK.out _ k1) (fun hHeld => ?_)
          clear hK K
          try go_frame
          refine tkL 5 hHeld ?_; try go_frame
          refine tkL 6 hHeld ?_; try go_frame
          refine tkL 7 hHeld ?_; try go_frame
          refine tkL 8 hHeld ?_; try go_frame
          refine tkL 9 hHeld ?_; try go_frame
          refine tkN 10 hHeld ?_; try go_frame
          refine tkN 11 hHeld ?_; try go_frame
          refine tkN 12 hHeld ?_; try go_frame
          refine tkN 13 hHeld ?_; try go_frame
          refine tkN 14 hHeld ?_; try go_frame
          refine tkN 15 hHeld ?_; try go_frame
          refine tkN 16 hHeld ?_; try go_frame
          refine tkN 17 hHeld ?_; try go_frame
          refine tkN 18 hHeld ?_; try go_frame
          refine tkN 19 hHeld ?_; try go_frame
          refine tkN 20 hHeld ?_; try go_frame
          refine tkN 21 hHeld ?_; try go_frame
          refine tkN 22 hHeld ?_; try go_frame
          refine tkL 23 hHeld ?_; try go_frame
          refine tkL 24 hHeld ?_; try go_frame
          refine wpAnyH_done (by kernel_rfl) ?_ _
          go_wp2
          go_roundw
          case rel => exact ⟨1, by omega, by go_num, HKW.out.trans (k1.mono HKW.out.size), steps_snoc HALL.out (by rw [step_zero HG.out]; exact hv)⟩
          case measure => simp [intOf]; omega
        · obtain ⟨j, rfl⟩ : ∃ j, k = j + 1 := ⟨k - 1, by omega⟩
          obtain ⟨s', q', d', t', n', hg', hlw', g0', g1', g2', g3', g4'⟩ := HL.out.ent hb hbb j (by omega)
          have HG' : Hid (L[j]? = some (s', q', d', t', n')) := hg'
          have hp := ent_parts (steps_ok HALL.out (Nat.lt_succ_self j) hg')
          have hq1 := hp.2.1
          have hq2 := hp.2.2.1
          simp only at hq1 hq2
          clear hg' hlw' hp
          have h0j : (0 : Int) ≤ (j : Int) + 1 := by omega
          have h0j' : (0 : Int) < (j : Int) + 1 := by omega
          have hjl : (j : Int) < (len : Int) := by omega
          have hjl1 : (j : Int) + 1 < (len : Int) := by omega
          have wj : IntKind.i64.wrap (j : Int) = (j : Int) := by rw [IntWalk.i64_left]; unfold wrap64; omega
          have wj1 : IntKind.i64.wrap ((j : Int) + 1 - 1) = (j : Int) := by rw [IntWalk.i64_left]; unfold wrap64; omega
          have wq : IntKind.i64.wrap (q' + 1) = q' + 1 := by rw [IntWalk.i64_left]; unfold wrap64; omega
          by_cases hqq : q = q' + 1
          · have hqd : decide (q = q' + 1) = true := decide_eq_true hqq
            have hqb : (q == q' + 1) = true := by simpa using hqq
            have hqn : (q != q' + 1) = false := by simpa using hqq
            have HQ : Hid (q = q' + 1) := hqq
            clear hqq
            go_wp2_with fail
            obtain ⟨W, hW⟩ : ∃ W, W = wr := ⟨_, rfl⟩
            have kW : Below wr.heap.size wr W := by rw [hW]; exact Below.refl _ _
            have hbr : b < wr.heap.size := Nat.lt_of_lt_of_le hbb hb.size
            have hbW : b < W.heap.size := Nat.lt_of_lt_of_le hbr kW.size
            have z0 := cell_later kW g0
            have z1 := cell_later kW g1
            have z2 := cell_later kW g2
            have z3 := cell_later kW g3
            have z4 := cell_later kW g4
            have y0 := cell_later kW g0'
            have y1 := cell_later kW g1'
            have y2 := cell_later kW g2'
            have y3 := cell_later kW g3'
            have y4 := cell_later kW g4'
            have HKW : Hid (Below w.heap.size w W) := hb.trans (kW.mono hb.size)
            rw [← hW]
            clear hW kW
            have k0 : Below W.heap.size W W.drew := (Below.refl _ W).drew
            have HMK : Hid (∀ w', Below W.heap.size W w' → (w'.cell? ⟨b, off + (j + 1) * 5, none⟩ = some (.string s) ∧ w'.cell? ⟨b, off + (j + 1) * 5 + 1, none⟩ = some (.int .i64 q) ∧ w'.cell? ⟨b, off + (j + 1) * 5 + 2, none⟩ = some (.int .i64 d) ∧ w'.cell? ⟨b, off + (j + 1) * 5 + 3, none⟩ = some (.string t) ∧ w'.cell? ⟨b, off + (j + 1) * 5 + 4, none⟩ = some (.int .i64 n) ∧ w'.cell? ⟨b, off + j * 5, none⟩ = some (.string s') ∧ w'.cell? ⟨b, off + j * 5 + 1, none⟩ = some (.int .i64 q') ∧ w'.cell? ⟨b, off + j * 5 + 2, none⟩ = some (.int .i64 d') ∧ w'.cell? ⟨b, off + j * 5 + 3, none⟩ = some (.string t') ∧ w'.cell? ⟨b, off + j * 5 + 4, none⟩ = some (.int .i64 n') ∧ b < w'.heap.size)) := fun w' kk => ⟨cell_later kk z0, cell_later kk z1, cell_later kk z2, cell_later kk z3, cell_later kk z4, cell_later kk y0, cell_later kk y1, cell_later kk y2, cell_later kk y3, cell_later kk y4, Nat.lt_of_lt_of_le hbW kk.size⟩
            refine wp_region_held_drew (S := (fun w' => w'.cell? ⟨b, off + (j + 1) * 5, none⟩ = some (.string s) ∧ w'.cell? ⟨b, off + (j + 1) * 5 + 1, none⟩ = some (.int .i64 q) ∧ w'.cell? ⟨b, off + (j + 1) * 5 + 2, none⟩ = some (.int .i64 d) ∧ w'.cell? ⟨b, off + (j + 1) * 5 + 3, none⟩ = some (.string t) ∧ w'.cell? ⟨b, off + (j + 1) * 5 + 4, none⟩ = some (.int .i64 n) ∧ w'.cell? ⟨b, off + j * 5, none⟩ = some (.string s') ∧ w'.cell? ⟨b, off + j * 5 + 1, none⟩ = some (.int .i64 q') ∧ w'.cell? ⟨b, off + j * 5 + 2, none⟩ = some (.int .i64 d') ∧ w'.cell? ⟨b, off + j * 5 + 3, none⟩ = some (.string t') ∧ w'.cell? ⟨b, off + j * 5 + 4, none⟩ = some (.int .i64 n') ∧ b < w'.heap.size)) (by kernel_rfl) (HMK.out _ k0) (fun hHeld => ?_)
            refine tkL 0 hHeld ?_; try go_frame
            refine tkL 1 hHeld ?_; try go_frame
            refine tkL 2 hHeld ?_; try go_frame
            refine tkL 3 hHeld ?_; try go_frame
            refine wpAnyH_ready (rs := [4]) (by kernel_rfl) (by simp) ?_
            refine consL rfl (fun K hK => ?_) AllReadyH.nil
            go_simp
            refine (CE.out _).mono ?_
            rintro e w1 ⟨rfl, b1⟩
            have k1 : Below W.heap.size W w1 := k0.trans (b1.mono k0.size)
            go_wp2_with fail
            refine hK.out _ _ (HMK.out _ k1) (fun hHeld => ?_)
            clear hK K
            try go_frame
            refine tkL 5 hHeld ?_; try go_frame
            refine tkL 6 hHeld ?_; try go_frame
            refine tkL 7 hHeld ?_; try go_frame
            refine tkL 8 hHeld ?_; try go_frame
            refine tkL 9 hHeld ?_; try go_frame
            refine tkL 10 hHeld ?_; try go_frame
            refine tkL 11 hHeld ?_; try go_frame
            refine tkL 12 hHeld ?_; try go_frame
            refine tkL 13 hHeld ?_; try go_frame
            refine tkL 14 hHeld ?_; try go_frame
            refine tkL 15 hHeld ?_; try go_frame
            refine tkL 16 hHeld ?_; try go_frame
            refine tkL 17 hHeld ?_; try go_frame
            refine tkL 18 hHeld ?_; try go_frame
            refine tkL 19 hHeld ?_; try go_frame
            refine tkL 20 hHeld ?_; try go_frame
            refine tkL 21 hHeld ?_; try go_frame
            refine tkL 22 hHeld ?_; try go_frame
            refine tkL 23 hHeld ?_; try go_frame
            refine tkL 24 hHeld ?_; try go_frame
            refine wpAnyH_done (by kernel_rfl) ?_ _
            go_wp2
            go_roundw
            case rel => exact ⟨j + 1 + 1, by omega, by go_num, HKW.out.trans (k1.mono HKW.out.size), steps_snoc HALL.out (by rw [step_succ HG.out HG'.out, show entOk (s, q, d, t, n) = true from hv, decide_eq_true (show (s, q, d, t, n).2.1 = (s', q', d', t', n').2.1 + 1 from HQ.out)]; rfl)⟩
            case measure => simp [intOf]; omega
          · have hqd : decide (q = q' + 1) = false := decide_eq_false hqq
            have hqb : (q == q' + 1) = false := by simpa using hqq
            have hqn : (q != q' + 1) = true := by simpa using hqq
            have HQ : Hid (¬ q = q' + 1) := hqq
            clear hqq
            go_wp2_with fail
            obtain ⟨W, hW⟩ : ∃ W, W = wr := ⟨_, rfl⟩
            have kW : Below wr.heap.size wr W := by rw [hW]; exact Below.refl _ _
            have hbr : b < wr.heap.size := Nat.lt_of_lt_of_le hbb hb.size
            have hbW : b < W.heap.size := Nat.lt_of_lt_of_le hbr kW.size
            have z0 := cell_later kW g0
            have z1 := cell_later kW g1
            have z2 := cell_later kW g2
            have z3 := cell_later kW g3
            have z4 := cell_later kW g4
            have y0 := cell_later kW g0'
            have y1 := cell_later kW g1'
            have y2 := cell_later kW g2'
            have y3 := cell_later kW g3'
            have y4 := cell_later kW g4'
            have HKW : Hid (Below w.heap.size w W) := hb.trans (kW.mono hb.size)
            rw [← hW]
            clear hW kW
            have k0 : Below W.heap.size W W.drew := (Below.refl _ W).drew
            have HMK : Hid (∀ w', Below W.heap.size W w' → (w'.cell? ⟨b, off + (j + 1) * 5, none⟩ = some (.string s) ∧ w'.cell? ⟨b, off + (j + 1) * 5 + 1, none⟩ = some (.int .i64 q) ∧ w'.cell? ⟨b, off + (j + 1) * 5 + 2, none⟩ = some (.int .i64 d) ∧ w'.cell? ⟨b, off + (j + 1) * 5 + 3, none⟩ = some (.string t) ∧ w'.cell? ⟨b, off + (j + 1) * 5 + 4, none⟩ = some (.int .i64 n) ∧ w'.cell? ⟨b, off + j * 5, none⟩ = some (.string s') ∧ w'.cell? ⟨b, off + j * 5 + 1, none⟩ = some (.int .i64 q') ∧ w'.cell? ⟨b, off + j * 5 + 2, none⟩ = some (.int .i64 d') ∧ w'.cell? ⟨b, off + j * 5 + 3, none⟩ = some (.string t') ∧ w'.cell? ⟨b, off + j * 5 + 4, none⟩ = some (.int .i64 n') ∧ b < w'.heap.size)) := fun w' kk => ⟨cell_later kk z0, cell_later kk z1, cell_later kk z2, cell_later kk z3, cell_later kk z4, cell_later kk y0, cell_later kk y1, cell_later kk y2, cell_later kk y3, cell_later kk y4, Nat.lt_of_lt_of_le hbW kk.size⟩
            refine wp_region_held_drew (S := (fun w' => w'.cell? ⟨b, off + (j + 1) * 5, none⟩ = some (.string s) ∧ w'.cell? ⟨b, off + (j + 1) * 5 + 1, none⟩ = some (.int .i64 q) ∧ w'.cell? ⟨b, off + (j + 1) * 5 + 2, none⟩ = some (.int .i64 d) ∧ w'.cell? ⟨b, off + (j + 1) * 5 + 3, none⟩ = some (.string t) ∧ w'.cell? ⟨b, off + (j + 1) * 5 + 4, none⟩ = some (.int .i64 n) ∧ w'.cell? ⟨b, off + j * 5, none⟩ = some (.string s') ∧ w'.cell? ⟨b, off + j * 5 + 1, none⟩ = some (.int .i64 q') ∧ w'.cell? ⟨b, off + j * 5 + 2, none⟩ = some (.int .i64 d') ∧ w'.cell? ⟨b, off + j * 5 + 3, none⟩ = some (.string t') ∧ w'.cell? ⟨b, off + j * 5 + 4, none⟩ = some (.int .i64 n') ∧ b < w'.heap.size)) (by kernel_rfl) (HMK.out _ k0) (fun hHeld => ?_)
            refine tkL 0 hHeld ?_; try go_frame
            refine tkL 1 hHeld ?_; try go_frame
            refine tkL 2 hHeld ?_; try go_frame
            refine tkL 3 hHeld ?_; try go_frame
            refine wpAnyH_ready (rs := [4]) (by kernel_rfl) (by simp) ?_
            refine consL rfl (fun K hK => ?_) AllReadyH.nil
            go_simp
            refine (CE.out _).mono ?_
            rintro e w1 ⟨rfl, b1⟩
            have k1 : Below W.heap.size W w1 := k0.trans (b1.mono k0.size)
            go_wp2_with fail
            refine hK.out _ _ (HMK.out _ k1) (fun hHeld => ?_)
            clear hK K
            try go_frame
            refine tkL 5 hHeld ?_; try go_frame
            refine tkL 6 hHeld ?_; try go_frame
            refine tkL 7 hHeld ?_; try go_frame
            refine tkL 8 hHeld ?_; try go_frame
            refine tkL 9 hHeld ?_; try go_frame
            refine tkL 10 hHeld ?_; try go_frame
            refine tkL 11 hHeld ?_; try go_frame
            refine tkL 12 hHeld ?_; try go_frame
            refine tkL 13 hHeld ?_; try go_frame
            refine tkL 14 hHeld ?_; try go_frame
            refine tkL 15 hHeld ?_; try go_frame
            refine tkL 16 hHeld ?_; try go_frame
            refine tkL 17 hHeld ?_; try go_frame
            refine tkL 18 hHeld ?_; try go_frame
            refine tkL 19 hHeld ?_; try go_frame
            refine tkL 20 hHeld ?_; try go_frame
            refine tkL 21 hHeld ?_; try go_frame
            refine tkL 22 hHeld ?_; try go_frame
            refine tkL 23 hHeld ?_; try go_frame
            refine tkL 24 hHeld ?_; try go_frame
            refine wpAnyH_done (by kernel_rfl) ?_ _
            go_wp2
            go_ret
            exact ⟨ret_bool (done_no (k := j + 1) (by rw [HLEN.out]; exact hlt) (by rw [step_succ HG.out HG'.out]; simp [HQ.out])).symm, HKW.out.trans (k1.mono HKW.out.size)⟩
    · have hkn : k = len := by omega
      have hst : doneB L = (decide (1 ≤ L.length) && decide (L.length ≤ 12)) := done_all (by rw [HLEN.out, ← hkn]; exact HALL.out)
      rw [HLEN.out] at hst
      have HST : Hid (doneB L = (decide (1 ≤ len) && decide (len ≤ 12))) := hst
      clear hst
      by_cases h1 : (1 : Int) ≤ (len : Int)
      · by_cases h2 : (len : Int) ≤ 12
        · go_wp2
          go_ret
          exact ⟨ret_bool (by rw [HST.out, decide_eq_true (by omega), decide_eq_true (by omega)]; rfl), hb⟩
        · go_wp2
          go_ret
          exact ⟨ret_bool (by rw [HST.out, decide_eq_false (p := len ≤ 12) (by omega), Bool.and_false]), hb⟩
      · go_wp2
        go_ret
        exact ⟨ret_bool (by rw [HST.out, decide_eq_false (p := 1 ≤ len) (by omega)]; rfl), hb⟩
theorem implDone_in (a : Option Addr) (len cap : Nat) (L : List EntD) (w : World) (hL : EntsAt w a len cap L) (h1 : 1 ≤ len) (h12 : len ≤ 12) :
    Calls Tryz.prog 167 #[.slice a len cap] w fun e w' => e = .returned (.bool (doneB L)) ∧ Below w.heap.size w w' := by
  have HLEN : Hid (L.length = len) := hL.length
  have hbl := hL.room
  have hbc := hL.big
  unfold maxLen at hbc
  have HL : Hid (EntsAt w a len cap L) := hL
  clear hL
  go_enter Tryz.func167, Tryz.ntmps167
  go_wp2
  go_loopw [15] (fun i wr => ∃ k : Nat, k ≤ len ∧ i = .int .i64 k ∧ Below w.heap.size w wr ∧ stepsB L k = true) (fun i _ => len - (intOf i).toNat)
  case atStart => exact ⟨0, Nat.zero_le _, rfl, Below.refl _ _, rfl⟩
  case round =>
    obtain ⟨k, hk, rfl, hb, hall⟩ := hrel
    have HALL : Hid (stepsB L k = true) := hall
    clear hall
    by_cases hlt : k < len
    · obtain ⟨b, off, rfl, hbb⟩ := HL.out.form (by omega)
      obtain ⟨s, q, d, t, n, hg, hlw, g0, g1, g2, g3, g4⟩ := HL.out.ent hb hbb k hlt
      have HG : Hid (L[k]? = some (s, q, d, t, n)) := hg
      have hs := hlw.1
      have ht := hlw.2.2.2.1
      simp only at hs ht
      clear hg hlw
      cases hv : entB s q d t n with
      | false =>
        have CE : Hid (∀ w, Calls Tryz.prog 165 #[.agg #[.string s, .int .i64 q, .int .i64 d, .string t, .int .i64 n]] w fun e w' => e = .returned (.bool false) ∧ Below w.heap.size w w') := by rw [← hv]; exact fun w => implEnt s t q d n w hs
        go_wp2_with fail
        obtain ⟨X, hX⟩ : ∃ X, X = wr.heap.size := ⟨_, rfl⟩
        obtain ⟨W, hW⟩ : ∃ W, W = wr.alloc (.cells #[.string s, .int .i64 q, .int .i64 d, .string t, .int .i64 n] 87) := ⟨_, rfl⟩
        have x0 : W.cell? ⟨X, 0, none⟩ = some (.string s) := by rw [hW, hX]; simp
        have x1 : W.cell? ⟨X, 1, none⟩ = some (.int .i64 q) := by rw [hW, hX]; simp
        have x2 : W.cell? ⟨X, 2, none⟩ = some (.int .i64 d) := by rw [hW, hX]; simp
        have x3 : W.cell? ⟨X, 3, none⟩ = some (.string t) := by rw [hW, hX]; simp
        have x4 : W.cell? ⟨X, 4, none⟩ = some (.int .i64 n) := by rw [hW, hX]; simp
        have kW : Below wr.heap.size wr W := by rw [hW]; exact (Below.refl _ _).alloc (Nat.le_refl _) _
        have hbr : b < wr.heap.size := Nat.lt_of_lt_of_le hbb hb.size
        have hbW : b < W.heap.size := Nat.lt_of_lt_of_le hbr kW.size
        have HKW : Hid (Below w.heap.size w W) := hb.trans (kW.mono hb.size)
        rw [← hW, ← hX]
        clear hW hX kW
        have k0 : Below W.heap.size W W.drew := (Below.refl _ W).drew
        have HMK : Hid (∀ w', Below W.heap.size W w' → (w'.cell? ⟨X, 0, none⟩ = some (.string s) ∧ w'.cell? ⟨X, 1, none⟩ = some (.int .i64 q) ∧ w'.cell? ⟨X, 2, none⟩ = some (.int .i64 d) ∧ w'.cell? ⟨X, 3, none⟩ = some (.string t) ∧ w'.cell? ⟨X, 4, none⟩ = some (.int .i64 n) ∧ X < w'.heap.size)) := fun w' kk => ⟨cell_later kk x0, cell_later kk x1, cell_later kk x2, cell_later kk x3, cell_later kk x4, World.block_lt_of_cell? _ _ (cell_later kk x0)⟩
        refine wp_region_held_drew (S := (fun w' => w'.cell? ⟨X, 0, none⟩ = some (.string s) ∧ w'.cell? ⟨X, 1, none⟩ = some (.int .i64 q) ∧ w'.cell? ⟨X, 2, none⟩ = some (.int .i64 d) ∧ w'.cell? ⟨X, 3, none⟩ = some (.string t) ∧ w'.cell? ⟨X, 4, none⟩ = some (.int .i64 n) ∧ X < w'.heap.size)) (by kernel_rfl) (HMK.out _ k0) (fun hHeld => ?_)
        refine tkL 0 hHeld ?_; try go_frame
        refine wpAnyH_ready (rs := [1]) (by kernel_rfl) (by simp) ?_
        refine consL rfl (fun K hK => ?_) AllReadyH.nil
        go_simp
        refine (CE.out _).mono ?_
        rintro e w1 ⟨rfl, b1⟩
        have k1 : Below W.heap.size W w1 := k0.trans (b1.mono k0.size)
        go_wp2_with fail
        refine hK.out _ _ (HMK.out _ k1) (fun hHeld => ?_)
        clear hK K
        try go_frame
        refine tkL 2 hHeld ?_; try go_frame
        refine tkL 3 hHeld ?_; try go_frame
        refine tkN 4 hHeld ?_; try go_frame
        refine tkN 5 hHeld ?_; try go_frame
        refine tkN 6 hHeld ?_; try go_frame
        refine tkN 7 hHeld ?_; try go_frame
        refine tkN 8 hHeld ?_; try go_frame
        refine tkN 9 hHeld ?_; try go_frame
        refine tkN 10 hHeld ?_; try go_frame
        refine tkN 11 hHeld ?_; try go_frame
        refine tkN 12 hHeld ?_; try go_frame
        refine tkN 13 hHeld ?_; try go_frame
        refine tkN 14 hHeld ?_; try go_frame
        refine tkN 15 hHeld ?_; try go_frame
        refine tkN 16 hHeld ?_; try go_frame
        refine tkN 17 hHeld ?_; try go_frame
        refine tkL 18 hHeld ?_; try go_frame
        refine wpAnyH_done (by kernel_rfl) ?_ _
        go_wp2
        go_ret
        exact ⟨ret_bool (done_no (by rw [HLEN.out]; exact hlt) (step_ent' HG.out hv)).symm, HKW.out.trans (k1.mono HKW.out.size)⟩
      | true =>
        have CE : Hid (∀ w, Calls Tryz.prog 165 #[.agg #[.string s, .int .i64 q, .int .i64 d, .string t, .int .i64 n]] w fun e w' => e = .returned (.bool true) ∧ Below w.heap.size w w') := by rw [← hv]; exact fun w => implEnt s t q d n w hs
        by_cases hk0 : k = 0
        · subst hk0
          try simp only [Nat.zero_mul, Nat.add_zero] at g0 g1 g2 g3 g4
          go_wp2_with fail
          obtain ⟨X, hX⟩ : ∃ X, X = wr.heap.size := ⟨_, rfl⟩
          obtain ⟨W, hW⟩ : ∃ W, W = wr.alloc (.cells #[.string s, .int .i64 q, .int .i64 d, .string t, .int .i64 n] 87) := ⟨_, rfl⟩
          have x0 : W.cell? ⟨X, 0, none⟩ = some (.string s) := by rw [hW, hX]; simp
          have x1 : W.cell? ⟨X, 1, none⟩ = some (.int .i64 q) := by rw [hW, hX]; simp
          have x2 : W.cell? ⟨X, 2, none⟩ = some (.int .i64 d) := by rw [hW, hX]; simp
          have x3 : W.cell? ⟨X, 3, none⟩ = some (.string t) := by rw [hW, hX]; simp
          have x4 : W.cell? ⟨X, 4, none⟩ = some (.int .i64 n) := by rw [hW, hX]; simp
          have kW : Below wr.heap.size wr W := by rw [hW]; exact (Below.refl _ _).alloc (Nat.le_refl _) _
          have hbr : b < wr.heap.size := Nat.lt_of_lt_of_le hbb hb.size
          have hbW : b < W.heap.size := Nat.lt_of_lt_of_le hbr kW.size
          have HKW : Hid (Below w.heap.size w W) := hb.trans (kW.mono hb.size)
          rw [← hW, ← hX]
          clear hW hX kW
          have k0 : Below W.heap.size W W.drew := (Below.refl _ W).drew
          have HMK : Hid (∀ w', Below W.heap.size W w' → (w'.cell? ⟨X, 0, none⟩ = some (.string s) ∧ w'.cell? ⟨X, 1, none⟩ = some (.int .i64 q) ∧ w'.cell? ⟨X, 2, none⟩ = some (.int .i64 d) ∧ w'.cell? ⟨X, 3, none⟩ = some (.string t) ∧ w'.cell? ⟨X, 4, none⟩ = some (.int .i64 n) ∧ X < w'.heap.size)) := fun w' kk => ⟨cell_later kk x0, cell_later kk x1, cell_later kk x2, cell_later kk x3, cell_later kk x4, World.block_lt_of_cell? _ _ (cell_later kk x0)⟩
          refine wp_region_held_drew (S := (fun w' => w'.cell? ⟨X, 0, none⟩ = some (.string s) ∧ w'.cell? ⟨X, 1, none⟩ = some (.int .i64 q) ∧ w'.cell? ⟨X, 2, none⟩ = some (.int .i64 d) ∧ w'.cell? ⟨X, 3, none⟩ = some (.string t) ∧ w'.cell? ⟨X, 4, none⟩ = some (.int .i64 n) ∧ X < w'.heap.size)) (by kernel_rfl) (HMK.out _ k0) (fun hHeld => ?_)
          refine tkL 0 hHeld ?_; try go_frame
          refine wpAnyH_ready (rs := [1]) (by kernel_rfl) (by simp) ?_
          refine consL rfl (fun K hK => ?_) AllReadyH.nil
          go_simp
          refine (CE.out _).mono ?_
          rintro e w1 ⟨rfl, b1⟩
          have k1 : Below W.heap.size W w1 := k0.trans (b1.mono k0.size)
          go_wp2_with fail
          refine hK.out _ _ (HMK.out _ k1) (fun hHeld => ?_)
          clear hK K
          try go_frame
          refine tkL 2 hHeld ?_; try go_frame
          refine tkL 3 hHeld ?_; try go_frame
          refine tkL 4 hHeld ?_; try go_frame
          refine tkL 5 hHeld ?_; try go_frame
          refine tkL 6 hHeld ?_; try go_frame
          refine tkN 7 hHeld ?_; try go_frame
          refine tkN 8 hHeld ?_; try go_frame
          refine tkN 9 hHeld ?_; try go_frame
          refine tkN 10 hHeld ?_; try go_frame
          refine tkN 11 hHeld ?_; try go_frame
          refine tkN 12 hHeld ?_; try go_frame
          refine tkN 13 hHeld ?_; try go_frame
          refine tkN 14 hHeld ?_; try go_frame
          refine tkN 15 hHeld ?_; try go_frame
          refine tkN 16 hHeld ?_; try go_frame
          refine tkL 17 hHeld ?_; try go_frame
          refine tkL 18 hHeld ?_; try go_frame
          refine wpAnyH_done (by kernel_rfl) ?_ _
          go_wp2
          go_roundw
          case rel => exact ⟨1, by omega, by go_num, HKW.out.trans (k1.mono HKW.out.size), steps_snoc HALL.out (by rw [step_zero HG.out]; exact hv)⟩
          case measure => simp [intOf]; omega
        · obtain ⟨j, rfl⟩ : ∃ j, k = j + 1 := ⟨k - 1, by omega⟩
          obtain ⟨s', q', d', t', n', hg', hlw', g0', g1', g2', g3', g4'⟩ := HL.out.ent hb hbb j (by omega)
          have HG' : Hid (L[j]? = some (s', q', d', t', n')) := hg'
          have hp := ent_parts (steps_ok HALL.out (Nat.lt_succ_self j) hg')
          have hq1 := hp.2.1
          have hq2 := hp.2.2.1
          simp only at hq1 hq2
          clear hg' hlw' hp
          have h0j : (0 : Int) ≤ (j : Int) + 1 := by omega
          have h0j' : (0 : Int) < (j : Int) + 1 := by omega
          have hjl : (j : Int) < (len : Int) := by omega
          have hjl1 : (j : Int) + 1 < (len : Int) := by omega
          have wj : IntKind.i64.wrap (j : Int) = (j : Int) := by rw [IntWalk.i64_left]; unfold wrap64; omega
          have wj1 : IntKind.i64.wrap ((j : Int) + 1 - 1) = (j : Int) := by rw [IntWalk.i64_left]; unfold wrap64; omega
          have wq : IntKind.i64.wrap (q' + 1) = q' + 1 := by rw [IntWalk.i64_left]; unfold wrap64; omega
          by_cases hqq : q = q' + 1
          · have hqd : decide (q = q' + 1) = true := decide_eq_true hqq
            have hqb : (q == q' + 1) = true := by simpa using hqq
            have hqn : (q != q' + 1) = false := by simpa using hqq
            have HQ : Hid (q = q' + 1) := hqq
            clear hqq
            go_wp2_with fail
            obtain ⟨X, hX⟩ : ∃ X, X = wr.heap.size := ⟨_, rfl⟩
            obtain ⟨W, hW⟩ : ∃ W, W = wr.alloc (.cells #[.string s, .int .i64 q, .int .i64 d, .string t, .int .i64 n] 87) := ⟨_, rfl⟩
            have x0 : W.cell? ⟨X, 0, none⟩ = some (.string s) := by rw [hW, hX]; simp
            have x1 : W.cell? ⟨X, 1, none⟩ = some (.int .i64 q) := by rw [hW, hX]; simp
            have x2 : W.cell? ⟨X, 2, none⟩ = some (.int .i64 d) := by rw [hW, hX]; simp
            have x3 : W.cell? ⟨X, 3, none⟩ = some (.string t) := by rw [hW, hX]; simp
            have x4 : W.cell? ⟨X, 4, none⟩ = some (.int .i64 n) := by rw [hW, hX]; simp
            have kW : Below wr.heap.size wr W := by rw [hW]; exact (Below.refl _ _).alloc (Nat.le_refl _) _
            have hbr : b < wr.heap.size := Nat.lt_of_lt_of_le hbb hb.size
            have hbW : b < W.heap.size := Nat.lt_of_lt_of_le hbr kW.size
            have y0 := cell_later kW g0'
            have y1 := cell_later kW g1'
            have y2 := cell_later kW g2'
            have y3 := cell_later kW g3'
            have y4 := cell_later kW g4'
            have HKW : Hid (Below w.heap.size w W) := hb.trans (kW.mono hb.size)
            rw [← hW, ← hX]
            clear hW hX kW
            have k0 : Below W.heap.size W W.drew := (Below.refl _ W).drew
            have HMK : Hid (∀ w', Below W.heap.size W w' → (w'.cell? ⟨X, 0, none⟩ = some (.string s) ∧ w'.cell? ⟨X, 1, none⟩ = some (.int .i64 q) ∧ w'.cell? ⟨X, 2, none⟩ = some (.int .i64 d) ∧ w'.cell? ⟨X, 3, none⟩ = some (.string t) ∧ w'.cell? ⟨X, 4, none⟩ = some (.int .i64 n) ∧ X < w'.heap.size ∧ w'.cell? ⟨b, off + j * 5, none⟩ = some (.string s') ∧ w'.cell? ⟨b, off + j * 5 + 1, none⟩ = some (.int .i64 q') ∧ w'.cell? ⟨b, off + j * 5 + 2, none⟩ = some (.int .i64 d') ∧ w'.cell? ⟨b, off + j * 5 + 3, none⟩ = some (.string t') ∧ w'.cell? ⟨b, off + j * 5 + 4, none⟩ = some (.int .i64 n') ∧ b < w'.heap.size)) := fun w' kk => ⟨cell_later kk x0, cell_later kk x1, cell_later kk x2, cell_later kk x3, cell_later kk x4, World.block_lt_of_cell? _ _ (cell_later kk x0), cell_later kk y0, cell_later kk y1, cell_later kk y2, cell_later kk y3, cell_later kk y4, Nat.lt_of_lt_of_le hbW kk.size⟩
            refine wp_region_held_drew (S := (fun w' => w'.cell? ⟨X, 0, none⟩ = some (.string s) ∧ w'.cell? ⟨X, 1, none⟩ = some (.int .i64 q) ∧ w'.cell? ⟨X, 2, none⟩ = some (.int .i64 d) ∧ w'.cell? ⟨X, 3, none⟩ = some (.string t) ∧ w'.cell? ⟨X, 4, none⟩ = some (.int .i64 n) ∧ X < w'.heap.size ∧ w'.cell? ⟨b, off + j * 5, none⟩ = some (.string s') ∧ w'.cell? ⟨b, off + j * 5 + 1, none⟩ = some (.int .i64 q') ∧ w'.cell? ⟨b, off + j * 5 + 2, none⟩ = some (.int .i64 d') ∧ w'.cell? ⟨b, off + j * 5 + 3, none⟩ = some (.string t') ∧ w'.cell? ⟨b, off + j * 5 + 4, none⟩ = some (.int .i64 n') ∧ b < w'.heap.size)) (by kernel_rfl) (HMK.out _ k0) (fun hHeld => ?_)
            refine tkL 0 hHeld ?_; try go_frame
            refine wpAnyH_ready (rs := [1]) (by kernel_rfl) (by simp) ?_
            refine consL rfl (fun K hK => ?_) AllReadyH.nil
            go_simp
            refine (CE.out _).mono ?_
            rintro e w1 ⟨rfl, b1⟩
            have k1 : Below W.heap.size W w1 := k0.trans (b1.mono k0.size)
            go_wp2_with fail
            refine hK.out _ _ (HMK.out _ k1) (fun hHeld => ?_)
            clear hK K
            try go_frame
            refine tkL 2 hHeld ?_; try go_frame
            refine tkL 3 hHeld ?_; try go_frame
            refine tkL 4 hHeld ?_; try go_frame
            refine tkL 5 hHeld ?_; try go_frame
            refine tkL 6 hHeld ?_; try go_frame
            refine tkL 7 hHeld ?_; try go_frame
            refine tkL 8 hHeld ?_; try go_frame
            refine tkL 9 hHeld ?_; try go_frame
            refine tkL 10 hHeld ?_; try go_frame
            refine tkL 11 hHeld ?_; try go_frame
            refine tkL 12 hHeld ?_; try go_frame
            refine tkL 13 hHeld ?_; try go_frame
            refine tkL 14 hHeld ?_; try go_frame
            refine tkL 15 hHeld ?_; try go_frame
            refine tkL 16 hHeld ?_; try go_frame
            refine tkL 17 hHeld ?_; try go_frame
            refine tkL 18 hHeld ?_; try go_frame
            refine wpAnyH_done (by kernel_rfl) ?_ _
            go_wp2
            go_roundw
            case rel => exact ⟨j + 1 + 1, by omega, by go_num, HKW.out.trans (k1.mono HKW.out.size), steps_snoc HALL.out (by rw [step_succ HG.out HG'.out, show entOk (s, q, d, t, n) = true from hv, decide_eq_true (show (s, q, d, t, n).2.1 = (s', q', d', t', n').2.1 + 1 from HQ.out)]; rfl)⟩
            case measure => simp [intOf]; omega
          · have hqd : decide (q = q' + 1) = false := decide_eq_false hqq
            have hqb : (q == q' + 1) = false := by simpa using hqq
            have hqn : (q != q' + 1) = true := by simpa using hqq
            have HQ : Hid (¬ q = q' + 1) := hqq
            clear hqq
            go_wp2_with fail
            obtain ⟨X, hX⟩ : ∃ X, X = wr.heap.size := ⟨_, rfl⟩
            obtain ⟨W, hW⟩ : ∃ W, W = wr.alloc (.cells #[.string s, .int .i64 q, .int .i64 d, .string t, .int .i64 n] 87) := ⟨_, rfl⟩
            have x0 : W.cell? ⟨X, 0, none⟩ = some (.string s) := by rw [hW, hX]; simp
            have x1 : W.cell? ⟨X, 1, none⟩ = some (.int .i64 q) := by rw [hW, hX]; simp
            have x2 : W.cell? ⟨X, 2, none⟩ = some (.int .i64 d) := by rw [hW, hX]; simp
            have x3 : W.cell? ⟨X, 3, none⟩ = some (.string t) := by rw [hW, hX]; simp
            have x4 : W.cell? ⟨X, 4, none⟩ = some (.int .i64 n) := by rw [hW, hX]; simp
            have kW : Below wr.heap.size wr W := by rw [hW]; exact (Below.refl _ _).alloc (Nat.le_refl _) _
            have hbr : b < wr.heap.size := Nat.lt_of_lt_of_le hbb hb.size
            have hbW : b < W.heap.size := Nat.lt_of_lt_of_le hbr kW.size
            have y0 := cell_later kW g0'
            have y1 := cell_later kW g1'
            have y2 := cell_later kW g2'
            have y3 := cell_later kW g3'
            have y4 := cell_later kW g4'
            have HKW : Hid (Below w.heap.size w W) := hb.trans (kW.mono hb.size)
            rw [← hW, ← hX]
            clear hW hX kW
            have k0 : Below W.heap.size W W.drew := (Below.refl _ W).drew
            have HMK : Hid (∀ w', Below W.heap.size W w' → (w'.cell? ⟨X, 0, none⟩ = some (.string s) ∧ w'.cell? ⟨X, 1, none⟩ = some (.int .i64 q) ∧ w'.cell? ⟨X, 2, none⟩ = some (.int .i64 d) ∧ w'.cell? ⟨X, 3, none⟩ = some (.string t) ∧ w'.cell? ⟨X, 4, none⟩ = some (.int .i64 n) ∧ X < w'.heap.size ∧ w'.cell? ⟨b, off + j * 5, none⟩ = some (.string s') ∧ w'.cell? ⟨b, off + j * 5 + 1, none⟩ = some (.int .i64 q') ∧ w'.cell? ⟨b, off + j * 5 + 2, none⟩ = some (.int .i64 d') ∧ w'.cell? ⟨b, off + j * 5 + 3, none⟩ = some (.string t') ∧ w'.cell? ⟨b, off + j * 5 + 4, none⟩ = some (.int .i64 n') ∧ b < w'.heap.size)) := fun w' kk => ⟨cell_later kk x0, cell_later kk x1, cell_later kk x2, cell_later kk x3, cell_later kk x4, World.block_lt_of_cell? _ _ (cell_later kk x0), cell_later kk y0, cell_later kk y1, cell_later kk y2, cell_later kk y3, cell_later kk y4, Nat.lt_of_lt_of_le hbW kk.size⟩
            refine wp_region_held_drew (S := (fun w' => w'.cell? ⟨X, 0, none⟩ = some (.string s) ∧ w'.cell? ⟨X, 1, none⟩ = some (.int .i64 q) ∧ w'.cell? ⟨X, 2, none⟩ = some (.int .i64 d) ∧ w'.cell? ⟨X, 3, none⟩ = some (.string t) ∧ w'.cell? ⟨X, 4, none⟩ = some (.int .i64 n) ∧ X < w'.heap.size ∧ w'.cell? ⟨b, off + j * 5, none⟩ = some (.string s') ∧ w'.cell? ⟨b, off + j * 5 + 1, none⟩ = some (.int .i64 q') ∧ w'.cell? ⟨b, off + j * 5 + 2, none⟩ = some (.int .i64 d') ∧ w'.cell? ⟨b, off + j * 5 + 3, none⟩ = some (.string t') ∧ w'.cell? ⟨b, off + j * 5 + 4, none⟩ = some (.int .i64 n') ∧ b < w'.heap.size)) (by kernel_rfl) (HMK.out _ k0) (fun hHeld => ?_)
            refine tkL 0 hHeld ?_; try go_frame
            refine wpAnyH_ready (rs := [1]) (by kernel_rfl) (by simp) ?_
            refine consL rfl (fun K hK => ?_) AllReadyH.nil
            go_simp
            refine (CE.out _).mono ?_
            rintro e w1 ⟨rfl, b1⟩
            have k1 : Below W.heap.size W w1 := k0.trans (b1.mono k0.size)
            go_wp2_with fail
            refine hK.out _ _ (HMK.out _ k1) (fun hHeld => ?_)
            clear hK K
            try go_frame
            refine tkL 2 hHeld ?_; try go_frame
            refine tkL 3 hHeld ?_; try go_frame
            refine tkL 4 hHeld ?_; try go_frame
            refine tkL 5 hHeld ?_; try go_frame
            refine tkL 6 hHeld ?_; try go_frame
            refine tkL 7 hHeld ?_; try go_frame
            refine tkL 8 hHeld ?_; try go_frame
            refine tkL 9 hHeld ?_; try go_frame
            refine tkL 10 hHeld ?_; try go_frame
            refine tkL 11 hHeld ?_; try go_frame
            refine tkL 12 hHeld ?_; try go_frame
            refine tkL 13 hHeld ?_; try go_frame
            refine tkL 14 hHeld ?_; try go_frame
            refine tkL 15 hHeld ?_; try go_frame
            refine tkL 16 hHeld ?_; try go_frame
            refine tkL 17 hHeld ?_; try go_frame
            refine tkL 18 hHeld ?_; try go_frame
            refine wpAnyH_done (by kernel_rfl) ?_ _
            go_wp2
            go_ret
            exact ⟨ret_bool (done_no (k := j + 1) (by rw [HLEN.out]; exact hlt) (by rw [step_succ HG.out HG'.out]; simp [HQ.out])).symm, HKW.out.trans (k1.mono HKW.out.size)⟩
    · have hkn : k = len := by omega
      go_wp2
      go_ret
      exact ⟨ret_bool (done_yes (by rw [HLEN.out]; exact h1) (by rw [HLEN.out]; exact h12) (by rw [HLEN.out, ← hkn]; exact HALL.out)).symm, hb⟩
theorem implDone (a : Option Addr) (len cap : Nat) (L : List EntD) (w : World) (hL : EntsAt w a len cap L) :
    Calls Tryz.prog 167 #[.slice a len cap] w fun e w' => e = .returned (.bool (doneB L)) ∧ Below w.heap.size w w' := by
  have HLEN : Hid (L.length = len) := hL.length
  by_cases h1 : (len : Int) < 1
  · clear hL
    go_enter Tryz.func167, Tryz.ntmps167
    go_wp2
    go_ret
    exact ⟨ret_bool (done_few (by rw [HLEN.out]; omega)).symm, Below.refl _ _⟩
  by_cases h2 : (12 : Int) < (len : Int)
  · clear hL
    go_enter Tryz.func167, Tryz.ntmps167
    go_wp2
    go_ret
    exact ⟨ret_bool (done_many (by rw [HLEN.out]; omega)).symm, Below.refl _ _⟩
  exact implDone_in a len cap L w hL (by omega) (by omega)
end Go.Proofs.YtapjkbpfhmbfaaaGreatDoor
