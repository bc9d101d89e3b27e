/-
  The walk of the law FnExactRunSame: it answers true at every two runs.
-/
import Derived.Test.YtdedonabfjmfpaaRunSame
import Derived.Test.YtdedonabfjmfpaaLawRun
import Derived.Deep.RegionWith
import Derived.Deep.DeepCutAuto
namespace Go.Proofs.Ytdedonabfjmfpaa
open Go.RowKit

set_option maxHeartbeats 2000000 in
theorem walkFnExactRunSame (a1 : Option Addr) (n1 c1 : Nat) (L1 : List EntD) (i1 : Int) (a2 : Option Addr) (n2 c2 : Nat) (L2 : List EntD) (i2 : Int) (w : World) (w0 : (Lit.int .i64 i1).wf = true ∧ EntsAt w a1 n1 c1 L1) (w1 : (Lit.int .i64 i2).wf = true ∧ EntsAt w a2 n2 c2 L2) :
    Calls Try.prog 6 #[.agg #[.slice a1 n1 c1, .int .i64 i1], .agg #[.slice a2 n2 c2, .int .i64 i2]] w fun e w' => e = .returned (.bool true) ∧ Below w.heap.size w w' := by
  obtain ⟨_, hL1⟩ := w0
  obtain ⟨_, hL2⟩ := w1
  have H1 : Hid (EntsAt w a1 n1 c1 L1) := hL1
  have H2 : Hid (EntsAt w a2 n2 c2 L2) := hL2
  clear hL1 hL2
  have hB0 : Below w.heap.size w ((w.alloc (.cells #[.slice a1 n1 c1, .int .i64 i1] 26)).alloc (.cells #[.slice a2 n2 c2, .int .i64 i2] 26)) := ((Below.refl _ _).alloc (Nat.le_refl _) _).alloc (by simp) _
  go_enter Try.func6, Try.ntmps6
  go_wp2_with fail
  refine (szRun_any _ _ _ _ L1 _ _ (H1.out.keep hB0) (by omega) (by omega)).mono ?_
  rintro e w3 ⟨r, rfl, hr, hb3⟩
  have hx3 : w3.cell? ⟨w.heap.size, 1, none⟩ = some (.int .i64 i1) := cell_later hb3 (by simp)
  have hy3 : w3.cell? ⟨w.heap.size, 0, none⟩ = some (.slice a1 n1 c1) := cell_later hb3 (by simp)
  have hu3 : w3.cell? ⟨w.heap.size + 1, 1, none⟩ = some (.int .i64 i2) := cell_later hb3 (by simp)
  have hv3 : w3.cell? ⟨w.heap.size + 1, 0, none⟩ = some (.slice a2 n2 c2) := cell_later hb3 (by simp)
  have hB3 : Below w.heap.size w w3 := hB0.trans (hb3.mono (by simp; omega))
  clear hb3 hB0
  rcases hr with rfl | ⟨hr0, hr1, hlen⟩
  · go_wp2
    go_ret
    exact ⟨rfl, hB3⟩
  have hn1 : n1 ≤ 1048576 := by omega
  go_wp2_with fail
  refine (szRun_any _ _ _ _ L2 _ _ (H2.out.keep hB3) (by omega) (by omega)).mono ?_
  rintro e w4 ⟨r', rfl, hr', hb4⟩
  have hx4 := cell_later hb4 hx3
  have hy4 := cell_later hb4 hy3
  have hu4 := cell_later hb4 hu3
  have hv4 := cell_later hb4 hv3
  have hB4 : Below w.heap.size w w4 := hB3.trans (hb4.mono hB3.size)
  clear hb4 hB3 hx3 hy3 hu3 hv3
  rcases hr' with rfl | ⟨hr0', hr1', hlen'⟩
  · go_wp2
    go_ret
    exact ⟨rfl, hB4⟩
  have hn2 : n2 ≤ 1048576 := by omega
  clear hr1 hlen hr1' hlen'
  go_upto_region 8 with fail
  go_cut [6] (fun s6 wx => s6 = .bool (runSameB i1 L1 i2 L2) ∧ wx.cell? ⟨w.heap.size, 1, none⟩ = some (.int .i64 i1) ∧ wx.cell? ⟨w.heap.size, 0, none⟩ = some (.slice a1 n1 c1) ∧ wx.cell? ⟨w.heap.size + 1, 1, none⟩ = some (.int .i64 i2) ∧ wx.cell? ⟨w.heap.size + 1, 0, none⟩ = some (.slice a2 n2 c2) ∧ Below w.heap.size w wx)
  case first =>
    go_region_with (first
      | (go_at_call_of 18 (Value.agg #[Value.slice a1 n1 c1, Value.int .i64 i1]); refine (toRun_any i1 a1 n1 c1 L1 _ ?_ hn1).mono ?_; exact H1.out.keep hB4.drew; rintro e w5 ⟨b5, rfl, hg5, hlt5, hL5, hb5⟩; have hb45 : Below w4.heap.size w4 w5 := ((Below.refl _ w4).drew).trans hb5; have hx5 := cell_later hb45 hx4; have hy5 := cell_later hb45 hy4; have hu5 := cell_later hb45 hu4; have hv5 := cell_later hb45 hv4; have hB5 := hB4.trans (hb45.mono hB4.size))
      | (go_at_call_of 18 (Value.agg #[Value.slice a2 n2 c2, Value.int .i64 i2]); refine (toRun_any i2 a2 n2 c2 L2 _ ?_ hn2).mono ?_; exact H2.out.keep hB5; rintro e w6 ⟨b6, rfl, hg6, hlt6, hL6, hb6⟩; have hL56 := hL5.keep hb6; have hx6 := cell_later hb6 hx5; have hy6 := cell_later hb6 hy5; have hu6 := cell_later hb6 hu5; have hv6 := cell_later hb6 hv5; have hB6 := hB5.trans (hb6.mono hB5.size))
      | (go_at_call 23; refine (specRunSame _ _ _ _ _ _ _ _ L1 L2 _ ?_ ?_).mono ?_; exact hL56; exact hL6; rintro e w7 ⟨rfl, hb7⟩; have hx7 := cell_later hb7 hx6; have hy7 := cell_later hb7 hy6; have hu7 := cell_later hb7 hu6; have hv7 := cell_later hb7 hv6; have hB7 := hB6.trans (hb7.mono hB6.size)))
    all_goals
      go_wp2
      go_meet
      exact ⟨rfl, hx7, hy7, hu7, hv7, hB7⟩
  case rest =>
    obtain ⟨rfl, hx7, hy7, hu7, hv7, hB7⟩ := hcut
    clear hx4 hy4 hu4 hv4 hB4
    go_wp2_with fail
    refine (toRun_any _ _ _ _ L1 _ (H1.out.keep hB7) hn1).mono ?_
    rintro e w8 ⟨b8, rfl, hg8, hlt8, hL8, hb8⟩
    have hx8 := cell_later hb8 hx7
    have hy8 := cell_later hb8 hy7
    have hu8 := cell_later hb8 hu7
    have hv8 := cell_later hb8 hv7
    have hB8 := hB7.trans (hb8.mono hB7.size)
    have hz8 : w.heap.size + 1 < w8.heap.size := World.block_lt_of_cell? w8 _ hu8
    have hz8' : w.heap.size < w8.heap.size := by omega
    have HL8 : Hid (EntsAt w8 (some ⟨b8, 0, none⟩) n1 n1 L1) := hL8
    clear hb8 hx7 hy7 hu7 hv7 hB7 hg8 hlt8 hL8
    have k8 : Below w8.heap.size w8 (w8.alloc (.cells #[.slice (some ⟨b8, 0, none⟩) n1 n1, .int .i64 i1] 31)) := (Below.refl _ _).alloc (Nat.le_refl _) _
    go_wp2_with fail
    refine (toRun_any _ _ _ _ L2 _ (H2.out.keep (hB8.trans (k8.mono hB8.size))) hn2).mono ?_
    rintro e w10 ⟨b10, rfl, hg10, hlt10, hL10, hb10⟩
    have k10 : Below w8.heap.size w8 w10 := k8.trans (hb10.mono (by simp))
    have hx10 := cell_later k10 hx8
    have hy10 := cell_later k10 hy8
    have hu10 := cell_later k10 hu8
    have hv10 := cell_later k10 hv8
    have hp10 : w10.cell? ⟨w8.heap.size, 1, none⟩ = some (.int .i64 i1) := cell_later hb10 (by simp)
    have hq10 : w10.cell? ⟨w8.heap.size, 0, none⟩ = some (.slice (some ⟨b8, 0, none⟩) n1 n1) := cell_later hb10 (by simp)
    have hz10 : w8.heap.size < w10.heap.size := World.block_lt_of_cell? w10 _ hp10
    have hB10 := hB8.trans (k10.mono hB8.size)
    have HL8' : Hid (EntsAt w10 (some ⟨b8, 0, none⟩) n1 n1 L1) := EntsAt.keep HL8.out k10
    have HL10 : Hid (EntsAt w10 (some ⟨b10, 0, none⟩) n2 n2 L2) := hL10
    clear hb10 k10 k8 hx8 hy8 hu8 hv8 hB8 hg10 hlt10 hL10 HL8
    have k11 : Below w10.heap.size w10 (w10.alloc (.cells #[.slice (some ⟨b10, 0, none⟩) n2 n2, .int .i64 i2] 31)) := (Below.refl _ _).alloc (Nat.le_refl _) _
    go_wp2_with fail
    refine (implRunSame _ _ _ _ _ _ _ _ L1 L2 _ (EntsAt.keep HL8'.out k11) (EntsAt.keep HL10.out k11)).mono ?_
    rintro e w12 ⟨rfl, hb12⟩
    have k12 : Below w10.heap.size w10 w12 := k11.trans (hb12.mono (by simp))
    have hx12 := cell_later k12 hx10
    have hy12 := cell_later k12 hy10
    have hu12 := cell_later k12 hu10
    have hv12 := cell_later k12 hv10
    have hp12 := cell_later k12 hp10
    have hq12 := cell_later k12 hq10
    have hs12 : w12.cell? ⟨w10.heap.size, 1, none⟩ = some (.int .i64 i2) := cell_later hb12 (by simp)
    have ht12 : w12.cell? ⟨w10.heap.size, 0, none⟩ = some (.slice (some ⟨b10, 0, none⟩) n2 n2) := cell_later hb12 (by simp)
    have hB12 := hB10.trans (k12.mono hB10.size)
    have HLx : Hid (EntsAt w12 (some ⟨b8, 0, none⟩) n1 n1 L1) := EntsAt.keep HL8'.out k12
    have HLy : Hid (EntsAt w12 (some ⟨b10, 0, none⟩) n2 n2 L2) := EntsAt.keep HL10.out k12
    clear hb12 k12 k11 hx10 hy10 hu10 hv10 hp10 hq10 hB10 HL8' HL10 hz8 hz8' hz10
    go_upto_region 14 with fail
    go_cut [39] (fun s wx => s = .bool false ∧ Below w12.heap.size w12 wx)
    case first =>
      go_region_with (first
        | (go_at_call 18; refine (toRun_any i1 a1 n1 c1 L1 _ ?_ hn1).mono ?_; exact H1.out.keep hB12.drew; rintro e w13 ⟨b13, rfl, hg13, hlt13, hL13, hb13⟩; have k13 : Below w12.heap.size w12 w13 := ((Below.refl _ w12).drew).trans hb13; have hp13 := cell_later k13 hp12; have hq13 := cell_later k13 hq12; have hLx13 := EntsAt.keep HLx.out k13)
        | (go_at_call 20; refine (eqRun_same _ _ _ _ _ _ _ _ L1 _ ?_ ?_).mono ?_; exact hLx13; exact hL13; rintro e w14 ⟨rfl, hb14⟩))
      all_goals
        go_wp2
        go_meet
        exact ⟨rfl, k13.trans (hb14.mono k13.size)⟩
    case rest =>
      obtain ⟨rfl, k15⟩ := hcut
      have hx15 := cell_later k15 hx12
      have hy15 := cell_later k15 hy12
      have hu15 := cell_later k15 hu12
      have hv15 := cell_later k15 hv12
      have hs15 := cell_later k15 hs12
      have ht15 := cell_later k15 ht12
      have hB15 := hB12.trans (k15.mono hB12.size)
      have HLy15 : Hid (EntsAt wc (some ⟨b10, 0, none⟩) n2 n2 L2) := EntsAt.keep HLy.out k15
      clear hx12 hy12 hu12 hv12 hp12 hq12 hs12 ht12 hB12 k15 HLy HLx
      go_upto_region 16 with fail
      go_region_with (first
        | (go_at_call 18; refine (toRun_any i2 a2 n2 c2 L2 _ ?_ hn2).mono ?_; exact H2.out.keep hB15.drew; rintro e w16 ⟨b16, rfl, hg16, hlt16, hL16, hb16⟩; have k16 : Below wc.heap.size wc w16 := ((Below.refl _ wc).drew).trans hb16; have hs16 := cell_later k16 hs15; have ht16 := cell_later k16 ht15; have hLy16 := EntsAt.keep HLy15.out k16)
        | (go_at_call 20; refine (eqRun_same _ _ _ _ _ _ _ _ L2 _ ?_ ?_).mono ?_; exact hLy16; exact hL16; rintro e w17 ⟨rfl, hb17⟩))
      all_goals
        go_wp2
        go_ret
        exact ⟨rfl, (hB15.trans (k16.mono hB15.size)).trans (hb17.mono (Nat.le_trans hB15.size k16.size))⟩
end Go.Proofs.Ytdedonabfjmfpaa
