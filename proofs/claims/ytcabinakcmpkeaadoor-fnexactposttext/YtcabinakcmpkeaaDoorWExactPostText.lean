/-
  The walk of the law FnExactPostText: it answers true at every posting.
-/
import Derived.Test.YtcabinakcmpkeaaDoorTextS
import Derived.Test.YtcabinakcmpkeaaDoorTextI
import Derived.Test.YtcabinakcmpkeaaDoorLawSame
import Derived.Deep.RegionWith
namespace Go.Proofs.YtcabinakcmpkeaaDoor
open Go.RowKit

set_option maxRecDepth 100000 in
set_option maxHeartbeats 2000000 in
theorem walkFnExactPostText (id : Int) (a : Option Addr) (len cap : Nat) (L : List LegD) (w : World) (w0 : (Lit.int .i64 id).wf = true ∧ LegsAt w a len cap L) (htab : Lib.TabIs Tryd.prog w "internal/strconv.uint64pow10" .u64 Lib.pow10Tab) :
    Calls Tryd.prog 3 #[.agg #[.int .i64 id, .slice a len cap]] w fun e w' => e = .returned (.bool true) ∧ Below w.heap.size w w' := by
  obtain ⟨_, hL⟩ := w0
  have HL : Hid (LegsAt w a len cap L) := hL
  have HT : Hid (Lib.TabBelow Tryd.prog w.heap.size w "internal/strconv.uint64pow10" .u64 Lib.pow10Tab) := Lib.tabBelow_of_tabIs htab
  clear hL htab
  go_enter Tryd.func3, Tryd.ntmps3
  go_wp2_with fail
  refine (szPost_any _ _ _ _ L _ _ (HL.out.keep ((Below.refl _ _).alloc (Nat.le_refl _) _)) (by omega) (by omega)).mono ?_
  rintro e w1 ⟨r, rfl, hr, hb1⟩
  have hx1 : w1.cell? ⟨w.heap.size, 0, none⟩ = some (.int .i64 id) := (hb1.cell (p := ⟨w.heap.size, 0, none⟩) (by simp)).trans (by simp)
  have hy1 : w1.cell? ⟨w.heap.size, 1, none⟩ = some (.slice a len cap) := (hb1.cell (p := ⟨w.heap.size, 1, none⟩) (by simp)).trans (by simp)
  have hB1 : Below w.heap.size w w1 := ((Below.refl _ _).alloc (Nat.le_refl _) _).trans (hb1.mono (by simp))
  have hz1 : w.heap.size < w1.heap.size := by have := hb1.size; simp at this; omega
  clear hb1
  rcases hr with rfl | ⟨hr0, hr1, hlen⟩
  · go_wp2
    go_ret
    exact ⟨rfl, hB1⟩
  · have hbig : len ≤ 1048576 := by omega
    clear hr1 hlen
    go_wp2_with fail
    refine (toPost_any _ _ _ _ L _ (HL.out.keep hB1) hbig).mono ?_
    rintro e w2 ⟨b2, rfl, hg2, hlt2, hL2, hb2⟩
    have hx2 := (hb2.cell (p := ⟨w.heap.size, 0, none⟩) hz1).trans hx1
    have hy2 := (hb2.cell (p := ⟨w.heap.size, 1, none⟩) hz1).trans hy1
    have hB2 := hB1.trans (hb2.mono hB1.size)
    have hz2 : w.heap.size < w2.heap.size := by have := hb2.size; omega
    clear hb2 hx1 hy1 hz1 hg2 hlt2
    go_wp2_with fail
    refine (specText _ _ _ _ L _ hL2).mono ?_
    rintro e w3 ⟨rfl, hb3⟩
    have hx3 := (hb3.cell (p := ⟨w.heap.size, 0, none⟩) hz2).trans hx2
    have hy3 := (hb3.cell (p := ⟨w.heap.size, 1, none⟩) hz2).trans hy2
    have hB3 := hB2.trans (hb3.mono hB2.size)
    have hz3 : w.heap.size < w3.heap.size := by have := hb3.size; omega
    clear hb3 hx2 hy2 hz2 hL2
    go_wp2_with fail
    refine (toPost_any _ _ _ _ L _ (HL.out.keep hB3) hbig).mono ?_
    rintro e w4 ⟨b4, rfl, hg4, hlt4, hL4, hb4⟩
    have hx4 := (hb4.cell (p := ⟨w.heap.size, 0, none⟩) hz3).trans hx3
    have hy4 := (hb4.cell (p := ⟨w.heap.size, 1, none⟩) hz3).trans hy3
    have hB4 := hB3.trans (hb4.mono hB3.size)
    have hz4 : w.heap.size < w4.heap.size := by have := hb4.size; omega
    have hL5 : LegsAt (w4.alloc (.cells #[.int .i64 id, .slice (some ⟨b4, 0, none⟩) len len] 29)) (some ⟨b4, 0, none⟩) len len L := hL4.keep ((Below.refl _ _).alloc (Nat.le_refl _) _)
    clear hb4 hx3 hy3 hz3 hg4
    go_wp2_with fail
    refine (implText _ _ _ _ L _ hL5 (HT.out _ (hB4.alloc hB4.size _))).mono ?_
    rintro e w6 ⟨rfl, hb6⟩
    have hb46 : Below w4.heap.size w4 w6 := ((Below.refl _ _).alloc (Nat.le_refl _) _).trans (hb6.mono (by simp))
    have hx6 := cell_later hb46 hx4
    have hy6 := cell_later hb46 hy4
    have hu6 : w6.cell? ⟨w4.heap.size, 0, none⟩ = some (.int .i64 id) := cell_later hb6 (by simp)
    have hv6 : w6.cell? ⟨w4.heap.size, 1, none⟩ = some (.slice (some ⟨b4, 0, none⟩) len len) := cell_later hb6 (by simp)
    have hB6 := hB4.trans (hb46.mono hB4.size)
    have HL6 : Hid (LegsAt w6 (some ⟨b4, 0, none⟩) len len L) := hL4.keep hb46
    clear hb6 hb46 hx4 hy4 hz4 hL5 hL4 hlt4
    go_wp2_with fail
    go_region_with (first
      | (go_at_call 11; refine (toPost_any id a len cap L _ ?_ hbig).mono ?_; exact HL.out.keep hB6.drew; rintro e w7 ⟨b7, rfl, hg7, hlt7, hL7, hb7⟩; have hb67 : Below w6.heap.size w6 w7 := ((Below.refl _ w6).drew).trans hb7; have hu7 := cell_later hb67 hu6; have hv7 := cell_later hb67 hv6; have hL67 := LegsAt.keep HL6.out hb67)
      | (go_at_call 13; refine (eqPost_same _ _ _ _ _ _ _ _ L _ ?_ ?_).mono ?_; exact hL67; exact hL7; rintro e w8 ⟨rfl, hb8⟩))
    all_goals
      go_wp2
      go_ret
      exact ⟨rfl, (hB6.drew.trans (hb7.mono hB6.size)).trans (hb8.mono (Nat.le_trans hB6.size hb7.size))⟩
end Go.Proofs.YtcabinakcmpkeaaDoor
