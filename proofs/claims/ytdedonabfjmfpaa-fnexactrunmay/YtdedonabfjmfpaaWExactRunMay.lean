/-
  The walk of the law FnExactRunMay: it answers true at every run and every text.
-/
import Derived.Test.YtdedonabfjmfpaaRunMayI
import Derived.Test.YtdedonabfjmfpaaRunMayS
import Derived.Test.YtdedonabfjmfpaaLawRun
import Derived.Deep.RegionWith
namespace Go.Proofs.Ytdedonabfjmfpaa
open Go.RowKit

set_option maxHeartbeats 1000000 in
theorem walkFnExactRunMay (a : Option Addr) (len cap : Nat) (L : List EntD) (id : Int) (acct : ByteArray) (w : World) (w0 : (Lit.int .i64 id).wf = true ∧ EntsAt w a len cap L) (hs : acct.size ≤ maxLen) :
    Calls Try.prog 5 #[.agg #[.slice a len cap, .int .i64 id], .string acct] w fun e w' => e = .returned (.bool true) ∧ Below w.heap.size w w' := by
  obtain ⟨_, hL⟩ := w0
  have HL : Hid (EntsAt w a len cap L) := hL
  clear hL
  have hs' := hs
  unfold maxLen at hs'
  by_cases hbs : 1048576 < acct.size
  · go_enter Try.func5, Try.ntmps5
    go_wp2
    go_ret
    exact ⟨rfl, (Below.refl _ _).alloc (Nat.le_refl _) _⟩
  go_enter Try.func5, Try.ntmps5
  go_wp2_with fail
  refine (szRun_any _ _ _ _ L _ _ (HL.out.keep ((Below.refl _ _).alloc (Nat.le_refl _) _)) (by omega) (by omega)).mono ?_
  rintro e w1 ⟨r, rfl, hr, hb1⟩
  have hx1 : w1.cell? ⟨w.heap.size, 1, none⟩ = some (.int .i64 id) := (hb1.cell (p := ⟨w.heap.size, 1, none⟩) (by simp)).trans (by simp)
  have hy1 : w1.cell? ⟨w.heap.size, 0, none⟩ = some (.slice a len cap) := (hb1.cell (p := ⟨w.heap.size, 0, none⟩) (by simp)).trans (by simp)
  have hB1 : Below w.heap.size w w1 := ((Below.refl _ _).alloc (Nat.le_refl _) _).trans (hb1.mono (by simp))
  have hz1 : w.heap.size < w1.heap.size := by have := hb1.size; simp at this; omega
  clear hb1
  rcases hr with rfl | ⟨hr0, hr1, hlen⟩
  · go_wp2
    go_ret
    exact ⟨rfl, hB1⟩
  · have hbig : len ≤ 1048576 := by omega
    clear hr1 hlen
    go_wp2_with fail
    refine (toRun_any _ _ _ _ L _ (HL.out.keep hB1) hbig).mono ?_
    rintro e w2 ⟨b2, rfl, hg2, hlt2, hL2, hb2⟩
    have hx2 := (hb2.cell (p := ⟨w.heap.size, 1, none⟩) hz1).trans hx1
    have hy2 := (hb2.cell (p := ⟨w.heap.size, 0, none⟩) hz1).trans hy1
    have hB2 := hB1.trans (hb2.mono hB1.size)
    have hz2 : w.heap.size < w2.heap.size := by have := hb2.size; omega
    clear hb2 hx1 hy1 hz1 hg2 hlt2
    go_wp2_with fail
    refine (specMay _ _ _ L _ _ _ hL2 hs).mono ?_
    rintro e w3 ⟨rfl, hb3⟩
    have hx3 := (hb3.cell (p := ⟨w.heap.size, 1, none⟩) hz2).trans hx2
    have hy3 := (hb3.cell (p := ⟨w.heap.size, 0, none⟩) hz2).trans hy2
    have hB3 := hB2.trans (hb3.mono hB2.size)
    have hz3 : w.heap.size < w3.heap.size := by have := hb3.size; omega
    clear hb3 hx2 hy2 hz2 hL2
    go_wp2_with fail
    refine (toRun_any _ _ _ _ L _ (HL.out.keep hB3) hbig).mono ?_
    rintro e w4 ⟨b4, rfl, hg4, hlt4, hL4, hb4⟩
    have hx4 := (hb4.cell (p := ⟨w.heap.size, 1, none⟩) hz3).trans hx3
    have hy4 := (hb4.cell (p := ⟨w.heap.size, 0, none⟩) hz3).trans hy3
    have hB4 := hB3.trans (hb4.mono hB3.size)
    have hz4 : w.heap.size < w4.heap.size := by have := hb4.size; omega
    have hL5 : EntsAt (w4.alloc (.cells #[.slice (some ⟨b4, 0, none⟩) len len, .int .i64 id] 31)) (some ⟨b4, 0, none⟩) len len L := hL4.keep ((Below.refl _ _).alloc (Nat.le_refl _) _)
    clear hb4 hx3 hy3 hz3 hg4
    go_wp2_with fail
    refine (implMay _ _ _ L _ _ _ hL5 hs).mono ?_
    rintro e w6 ⟨rfl, hb6⟩
    have hb46 : Below w4.heap.size w4 w6 := ((Below.refl _ _).alloc (Nat.le_refl _) _).trans (hb6.mono (by simp))
    have hx6 := cell_later hb46 hx4
    have hy6 := cell_later hb46 hy4
    have hu6 : w6.cell? ⟨w4.heap.size, 1, none⟩ = some (.int .i64 id) := cell_later hb6 (by simp)
    have hv6 : w6.cell? ⟨w4.heap.size, 0, none⟩ = some (.slice (some ⟨b4, 0, none⟩) len len) := cell_later hb6 (by simp)
    have hB6 := hB4.trans (hb46.mono hB4.size)
    have HL6 : Hid (EntsAt w6 (some ⟨b4, 0, none⟩) len len L) := hL4.keep hb46
    clear hb6 hb46 hx4 hy4 hz4 hL5 hL4 hlt4
    go_wp2_with fail
    go_region_with (first
      | (go_at_call 18; refine (toRun_any id a len cap L _ ?_ hbig).mono ?_; exact HL.out.keep hB6.drew; rintro e w7 ⟨b7, rfl, hg7, hlt7, hL7, hb7⟩; have hb67 : Below w6.heap.size w6 w7 := ((Below.refl _ w6).drew).trans hb7; have hu7 := cell_later hb67 hu6; have hv7 := cell_later hb67 hv6; have hL67 := EntsAt.keep HL6.out hb67)
      | (go_at_call 20; refine (eqRun_same _ _ _ _ _ _ _ _ L _ ?_ ?_).mono ?_; exact hL67; exact hL7; rintro e w8 ⟨rfl, hb8⟩))
    all_goals
      go_wp2
      go_ret
      exact ⟨rfl, (hB6.drew.trans (hb7.mono hB6.size)).trans (hb8.mono (Nat.le_trans hB6.size hb7.size))⟩
end Go.Proofs.Ytdedonabfjmfpaa
