/-
  The walk of the law FnExactFrameText: it answers true at every list of entries.
-/
import Derived.Test.YtcabinakcmpkeaaDoorFrI
import Derived.Test.YtcabinakcmpkeaaDoorFrS
import Derived.Test.YtcabinakcmpkeaaDoorLawEnts
import Derived.Test.YtcabinakcmpkeaaDoorEntsO
namespace Go.Proofs.YtcabinakcmpkeaaDoor
open Go.RowKit

set_option maxRecDepth 100000 in
set_option maxHeartbeats 4000000 in
theorem walkFnExactFrameText (a : Option Addr) (len cap : Nat) (L : List EntD) (w : World) (h : EntsAt w a len cap L) (htab : Lib.TabIs Tryd.prog w "internal/strconv.uint64pow10" .u64 Lib.pow10Tab) :
    Calls Tryd.prog 5 #[.slice a len cap] w fun e w' => e = .returned (.bool true) ∧ Below w.heap.size w w' := by
  have HL : Hid (EntsAt w a len cap L) := h
  have HT : Hid (Lib.TabBelow Tryd.prog w.heap.size w "internal/strconv.uint64pow10" .u64 Lib.pow10Tab) := Lib.tabBelow_of_tabIs htab
  clear h htab
  go_enter Tryd.func5, Tryd.ntmps5
  go_wp2_with fail
  refine (szEntS_any _ _ _ L _ _ HL.out (by omega) (by omega)).mono ?_
  rintro e w1 ⟨r, rfl, hr, hB1⟩
  rcases hr with rfl | ⟨hr0, hr1, hlen⟩
  · go_wp2
    go_ret
    exact ⟨rfl, hB1⟩
  · have hbig : len ≤ 1048576 := by omega
    clear hr1 hlen
    go_wp2_with fail
    refine (toEntS_any _ _ _ L _ (HL.out.keep hB1) hbig).mono ?_
    rintro e w2 ⟨rfl, hL2, hlt2, hb2⟩
    have hB2 := hB1.trans (hb2.mono hB1.size)
    obtain ⟨X2, hX2⟩ : ∃ X, X = w1.heap.size := ⟨_, rfl⟩
    rw [← hX2] at hL2 ⊢
    clear hX2 hlt2 hb2 hB1
    go_wp2_with fail
    refine (specFrame _ _ _ L _ hL2).mono ?_
    rintro e w3 ⟨rfl, hb3⟩
    have hB3 := hB2.trans (hb3.mono hB2.size)
    clear hb3 hL2 hB2
    go_wp2_with fail
    refine (toEntS_any _ _ _ L _ (HL.out.keep hB3) hbig).mono ?_
    rintro e w4 ⟨rfl, hL4, hlt4, hb4⟩
    have hB4 := hB3.trans (hb4.mono hB3.size)
    obtain ⟨X4, hX4⟩ : ∃ X, X = w3.heap.size := ⟨_, rfl⟩
    rw [← hX4] at hL4 ⊢
    have HL4 : Hid (EntsAt w4 (some ⟨X4, 0, none⟩) len len L) := hL4
    clear hX4 hlt4 hb4 hB3
    go_wp2_with fail
    refine (implFrame _ _ _ L _ hL4 (HT.out _ hB4)).mono ?_
    rintro e w5 ⟨rfl, hb5⟩
    have hB5 := hB4.trans (hb5.mono hB4.size)
    have HL5 : Hid (EntsAt w5 (some ⟨X4, 0, none⟩) len len L) := HL4.out.keep hb5
    clear hb5 hB4 hL4 HL4
    go_wp2_with fail
    refine (toEntS_any _ _ _ L _ (HL.out.keep hB5) hbig).mono ?_
    rintro e w6 ⟨rfl, hL6, hlt6, hb6⟩
    have hB6 := hB5.trans (hb6.mono hB5.size)
    obtain ⟨X6, hX6⟩ : ∃ X, X = w5.heap.size := ⟨_, rfl⟩
    rw [← hX6] at hL6 ⊢
    have HL6 : Hid (EntsAt w6 (some ⟨X4, 0, none⟩) len len L) := HL5.out.keep hb6
    clear hX6 hlt6 hb6 hB5
    go_wp2_with fail
    refine (eqEntS_same X4 0 X6 0 len len len L _ HL6.out hL6).mono ?_
    rintro e w7 ⟨rfl, hb7⟩
    go_wp2
    go_ret
    exact ⟨rfl, hB6.trans (hb7.mono hB6.size)⟩

end Go.Proofs.YtcabinakcmpkeaaDoor
