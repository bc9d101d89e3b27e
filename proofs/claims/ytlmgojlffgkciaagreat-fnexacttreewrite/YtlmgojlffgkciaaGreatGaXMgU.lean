/-
  The library's way up in a heap, at the program's heads, by a walk of its Go text.
-/
import Derived.Test.YtlmgojlffgkciaaGreatGaXMgI
namespace Go.Proofs.YtlmgojlffgkciaaGreat
open Go.RowKit
set_option maxRecDepth 100000
set_option maxHeartbeats 4000000
theorem heapUp (base BH g n c j0 : Nat) (X0 : List StrD) (H0 : List (List EntD × Nat)) (w : World) (hn : n ≤ 1048576) (hj : j0 < n) (hS : HpSt w base BH g n c X0 H0) (hU : Mg.UpI (Mg.lessS lessE) n H0 j0) (hLv : ∀ h ∈ H0, h.1 ≠ []) :
    Calls Tryz.prog 161 #[.iface 134 (.pointer (some ⟨BH, 0, none⟩)), .int .i64 j0] w fun e w' => e = .returned (.tuple #[]) ∧ (∃ X H, HpSt w' base BH g n c X H ∧ H.Perm H0 ∧ X.Perm X0 ∧ Mg.HeapTo (Mg.lessS lessE) n H) ∧ w.grownBy w' (some g) := by
  have HS0 : Hid (HpSt w base BH g n c X0 H0) := hS
  have HU0 : Hid (Mg.UpI (Mg.lessS lessE) n H0 j0) := hU
  have HLV : Hid (∀ h ∈ H0, h.1 ≠ []) := hLv
  clear hS hU hLv
  go_enter Tryz.func161, Tryz.ntmps161
  go_wp2
  go_loopw [1] (fun jv wr => ∃ (j : Nat) (X : List StrD) (H : List (List EntD × Nat)), jv = .int .i64 j ∧ j < n ∧ HpSt wr base BH g n c X H ∧ H.Perm H0 ∧ X.Perm X0 ∧ Mg.UpI (Mg.lessS lessE) n H j ∧ w.grownBy wr (some g)) (fun jv _ => (intOf jv).toNat)
  case atStart => exact ⟨j0, X0, H0, rfl, hj, HS0.out, List.Perm.refl _, List.Perm.refl _, HU0.out, ⟨rfl, rfl, rfl, Nat.le_refl _, fun _ _ _ => rfl⟩⟩
  case round =>
    clear HS0 HU0 hj
    obtain ⟨j, X, H, rfl, hj, hS, hP, hQ, hU, hG⟩ := hrel
    have HS : Hid (HpSt wr base BH g n c X H) := hS
    have HP : Hid (H.Perm H0) := hP
    have HQ : Hid (X.Perm X0) := hQ
    have HU : Hid (Mg.UpI (Mg.lessS lessE) n H j) := hU
    have HG : Hid (w.grownBy wr (some g)) := hG
    clear hS hP hQ hU hG
    by_cases h0 : j = 0
    · subst h0
      have w1 : IntKind.i64.wrap ((0 : Int) - 1) = -1 := by decide
      have w2 : (-1 : Int).tdiv 2 = 0 := by decide
      have w3 : IntKind.i64.wrap ((-1 : Int).tdiv 2) = 0 := by decide
      go_wp2
      go_end0
      exact ⟨rfl, ⟨X, H, HS.out, HP.out, HQ.out, Mg.up_done HU.out (fun h => by omega)⟩, HG.out⟩
    · obtain ⟨i, hi⟩ : ∃ i, i = (j - 1) / 2 := ⟨_, rfl⟩
      have w1 : IntKind.i64.wrap ((j : Int) - 1) = (j : Int) - 1 := by rw [IntKind.wrap_i64]; omega
      have w2 : ((j : Int) - 1).tdiv 2 = (i : Int) := by rw [Int.tdiv_eq_ediv_of_nonneg (by omega)]; omega
      have w3 : IntKind.i64.wrap (i : Int) = (i : Int) := by rw [IntKind.wrap_i64]; omega
      have hneI : ¬ (i : Int) = (j : Int) := by omega
      have hne : ((i : Int) == (j : Int)) = false := by simp; omega
      have hij : i < j := by omega
      have hLen := HS.out.len
      obtain ⟨u, hu⟩ : ∃ u, H[i]? = some u := ⟨_, List.getElem?_eq_getElem (by omega)⟩
      obtain ⟨v, hv⟩ : ∃ v, H[j]? = some v := ⟨_, List.getElem?_eq_getElem (by omega)⟩
      have hXL := HS.out.own.len
      obtain ⟨x, hx⟩ : ∃ x, X[i]? = some x := ⟨_, List.getElem?_eq_getElem (by omega)⟩
      obtain ⟨y, hy⟩ : ∃ y, X[j]? = some y := ⟨_, List.getElem?_eq_getElem (by omega)⟩
      have HI : Hid (i = (j - 1) / 2) := hi
      have HUu : Hid (H[i]? = some u) := hu
      have HVv : Hid (H[j]? = some v) := hv
      have HXx : Hid (X[i]? = some x) := hx
      have HYy : Hid (X[j]? = some y) := hy
      have hm := hmLess BH g n c wr HS.out.box
      have CL := HS.out.less hv hu (HLV.out _ (HP.out.mem_iff.1 (List.mem_of_getElem? hv))) (HLV.out _ (HP.out.mem_iff.1 (List.mem_of_getElem? hu)))
      clear hi hu hv hx hy hLen hXL
      go_wp2_with fail
      refine CL.mono ?_
      rintro e w1' ⟨rfl, hb1⟩
      have HS1 : Hid (HpSt w1' base BH g n c X H) := HS.out.below hb1
      have HG1 : Hid (w.grownBy w1' (some g)) := HG.out.trans ⟨hb1.os, hb1.tape, hb1.output, hb1.size, fun k hk _ => hb1.block k hk⟩
      clear HS HG hb1 hm CL
      cases hl : Mg.lessS lessE v u with
      | false =>
        go_wp2
        go_end0
        exact ⟨rfl, ⟨X, H, HS1.out, HP.out, HQ.out, Mg.up_done HU.out (fun _ _ p q hp hq => by rw [← HI.out, HUu.out] at hp; rw [HVv.out] at hq; cases hp; cases hq; exact hl)⟩, HG1.out⟩
      | true =>
        have hm := hmSwap BH g n c w1' HS1.out.box
        have CW := headsSwap base g n c i j X x y w1' HS1.out.own HXx.out HYy.out
        go_wp2_with fail
        refine CW.mono ?_
        rintro e w2' ⟨rfl, hO2, hg2⟩
        have HS2 : Hid (HpSt w2' base BH g n c (Mg.sw X i j x y) (Mg.sw H i j u v)) := HS1.out.swap HXx.out HYy.out HUu.out HVv.out hg2 hO2
        have HG2 : Hid (w.grownBy w2' (some g)) := HG1.out.trans hg2
        clear HS1 HG1 hO2 hg2 hm CW
        go_wp2
        go_roundw
        case rel =>
          refine ⟨i, _, _, rfl, by omega, HS2.out, (Mg.sw_perm HUu.out HVv.out).trans HP.out, (Mg.sw_perm HXx.out HYy.out).trans HQ.out, ?_, HG2.out⟩
          have := Mg.up_step (Mg.lessS_ord less_wk) HU.out (by omega) hj (by rw [← HI.out]; exact HUu.out) HVv.out hl
          rw [← HI.out] at this
          exact this
        case measure => simp [intOf] <;> omega
end Go.Proofs.YtlmgojlffgkciaaGreat
