/-
  The library's way down in a heap, at the program's heads, by a walk of its Go text.
-/
import Derived.Test.YtlmgojlffgkciaaGreatGaXMgI
namespace Go.Proofs.YtlmgojlffgkciaaGreat
open Go.RowKit
set_option maxRecDepth 100000
set_option maxHeartbeats 8000000
theorem heapDown (base BH g N n c i0 : Nat) (X0 : List StrD) (H0 : List (List EntD × Nat)) (w : World) (hn : N ≤ 1048576) (hnN : n ≤ N) (hi0 : i0 < N) (hS : HpSt w base BH g N c X0 H0) (hD : Mg.DownI (Mg.lessS lessE) n H0 i0) (hLv : LiveTo n H0) :
    Calls Tryz.prog 162 #[.iface 134 (.pointer (some ⟨BH, 0, none⟩)), .int .i64 i0, .int .i64 n] w fun e w' => (∃ b, e = .returned (.bool b)) ∧ (∃ X H, HpSt w' base BH g N c X H ∧ H.Perm H0 ∧ X.Perm X0 ∧ (∀ k, n ≤ k → X[k]? = X0[k]? ∧ H[k]? = H0[k]?) ∧ Mg.HeapTo (Mg.lessS lessE) n H) ∧ w.grownBy w' (some g) := by
  have HS0 : Hid (HpSt w base BH g N c X0 H0) := hS
  have HD0 : Hid (Mg.DownI (Mg.lessS lessE) n H0 i0) := hD
  have HL0 : Hid (LiveTo n H0) := hLv
  clear hS hD hLv
  go_enter Tryz.func162, Tryz.ntmps162
  go_wp2
  go_loopw [7] (fun iv wr => ∃ (i : Nat) (X : List StrD) (H : List (List EntD × Nat)), iv = .int .i64 i ∧ i < N ∧ HpSt wr base BH g N c X H ∧ H.Perm H0 ∧ X.Perm X0 ∧ (∀ k, n ≤ k → X[k]? = X0[k]? ∧ H[k]? = H0[k]?) ∧ (Mg.DownI (Mg.lessS lessE) n H i ∧ LiveTo n H) ∧ w.grownBy wr (some g)) (fun iv _ => N - (intOf iv).toNat)
  case atStart => exact ⟨i0, X0, H0, rfl, hi0, HS0.out, List.Perm.refl _, List.Perm.refl _, fun k _ => ⟨rfl, rfl⟩, ⟨HD0.out, HL0.out⟩, ⟨rfl, rfl, rfl, Nat.le_refl _, fun _ _ _ => rfl⟩⟩
  case round =>
    clear HS0 HD0 HL0
    obtain ⟨i, X, H, rfl, hi, hS, hP, hQ, hK, ⟨hD, hLv⟩, hG⟩ := hrel
    have HLV : Hid (LiveTo n H) := hLv
    have HS : Hid (HpSt wr base BH g N c X H) := hS
    have HP : Hid (H.Perm H0) := hP
    have HQ : Hid (X.Perm X0) := hQ
    have HK : Hid (∀ k, n ≤ k → X[k]? = X0[k]? ∧ H[k]? = H0[k]?) := hK
    have HD : Hid (Mg.DownI (Mg.lessS lessE) n H i) := hD
    have HG : Hid (w.grownBy wr (some g)) := hG
    have hLen := hS.len
    have hXL := hS.own.len
    clear hS hP hQ hD hG hK hLv
    obtain ⟨j1, hj1⟩ : ∃ j1, j1 = 2 * i + 1 := ⟨_, rfl⟩
    have w1 : IntKind.i64.wrap (2 * (i : Int)) = 2 * (i : Int) := by rw [IntKind.wrap_i64]; omega
    have w2 : IntKind.i64.wrap (2 * (i : Int) + 1) = (j1 : Int) := by rw [IntKind.wrap_i64]; omega
    have HJ1 : Hid (j1 = 2 * i + 1) := hj1
    by_cases hend : n ≤ j1
    · have hendI : (n : Int) ≤ (j1 : Int) := by omega
      clear hj1
      go_wp2
      go_ret
      exact ⟨⟨_, rfl⟩, ⟨X, H, HS.out, HP.out, HQ.out, HK.out, Mg.down_done HD.out (fun d _ hd hp => by have := HJ1.out; omega)⟩, HG.out⟩
    · have hendI : ¬ (n : Int) ≤ (j1 : Int) := by omega
      have hpos : ¬ (j1 : Int) < 0 := by omega
      obtain ⟨u, hu⟩ : ∃ u, H[i]? = some u := ⟨_, List.getElem?_eq_getElem (by omega)⟩
      obtain ⟨x, hx⟩ : ∃ x, X[i]? = some x := ⟨_, List.getElem?_eq_getElem (by omega)⟩
      obtain ⟨v1, hv1⟩ : ∃ v, H[j1]? = some v := ⟨_, List.getElem?_eq_getElem (by omega)⟩
      obtain ⟨y1, hy1⟩ : ∃ y, X[j1]? = some y := ⟨_, List.getElem?_eq_getElem (by omega)⟩
      obtain ⟨j2, hj2⟩ : ∃ j2, j2 = j1 + 1 := ⟨_, rfl⟩
      have w3 : IntKind.i64.wrap ((j1 : Int) + 1) = (j2 : Int) := by rw [IntKind.wrap_i64]; omega
      have HJ2 : Hid (j2 = j1 + 1) := hj2
      have HUu : Hid (H[i]? = some u) := hu
      have HXx : Hid (X[i]? = some x) := hx
      have HV1 : Hid (H[j1]? = some v1) := hv1
      have HY1 : Hid (X[j1]? = some y1) := hy1
      by_cases h2 : j2 < n
      · have h2I : (j2 : Int) < (n : Int) := by omega
        obtain ⟨v2, hv2⟩ : ∃ v, H[j2]? = some v := ⟨_, List.getElem?_eq_getElem (by omega)⟩
        obtain ⟨y2, hy2⟩ : ∃ y, X[j2]? = some y := ⟨_, List.getElem?_eq_getElem (by omega)⟩
        have HV2 : Hid (H[j2]? = some v2) := hv2
        have HY2 : Hid (X[j2]? = some y2) := hy2
        have hm := hmLess BH g N c wr HS.out.box
        have CL := HS.out.less hv2 hv1 (HLV.out _ _ h2 hv2) (HLV.out _ _ (by omega) hv1)
        clear hu hx hv1 hy1 hv2 hy2 hj1 hj2
        go_wp2_with fail
        refine CL.mono ?_
        rintro e w4 ⟨rfl, hb4⟩
        have HS4 : Hid (HpSt w4 base BH g N c X H) := HS.out.below hb4
        have HG4 : Hid (w.grownBy w4 (some g)) := HG.out.trans ⟨hb4.os, hb4.tape, hb4.output, hb4.size, fun k hk _ => hb4.block k hk⟩
        clear HS HG hb4 hm CL
        cases hl2 : Mg.lessS lessE v2 v1 with
        | true =>
          obtain ⟨v, hvv⟩ : ∃ v, v = v2 := ⟨_, rfl⟩
          obtain ⟨y, hyy⟩ : ∃ y, y = y2 := ⟨_, rfl⟩
          subst hvv
          subst hyy
          have HV : Hid (H[j2]? = some v) := HV2.out
          have HYy : Hid (X[j2]? = some y) := HY2.out
          have HMIN : Hid (∀ d, 0 < d → d < n → (d - 1) / 2 = i → ∀ z, H[d]? = some z → Mg.lessS lessE z v = false) := fun d d0 hd hp z hz => by
            have e1 := HJ1.out
            have e2 := HJ2.out
            by_cases hdj : d = j2
            · subst hdj
              rw [HV2.out] at hz
              cases hz
              exact Mg.lessS_irr less_wk _
            · have : d = j1 := by omega
              subst this
              rw [HV1.out] at hz
              cases hz
              exact (Mg.lessS_ord less_wk).asym _ _ hl2
          clear HV2 HY2
          have hm := hmLess BH g N c w4 HS4.out.box
          have hin : i < n := by have := HJ1.out; omega
          have hjn : j2 < n := by have := HJ2.out; omega
          have CL := HS4.out.less HV.out HUu.out (HLV.out _ _ hjn HV.out) (HLV.out _ _ hin HUu.out)
          go_wp2_with fail
          refine CL.mono ?_
          rintro e w5 ⟨rfl, hb5⟩
          have HS5 : Hid (HpSt w5 base BH g N c X H) := HS4.out.below hb5
          have HG5 : Hid (w.grownBy w5 (some g)) := HG4.out.trans ⟨hb5.os, hb5.tape, hb5.output, hb5.size, fun k hk _ => hb5.block k hk⟩
          clear HS4 HG4 hb5 hm CL
          cases hl : Mg.lessS lessE v u with
          | false =>
            go_wp2
            go_ret
            exact ⟨⟨_, rfl⟩, ⟨X, H, HS5.out, HP.out, HQ.out, HK.out, Mg.down_done HD.out (fun d d0 hd hp p q hp' hq => by rw [HUu.out] at hp'; cases hp'; exact (Mg.lessS_ord less_wk).tran _ _ _ (HMIN.out d d0 hd hp q hq) hl)⟩, HG5.out⟩
          | true =>
            have hm := hmSwap BH g N c w5 HS5.out.box
            have CW := headsSwap base g N c i j2 X x y w5 HS5.out.own HXx.out HYy.out
            go_wp2_with fail
            refine CW.mono ?_
            rintro e w6 ⟨rfl, hO6, hg6⟩
            have HS6 : Hid (HpSt w6 base BH g N c (Mg.sw X i j2 x y) (Mg.sw H i j2 u v)) := HS5.out.swap HXx.out HYy.out HUu.out HV.out hg6 hO6
            have HG6 : Hid (w.grownBy w6 (some g)) := HG5.out.trans hg6
            clear HS5 HG5 hO6 hg6 hm CW
            go_wp2
            go_roundw
            case rel => exact ⟨j2, _, _, rfl, by omega, HS6.out, (Mg.sw_perm HUu.out HV.out).trans HP.out, (Mg.sw_perm HXx.out HYy.out).trans HQ.out, fun k hk => by rw [Mg.sw_get HXx.out HYy.out, Mg.sw_get HUu.out HV.out, if_neg (by omega), if_neg (by have := HJ1.out; omega), if_neg (by omega), if_neg (by have := HJ1.out; omega)]; exact HK.out k hk, ⟨Mg.down_step (Mg.lessS_ord less_wk) HD.out (by have := HJ1.out; have := HJ2.out; omega) (by have := HJ1.out; have := HJ2.out; omega) (by omega) HUu.out HV.out hl HMIN.out, HLV.out.swap HUu.out HV.out hin hjn⟩, HG6.out⟩
            case measure => have := HJ1.out; have := HJ2.out; simp [intOf] <;> omega
        | false =>
          obtain ⟨v, hvv⟩ : ∃ v, v = v1 := ⟨_, rfl⟩
          obtain ⟨y, hyy⟩ : ∃ y, y = y1 := ⟨_, rfl⟩
          subst hvv
          subst hyy
          have HV : Hid (H[j1]? = some v) := HV1.out
          have HYy : Hid (X[j1]? = some y) := HY1.out
          have HMIN : Hid (∀ d, 0 < d → d < n → (d - 1) / 2 = i → ∀ z, H[d]? = some z → Mg.lessS lessE z v = false) := fun d d0 hd hp z hz => by
            have e1 := HJ1.out
            have e2 := HJ2.out
            by_cases hdj : d = j2
            · subst hdj
              rw [HV2.out] at hz
              cases hz
              exact hl2
            · have : d = j1 := by omega
              subst this
              rw [HV1.out] at hz
              cases hz
              exact Mg.lessS_irr less_wk _
          clear HV1 HY1
          have hm := hmLess BH g N c w4 HS4.out.box
          have hin : i < n := by have := HJ1.out; omega
          have hjn : j1 < n := by have := HJ2.out; omega
          have CL := HS4.out.less HV.out HUu.out (HLV.out _ _ hjn HV.out) (HLV.out _ _ hin HUu.out)
          go_wp2_with fail
          refine CL.mono ?_
          rintro e w5 ⟨rfl, hb5⟩
          have HS5 : Hid (HpSt w5 base BH g N c X H) := HS4.out.below hb5
          have HG5 : Hid (w.grownBy w5 (some g)) := HG4.out.trans ⟨hb5.os, hb5.tape, hb5.output, hb5.size, fun k hk _ => hb5.block k hk⟩
          clear HS4 HG4 hb5 hm CL
          cases hl : Mg.lessS lessE v u with
          | false =>
            go_wp2
            go_ret
            exact ⟨⟨_, rfl⟩, ⟨X, H, HS5.out, HP.out, HQ.out, HK.out, Mg.down_done HD.out (fun d d0 hd hp p q hp' hq => by rw [HUu.out] at hp'; cases hp'; exact (Mg.lessS_ord less_wk).tran _ _ _ (HMIN.out d d0 hd hp q hq) hl)⟩, HG5.out⟩
          | true =>
            have hm := hmSwap BH g N c w5 HS5.out.box
            have CW := headsSwap base g N c i j1 X x y w5 HS5.out.own HXx.out HYy.out
            go_wp2_with fail
            refine CW.mono ?_
            rintro e w6 ⟨rfl, hO6, hg6⟩
            have HS6 : Hid (HpSt w6 base BH g N c (Mg.sw X i j1 x y) (Mg.sw H i j1 u v)) := HS5.out.swap HXx.out HYy.out HUu.out HV.out hg6 hO6
            have HG6 : Hid (w.grownBy w6 (some g)) := HG5.out.trans hg6
            clear HS5 HG5 hO6 hg6 hm CW
            go_wp2
            go_roundw
            case rel => exact ⟨j1, _, _, rfl, by omega, HS6.out, (Mg.sw_perm HUu.out HV.out).trans HP.out, (Mg.sw_perm HXx.out HYy.out).trans HQ.out, fun k hk => by rw [Mg.sw_get HXx.out HYy.out, Mg.sw_get HUu.out HV.out, if_neg (by omega), if_neg (by have := HJ1.out; omega), if_neg (by omega), if_neg (by have := HJ1.out; omega)]; exact HK.out k hk, ⟨Mg.down_step (Mg.lessS_ord less_wk) HD.out (by have := HJ1.out; have := HJ2.out; omega) (by have := HJ1.out; have := HJ2.out; omega) (by omega) HUu.out HV.out hl HMIN.out, HLV.out.swap HUu.out HV.out hin hjn⟩, HG6.out⟩
            case measure => have := HJ1.out; have := HJ2.out; simp [intOf] <;> omega
      · have h2I : ¬ (j2 : Int) < (n : Int) := by omega
        obtain ⟨v, hvv⟩ : ∃ v, v = v1 := ⟨_, rfl⟩
        obtain ⟨y, hyy⟩ : ∃ y, y = y1 := ⟨_, rfl⟩
        subst hvv
        subst hyy
        have HV : Hid (H[j1]? = some v) := HV1.out
        have HYy : Hid (X[j1]? = some y) := HY1.out
        have HMIN : Hid (∀ d, 0 < d → d < n → (d - 1) / 2 = i → ∀ z, H[d]? = some z → Mg.lessS lessE z v = false) := fun d d0 hd hp z hz => by
          have e1 := HJ1.out
          have e2 := HJ2.out
          have : d = j1 := by omega
          subst this
          rw [HV1.out] at hz
          cases hz
          exact Mg.lessS_irr less_wk _
        clear HV1 HY1 hu hx hv1 hy1 hj1 hj2
        have hm := hmLess BH g N c wr HS.out.box
        have hin : i < n := by have := HJ1.out; omega
        have hjn : j1 < n := by have := HJ2.out; omega
        have CL := HS.out.less HV.out HUu.out (HLV.out _ _ hjn HV.out) (HLV.out _ _ hin HUu.out)
        go_wp2_with fail
        refine CL.mono ?_
        rintro e w5 ⟨rfl, hb5⟩
        have HS5 : Hid (HpSt w5 base BH g N c X H) := HS.out.below hb5
        have HG5 : Hid (w.grownBy w5 (some g)) := HG.out.trans ⟨hb5.os, hb5.tape, hb5.output, hb5.size, fun k hk _ => hb5.block k hk⟩
        clear HS HG hb5 hm CL
        cases hl : Mg.lessS lessE v u with
        | false =>
          go_wp2
          go_ret
          exact ⟨⟨_, rfl⟩, ⟨X, H, HS5.out, HP.out, HQ.out, HK.out, Mg.down_done HD.out (fun d d0 hd hp p q hp' hq => by rw [HUu.out] at hp'; cases hp'; exact (Mg.lessS_ord less_wk).tran _ _ _ (HMIN.out d d0 hd hp q hq) hl)⟩, HG5.out⟩
        | true =>
          have hm := hmSwap BH g N c w5 HS5.out.box
          have CW := headsSwap base g N c i j1 X x y w5 HS5.out.own HXx.out HYy.out
          go_wp2_with fail
          refine CW.mono ?_
          rintro e w6 ⟨rfl, hO6, hg6⟩
          have HS6 : Hid (HpSt w6 base BH g N c (Mg.sw X i j1 x y) (Mg.sw H i j1 u v)) := HS5.out.swap HXx.out HYy.out HUu.out HV.out hg6 hO6
          have HG6 : Hid (w.grownBy w6 (some g)) := HG5.out.trans hg6
          clear HS5 HG5 hO6 hg6 hm CW
          go_wp2
          go_roundw
          case rel => exact ⟨j1, _, _, rfl, by omega, HS6.out, (Mg.sw_perm HUu.out HV.out).trans HP.out, (Mg.sw_perm HXx.out HYy.out).trans HQ.out, fun k hk => by rw [Mg.sw_get HXx.out HYy.out, Mg.sw_get HUu.out HV.out, if_neg (by omega), if_neg (by have := HJ1.out; omega), if_neg (by omega), if_neg (by have := HJ1.out; omega)]; exact HK.out k hk, ⟨Mg.down_step (Mg.lessS_ord less_wk) HD.out (by have := HJ1.out; have := HJ2.out; omega) (by have := HJ1.out; have := HJ2.out; omega) (by omega) HUu.out HV.out hl HMIN.out, HLV.out.swap HUu.out HV.out hin hjn⟩, HG6.out⟩
          case measure => have := HJ1.out; have := HJ2.out; simp [intOf] <;> omega
end Go.Proofs.YtlmgojlffgkciaaGreat
