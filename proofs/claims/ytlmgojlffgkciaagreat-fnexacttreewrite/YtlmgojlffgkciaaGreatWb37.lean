/-
  The library's way down in a heap, at the program's heads, by a walk of its Go text.
  The library's heap.Fix at the first of a heap, at the program's heads, by a walk of its Go text.
  The library's heap.Pop at the program's heads, by a walk of its Go text.
  Plain: the parts of a list that stand in order. No statement of the program stands here.
-/
import Derived.Test.YtlmgojlffgkciaaGreatWb35
import Derived.Test.YtlmgojlffgkciaaGreatWb36
import Derived.Test.YtlmgojlffgkciaaGreatWb34
namespace Go.Proofs.YtlmgojlffgkciaaGreat
open Go.RowKit

set_option maxRecDepth 100000 in
set_option maxHeartbeats 8000000 in
theorem heapDown (base BH g N n c i0 : Nat) (X0 : List StrD) (H0 : List (List EntD × Nat)) (w : World) (hn : N ≤ 1048576) (hnN : n ≤ N) (hi0 : i0 < N) (hS : HpSt w base BH g N c X0 H0) (hD : Mg.DownI (Mg.lessS lessE) n H0 i0) (hLv : LiveTo n H0) :
    Calls Tryz.prog 162 #[.iface 134 (.pointer (some ⟨BH, 0, none⟩)), .int .i64 i0, .int .i64 n] w fun e w' => (∃ b, e = .returned (.bool b)) ∧ (∃ X H, HpSt w' base BH g N c X H ∧ H.Perm H0 ∧ X.Perm X0 ∧ (∀ k, n ≤ k → X[k]? = X0[k]? ∧ H[k]? = H0[k]?) ∧ Mg.HeapTo (Mg.lessS lessE) n H) ∧ w.grownBy w' (some g) := by
  have HS0 : Hid (HpSt w base BH g N c X0 H0) := hS
  have HD0 : Hid (Mg.DownI (Mg.lessS lessE) n H0 i0) := hD
  have HL0 : Hid (LiveTo n H0) := hLv
  clear hS hD hLv
  go_enter Tryz.func162, Tryz.ntmps162
  go_wp2
  go_loopw [7] (fun iv wr => ∃ (i : Nat) (X : List StrD) (H : List (List EntD × Nat)), iv = .int .i64 i ∧ i < N ∧ HpSt wr base BH g N c X H ∧ H.Perm H0 ∧ X.Perm X0 ∧ (∀ k, n ≤ k → X[k]? = X0[k]? ∧ H[k]? = H0[k]?) ∧ (Mg.DownI (Mg.lessS lessE) n H i ∧ LiveTo n H) ∧ w.grownBy wr (some g)) (fun iv _ => N - (intOf iv).toNat)
  case atStart => exact ⟨i0, X0, H0, rfl, hi0, HS0.out, List.Perm.refl _, List.Perm.refl _, fun k _ => ⟨rfl, rfl⟩, ⟨HD0.out, HL0.out⟩, ⟨rfl, rfl, rfl, Nat.le_refl _, fun _ _ _ => rfl⟩⟩
  case round =>
    clear HS0 HD0 HL0
    obtain ⟨i, X, H, rfl, hi, hS, hP, hQ, hK, ⟨hD, hLv⟩, hG⟩ := hrel
    have HLV : Hid (LiveTo n H) := hLv
    have HS : Hid (HpSt wr base BH g N c X H) := hS
    have HP : Hid (H.Perm H0) := hP
    have HQ : Hid (X.Perm X0) := hQ
    have HK : Hid (∀ k, n ≤ k → X[k]? = X0[k]? ∧ H[k]? = H0[k]?) := hK
    have HD : Hid (Mg.DownI (Mg.lessS lessE) n H i) := hD
    have HG : Hid (w.grownBy wr (some g)) := hG
    have hLen := hS.len
    have hXL := hS.own.len
    clear hS hP hQ hD hG hK hLv
    obtain ⟨j1, hj1⟩ : ∃ j1, j1 = 2 * i + 1 := ⟨_, rfl⟩
    have w1 : IntKind.i64.wrap (2 * (i : Int)) = 2 * (i : Int) := by rw [IntKind.wrap_i64]; omega
    have w2 : IntKind.i64.wrap (2 * (i : Int) + 1) = (j1 : Int) := by rw [IntKind.wrap_i64]; omega
    have HJ1 : Hid (j1 = 2 * i + 1) := hj1
    by_cases hend : n ≤ j1
    · have hendI : (n : Int) ≤ (j1 : Int) := by omega
      clear hj1
      go_wp2
      go_ret
      exact ⟨⟨_, rfl⟩, ⟨X, H, HS.out, HP.out, HQ.out, HK.out, Mg.down_done HD.out (fun d _ hd hp => by have := HJ1.out; omega)⟩, HG.out⟩
    · have hendI : ¬ (n : Int) ≤ (j1 : Int) := by omega
      have hpos : ¬ (j1 : Int) < 0 := by omega
      obtain ⟨u, hu⟩ : ∃ u, H[i]? = some u := ⟨_, List.getElem?_eq_getElem (by omega)⟩
      obtain ⟨x, hx⟩ : ∃ x, X[i]? = some x := ⟨_, List.getElem?_eq_getElem (by omega)⟩
      obtain ⟨v1, hv1⟩ : ∃ v, H[j1]? = some v := ⟨_, List.getElem?_eq_getElem (by omega)⟩
      obtain ⟨y1, hy1⟩ : ∃ y, X[j1]? = some y := ⟨_, List.getElem?_eq_getElem (by omega)⟩
      obtain ⟨j2, hj2⟩ : ∃ j2, j2 = j1 + 1 := ⟨_, rfl⟩
      have w3 : IntKind.i64.wrap ((j1 : Int) + 1) = (j2 : Int) := by rw [IntKind.wrap_i64]; omega
      have HJ2 : Hid (j2 = j1 + 1) := hj2
      have HUu : Hid (H[i]? = some u) := hu
      have HXx : Hid (X[i]? = some x) := hx
      have HV1 : Hid (H[j1]? = some v1) := hv1
      have HY1 : Hid (X[j1]? = some y1) := hy1
      by_cases h2 : j2 < n
      · have h2I : (j2 : Int) < (n : Int) := by omega
        obtain ⟨v2, hv2⟩ : ∃ v, H[j2]? = some v := ⟨_, List.getElem?_eq_getElem (by omega)⟩
        obtain ⟨y2, hy2⟩ : ∃ y, X[j2]? = some y := ⟨_, List.getElem?_eq_getElem (by omega)⟩
        have HV2 : Hid (H[j2]? = some v2) := hv2
        have HY2 : Hid (X[j2]? = some y2) := hy2
        have hm := hmLess BH g N c wr HS.out.box
        have CL := HS.out.less hv2 hv1 (HLV.out _ _ h2 hv2) (HLV.out _ _ (by omega) hv1)
        clear hu hx hv1 hy1 hv2 hy2 hj1 hj2
        go_wp2_with fail
        refine CL.mono ?_
        rintro e w4 ⟨rfl, hb4⟩
        have HS4 : Hid (HpSt w4 base BH g N c X H) := HS.out.below hb4
        have HG4 : Hid (w.grownBy w4 (some g)) := HG.out.trans ⟨hb4.os, hb4.tape, hb4.output, hb4.size, fun k hk _ => hb4.block k hk⟩
        clear HS HG hb4 hm CL
        cases hl2 : Mg.lessS lessE v2 v1 with
        | true =>
          obtain ⟨v, hvv⟩ : ∃ v, v = v2 := ⟨_, rfl⟩
          obtain ⟨y, hyy⟩ : ∃ y, y = y2 := ⟨_, rfl⟩
          subst hvv
          subst hyy
          have HV : Hid (H[j2]? = some v) := HV2.out
          have HYy : Hid (X[j2]? = some y) := HY2.out
          have HMIN : Hid (∀ d, 0 < d → d < n → (d - 1) / 2 = i → ∀ z, H[d]? = some z → Mg.lessS lessE z v = false) := fun d d0 hd hp z hz => by
            have e1 := HJ1.out
            have e2 := HJ2.out
            by_cases hdj : d = j2
            · subst hdj
              rw [HV2.out] at hz
              cases hz
              exact Mg.lessS_irr less_wk _
            · have : d = j1 := by omega
              subst this
              rw [HV1.out] at hz
              cases hz
              exact (Mg.lessS_ord less_wk).asym _ _ hl2
          clear HV2 HY2
          have hm := hmLess BH g N c w4 HS4.out.box
          have hin : i < n := by have := HJ1.out; omega
          have hjn : j2 < n := by have := HJ2.out; omega
          have CL := HS4.out.less HV.out HUu.out (HLV.out _ _ hjn HV.out) (HLV.out _ _ hin HUu.out)
          go_wp2_with fail
          refine CL.mono ?_
          rintro e w5 ⟨rfl, hb5⟩
          have HS5 : Hid (HpSt w5 base BH g N c X H) := HS4.out.below hb5
          have HG5 : Hid (w.grownBy w5 (some g)) := HG4.out.trans ⟨hb5.os, hb5.tape, hb5.output, hb5.size, fun k hk _ => hb5.block k hk⟩
          clear HS4 HG4 hb5 hm CL
          cases hl : Mg.lessS lessE v u with
          | false =>
            go_wp2
            go_ret
            exact ⟨⟨_, rfl⟩, ⟨X, H, HS5.out, HP.out, HQ.out, HK.out, Mg.down_done HD.out (fun d d0 hd hp p q hp' hq => by rw [HUu.out] at hp'; cases hp'; exact (Mg.lessS_ord less_wk).tran _ _ _ (HMIN.out d d0 hd hp q hq) hl)⟩, HG5.out⟩
          | true =>
            have hm := hmSwap BH g N c w5 HS5.out.box
            have CW := headsSwap base g N c i j2 X x y w5 HS5.out.own HXx.out HYy.out
            go_wp2_with fail
            refine CW.mono ?_
            rintro e w6 ⟨rfl, hO6, hg6⟩
            have HS6 : Hid (HpSt w6 base BH g N c (Mg.sw X i j2 x y) (Mg.sw H i j2 u v)) := HS5.out.swap HXx.out HYy.out HUu.out HV.out hg6 hO6
            have HG6 : Hid (w.grownBy w6 (some g)) := HG5.out.trans hg6
            clear HS5 HG5 hO6 hg6 hm CW
            go_wp2
            go_roundw
            case rel => exact ⟨j2, _, _, rfl, by omega, HS6.out, (Mg.sw_perm HUu.out HV.out).trans HP.out, (Mg.sw_perm HXx.out HYy.out).trans HQ.out, fun k hk => by rw [Mg.sw_get HXx.out HYy.out, Mg.sw_get HUu.out HV.out, if_neg (by omega), if_neg (by have := HJ1.out; omega), if_neg (by omega), if_neg (by have := HJ1.out; omega)]; exact HK.out k hk, ⟨Mg.down_step (Mg.lessS_ord less_wk) HD.out (by have := HJ1.out; have := HJ2.out; omega) (by have := HJ1.out; have := HJ2.out; omega) (by omega) HUu.out HV.out hl HMIN.out, HLV.out.swap HUu.out HV.out hin hjn⟩, HG6.out⟩
            case measure => have := HJ1.out; have := HJ2.out; simp [intOf] <;> omega
        | false =>
          obtain ⟨v, hvv⟩ : ∃ v, v = v1 := ⟨_, rfl⟩
          obtain ⟨y, hyy⟩ : ∃ y, y = y1 := ⟨_, rfl⟩
          subst hvv
          subst hyy
          have HV : Hid (H[j1]? = some v) := HV1.out
          have HYy : Hid (X[j1]? = some y) := HY1.out
          have HMIN : Hid (∀ d, 0 < d → d < n → (d - 1) / 2 = i → ∀ z, H[d]? = some z → Mg.lessS lessE z v = false) := fun d d0 hd hp z hz => by
            have e1 := HJ1.out
            have e2 := HJ2.out
            by_cases hdj : d = j2
            · subst hdj
              rw [HV2.out] at hz
              cases hz
              exact hl2
            · have : d = j1 := by omega
              subst this
              rw [HV1.out] at hz
              cases hz
              exact Mg.lessS_irr less_wk _
          clear HV1 HY1
          have hm := hmLess BH g N c w4 HS4.out.box
          have hin : i < n := by have := HJ1.out; omega
          have hjn : j1 < n := by have := HJ2.out; omega
          have CL := HS4.out.less HV.out HUu.out (HLV.out _ _ hjn HV.out) (HLV.out _ _ hin HUu.out)
          go_wp2_with fail
          refine CL.mono ?_
          rintro e w5 ⟨rfl, hb5⟩
          have HS5 : Hid (HpSt w5 base BH g N c X H) := HS4.out.below hb5
          have HG5 : Hid (w.grownBy w5 (some g)) := HG4.out.trans ⟨hb5.os, hb5.tape, hb5.output, hb5.size, fun k hk _ => hb5.block k hk⟩
          clear HS4 HG4 hb5 hm CL
          cases hl : Mg.lessS lessE v u with
          | false =>
            go_wp2
            go_ret
            exact ⟨⟨_, rfl⟩, ⟨X, H, HS5.out, HP.out, HQ.out, HK.out, Mg.down_done HD.out (fun d d0 hd hp p q hp' hq => by rw [HUu.out] at hp'; cases hp'; exact (Mg.lessS_ord less_wk).tran _ _ _ (HMIN.out d d0 hd hp q hq) hl)⟩, HG5.out⟩
          | true =>
            have hm := hmSwap BH g N c w5 HS5.out.box
            have CW := headsSwap base g N c i j1 X x y w5 HS5.out.own HXx.out HYy.out
            go_wp2_with fail
            refine CW.mono ?_
            rintro e w6 ⟨rfl, hO6, hg6⟩
            have HS6 : Hid (HpSt w6 base BH g N c (Mg.sw X i j1 x y) (Mg.sw H i j1 u v)) := HS5.out.swap HXx.out HYy.out HUu.out HV.out hg6 hO6
            have HG6 : Hid (w.grownBy w6 (some g)) := HG5.out.trans hg6
            clear HS5 HG5 hO6 hg6 hm CW
            go_wp2
            go_roundw
            case rel => exact ⟨j1, _, _, rfl, by omega, HS6.out, (Mg.sw_perm HUu.out HV.out).trans HP.out, (Mg.sw_perm HXx.out HYy.out).trans HQ.out, fun k hk => by rw [Mg.sw_get HXx.out HYy.out, Mg.sw_get HUu.out HV.out, if_neg (by omega), if_neg (by have := HJ1.out; omega), if_neg (by omega), if_neg (by have := HJ1.out; omega)]; exact HK.out k hk, ⟨Mg.down_step (Mg.lessS_ord less_wk) HD.out (by have := HJ1.out; have := HJ2.out; omega) (by have := HJ1.out; have := HJ2.out; omega) (by omega) HUu.out HV.out hl HMIN.out, HLV.out.swap HUu.out HV.out hin hjn⟩, HG6.out⟩
            case measure => have := HJ1.out; have := HJ2.out; simp [intOf] <;> omega
      · have h2I : ¬ (j2 : Int) < (n : Int) := by omega
        obtain ⟨v, hvv⟩ : ∃ v, v = v1 := ⟨_, rfl⟩
        obtain ⟨y, hyy⟩ : ∃ y, y = y1 := ⟨_, rfl⟩
        subst hvv
        subst hyy
        have HV : Hid (H[j1]? = some v) := HV1.out
        have HYy : Hid (X[j1]? = some y) := HY1.out
        have HMIN : Hid (∀ d, 0 < d → d < n → (d - 1) / 2 = i → ∀ z, H[d]? = some z → Mg.lessS lessE z v = false) := fun d d0 hd hp z hz => by
          have e1 := HJ1.out
          have e2 := HJ2.out
          have : d = j1 := by omega
          subst this
          rw [HV1.out] at hz
          cases hz
          exact Mg.lessS_irr less_wk _
        clear HV1 HY1 hu hx hv1 hy1 hj1 hj2
        have hm := hmLess BH g N c wr HS.out.box
        have hin : i < n := by have := HJ1.out; omega
        have hjn : j1 < n := by have := HJ2.out; omega
        have CL := HS.out.less HV.out HUu.out (HLV.out _ _ hjn HV.out) (HLV.out _ _ hin HUu.out)
        go_wp2_with fail
        refine CL.mono ?_
        rintro e w5 ⟨rfl, hb5⟩
        have HS5 : Hid (HpSt w5 base BH g N c X H) := HS.out.below hb5
        have HG5 : Hid (w.grownBy w5 (some g)) := HG.out.trans ⟨hb5.os, hb5.tape, hb5.output, hb5.size, fun k hk _ => hb5.block k hk⟩
        clear HS HG hb5 hm CL
        cases hl : Mg.lessS lessE v u with
        | false =>
          go_wp2
          go_ret
          exact ⟨⟨_, rfl⟩, ⟨X, H, HS5.out, HP.out, HQ.out, HK.out, Mg.down_done HD.out (fun d d0 hd hp p q hp' hq => by rw [HUu.out] at hp'; cases hp'; exact (Mg.lessS_ord less_wk).tran _ _ _ (HMIN.out d d0 hd hp q hq) hl)⟩, HG5.out⟩
        | true =>
          have hm := hmSwap BH g N c w5 HS5.out.box
          have CW := headsSwap base g N c i j1 X x y w5 HS5.out.own HXx.out HYy.out
          go_wp2_with fail
          refine CW.mono ?_
          rintro e w6 ⟨rfl, hO6, hg6⟩
          have HS6 : Hid (HpSt w6 base BH g N c (Mg.sw X i j1 x y) (Mg.sw H i j1 u v)) := HS5.out.swap HXx.out HYy.out HUu.out HV.out hg6 hO6
          have HG6 : Hid (w.grownBy w6 (some g)) := HG5.out.trans hg6
          clear HS5 HG5 hO6 hg6 hm CW
          go_wp2
          go_roundw
          case rel => exact ⟨j1, _, _, rfl, by omega, HS6.out, (Mg.sw_perm HUu.out HV.out).trans HP.out, (Mg.sw_perm HXx.out HYy.out).trans HQ.out, fun k hk => by rw [Mg.sw_get HXx.out HYy.out, Mg.sw_get HUu.out HV.out, if_neg (by omega), if_neg (by have := HJ1.out; omega), if_neg (by omega), if_neg (by have := HJ1.out; omega)]; exact HK.out k hk, ⟨Mg.down_step (Mg.lessS_ord less_wk) HD.out (by have := HJ1.out; have := HJ2.out; omega) (by have := HJ1.out; have := HJ2.out; omega) (by omega) HUu.out HV.out hl HMIN.out, HLV.out.swap HUu.out HV.out hin hjn⟩, HG6.out⟩
          case measure => have := HJ1.out; have := HJ2.out; simp [intOf] <;> omega
end Go.Proofs.YtlmgojlffgkciaaGreat

namespace Go.Proofs.YtlmgojlffgkciaaGreat
open Go.RowKit

set_option maxRecDepth 100000 in
set_option maxHeartbeats 4000000 in
theorem heapFix (base BH g n c : Nat) (X0 : List StrD) (H0 : List (List EntD × Nat)) (w : World) (hn : n ≤ 1048576) (hn0 : 0 < n) (hS : HpSt w base BH g n c X0 H0) (hD : Mg.DownI (Mg.lessS lessE) n H0 0) (hLv : ∀ h ∈ H0, h.1 ≠ []) :
    Calls Tryz.prog 110 #[.iface 134 (.pointer (some ⟨BH, 0, none⟩)), .int .i64 0] w fun e w' => e = .returned (.tuple #[]) ∧ (∃ X H, HpSt w' base BH g n c X H ∧ H.Perm H0 ∧ X.Perm X0 ∧ Mg.HeapTo (Mg.lessS lessE) n H) ∧ w.grownBy w' (some g) := by
  have hm := hmLen BH g n c w hS.box
  have CN := headsLen (some ⟨g, 0, none⟩) n c w
  have CD := heapDown base BH g n n c 0 X0 H0 w hn (Nat.le_refl _) hn0 hS hD (LiveTo.of hLv)
  have HLV : Hid (∀ h ∈ H0, h.1 ≠ []) := hLv
  clear hS hD hLv
  go_enter Tryz.func110, Tryz.ntmps110
  go_wp2_with fail
  refine CN.mono ?_
  rintro e w1 ⟨rfl, rfl⟩
  go_wp2_with fail
  refine CD.mono ?_
  rintro e w2 ⟨⟨b, rfl⟩, ⟨X, H, hS2, hP, hQ, _, hH⟩, hg2⟩
  have HS2 : Hid (HpSt w2 base BH g n c X H) := hS2
  have HP : Hid (H.Perm H0) := hP
  have HQ : Hid (X.Perm X0) := hQ
  have HH : Hid (Mg.HeapTo (Mg.lessS lessE) n H) := hH
  have HG2 : Hid (w1.grownBy w2 (some g)) := hg2
  clear hS2 hP hQ hH hg2 CN CD hm
  cases b with
  | true =>
    go_wp2
    go_end0
    exact ⟨rfl, ⟨X, H, HS2.out, HP.out, HQ.out, HH.out⟩, HG2.out⟩
  | false =>
    have CU := heapUp base BH g n c 0 X H w2 hn hn0 HS2.out (Mg.down_up HH.out) (fun h hh => HLV.out h (HP.out.mem_iff.1 hh))
    go_wp2_with fail
    refine CU.mono ?_
    rintro e w3 ⟨rfl, ⟨X', H', hS3, hP3, hQ3, hH3⟩, hg3⟩
    have HS3 : Hid (HpSt w3 base BH g n c X' H') := hS3
    have HP3 : Hid (H'.Perm H0) := hP3.trans HP.out
    have HQ3 : Hid (X'.Perm X0) := hQ3.trans HQ.out
    have HH3 : Hid (Mg.HeapTo (Mg.lessS lessE) n H') := hH3
    have HG3 : Hid (w1.grownBy w3 (some g)) := HG2.out.trans hg3
    clear hS3 hP3 hQ3 hH3 hg3 CU
    go_wp2
    go_end0
    exact ⟨rfl, ⟨X', H', HS3.out, HP3.out, HQ3.out, HH3.out⟩, HG3.out⟩
end Go.Proofs.YtlmgojlffgkciaaGreat

namespace Go.Proofs.YtlmgojlffgkciaaGreat
open Go.RowKit

set_option maxRecDepth 100000 in
set_option maxHeartbeats 4000000 in
theorem heapPop (base BH g n c k : Nat) (X0 : List StrD) (H0 : List (List EntD × Nat)) (u : List EntD × Nat) (w : World) (hk : n = k + 1) (hn : n ≤ 1048576) (hB : base ≤ BH) (hfr : w.frozen? ⟨BH, 0, none⟩ = false) (hS : HpSt w base BH g n c X0 H0) (hH : Mg.HeapTo (Mg.lessS lessE) n H0) (hu : H0[0]? = some u) (hLv : ∀ (j : Nat) h, 0 < j → H0[j]? = some h → h.1 ≠ []) :
    Calls Tryz.prog 109 #[.iface 134 (.pointer (some ⟨BH, 0, none⟩))] w fun e w' => (∃ v, e = .returned v) ∧ (∃ X H, HpSt w' base BH g k c X H ∧ (u :: H).Perm H0 ∧ Mg.HeapTo (Mg.lessS lessE) k H ∧ ∀ x ∈ X, x ∈ X0) ∧ Below base w w' ∧ KeepsOthers w w' ∧ w'.frozen? ⟨BH, 0, none⟩ = false ∧ ∃ wm, w.grownBy wm (some g) ∧ wm.grownBy w' (some BH) := by
  have hl := hS.len
  have hXL := hS.own.len
  have hgb := hS.own.lt.1
  have hsz := hS.own.lt.2
  have zb := World.block_lt_of_cell? _ _ hS.box
  simp only at zb
  have hne := hS.ne
  have HGC : Hid (∃ cc, w.heap[g]? = some (.cells cc 136 (0, 0))) := hS.own.cells
  obtain ⟨v, hv⟩ : ∃ v, H0[k]? = some v := ⟨_, List.getElem?_eq_getElem (by omega)⟩
  obtain ⟨x, hx⟩ : ∃ x, X0[0]? = some x := ⟨_, List.getElem?_eq_getElem (by omega)⟩
  obtain ⟨y, hy⟩ : ∃ y, X0[k]? = some y := ⟨_, List.getElem?_eq_getElem (by omega)⟩
  have hm := hmLen BH g n c w hS.box
  have hm2 := hmSwap BH g n c w hS.box
  have CN := headsLen (some ⟨g, 0, none⟩) n c w
  have CW : Calls Tryz.prog 258 #[.slice (some ⟨g, 0, none⟩) n c, .int .i64 0, .int .i64 k] w fun e w' => e = .returned (.tuple #[]) ∧ OwnH w' base g n c ((X0.set 0 y).set k x) ∧ w.grownBy w' (some g) := headsSwap base g n c 0 k X0 x y w hS.own hx hy
  have wk : IntKind.i64.wrap ((n : Int) - 1) = (k : Int) := by rw [IntKind.wrap_i64]; omega
  have HS : Hid (HpSt w base BH g n c X0 H0) := hS
  have HHp : Hid (Mg.HeapTo (Mg.lessS lessE) n H0) := hH
  have HFR : Hid (w.frozen? ⟨BH, 0, none⟩ = false) := hfr
  have HK : Hid (n = k + 1) := hk
  have HLV : Hid (LiveTo k (Mg.sw H0 0 k u v)) := fun j s hj hs => by
    rw [Mg.sw_get hu hv, if_neg (by omega)] at hs
    by_cases h2 : j = 0
    · rw [if_pos h2] at hs; cases hs; exact hLv k _ (by omega) hv
    · rw [if_neg h2] at hs; exact hLv j s (by omega) hs
  have HXP : Hid ((Mg.sw X0 0 k x y).Perm X0) := Mg.sw_perm hx hy
  clear hS hH hfr hk hLv
  go_enter Tryz.func109, Tryz.ntmps109
  go_wp2_with fail
  refine CN.mono ?_
  rintro e w1 ⟨rfl, rfl⟩
  go_wp2_with fail
  refine CW.mono ?_
  rintro e w2 ⟨rfl, hO2, hg2⟩
  have HS2 : Hid (HpSt w2 base BH g n c (Mg.sw X0 0 k x y) (Mg.sw H0 0 k u v)) := HS.out.swap hx hy hu hv hg2 hO2
  have HD2 : Mg.DownI (Mg.lessS lessE) k (Mg.sw H0 0 k u v) 0 := Mg.down_start (HHp.out.fewer (by have := HK.out; omega)) (fun j j0 hj => by rw [Mg.sw_get hu hv, if_neg (by omega), if_neg (by omega)])
  have CD := heapDown base BH g n k c 0 _ _ w2 hn (by have := HK.out; omega) (by have := HK.out; omega) HS2.out HD2 HLV.out
  have HG2 : Hid (w1.grownBy w2 (some g)) := hg2
  have HPM : Hid ((Mg.sw H0 0 k u v).Perm H0) := Mg.sw_perm hu hv
  have HAT : Hid ((Mg.sw H0 0 k u v)[k]? = some u) := by show _ = _; rw [Mg.sw_get hu hv, if_pos rfl]
  clear hO2 hg2 HD2 CW CN hm hm2 HS HHp hu hv hx hy HS2
  go_wp2_with fail
  refine CD.mono ?_
  rintro e w3 ⟨⟨b, rfl⟩, ⟨X, H, hS3, hP3, hQ3, hK3, hH3⟩, hg3⟩
  have hg13 : w1.grownBy w3 (some g) := HG2.out.trans hg3
  have HK3 : Hid (KeepsOthers w1 w3) := KeepsOthers.of_grownBy hg13 (fun j o e ho => by cases e; obtain ⟨cc, hc⟩ := HGC.out; rw [hc] at ho; cases ho; rfl)
  have HG13 : Hid (w1.grownBy w3 (some g)) := hg13
  have HB3 : Hid (Below base w1 w3) := (Below.refl base w1).grown hg13 (by omega) (fun j e => by cases e; exact hgb)
  have hfr3 : w3.frozen? ⟨BH, 0, none⟩ = false := by rw [grown_frozen hg13 (x := ⟨BH, 0, none⟩) zb (fun e => hne (Option.some.inj e))]; exact HFR.out
  have hm := hmPop BH w3
  have CP := headsPop base BH g n c k X H w3 HK.out hn hB hfr3 hS3
  have HHL : Hid (H.length = n) := hS3.len
  have HPF : Hid ((u :: H.take k).Perm H0) := by
    have hlen := hS3.len
    have hku : H[k]? = some u := by rw [(hK3 k (Nat.le_refl _)).2]; exact HAT.out
    have hlt : k < H.length := (List.getElem?_eq_some_iff.1 hku).1
    have hd : H = H.take k ++ [u] := by
      conv => lhs; rw [← List.take_append_drop k H, List.drop_eq_getElem_cons hlt, List.drop_of_length_le (by have := HK.out; omega)]
      rw [(List.getElem?_eq_some_iff.1 hku).2]
    have hp : (u :: H.take k).Perm H := by
      conv => rhs; rw [hd]
      exact (List.perm_append_singleton u (H.take k)).symm
    exact hp.trans (hP3.trans HPM.out)
  have HXM : Hid (∀ z ∈ X.take k, z ∈ X0) := fun z hz => HXP.out.mem_iff.1 (hQ3.mem_iff.1 (List.mem_of_mem_take hz))
  have HHF : Hid (Mg.HeapTo (Mg.lessS lessE) k (H.take k)) := hH3.same (fun j hj => by rw [List.getElem?_take_of_lt hj])
  clear hS3 hP3 hQ3 hK3 hH3 hg3 hg13 CD
  go_wp2_with fail
  refine CP.mono ?_
  rintro e w4 ⟨⟨v4, rfl⟩, hS4, hb4, hk4, hf4, hgb4⟩
  have HGB4 : Hid (w3.grownBy w4 (some BH)) := hgb4
  have HS4 : Hid (HpSt w4 base BH g k c (X.take k) (H.take k)) := hS4
  have HB4 : Hid (Below base w1 w4) := HB3.out.trans hb4
  have HK4 : Hid (KeepsOthers w1 w4) := HK3.out.trans hk4
  have HF4 : Hid (w4.frozen? ⟨BH, 0, none⟩ = false) := hf4
  clear hS4 hb4 CP hm HB3 hk4 hf4 hgb4
  go_wp2
  go_ret
  exact ⟨⟨_, rfl⟩, ⟨_, _, HS4.out, HPF.out, HHF.out, HXM.out⟩, HB4.out, HK4.out, HF4.out, w3, HG13.out, HGB4.out⟩
end Go.Proofs.YtlmgojlffgkciaaGreat

namespace Go.Proofs.YtlmgojlffgkciaaGreat

/-- A stretch of a row. -/
abbrev StrS (n : Nat) : Type := { p : Nat × Nat // p.1 < p.2 ∧ p.2 ≤ n }
def segS (L : List EntD) {n : Nat} (p : StrS n) : List EntD := (L.drop p.1.1).take (p.1.2 - p.1.1)
/-- These are all stretches of a list, each in order. -/
def AllS (L : List EntD) {n : Nat} (ys : List (StrS n)) : Prop := (ys.map (segS L)).flatten = L ∧ ∀ l ∈ ys.map (segS L), l ≠ [] ∧ Mg.Asc lessE l

theorem asc_one (L : List EntD) (f : Nat) : Mg.Asc lessE ((L.drop f).take (f + 1 - f)) := by
  rw [Nat.add_sub_cancel_left]
  unfold Mg.Asc
  rw [List.pairwise_iff_getElem]
  intro i j hi hj hij
  have h1 : j < 1 := Nat.lt_of_lt_of_le hj (List.length_take_le _ _)
  omega
theorem asc_more {L : List EntD} {f t : Nat} {x y : EntD} (hf : f < t) (hx : L[t - 1]? = some x) (hy : L[t]? = some y) (hA : Mg.Asc lessE ((L.drop f).take (t - f))) (h : lessE y x = false) : Mg.Asc lessE ((L.drop f).take (t + 1 - f)) := by
  obtain ⟨hxl, hxe⟩ := List.getElem?_eq_some_iff.1 hx
  obtain ⟨hyl, hye⟩ := List.getElem?_eq_some_iff.1 hy
  unfold Mg.Asc at hA ⊢
  rw [List.pairwise_iff_getElem] at hA ⊢
  intro i j hi hj hij
  have hj' := hj
  have hi' := hi
  rw [List.length_take, List.length_drop] at hj' hi'
  rw [List.getElem_take, List.getElem_drop, List.getElem_take, List.getElem_drop]
  by_cases h1 : j < t - f
  · have := hA i j (by rw [List.length_take, List.length_drop]; omega) (by rw [List.length_take, List.length_drop]; omega) hij
    rw [List.getElem_take, List.getElem_drop, List.getElem_take, List.getElem_drop] at this
    exact this
  · have e1 : f + j = t := by omega
    have e2 : L[f + j]'(by omega) = y := by
      have := List.getElem?_eq_getElem (l := L) (i := f + j) (by omega)
      exact Option.some.inj (this.symm.trans (by rw [e1]; exact hy))
    rw [e2]
    by_cases h2 : i = t - 1 - f
    · have e3 : f + i = t - 1 := by omega
      have e4 : L[f + i]'(by omega) = x := by
        have := List.getElem?_eq_getElem (l := L) (i := f + i) (by omega)
        exact Option.some.inj (this.symm.trans (by rw [e3]; exact hx))
      rw [e4]
      exact h
    · have := hA i (t - 1 - f) (by rw [List.length_take, List.length_drop]; omega) (by rw [List.length_take, List.length_drop]; omega) (by omega)
      rw [List.getElem_take, List.getElem_drop, List.getElem_take, List.getElem_drop] at this
      have e4 : L[f + (t - 1 - f)]'(by omega) = x := by
        have h5 := List.getElem?_eq_getElem (l := L) (i := f + (t - 1 - f)) (by omega)
        exact Option.some.inj (h5.symm.trans (by rw [show f + (t - 1 - f) = t - 1 by omega]; exact hx))
      rw [e4] at this
      exact lessE_ntrans h this
/-- How far the stretches are: all up to f. -/
def UpS (L : List EntD) {n : Nat} (f : Nat) (ys : List (StrS n)) : Prop := (ys.map (segS L)).flatten = L.take f ∧ ∀ l ∈ ys.map (segS L), l ≠ [] ∧ Mg.Asc lessE l
theorem UpS.zero (L : List EntD) {n : Nat} : UpS L 0 ([] : List (StrS n)) := ⟨rfl, fun l hl => by cases hl⟩
theorem UpS.step {L : List EntD} {n f t : Nat} {ys : List (StrS n)} (h : UpS L f ys) (hL : L.length = n) (hft : f < t) (htn : t ≤ n) (hA : Mg.Asc lessE ((L.drop f).take (t - f))) : UpS L t (ys ++ [⟨(f, t), hft, htn⟩]) := by
  refine ⟨?_, fun l hl => ?_⟩
  · rw [List.map_append, List.flatten_append, h.1]
    simp only [List.map_cons, List.map_nil, List.flatten_cons, List.flatten_nil, List.append_nil]
    show L.take f ++ (L.drop f).take (t - f) = _
    rw [show L.take t = L.take (f + (t - f)) by rw [show f + (t - f) = t by omega], List.take_add]
  · rw [List.map_append] at hl
    rcases List.mem_append.1 hl with h1 | h1
    · exact h.2 l h1
    · simp only [List.map_cons, List.map_nil, List.mem_singleton] at h1
      subst h1
      refine ⟨fun e => ?_, hA⟩
      have : ((L.drop f).take (t - f)).length = 0 := by
        have e' : (L.drop f).take (t - f) = [] := e
        rw [e']; rfl
      rw [List.length_take, List.length_drop] at this
      omega
theorem UpS.done {L : List EntD} {n : Nat} {ys : List (StrS n)} (h : UpS L n ys) (hL : L.length = n) : AllS L ys := ⟨by rw [h.1, List.take_of_length_le (by omega)], h.2⟩
end Go.Proofs.YtlmgojlffgkciaaGreat
