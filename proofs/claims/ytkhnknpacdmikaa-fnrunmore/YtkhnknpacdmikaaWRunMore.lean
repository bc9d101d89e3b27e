/-
  The walk of the law FnRunMore: it answers true at all bytes: with one entry more a run may have all that it might have, and that entry.
-/
import Derived.Test.YtkhnknpacdmikaaDrawMay
import Derived.Test.YtkhnknpacdmikaaRunMayI
import Derived.Test.YtkhnknpacdmikaaRunMayS
import Derived.Test.YtkhnknpacdmikaaFindO
import Derived.Test.YtkhnknpacdmikaaRunOfI
import Derived.Test.YtkhnknpacdmikaaMoreP
namespace Go.Proofs.Ytkhnknpacdmikaa
open Go.RowKit

set_option maxRecDepth 100000 in
set_option maxHeartbeats 4000000 in
theorem walkFnRunMore (a : Option Addr) (len cap : Nat) (w : World) (h : BytesAt w a len cap) :
    Calls Try.prog 5 #[.slice a len cap] w fun e w' => e = .returned (.bool true) ∧ Below w.heap.size w w' := by
  have H : Hid (BytesAt w a len cap) := h
  have hm := Nat.le_trans h.1 h.2.1
  unfold maxLen at hm
  clear h
  by_cases hbig : 1048576 < len
  · go_enter Try.func5, Try.ntmps5
    go_wp2
    go_ret
    exact ⟨rfl, Below.refl _ _⟩
  go_enter Try.func5, Try.ntmps5
  go_wp2_with fail
  refine (drawMay_any a len cap w H.out).mono ?_
  rintro e w1 ⟨g, n, c, m, L, key, rfl, hO, hn, hF, hM, hK, hb1⟩
  have hkey : key.size ≤ maxLen := by have := hK.1; unfold maxLen; omega
  obtain ⟨Y, hY⟩ : ∃ Y, Y = w1.heap.size := ⟨_, rfl⟩
  obtain ⟨W, hW⟩ : ∃ W, W = w1.alloc (.cells #[.slice (some ⟨g, 0, none⟩) n c, .int .i64 m] 26) := ⟨_, rfl⟩
  have kW : Below w1.heap.size w1 W := by rw [hW]; exact (Below.refl _ _).alloc (Nat.le_refl _) _
  have y0 : W.cell? ⟨Y, 0, none⟩ = some (.slice (some ⟨g, 0, none⟩) n c) := by rw [hW, hY]; simp
  have y1 : W.cell? ⟨Y, 1, none⟩ = some (.int .i64 m) := by rw [hW, hY]; simp
  have E : Hid (EntsAt W (some ⟨g, 0, none⟩) n c L) := hO.entsAt.keep kW
  have HEW : Hid (∀ e ∈ L, EntW e) := hO.ents
  have HLN : Hid (L.length = n) := hO.len
  have HKK : Hid (∀ e ∈ L, ¬ e.1.data.toList = [109, 47, 109]) := fun e he => (hF e he).1.2
  have KW : Hid (Below w.heap.size w W) := hb1.trans (kW.mono hb1.size)
  obtain ⟨B, hB⟩ : ∃ B, B = mayB L m key := ⟨_, rfl⟩
  have CI : Hid (∀ w', Below W.heap.size W w' → Calls Try.prog 16 #[.agg #[.slice (some ⟨g, 0, none⟩) n c, .int .i64 m], .string key] w' fun e w'' => e = .returned (.bool B) ∧ Below w'.heap.size w' w'') := by rw [hB]; exact fun w' k => implMay _ _ _ L m key w' (E.out.keep k) hkey
  have CS : Hid (∀ w', Below W.heap.size W w' → Calls Try.prog 17 #[.agg #[.slice (some ⟨g, 0, none⟩) n c, .int .i64 m], .string key] w' fun e w'' => e = .returned (.bool B) ∧ Below w'.heap.size w' w'') := by rw [hB]; exact fun w' k => specMay _ _ _ L m key w' (E.out.keep k) hkey
  have HB : Hid (B = mayB L m key) := hB
  clear hB hO hb1 hF hM hK kW
  go_wp2_with fail
  rw [← hW, ← hY]
  clear hW hY
  refine (CI.out _ (Below.refl _ _)).mono ?_
  rintro e w2 ⟨rfl, hb2⟩
  have v0 := cell_later hb2 y0
  have v1 := cell_later hb2 y1
  have zv := World.block_lt_of_cell? _ _ v0
  simp only at zv
  have K2 : Hid (Below W.heap.size W w2) := hb2
  clear hb2 CI
  go_wp2_with fail
  refine (CS.out _ K2.out).mono ?_
  rintro e w3 ⟨rfl, hb3⟩
  have v0 := cell_later hb3 v0
  have v1 := cell_later hb3 v1
  have zv := World.block_lt_of_cell? _ _ v0
  simp only at zv
  have K3 : Hid (Below W.heap.size W w3) := K2.out.trans (hb3.mono K2.out.size)
  clear hb3 K2 y0 y1
  have hn150 : (n : Int) < 150 := by omega
  have hn150' : ¬ (150 : Int) ≤ (n : Int) := by omega
  cases hBB : B with
  | false =>
    subst hBB
    go_wp2_with fail
    refine (CS.out _ K3.out).mono ?_
    rintro e w4 ⟨rfl, hb4⟩
    have K4 : Hid (Below W.heap.size W w4) := K3.out.trans (hb4.mono K3.out.size)
    clear hb4
    go_wp2
    go_ret
    exact ⟨rfl, KW.out.trans (K4.out.mono KW.out.size)⟩
  | true =>
    subst hBB
    have HMT : Hid (mayB L m key = true) := HB.out.symm
    have HR : Hid (runB L m = true) := by have := HMT.out; unfold mayB at this; rw [Bool.and_eq_true] at this; exact this.1
    have hl : L.length < 150 := by rw [HLN.out]; omega
    obtain ⟨hn1, _, _, _⟩ := runB_parts HR.out
    rw [HLN.out] at hn1
    have HOF : Hid (ofB (L ++ [moreE]) = true) := more_of HR.out hl HKK.out
    have M1 : Hid (mayB (ofL (L ++ [moreE])) (ofM (L ++ [moreE])) key = true) := more_may HMT.out hl HKK.out
    have M2 : Hid (mayB (ofL (L ++ [moreE])) (ofM (L ++ [moreE])) ⟨#[109, 47, 109]⟩ = true) := more_has HR.out hl HKK.out
    have M3 : Hid (foundL (ofL (L ++ [moreE])) (ofM (L ++ [moreE])) ⟨#[109, 47, 109]⟩ 899 = []) := more_find HR.out hl HKK.out
    have E3 : Hid (EntsAt w3 (some ⟨g, 0, none⟩) n c L) := E.out.keep K3.out
    have KK : Hid (Below w.heap.size w w3) := KW.out.trans (K3.out.mono KW.out.size)
    clear hl CS E K3 KW HB HMT HR HKK
    obtain ⟨i0, hi, hz0, hz1, hz2⟩ := info_parts Try.infoEnt
    obtain ⟨W4, hW4⟩ : ∃ W4, W4 = w3.alloc (.cells #[] 31) := ⟨_, rfl⟩
    have k4 : Below w3.heap.size w3 W4 := by rw [hW4]; exact (Below.refl _ _).alloc (Nat.le_refl _) _
    have rA : OwnE W4 w3.heap.size w3.heap.size 0 0 [] := by rw [hW4]; exact own_empty w3 _ (Nat.le_refl _)
    have HRA : Hid (OwnE W4 w3.heap.size w3.heap.size 0 0 []) := rA
    have HW4 : Hid (W4 = w3.alloc (.cells #[] 31)) := hW4
    have HK4 : Hid (Below w3.heap.size w3 W4) := k4
    clear rA hW4 k4
    go_wp2_with (at_builtin; rw [← HW4.out]; refine wpList_append_own _ rfl _ _ 23 rfl w3.heap.size 31 i0 _ 5 56 Try.underlying23 hi hz0 hz1 hz2 rfl (by decide) _ _ _ rfl HRA.out.owns ⟨g, 0, none⟩ n c (flatE L) rfl ?c0 ?c1 ?c2 ?c3 ?c4 ?c5 ?_)
    case c0 => rw [flatE_len, HLN.out]
    case c1 => exact ents_news (E3.out.keep HK4.out)
    case c2 => exact flatE_one L
    case c3 => unfold maxLen; omega
    case c4 => omega
    case c5 => exact HK4.out.size
    intro v4 wB hown hgrow hnil
    obtain ⟨gB, cB, rfl⟩ := row_form hown hnil
    have rB : OwnE wB w3.heap.size gB n cB L := ⟨by simpa [flatE] using hown, HLN.out, HEW.out⟩
    have kB : Below w3.heap.size w3 wB := HK4.out.grown hgrow HK4.out.size (fun j e => by rw [own_G e]; exact Nat.le_refl _)
    obtain ⟨WC, hWC⟩ : ∃ WC, WC = wB.alloc (.cells #[.string ⟨#[109, 47, 109]⟩, .int .i64 900, .int .i64 3, .string ⟨#[]⟩, .int .i64 1] 31) := ⟨_, rfl⟩
    have kC0 : Below wB.heap.size wB WC := by rw [hWC]; exact (Below.refl _ _).alloc (Nat.le_refl _) _
    have HEM : Hid (EntW moreE) := by unfold Hid EntW moreE maxLen; decide
    have rN : EntsAt WC (some ⟨wB.heap.size, 0, none⟩) 1 1 [moreE] := by rw [hWC]; exact ents_one wB _ _ _ _ _ HEM.out
    have HRN : Hid (EntsAt WC (some ⟨wB.heap.size, 0, none⟩) 1 1 [moreE]) := rN
    have HRB : Hid (OwnE WC w3.heap.size gB n cB L) := rB.below kC0
    have HKC : Hid (Below w3.heap.size w3 WC) := kB.trans (kC0.mono kB.size)
    have HWC : Hid (WC = wB.alloc (.cells #[.string ⟨#[109, 47, 109]⟩, .int .i64 900, .int .i64 3, .string ⟨#[]⟩, .int .i64 1] 31)) := hWC
    have KBB : Hid (Below w3.heap.size w3 wB) := kB
    have v0 := cell_later kB v0
    have v1 := cell_later kB v1
    clear hown hgrow hnil rB hWC kC0 rN kB HRA HW4 HK4 zv
    go_wp2_with (at_builtin; rw [← HWC.out]; refine wpList_append_own _ rfl _ _ 23 rfl w3.heap.size 31 i0 _ 5 56 Try.underlying23 hi hz0 hz1 hz2 rfl (by decide) _ _ _ rfl HRB.out.owns ⟨wB.heap.size, 0, none⟩ 1 1 (flatE [moreE]) rfl ?d0 ?d1 ?d2 ?d3 ?d4 ?d5 ?_)
    case d0 => rfl
    case d1 => exact ents_news HRN.out
    case d2 => exact flatE_one _
    case d3 => unfold maxLen; omega
    case d4 => omega
    case d5 => exact HKC.out.size
    intro v5 wD hown hgrow hnil
    obtain ⟨gD, cD, rfl⟩ := row_form hown hnil
    have rD : OwnE wD w3.heap.size gD (n + 1) cD (L ++ [moreE]) := ⟨by rw [flatE_append]; exact hown, by simp [HLN.out], fun e he => by rcases List.mem_append.1 he with h | h; exact HEW.out e h; rw [List.mem_singleton] at h; subst h; exact HEM.out⟩
    have kD : Below w3.heap.size w3 wD := HKC.out.grown hgrow HKC.out.size (fun j e => by rw [own_G e]; exact HRB.out.lt.1)
    have HRD : Hid (EntsAt wD (some ⟨gD, 0, none⟩) (n + 1) cD (L ++ [moreE])) := rD.entsAt
    have HKD : Hid (Below w3.heap.size w3 wD) := kD
    clear hown hgrow hnil rD kD HRB HRN HKC HWC KBB v0 v1 HEM
    go_wp2_with fail
    refine (implRunOf gD (n + 1) cD (L ++ [moreE]) wD HRD.out).mono ?_
    rintro e w5 ⟨aR, nR, cR, rfl, hOR, hb5⟩
    rw [HOF.out]
    obtain ⟨F, hF⟩ : ∃ F, F = ofL (L ++ [moreE]) := ⟨_, rfl⟩
    obtain ⟨MF, hMF⟩ : ∃ MF, MF = ofM (L ++ [moreE]) := ⟨_, rfl⟩
    rw [← hF] at hOR
    rw [← hMF]
    obtain ⟨Z, hZ⟩ : ∃ Z, Z = w5.heap.size := ⟨_, rfl⟩
    obtain ⟨W6, hW6⟩ : ∃ W6, W6 = w5.alloc (.cells #[.slice aR nR cR, .int .i64 MF] 26) := ⟨_, rfl⟩
    have k6 : Below w5.heap.size w5 W6 := by rw [hW6]; exact (Below.refl _ _).alloc (Nat.le_refl _) _
    have z0 : W6.cell? ⟨Z, 0, none⟩ = some (.slice aR nR cR) := by rw [hW6, hZ]; simp
    have z1 : W6.cell? ⟨Z, 1, none⟩ = some (.int .i64 MF) := by rw [hW6, hZ]; simp
    have E6 : Hid (EntsAt W6 aR nR cR F) := hOR.entsAt.keep k6
    have hnR : nR ≤ 1048576 := by have h1 := hOR.len; have h2 := of_len (L ++ [moreE]); rw [← hF] at h2; simp [HLN.out] at h2; omega
    have K6 : Hid (Below w.heap.size w W6) := ((KK.out.trans (HKD.out.mono KK.out.size)).trans (hb5.mono (Nat.le_trans KK.out.size HKD.out.size))).trans (k6.mono (Nat.le_trans (Nat.le_trans KK.out.size HKD.out.size) hb5.size))
    have C1 : Hid (∀ w', Below W6.heap.size W6 w' → Calls Try.prog 16 #[.agg #[.slice aR nR cR, .int .i64 MF], .string key] w' fun e w'' => e = .returned (.bool true) ∧ Below w'.heap.size w' w'') := by rw [← M1.out, ← hF, ← hMF]; exact fun w' k => implMay _ _ _ F MF key w' (E6.out.keep k) hkey
    have C2 : Hid (∀ w', Below W6.heap.size W6 w' → Calls Try.prog 16 #[.agg #[.slice aR nR cR, .int .i64 MF], .string ⟨#[109, 47, 109]⟩] w' fun e w'' => e = .returned (.bool true) ∧ Below w'.heap.size w' w'') := by rw [← M2.out, ← hF, ← hMF]; exact fun w' k => implMay _ _ _ F MF ⟨#[109, 47, 109]⟩ w' (E6.out.keep k) (by unfold maxLen; decide)
    have C3 : Hid (∀ w', Below W6.heap.size W6 w' → Calls Try.prog 19 #[.agg #[.slice aR nR cR, .int .i64 MF], .string ⟨#[109, 47, 109]⟩, .int .i64 899] w' fun e w'' => (∃ ag cg, e = .returned (.slice ag 0 cg)) ∧ Below w'.heap.size w' w'') := by
      intro w' k
      refine (implFind _ _ _ F MF ⟨#[109, 47, 109]⟩ 899 w' (E6.out.keep k) hnR).mono ?_
      rintro e w'' hfv
      obtain ⟨ag, ng, cg, rfl, hO5, hb5⟩ := foundV_own hfv
      have : ng = 0 := by
        have h1 := hO5.len
        rw [hF, hMF, M3.out] at h1
        exact h1.symm
      subst this
      exact ⟨⟨ag, cg, rfl⟩, hb5⟩
    clear hF hMF hOR hb5 k6 M1 M2 M3 HOF HKD HRD KK E3
    go_wp2_with fail
    rw [← hW6, ← hZ]
    clear hW6 hZ
    refine (C1.out _ (Below.refl _ _)).mono ?_
    rintro e w7 ⟨rfl, hb7⟩
    have z0 := cell_later hb7 z0
    have z1 := cell_later hb7 z1
    have zz := World.block_lt_of_cell? _ _ z0
    simp only at zz
    have K7 : Hid (Below W6.heap.size W6 w7) := hb7
    clear hb7
    go_wp2_with fail
    refine (C2.out _ K7.out).mono ?_
    rintro e w8 ⟨rfl, hb8⟩
    have z0 := cell_later hb8 z0
    have z1 := cell_later hb8 z1
    have zz := World.block_lt_of_cell? _ _ z0
    simp only at zz
    have K8 : Hid (Below W6.heap.size W6 w8) := K7.out.trans (hb8.mono K7.out.size)
    clear hb8 K7
    go_wp2_with fail
    refine (C3.out _ K8.out).mono ?_
    rintro e w9 ⟨⟨ag, cg, rfl⟩, hb9⟩
    have K9 : Hid (Below W6.heap.size W6 w9) := K8.out.trans (hb9.mono K8.out.size)
    clear hb9 K8
    go_wp2
    go_ret
    exact ⟨rfl, K6.out.trans (K9.out.mono K6.out.size)⟩
end Go.Proofs.Ytkhnknpacdmikaa
