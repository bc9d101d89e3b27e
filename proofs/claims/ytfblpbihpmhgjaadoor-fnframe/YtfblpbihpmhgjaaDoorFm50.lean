/-
  The walk of the law FnFrame.
-/
import Derived.Test.YtfblpbihpmhgjaaDoorFm40
import Derived.Test.YtfblpbihpmhgjaaDoorFm41
import Derived.Test.YtfblpbihpmhgjaaDoorFm48
import Derived.Test.YtfblpbihpmhgjaaDoorFm49
namespace Go.Proofs.YtfblpbihpmhgjaaDoor
open Go.RowKit Go.Shelf

theorem txt_is {s : ByteArray} {l : List UInt8} (h : s.data.toList = l) (t : ByteArray) (ht : t.data.toList = l) : s = t := ByteArray.ext (Array.toList_inj.1 (h.trans ht.symm))
theorem FrW.low {w w' : World} (h : FrW w.heap.size w) (hb : Below w.heap.size w w') : Lib.TabIs Tryd.prog w' "internal/strconv.uint64pow10" .u64 Lib.pow10Tab := h.t w' hb

set_option maxRecDepth 100000 in
set_option maxHeartbeats 8000000 in
theorem walkFnFrame (a : Option Addr) (len cap : Nat) (a' : Option Addr) (len' cap' : Nat) (w : World) (h : BytesAt w a len cap) (h' : BytesAt w a' len' cap') (hW : FrW w.heap.size w) :
    Calls Tryd.prog 8 #[.slice a len cap, .slice a' len' cap'] w fun e w' => e = .returned (.bool true) ∧ Below w.heap.size w w' := by
  have HW : Hid (FrW w.heap.size w) := hW
  have H' : Hid (BytesAt w a' len' cap') := h'
  have H0 : Hid (BytesAt w a len cap) := h
  have hbl : (len : Int) ≤ 9223372036854775807 := by have h1 := h.1; have h2 := h.2.1; unfold maxLen at h2; omega
  have hbl' : (len' : Int) ≤ 9223372036854775807 := by have h1 := h'.1; have h2 := h'.2.1; unfold maxLen at h2; omega
  clear hW h h'
  by_cases hbig : (1048576 : Int) < (len : Int)
  · go_enter Tryd.func8, Tryd.ntmps8
    go_wp2
    go_ret
    exact ⟨rfl, Below.refl _ _⟩
  by_cases hbig' : (1048576 : Int) < (len' : Int)
  · have hbd : decide ((1048576 : Int) < (len : Int)) = false := decide_eq_false hbig
    go_enter Tryd.func8, Tryd.ntmps8
    go_wp2
    go_ret
    exact ⟨rfl, Below.refl _ _⟩
  have hbd : decide ((1048576 : Int) < (len : Int)) = false := decide_eq_false hbig
  have hbd' : decide ((1048576 : Int) < (len' : Int)) = false := decide_eq_false hbig'
  go_enter Tryd.func8, Tryd.ntmps8
  go_wp2_with fail
  refine (drawFT a len cap _ H0.out.1 H0.out.2.1 H0.out.2.2).mono ?_
  rintro e w1 ⟨g, n, c, M, rfl, hO1, hn13, hb1⟩
  have HB1 : Hid (Below w.heap.size w w1) := hb1
  have HO1 : Hid (EntsAt w1 (some ⟨g, 0, none⟩) n c M) := hO1.entsAt
  have HML : Hid (M.length = n) := hO1.len
  clear hO1 hb1
  go_wp2_with fail
  refine (implFrame _ n c M _ HO1.out (HW.out.low HB1.out)).mono ?_
  rintro e w2 ⟨rfl, hb2⟩
  have HB2 : Hid (Below w.heap.size w w2) := HB1.out.trans (hb2.mono HB1.out.size)
  have HO2 : Hid (EntsAt w2 (some ⟨g, 0, none⟩) n c M) := HO1.out.keep hb2
  clear hb2 HO1 HB1
  obtain ⟨F, hF⟩ : ∃ F, F = frameB M := ⟨_, rfl⟩
  have HF : Hid (F = frameB M) := hF
  have hFs : F.size ≤ 2000 := by rw [hF]; exact frameB_size M
  rw [← hF]
  clear hF
  go_wp2_with fail
  have F2 := HW.out.at HB2.out
  refine (implRd F _ (by omega) F2.e F2.t).mono ?_
  rintro e w3 ⟨⟨P3, k3, v3, gs3, rfl, hWh3, hZ3, hPl3⟩, hb3, hz3⟩
  have HB3 : Hid (Below w.heap.size w w3) := HB2.out.trans (hb3.mono HB2.out.size)
  have HO3 : Hid (EntsAt w3 (some ⟨g, 0, none⟩) n c M) := HO2.out.keep hb3
  obtain ⟨a3, c3, rfl⟩ := hZ3.form
  have HWH3 : Hid (Whole F.data.toList P3 k3) := hWh3
  have HZ3 : Hid (PartsZ w3 (w2.heap.size + 1) (.slice a3 P3.length c3) gs3 P3) := hZ3
  clear hWh3 hZ3 hPl3 hb3 hz3 HO2 HB2 F2
  cases hd : doneB M with
  | false =>
    have hF0 : F = ⟨#[]⟩ := by rw [HF.out, frameB_isno hd]
    obtain ⟨rfl, rfl⟩ : P3 = [] ∧ k3 = 0 := by
      have h1 := HWH3.out
      rw [hF0] at h1
      exact whole_inj h1 whole_nil
    subst hF0
    have CS : Hid (Calls Tryd.prog 21 #[.slice (some ⟨g, 0, none⟩) n c] w3 fun e w' => e = .returned (.string ⟨#[]⟩) ∧ Below w3.heap.size w3 w') := by
      have := specFrame _ n c M w3 HO3.out
      rw [frameB_isno hd] at this
      exact this
    clear hd HZ3 HWH3 HF
    go_wp2_with fail
    refine CS.out.mono ?_
    rintro e wx ⟨rfl, hbx⟩
    have HBx : Hid (Below w.heap.size w wx) := HB3.out.trans (hbx.mono HB3.out.size)
    clear hbx CS HO3 HB3
    go_wp2_with fail
    refine (drawFR a' len' cap' _ (H'.out.keep HBx.out).1 (H'.out.keep HBx.out).2.1 (H'.out.keep HBx.out).2.2).mono ?_
    rintro e w6 ⟨⟨t, rfl, htz⟩, hb6⟩
    have HB6 : Hid (Below w.heap.size w w6) := HBx.out.trans (hb6.mono HBx.out.size)
    clear hb6
    go_wp2_with fail
    have F6 := HW.out.at HB6.out
    refine (implRd t _ (by omega) F6.e F6.t).mono ?_
    rintro e w7 ⟨⟨P, k, v7, gs, rfl, hWh, hZ7, hPl⟩, hb7, hz7⟩
    obtain ⟨a7, c7, rfl⟩ := hZ7.form
    obtain ⟨N, hN⟩ : ∃ N, N = P.length := ⟨_, rfl⟩
    have HN : Hid (P.length = N) := hN.symm
    have hNl : N ≤ 1048576 := by omega
    have HWH : Hid (Whole t.data.toList P k) := hWh
    have HP7 : Hid (PartsAt w7 a7 N c7 P) := by have := hZ7.partsAt rfl; rw [← hN] at this; exact this
    have HB7 : Hid (Below w.heap.size w w7) := HB6.out.trans (hb7.mono HB6.out.size)
    have hkt : k ≤ t.size := by have := whole_le hWh; rw [bytes_len] at this; exact this
    rw [← hN]
    clear hWh hZ7 hPl hb7 hz7 F6 HB6 hN
    go_wp2_with fail
    refine (specRd t _ (by omega)).mono ?_
    rintro e w8 ⟨⟨P8, k8, g8, n8, c8, rfl, hWh8, hPA⟩, hb8⟩
    obtain ⟨rfl, rfl⟩ := whole_inj HWH.out hWh8
    obtain rfl : n8 = N := hPA.length.symm.trans HN.out
    have HPA : Hid (PartsAt w8 (some ⟨g8, 0, none⟩) n8 c8 P) := hPA
    have HPB : Hid (PartsAt w8 a7 n8 c7 P) := HP7.out.keep hb8
    have HB8 : Hid (Below w.heap.size w w8) := HB7.out.trans (hb8.mono HB7.out.size)
    clear hWh8 hPA hb8 HP7 HB7
    have hk0 : ¬ (k : Int) < 0 := by omega
    have hkI : ¬ (k : Int) > (t.size : Int) := by omega
    have hkJ : ¬ (t.size : Int) < (k : Int) := by omega
    have hkT : (k : Int) ≤ (t.size : Int) := by omega
    have hkN : ¬ t.size < k := by omega
    have hkD : decide (t.size < k) = false := decide_eq_false hkN
    have hkE : decide ((k : Int) < 0) = false := decide_eq_false hk0
    go_wp2
    go_loopw [14, 15] (fun bv iv wr => ∃ (i : Nat) (Bk : ByteArray), i ≤ n8 ∧ iv = .int .i64 (i : Int) ∧ bv = .string Bk ∧ Bk.data.toList = txP (P.take i) ∧ Below w8.heap.size w8 wr) (fun _ iv _ => n8 - (intOf iv).toNat)
    case atStart => exact ⟨0, ⟨#[]⟩, Nat.zero_le _, rfl, rfl, by simp [txP], Below.refl _ _⟩
    case round =>
      obtain ⟨i, Bk, hin, rfl, rfl, hBk, hbr⟩ := hrel
      have HBK : Hid (Bk.data.toList = txP (P.take i)) := hBk
      have HBR : Hid (Below w8.heap.size w8 wr) := hbr
      clear hBk
      by_cases hlt : i < n8
      · have hltI : (i : Int) < (n8 : Int) := by omega
        obtain ⟨b7, off7, rfl, hb7l⟩ := HPB.out.form (by omega)
        obtain ⟨L, s1, m1, d1, hL, x0, hE1⟩ := HPB.out.list hbr i hlt
        obtain ⟨L', s2, m2, d2, hL', y0, hE2⟩ := HPA.out.list hbr i hlt
        obtain rfl : L = L' := Option.some.inj (hL.symm.trans hL')
        rw [Nat.zero_add] at y0
        have HLI : Hid (P[i]? = some L) := hL
        have HE1 : Hid (EntsAt wr s1 m1 d1 L) := hE1
        have HE2 : Hid (EntsAt wr s2 m2 d2 L) := hE2
        have zb7 : b7 < wr.heap.size := Nat.lt_of_lt_of_le hb7l hbr.size
        have zb8 : g8 < wr.heap.size := World.block_lt_of_cell? _ _ y0
        have k0 : Below wr.heap.size wr wr.drew := (Below.refl _ wr).drew
        have HMK : Hid (∀ w', Below wr.heap.size wr w' → (w'.cell? ⟨b7, off7 + i, none⟩ = some (.slice s1 m1 d1) ∧ w'.cell? ⟨g8, i, none⟩ = some (.slice s2 m2 d2) ∧ b7 < w'.heap.size ∧ g8 < w'.heap.size ∧ Below wr.heap.size wr w')) := fun w' kk => ⟨cell_later kk x0, cell_later kk y0, Nat.lt_of_lt_of_le zb7 kk.size, Nat.lt_of_lt_of_le zb8 kk.size, kk⟩
        have CW : Hid (Calls Tryd.prog 36 #[.slice s1 m1 d1, .slice s2 m2 d2] wr.drew fun e w' => e = .returned (.bool true) ∧ Below wr.drew.heap.size wr.drew w') := by
          have := wpEnts_any s1 s2 m1 d1 m2 d2 L L wr.drew (HE1.out.keep k0) (HE2.out.keep k0)
          rw [show decide (L = L) = true from decide_eq_true rfl] at this
          exact this
        clear hL hL' hE1 hE2 hbr
        go_upto_region 17 with fail
        go_region_held3 (fun w' => w'.cell? ⟨b7, off7 + i, none⟩ = some (.slice s1 m1 d1) ∧ w'.cell? ⟨g8, i, none⟩ = some (.slice s2 m2 d2) ∧ b7 < w'.heap.size ∧ g8 < w'.heap.size ∧ Below wr.heap.size wr w') (first | with_reducible exact HMK.out _ k0 | with_reducible exact HMK.out _ k1) (first
          | (go_at_call 36; refine CW.out.mono ?_; rintro e w9 ⟨rfl, hb9⟩; have k1 : Below wr.heap.size wr w9 := k0.trans (hb9.mono k0.size)))
        all_goals
          have x1 := cell_later k1 x0
          have zb9 := Nat.lt_of_lt_of_le zb7 k1.size
          have HB9 : Hid (Below w8.heap.size w8 w9) := HBR.out.trans (k1.mono HBR.out.size)
          have HE9 : Hid (EntsAt w9 s1 m1 d1 L) := HE1.out.keep k1
          go_wp2_with fail
          refine (implFrame s1 m1 d1 L _ HE9.out (HW.out.low (HB8.out.trans (HB9.out.mono HB8.out.size)))).mono ?_
          rintro e w10 ⟨rfl, hb10⟩
          obtain ⟨FL, hFL⟩ : ∃ FL, FL = frameB L := ⟨_, rfl⟩
          have HFLE : Hid (FL.data.toList = frameT L) := by
            show _ = _
            rw [hFL]
            exact frameB_is (whole_done HWH.out L (List.mem_of_getElem? HLI.out))
          have hFLs : FL.size ≤ 2000 := by rw [hFL]; exact frameB_size L
          rw [← hFL]
          have HB10 : Hid (Below w8.heap.size w8 w10) := HB9.out.trans (hb10.mono HB9.out.size)
          have hBs : Bk.size ≤ 10000 := by
            have h1 := whole_txt HWH.out
            have h2 := congrArg List.length HBK.out
            rw [bytes_len, txP_len] at h2
            have h3 := szP_le (P := P) (i := i)
            omega
          have hcat : ¬ 9223372036854775807 < Bk.size + FL.size := by omega
          clear hb10 hFL x0 x1 y0
          go_wp2
          go_roundw
          case rel => exact ⟨i + 1, Bk ++ FL, by omega, by go_num, rfl, by rw [ByteArray.data_append, Array.toList_append, HBK.out, HFLE.out, txP_next HLI.out], HB10.out⟩
          case measure => simp [intOf]; omega
      · have hltI : ¬ (i : Int) < (n8 : Int) := by omega
        have HBE : Hid (Bk = t.extract 0 k) := by
          refine txt_is HBK.out _ ?_
          rw [ext_toList, List.drop_zero, Nat.sub_zero, (whole_txt HWH.out).1, List.take_of_length_le (by have := HN.out; omega)]
        have hBq : (Bk.toList == (t.extract 0 k).toList) = true := by rw [HBE.out]; simp
        obtain ⟨C, hC⟩ : ∃ C, C = len % (k + 1) := ⟨_, rfl⟩
        have hmod : len % (k + 1) < k + 1 := Nat.mod_lt _ (by omega)
        have hCk : C ≤ k := by omega
        have e1 : IntKind.i64.wrap ((k : Int) + 1) = (k : Int) + 1 := by rw [IntWalk.i64_left]; unfold wrap64; omega
        have hk1 : ¬ (k : Int) + 1 = 0 := by omega
        have hk1b : ((k : Int) + 1 == 0) = false := by simpa using hk1
        have hCI : (len : Int) % ((k : Int) + 1) = (C : Int) := by rw [hC]; push_cast; rfl
        have HC : Hid (C = len % (k + 1)) := hC
        have hCT : (C : Int) ≤ (t.size : Int) := by omega
        clear hC hmod
        go_upto_region 23 with fail
        go_wp2_with fail
        obtain ⟨U, hU⟩ : ∃ U, U = t.extract 0 C := ⟨_, rfl⟩
        rw [← hU]
        have HUL : Hid (U.data.toList = t.data.toList.take C) := by show _ = _; rw [hU, ext_toList, List.drop_zero, Nat.sub_zero]
        have hUs : U.size ≤ 1048576 := by rw [hU, ByteArray.size_extract]; omega
        clear hU
        have HBL : Hid (Below w.heap.size w wr) := HB8.out.trans (HBR.out.mono HB8.out.size)
        have FL6 := HW.out.at HBL.out
        refine (implRd U _ hUs FL6.e FL6.t).mono ?_
        rintro e w11 ⟨⟨P9, k9, v9, gs9, rfl, hWh9, hZ9, hPl9⟩, hb11, hz11⟩
        obtain ⟨a9, c9, rfl⟩ := hZ9.form
        have HWH9 : Hid (Whole (t.data.toList.take C) P9 k9) := by rw [← HUL.out]; exact hWh9
        have HB11 : Hid (Below w8.heap.size w8 w11) := HBR.out.trans (hb11.mono HBR.out.size)
        obtain ⟨N9, hN9⟩ : ∃ N9, N9 = P9.length := ⟨_, rfl⟩
        have HN9 : Hid (N9 = P9.length) := hN9
        rw [← hN9]
        clear hWh9 hZ9 hPl9 hb11 hz11 FL6 hN9 HBL HBR hbr
        go_wp2
        go_loopw [19, 20] (fun kv sv wr => ∃ (j s : Nat), j ≤ n8 ∧ kv = .int .i64 (j : Int) ∧ sv = .int .i64 (s : Int) ∧ s = szP (P.take j) ∧ s ≤ C ∧ Below w8.heap.size w8 wr) (fun kv _ _ => n8 - (intOf kv).toNat)
        case atStart => exact ⟨0, 0, Nat.zero_le _, rfl, rfl, by simp [szP], Nat.zero_le _, HB11.out⟩
        case round =>
          clear HB11
          obtain ⟨j, s, hjn, rfl, rfl, hs, hsC, hbr⟩ := hrel
          have HS : Hid (s = szP (P.take j)) := hs
          have HBR : Hid (Below w8.heap.size w8 wr) := hbr
          clear hs
          by_cases hjlt : j < n8
          · have hjI : (j : Int) < (n8 : Int) := by omega
            obtain ⟨b7, off7, rfl, hb7l⟩ := HPB.out.form (by omega)
            obtain ⟨L, s1, m1, d1, hL, x0, hE1⟩ := HPB.out.list hbr j hjlt
            have HLI : Hid (P[j]? = some L) := hL
            have HE1 : Hid (EntsAt wr s1 m1 d1 L) := hE1
            have zb7 : b7 < wr.heap.size := Nat.lt_of_lt_of_le hb7l hbr.size
            clear hL hE1 hbr
            go_wp2_with fail
            refine (implFrame s1 m1 d1 L _ HE1.out (HW.out.low (HB8.out.trans (HBR.out.mono HB8.out.size)))).mono ?_
            rintro e w12 ⟨rfl, hb12⟩
            obtain ⟨FL, hFL⟩ : ∃ FL, FL = frameB L := ⟨_, rfl⟩
            have HFLE : Hid (FL.size = (frameT L).length) := by
              show _ = _
              rw [hFL, ← bytes_len, frameB_is (whole_done HWH.out L (List.mem_of_getElem? HLI.out))]
            have hFLs : FL.size ≤ 2000 := by rw [hFL]; exact frameB_size L
            rw [← hFL]
            have HB12 : Hid (Below w8.heap.size w8 w12) := HBR.out.trans (hb12.mono HBR.out.size)
            have HE12 : Hid (EntsAt w12 s1 m1 d1 L) := HE1.out.keep hb12
            have x2 := cell_later hb12 x0
            have zb12 := Nat.lt_of_lt_of_le zb7 hb12.size
            have hwS : IntKind.i64.wrap ((s : Int) + (FL.size : Int)) = (s : Int) + (FL.size : Int) := by rw [IntWalk.i64_left]; unfold wrap64; omega
            have HFLB : Hid (frameB L = FL) := hFL.symm
            clear hb12 hFL x0 HE1
            by_cases hfit : (s : Int) + (FL.size : Int) ≤ (C : Int)
            · go_wp2_with fail
              refine (implFrame s1 m1 d1 L _ HE12.out (HW.out.low (HB8.out.trans (HB12.out.mono HB8.out.size)))).mono ?_
              rintro e w13 ⟨rfl, hb13⟩
              rw [HFLB.out]
              have HB13 : Hid (Below w8.heap.size w8 w13) := HB12.out.trans (hb13.mono HB12.out.size)
              clear hb13 x2
              go_wp2
              go_roundw
              case rel => exact ⟨j + 1, s + FL.size, by omega, by go_num, by simp, by rw [szP_next HLI.out, ← HS.out, HFLE.out], by omega, HB13.out⟩
              case measure => simp [intOf]; omega
            · have hfD : decide ((s : Int) + (FL.size : Int) ≤ (C : Int)) = false := decide_eq_false hfit
              have HEQ : Hid (N9 = j ∧ k9 = s) := by
                have h1 := whole_cut HWH.out C j hCk (by have := HN.out; omega) (by have := HS.out; omega) (Or.inr ⟨L, HLI.out, by have h2 := HS.out; have h3 := HFLE.out; omega⟩)
                obtain ⟨h2, h3⟩ := whole_inj HWH9.out h1
                refine ⟨by rw [HN9.out, h2, List.length_take]; have := HN.out; omega, by rw [h3, ← HS.out]⟩
              obtain ⟨hq1, hq2⟩ := HEQ.out
              subst hq1
              subst hq2
              have HBF : Hid (Below w.heap.size w w12) := HB8.out.trans (HB12.out.mono HB8.out.size)
              clear x2
              go_wp2
              go_ret
              exact ⟨rfl, HBF.out⟩
          · have hjI : ¬ (j : Int) < (n8 : Int) := by omega
            have hjD : decide ((j : Int) < (n8 : Int)) = false := decide_eq_false hjI
            have HEQ : Hid (N9 = j ∧ k9 = s) := by
              have h1 := whole_cut HWH.out C j hCk (by have := HN.out; omega) (by have := HS.out; omega) (Or.inl (by have := HN.out; omega))
              obtain ⟨h2, h3⟩ := whole_inj HWH9.out h1
              refine ⟨by rw [HN9.out, h2, List.length_take]; have := HN.out; omega, by rw [h3, ← HS.out]⟩
            obtain ⟨hq1, hq2⟩ := HEQ.out
            subst hq1
            subst hq2
            have HBF : Hid (Below w.heap.size w wr) := HB8.out.trans (HBR.out.mono HB8.out.size)
            clear hbr
            go_wp2
            go_ret
            exact ⟨rfl, HBF.out⟩
  | true =>
    have hFt : F.data.toList = frameT M := by rw [HF.out]; exact frameB_is hd
    obtain ⟨rfl, rfl⟩ : P3 = [M] ∧ k3 = F.size := by
      have h1 := HWH3.out
      rw [hFt] at h1
      have h2 := whole_inj h1 (whole_one hd)
      exact ⟨h2.1, by rw [h2.2, ← hFt, bytes_len]⟩
    have hFs1 : 1 ≤ F.size := by rw [← bytes_len, hFt]; exact frameT_pos M
    have hF0 : F.toList.isEmpty = false := by
      rw [ByteArray.toList_eq]
      cases hq : F.data.toList with
      | nil => have h1 := congrArg List.length hq; rw [bytes_len, List.length_nil] at h1; omega
      | cons x r => rfl
    have CS : Hid (Calls Tryd.prog 21 #[.slice (some ⟨g, 0, none⟩) n c] w3 fun e w' => e = .returned (.string F) ∧ Below w3.heap.size w3 w') := by
      have := specFrame _ n c M w3 HO3.out
      rw [← HF.out] at this
      exact this
    have hp : PartsAt w3 a3 1 c3 [M] := HZ3.out.partsAt rfl
    obtain ⟨b3, off3, rfl, hb3l⟩ := hp.form (Nat.le_refl _)
    obtain ⟨L, s1, m1, d1, hL, x0, hE1⟩ := hp.list (Below.refl _ _) 0 (by omega)
    simp at hL
    subst hL
    have HE1 : Hid (EntsAt w3 s1 m1 d1 M) := hE1
    rw [Nat.add_zero] at x0
    clear hd HZ3 HWH3 HF hFt hp hE1
    go_wp2_with fail
    refine CS.out.mono ?_
    rintro e w4 ⟨rfl, hb4⟩
    have x1 := cell_later hb4 x0
    have zb3 := Nat.lt_of_lt_of_le hb3l hb4.size
    have HB4 : Hid (Below w.heap.size w w4) := HB3.out.trans (hb4.mono HB3.out.size)
    have CW : Hid (Calls Tryd.prog 36 #[.slice s1 m1 d1, .slice (some ⟨g, 0, none⟩) n c] w4 fun e w' => e = .returned (.bool true) ∧ Below w4.heap.size w4 w') := by
      have := wpEnts_any s1 (some ⟨g, 0, none⟩) m1 d1 n c M M w4 (HE1.out.keep hb4) (HO3.out.keep hb4)
      rw [show decide (M = M) = true from decide_eq_true rfl] at this
      exact this
    clear hb4 CS HO3 HB3 x0 HE1
    go_wp2_with fail
    refine CW.out.mono ?_
    rintro e wx ⟨rfl, hbx⟩
    have HBx : Hid (Below w.heap.size w wx) := HB4.out.trans (hbx.mono HB4.out.size)
    clear hbx CW x1 HB4
    go_wp2_with fail
    refine (drawFR a' len' cap' _ (H'.out.keep HBx.out).1 (H'.out.keep HBx.out).2.1 (H'.out.keep HBx.out).2.2).mono ?_
    rintro e w6 ⟨⟨t, rfl, htz⟩, hb6⟩
    have HB6 : Hid (Below w.heap.size w w6) := HBx.out.trans (hb6.mono HBx.out.size)
    clear hb6
    go_wp2_with fail
    have F6 := HW.out.at HB6.out
    refine (implRd t _ (by omega) F6.e F6.t).mono ?_
    rintro e w7 ⟨⟨P, k, v7, gs, rfl, hWh, hZ7, hPl⟩, hb7, hz7⟩
    obtain ⟨a7, c7, rfl⟩ := hZ7.form
    obtain ⟨N, hN⟩ : ∃ N, N = P.length := ⟨_, rfl⟩
    have HN : Hid (P.length = N) := hN.symm
    have hNl : N ≤ 1048576 := by omega
    have HWH : Hid (Whole t.data.toList P k) := hWh
    have HP7 : Hid (PartsAt w7 a7 N c7 P) := by have := hZ7.partsAt rfl; rw [← hN] at this; exact this
    have HB7 : Hid (Below w.heap.size w w7) := HB6.out.trans (hb7.mono HB6.out.size)
    have hkt : k ≤ t.size := by have := whole_le hWh; rw [bytes_len] at this; exact this
    rw [← hN]
    clear hWh hZ7 hPl hb7 hz7 F6 HB6 hN
    go_wp2_with fail
    refine (specRd t _ (by omega)).mono ?_
    rintro e w8 ⟨⟨P8, k8, g8, n8, c8, rfl, hWh8, hPA⟩, hb8⟩
    obtain ⟨rfl, rfl⟩ := whole_inj HWH.out hWh8
    obtain rfl : n8 = N := hPA.length.symm.trans HN.out
    have HPA : Hid (PartsAt w8 (some ⟨g8, 0, none⟩) n8 c8 P) := hPA
    have HPB : Hid (PartsAt w8 a7 n8 c7 P) := HP7.out.keep hb8
    have HB8 : Hid (Below w.heap.size w w8) := HB7.out.trans (hb8.mono HB7.out.size)
    clear hWh8 hPA hb8 HP7 HB7
    have hk0 : ¬ (k : Int) < 0 := by omega
    have hkI : ¬ (k : Int) > (t.size : Int) := by omega
    have hkJ : ¬ (t.size : Int) < (k : Int) := by omega
    have hkT : (k : Int) ≤ (t.size : Int) := by omega
    have hkN : ¬ t.size < k := by omega
    have hkD : decide (t.size < k) = false := decide_eq_false hkN
    have hkE : decide ((k : Int) < 0) = false := decide_eq_false hk0
    go_wp2
    go_loopw [14, 15] (fun bv iv wr => ∃ (i : Nat) (Bk : ByteArray), i ≤ n8 ∧ iv = .int .i64 (i : Int) ∧ bv = .string Bk ∧ Bk.data.toList = txP (P.take i) ∧ Below w8.heap.size w8 wr) (fun _ iv _ => n8 - (intOf iv).toNat)
    case atStart => exact ⟨0, ⟨#[]⟩, Nat.zero_le _, rfl, rfl, by simp [txP], Below.refl _ _⟩
    case round =>
      obtain ⟨i, Bk, hin, rfl, rfl, hBk, hbr⟩ := hrel
      have HBK : Hid (Bk.data.toList = txP (P.take i)) := hBk
      have HBR : Hid (Below w8.heap.size w8 wr) := hbr
      clear hBk
      by_cases hlt : i < n8
      · have hltI : (i : Int) < (n8 : Int) := by omega
        obtain ⟨b7, off7, rfl, hb7l⟩ := HPB.out.form (by omega)
        obtain ⟨L, s1, m1, d1, hL, x0, hE1⟩ := HPB.out.list hbr i hlt
        obtain ⟨L', s2, m2, d2, hL', y0, hE2⟩ := HPA.out.list hbr i hlt
        obtain rfl : L = L' := Option.some.inj (hL.symm.trans hL')
        rw [Nat.zero_add] at y0
        have HLI : Hid (P[i]? = some L) := hL
        have HE1 : Hid (EntsAt wr s1 m1 d1 L) := hE1
        have HE2 : Hid (EntsAt wr s2 m2 d2 L) := hE2
        have zb7 : b7 < wr.heap.size := Nat.lt_of_lt_of_le hb7l hbr.size
        have zb8 : g8 < wr.heap.size := World.block_lt_of_cell? _ _ y0
        have k0 : Below wr.heap.size wr wr.drew := (Below.refl _ wr).drew
        have HMK : Hid (∀ w', Below wr.heap.size wr w' → (w'.cell? ⟨b7, off7 + i, none⟩ = some (.slice s1 m1 d1) ∧ w'.cell? ⟨g8, i, none⟩ = some (.slice s2 m2 d2) ∧ b7 < w'.heap.size ∧ g8 < w'.heap.size ∧ Below wr.heap.size wr w')) := fun w' kk => ⟨cell_later kk x0, cell_later kk y0, Nat.lt_of_lt_of_le zb7 kk.size, Nat.lt_of_lt_of_le zb8 kk.size, kk⟩
        have CW : Hid (Calls Tryd.prog 36 #[.slice s1 m1 d1, .slice s2 m2 d2] wr.drew fun e w' => e = .returned (.bool true) ∧ Below wr.drew.heap.size wr.drew w') := by
          have := wpEnts_any s1 s2 m1 d1 m2 d2 L L wr.drew (HE1.out.keep k0) (HE2.out.keep k0)
          rw [show decide (L = L) = true from decide_eq_true rfl] at this
          exact this
        clear hL hL' hE1 hE2 hbr
        go_upto_region 17 with fail
        go_region_held3 (fun w' => w'.cell? ⟨b7, off7 + i, none⟩ = some (.slice s1 m1 d1) ∧ w'.cell? ⟨g8, i, none⟩ = some (.slice s2 m2 d2) ∧ b7 < w'.heap.size ∧ g8 < w'.heap.size ∧ Below wr.heap.size wr w') (first | with_reducible exact HMK.out _ k0 | with_reducible exact HMK.out _ k1) (first
          | (go_at_call 36; refine CW.out.mono ?_; rintro e w9 ⟨rfl, hb9⟩; have k1 : Below wr.heap.size wr w9 := k0.trans (hb9.mono k0.size)))
        all_goals
          have x1 := cell_later k1 x0
          have zb9 := Nat.lt_of_lt_of_le zb7 k1.size
          have HB9 : Hid (Below w8.heap.size w8 w9) := HBR.out.trans (k1.mono HBR.out.size)
          have HE9 : Hid (EntsAt w9 s1 m1 d1 L) := HE1.out.keep k1
          go_wp2_with fail
          refine (implFrame s1 m1 d1 L _ HE9.out (HW.out.low (HB8.out.trans (HB9.out.mono HB8.out.size)))).mono ?_
          rintro e w10 ⟨rfl, hb10⟩
          obtain ⟨FL, hFL⟩ : ∃ FL, FL = frameB L := ⟨_, rfl⟩
          have HFLE : Hid (FL.data.toList = frameT L) := by
            show _ = _
            rw [hFL]
            exact frameB_is (whole_done HWH.out L (List.mem_of_getElem? HLI.out))
          have hFLs : FL.size ≤ 2000 := by rw [hFL]; exact frameB_size L
          rw [← hFL]
          have HB10 : Hid (Below w8.heap.size w8 w10) := HB9.out.trans (hb10.mono HB9.out.size)
          have hBs : Bk.size ≤ 10000 := by
            have h1 := whole_txt HWH.out
            have h2 := congrArg List.length HBK.out
            rw [bytes_len, txP_len] at h2
            have h3 := szP_le (P := P) (i := i)
            omega
          have hcat : ¬ 9223372036854775807 < Bk.size + FL.size := by omega
          clear hb10 hFL x0 x1 y0
          go_wp2
          go_roundw
          case rel => exact ⟨i + 1, Bk ++ FL, by omega, by go_num, rfl, by rw [ByteArray.data_append, Array.toList_append, HBK.out, HFLE.out, txP_next HLI.out], HB10.out⟩
          case measure => simp [intOf]; omega
      · have hltI : ¬ (i : Int) < (n8 : Int) := by omega
        have HBE : Hid (Bk = t.extract 0 k) := by
          refine txt_is HBK.out _ ?_
          rw [ext_toList, List.drop_zero, Nat.sub_zero, (whole_txt HWH.out).1, List.take_of_length_le (by have := HN.out; omega)]
        have hBq : (Bk.toList == (t.extract 0 k).toList) = true := by rw [HBE.out]; simp
        obtain ⟨C, hC⟩ : ∃ C, C = len % (k + 1) := ⟨_, rfl⟩
        have hmod : len % (k + 1) < k + 1 := Nat.mod_lt _ (by omega)
        have hCk : C ≤ k := by omega
        have e1 : IntKind.i64.wrap ((k : Int) + 1) = (k : Int) + 1 := by rw [IntWalk.i64_left]; unfold wrap64; omega
        have hk1 : ¬ (k : Int) + 1 = 0 := by omega
        have hk1b : ((k : Int) + 1 == 0) = false := by simpa using hk1
        have hCI : (len : Int) % ((k : Int) + 1) = (C : Int) := by rw [hC]; push_cast; rfl
        have HC : Hid (C = len % (k + 1)) := hC
        have hCT : (C : Int) ≤ (t.size : Int) := by omega
        clear hC hmod
        go_upto_region 23 with fail
        go_wp2_with fail
        obtain ⟨U, hU⟩ : ∃ U, U = t.extract 0 C := ⟨_, rfl⟩
        rw [← hU]
        have HUL : Hid (U.data.toList = t.data.toList.take C) := by show _ = _; rw [hU, ext_toList, List.drop_zero, Nat.sub_zero]
        have hUs : U.size ≤ 1048576 := by rw [hU, ByteArray.size_extract]; omega
        clear hU
        have HBL : Hid (Below w.heap.size w wr) := HB8.out.trans (HBR.out.mono HB8.out.size)
        have FL6 := HW.out.at HBL.out
        refine (implRd U _ hUs FL6.e FL6.t).mono ?_
        rintro e w11 ⟨⟨P9, k9, v9, gs9, rfl, hWh9, hZ9, hPl9⟩, hb11, hz11⟩
        obtain ⟨a9, c9, rfl⟩ := hZ9.form
        have HWH9 : Hid (Whole (t.data.toList.take C) P9 k9) := by rw [← HUL.out]; exact hWh9
        have HB11 : Hid (Below w8.heap.size w8 w11) := HBR.out.trans (hb11.mono HBR.out.size)
        obtain ⟨N9, hN9⟩ : ∃ N9, N9 = P9.length := ⟨_, rfl⟩
        have HN9 : Hid (N9 = P9.length) := hN9
        rw [← hN9]
        clear hWh9 hZ9 hPl9 hb11 hz11 FL6 hN9 HBL HBR hbr
        go_wp2
        go_loopw [19, 20] (fun kv sv wr => ∃ (j s : Nat), j ≤ n8 ∧ kv = .int .i64 (j : Int) ∧ sv = .int .i64 (s : Int) ∧ s = szP (P.take j) ∧ s ≤ C ∧ Below w8.heap.size w8 wr) (fun kv _ _ => n8 - (intOf kv).toNat)
        case atStart => exact ⟨0, 0, Nat.zero_le _, rfl, rfl, by simp [szP], Nat.zero_le _, HB11.out⟩
        case round =>
          clear HB11
          obtain ⟨j, s, hjn, rfl, rfl, hs, hsC, hbr⟩ := hrel
          have HS : Hid (s = szP (P.take j)) := hs
          have HBR : Hid (Below w8.heap.size w8 wr) := hbr
          clear hs
          by_cases hjlt : j < n8
          · have hjI : (j : Int) < (n8 : Int) := by omega
            obtain ⟨b7, off7, rfl, hb7l⟩ := HPB.out.form (by omega)
            obtain ⟨L, s1, m1, d1, hL, x0, hE1⟩ := HPB.out.list hbr j hjlt
            have HLI : Hid (P[j]? = some L) := hL
            have HE1 : Hid (EntsAt wr s1 m1 d1 L) := hE1
            have zb7 : b7 < wr.heap.size := Nat.lt_of_lt_of_le hb7l hbr.size
            clear hL hE1 hbr
            go_wp2_with fail
            refine (implFrame s1 m1 d1 L _ HE1.out (HW.out.low (HB8.out.trans (HBR.out.mono HB8.out.size)))).mono ?_
            rintro e w12 ⟨rfl, hb12⟩
            obtain ⟨FL, hFL⟩ : ∃ FL, FL = frameB L := ⟨_, rfl⟩
            have HFLE : Hid (FL.size = (frameT L).length) := by
              show _ = _
              rw [hFL, ← bytes_len, frameB_is (whole_done HWH.out L (List.mem_of_getElem? HLI.out))]
            have hFLs : FL.size ≤ 2000 := by rw [hFL]; exact frameB_size L
            rw [← hFL]
            have HB12 : Hid (Below w8.heap.size w8 w12) := HBR.out.trans (hb12.mono HBR.out.size)
            have HE12 : Hid (EntsAt w12 s1 m1 d1 L) := HE1.out.keep hb12
            have x2 := cell_later hb12 x0
            have zb12 := Nat.lt_of_lt_of_le zb7 hb12.size
            have hwS : IntKind.i64.wrap ((s : Int) + (FL.size : Int)) = (s : Int) + (FL.size : Int) := by rw [IntWalk.i64_left]; unfold wrap64; omega
            have HFLB : Hid (frameB L = FL) := hFL.symm
            clear hb12 hFL x0 HE1
            by_cases hfit : (s : Int) + (FL.size : Int) ≤ (C : Int)
            · go_wp2_with fail
              refine (implFrame s1 m1 d1 L _ HE12.out (HW.out.low (HB8.out.trans (HB12.out.mono HB8.out.size)))).mono ?_
              rintro e w13 ⟨rfl, hb13⟩
              rw [HFLB.out]
              have HB13 : Hid (Below w8.heap.size w8 w13) := HB12.out.trans (hb13.mono HB12.out.size)
              clear hb13 x2
              go_wp2
              go_roundw
              case rel => exact ⟨j + 1, s + FL.size, by omega, by go_num, by simp, by rw [szP_next HLI.out, ← HS.out, HFLE.out], by omega, HB13.out⟩
              case measure => simp [intOf]; omega
            · have hfD : decide ((s : Int) + (FL.size : Int) ≤ (C : Int)) = false := decide_eq_false hfit
              have HEQ : Hid (N9 = j ∧ k9 = s) := by
                have h1 := whole_cut HWH.out C j hCk (by have := HN.out; omega) (by have := HS.out; omega) (Or.inr ⟨L, HLI.out, by have h2 := HS.out; have h3 := HFLE.out; omega⟩)
                obtain ⟨h2, h3⟩ := whole_inj HWH9.out h1
                refine ⟨by rw [HN9.out, h2, List.length_take]; have := HN.out; omega, by rw [h3, ← HS.out]⟩
              obtain ⟨hq1, hq2⟩ := HEQ.out
              subst hq1
              subst hq2
              have HBF : Hid (Below w.heap.size w w12) := HB8.out.trans (HB12.out.mono HB8.out.size)
              clear x2
              go_wp2
              go_ret
              exact ⟨rfl, HBF.out⟩
          · have hjI : ¬ (j : Int) < (n8 : Int) := by omega
            have hjD : decide ((j : Int) < (n8 : Int)) = false := decide_eq_false hjI
            have HEQ : Hid (N9 = j ∧ k9 = s) := by
              have h1 := whole_cut HWH.out C j hCk (by have := HN.out; omega) (by have := HS.out; omega) (Or.inl (by have := HN.out; omega))
              obtain ⟨h2, h3⟩ := whole_inj HWH9.out h1
              refine ⟨by rw [HN9.out, h2, List.length_take]; have := HN.out; omega, by rw [h3, ← HS.out]⟩
            obtain ⟨hq1, hq2⟩ := HEQ.out
            subst hq1
            subst hq2
            have HBF : Hid (Below w.heap.size w wr) := HB8.out.trans (HBR.out.mono HB8.out.size)
            clear hbr
            go_wp2
            go_ret
            exact ⟨rfl, HBF.out⟩

end Go.Proofs.YtfblpbihpmhgjaaDoor
