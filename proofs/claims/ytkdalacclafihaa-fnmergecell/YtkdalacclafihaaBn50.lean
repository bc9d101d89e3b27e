/-
  The walk of the law FnMergeCell: it answers true at all bytes.
-/
import Derived.Test.YtkdalacclafihaaBn23
import Derived.Test.YtkdalacclafihaaBn24
import Derived.Test.YtkdalacclafihaaBn36
import Derived.Test.YtkdalacclafihaaBn37
import Derived.Test.YtkdalacclafihaaBn38
import Derived.Test.YtkdalacclafihaaBn40
import Derived.Test.YtkdalacclafihaaBn42
import Derived.Test.YtkdalacclafihaaBn49
namespace Go.Proofs.Ytkdalacclafihaa
open Go.RowKit

theorem drawn_all {P : List (List EntD)} {L : List EntD} (hX : AllX L 32) (hL : L.length ≤ 16) (h : P.flatten.Perm L ∨ P = []) : UnT P.flatten ∧ P.flatten.length ≤ 16 ∧ (∀ e ∈ P.flatten, e.1.size ≤ 281474976710656 ∧ e.2.2.2.1.size ≤ 281474976710656) ∧ ∀ e ∈ P.flatten, entB e.1 e.2.1 e.2.2.1 e.2.2.2.1 e.2.2.2.2 = true := by
  rcases h with h | rfl
  · refine ⟨hX.2.perm h.symm, by rw [h.length_eq]; exact hL, fun e he => ?_, fun e he => ?_⟩
    · have h1 := (hX.1 e (h.mem_iff.1 he)).1
      have h2 := h1.1.2.1.1
      have h3 := h1.1.1.1
      exact ⟨by omega, by omega⟩
    · obtain ⟨h1, h2, h3⟩ := hX.1 e (h.mem_iff.1 he)
      exact entX_ent h1 h2 (by omega)
  · exact ⟨List.Pairwise.nil, by simp, (fun e he => by cases he), (fun e he => by cases he)⟩
theorem PartsOwn.some {w : World} {base g n c : Nat} {P : List (List EntD)} {vs : List Value} {y : Option Nat} (h : PartsOwn w base g n c P vs y) (hv : SomeV vs) {k : Nat} {L : List EntD} (hk : P[k]? = .some L) : ∃ b m d, w.cell? ⟨g, k, none⟩ = .some (.slice (.some ⟨b, 0, none⟩) m d) ∧ EntsAt w (.some ⟨b, 0, none⟩) m d L := by
  obtain ⟨s, m, d, hs, hE, _⟩ := h.lists k L hk
  obtain ⟨b, m', d', e⟩ := hv _ (List.mem_of_getElem? hs)
  cases e
  refine ⟨b, m, d, ?_, hE⟩
  have := h.owns.cellAt k (by have := (List.getElem?_eq_some_iff.1 hk).1; rw [h.len] at this; omega)
  rw [hs] at this
  simpa using this
theorem flat_part {P : List (List EntD)} {i : Nat} {L : List EntD} (h : P[i]? = some L) : (P.take (i + 1)).flatten = (P.take i).flatten ++ L := by
  rw [List.take_add_one, h]
  simp
theorem flat_to {P : List (List EntD)} {i : Nat} {L : List EntD} (h : P[i]? = some L) : (P.take i).flatten.length + L.length ≤ P.flatten.length := by
  have h1 : P.flatten = (P.take (i + 1)).flatten ++ (P.drop (i + 1)).flatten := by rw [← List.flatten_append, List.take_append_drop]
  rw [h1, flat_part h, List.length_append, List.length_append]
  omega

set_option maxRecDepth 100000 in
set_option maxHeartbeats 8000000 in
theorem walkFnMergeCell (a : Option Addr) (len cap : Nat) (a2 : Option Addr) (len2 cap2 : Nat) (w : World) (h : BytesAt w a len cap) (h2 : BytesAt w a2 len2 cap2) :
    Calls Try.prog 5 #[.slice a len cap, .slice a2 len2 cap2] w fun e w' => e = .returned (.bool true) ∧ Below w.heap.size w w' := by
  have H : Hid (BytesAt w a len cap) := h
  have H2 : Hid (BytesAt w a2 len2 cap2) := h2
  have hm := Nat.le_trans h.1 h.2.1
  have hm2 := Nat.le_trans h2.1 h2.2.1
  unfold maxLen at hm hm2
  clear h h2
  by_cases hbig : 1048576 < len
  · go_enter Try.func5, Try.ntmps5
    go_wp2
    go_ret
    exact ⟨rfl, Below.refl _ _⟩
  by_cases hbig2 : 1048576 < len2
  · go_enter Try.func5, Try.ntmps5
    go_wp2
    go_ret
    exact ⟨rfl, Below.refl _ _⟩
  obtain ⟨i0, hi, hz0, hz1, hz2⟩ := info_parts Try.infoEnt
  go_enter Try.func5, Try.ntmps5
  go_wp2_with fail
  refine (drawMerge_any a len cap w H.out).mono ?_
  rintro e w0 ⟨G, n, c, P, vs, L, rfl, hPO, hn, hLl, hX, hPL, hSV, hb0⟩
  obtain ⟨hU, hF16, hSm, hEB⟩ := drawn_all hX hLl hPL
  have HU : Hid (UnT P.flatten) := hU
  have HEB : Hid (∀ e ∈ P.flatten, entB e.1 e.2.1 e.2.2.1 e.2.2.2.1 e.2.2.2.2 = true) := hEB
  have HPN : Hid (P.length = n) := hPO.len
  have HP0 : Hid (PartsOwn w0 w.heap.size G n c P vs none) := hPO
  have HSV : Hid (SomeV vs) := hSV
  have HB0 : Hid (Below w.heap.size w w0) := hb0
  have HSM : Hid (∀ e ∈ P.flatten, e.1.size ≤ 281474976710656 ∧ e.2.2.2.1.size ≤ 281474976710656) := hSm
  obtain ⟨nf, hnf⟩ : ∃ nf, P.flatten.length = nf := ⟨_, rfl⟩
  have HNF : Hid (P.flatten.length = nf) := hnf
  rw [hnf] at hF16
  obtain ⟨F, hF⟩ : ∃ F, F = sortE P.flatten := ⟨_, rfl⟩
  have HF : Hid (F = sortE P.flatten) := hF
  have CI : Hid (∀ (w' : World), PartsAt w' (some ⟨G, 0, none⟩) n c P → Calls Try.prog 10 #[.slice (some ⟨G, 0, none⟩) n c] w' fun e w'' => ∃ gg, e = .returned (.slice (some ⟨gg, 0, none⟩) nf nf) ∧ OwnE w'' w'.heap.size gg nf nf F ∧ Below w'.heap.size w' w'') := by
    intro w' hQA
    refine (callsIn_wide.1 (implMerge _ _ _ P w' hQA (by omega) (by omega) HSM.out)).mono ?_
    rintro e w'' ⟨⟨gg, rfl, hO⟩, hb⟩
    rw [hnf, ← hF] at hO
    rw [hnf]
    exact ⟨gg, rfl, hO, hb⟩
  have CS : Hid (∀ (w' : World), PartsAt w' (some ⟨G, 0, none⟩) n c P → Calls Try.prog 8 #[.slice (some ⟨G, 0, none⟩) n c] w' fun e w'' => ∃ g cg, e = .returned (.slice (some ⟨g, 0, none⟩) nf cg) ∧ OwnE w'' w'.heap.size g nf cg F ∧ Below w'.heap.size w' w'') := by
    intro w' hQA
    have := specMerge _ _ _ P w' hQA (by omega)
    rw [hnf, ← hF] at this
    exact this
  clear hU hPO hb0 hSm hnf hF hX hPL hLl hEB hSV
  go_wp2_with fail
  refine (drawAll_any a2 len2 cap2 w0 (H2.out.keep HB0.out)).mono ?_
  rintro e w1 ⟨gd, nd, cd, Ld, key, seq, rfl, _, _, _, _, _, hb1⟩
  have HP1 : Hid (PartsOwn w1 w.heap.size G n c P vs none) := HP0.out.below hb1
  have HB1 : Hid (Below w.heap.size w w1) := HB0.out.trans (hb1.mono HB0.out.size)
  clear hb1 HP0 HB0
  go_wp2_with fail
  refine (CI.out w1 HP1.out.partsAt).mono ?_
  rintro e w2 ⟨gf, rfl, hO2, hb2⟩
  have HP2 : Hid (PartsOwn w2 w.heap.size G n c P vs none) := HP1.out.below hb2
  have HO2 : Hid (EntsAt w2 (some ⟨gf, 0, none⟩) nf nf F) := hO2.entsAt
  have HB2 : Hid (Below w.heap.size w w2) := HB1.out.trans (hb2.mono HB1.out.size)
  clear hO2 hb2 HP1 HB1
  go_wp2_with fail
  refine (CS.out w2 HP2.out.partsAt).mono ?_
  rintro e w3 ⟨g3, c3, rfl, hO3, hb3⟩
  have HP3 : Hid (PartsOwn w3 w.heap.size G n c P vs none) := HP2.out.below hb3
  have HO3 : Hid (EntsAt w3 (some ⟨gf, 0, none⟩) nf nf F) := HO2.out.keep hb3
  have HS3 : Hid (EntsAt w3 (some ⟨g3, 0, none⟩) nf c3 F) := hO3.entsAt
  have HB3 : Hid (Below w.heap.size w w3) := HB2.out.trans (hb3.mono HB2.out.size)
  clear hO3 hb3 HP2 HO2 HB2 CS CI
  go_wp2_with fail
  refine (wpEnts_any _ _ _ _ _ _ F F w3 HO3.out HS3.out).mono ?_
  rintro e w4 ⟨rfl, hb4⟩
  rw [decide_eq_true rfl]
  have HP4 : Hid (PartsOwn w4 w.heap.size G n c P vs none) := HP3.out.below hb4
  have HO4 : Hid (EntsAt w4 (some ⟨gf, 0, none⟩) nf nf F) := HO3.out.keep hb4
  have HB4 : Hid (Below w.heap.size w w4) := HB3.out.trans (hb4.mono HB3.out.size)
  clear hb4 HP3 HO3 HS3 HB3
  have HT0 : Hid (OwnE (w4.alloc (.cells #[] 36)) w4.heap.size w4.heap.size 0 0 []) := own_empty w4 _ (Nat.le_refl _)
  have HBT : Hid (Below w4.heap.size w4 (w4.alloc (.cells #[] 36))) := (Below.refl _ _).alloc (Nat.le_refl _) _
  have HGG : Hid (G < w4.heap.size) := HP4.out.lt.2
  go_wp2
  go_loopw [10, 11] (fun fv iv wr => ∃ (i m g c : Nat) (X : List EntD), i ≤ n ∧ iv = .int .i64 i ∧ X = (P.take i).flatten ∧ m ≤ 16 ∧ fv = .slice (some ⟨g, 0, none⟩) m c ∧ OwnE wr w4.heap.size g m c X ∧ Below w4.heap.size w4 wr) (fun _ iv _ => n - (intOf iv).toNat)
  case atStart => exact ⟨0, 0, w4.heap.size, 0, [], Nat.zero_le _, rfl, by simp, by omega, rfl, HT0.out, HBT.out⟩
  case round =>
    clear HT0 HBT
    obtain ⟨i, m, g, c0, X, hin, rfl, hX, hm16, rfl, hO, hb⟩ := hrel
    have HX : Hid (X = (P.take i).flatten) := hX
    have HO : Hid (OwnE wr w4.heap.size g m c0 X) := hO
    have HB : Hid (Below w4.heap.size w4 wr) := hb
    clear hX hO hb
    by_cases hlt : i < n
    · have hltI : (i : Int) < (n : Int) := by omega
      obtain ⟨Lk, hL⟩ : ∃ Lk, P[i]? = some Lk := ⟨_, List.getElem?_eq_getElem (by rw [HPN.out]; exact hlt)⟩
      obtain ⟨bl, ml, dl, cG, hE⟩ := (HP4.out.below HB.out).some HSV.out hL
      have HL : Hid (P[i]? = some Lk) := hL
      have HLL : Hid (Lk.length = ml) := hE.length
      have hft := flat_to hL
      have hml : m + ml ≤ 16 := by
        have h1 := HO.out.len
        have h2 := hE.length
        rw [HX.out] at h1
        rw [HNF.out] at hft
        omega
      have HE : Hid (EntsAt wr (some ⟨bl, 0, none⟩) ml dl Lk) := hE
      have zG : G < wr.heap.size := Nat.lt_of_lt_of_le HGG.out HB.out.size
      clear hL hE hft
      go_wp2_with (at_builtin; refine wpList_append_own_at _ rfl _ _ 24 rfl w4.heap.size 36 i0 _ 5 56 Try.underlying24 hi hz0 hz1 hz2 rfl (by decide) _ _ _ rfl HO.out.owns ⟨bl, 0, none⟩ ml dl (flatE Lk) rfl (by rw [flatE_len, HLL.out]) (ents_news HE.out) (flatE_one _) (by unfold maxLen; omega) (by omega) HB.out.size ?_; intro v1 w5 hown5 hgrow5 hnil5 hat5; obtain ⟨g5, c5, rfl⟩ := row_some hown5 hnil5)
      go_roundw
      case rel =>
        have hgr : wr.grownBy w5 (some g) := hgrow5
        refine ⟨i + 1, m + ml, g5, c5, X ++ Lk, by omega, by go_num, by rw [HX.out, flat_part HL.out], hml, rfl, ⟨by rw [flatE_append]; exact hown5, by rw [List.length_append, HO.out.len, HLL.out], fun l hl => ?_⟩, HB.out.grown hgr HB.out.size (fun j e => by cases e; exact HO.out.lt.1)⟩
        rcases List.mem_append.1 hl with h1 | h1
        · exact HO.out.ents l h1
        · exact HE.out.ents l h1
      case measure => simp [intOf]; omega
    · have hltI : ¬ (i : Int) < (n : Int) := by omega
      have hXF : X = P.flatten := by rw [HX.out, List.take_of_length_le (by rw [HPN.out]; omega)]
      subst hXF
      obtain rfl : m = nf := by have h1 := HO.out.len; have h2 := HNF.out; omega
      have HO5 : Hid (EntsAt wr (some ⟨gf, 0, none⟩) m m F) := HO4.out.keep HB.out
      have HBW : Hid (Below w.heap.size w wr) := HB4.out.trans (HB.out.mono HB4.out.size)
      have HOX : Hid (EntsAt wr (some ⟨g, 0, none⟩) m c0 P.flatten) := HO.out.entsAt
      clear HX HO HB HP4 HO4 HB4 HGG
      obtain ⟨FF, hFF⟩ : ∃ FF, FF = ofL P.flatten := ⟨_, rfl⟩
      obtain ⟨M, hM⟩ : ∃ M, M = ofM P.flatten := ⟨_, rfl⟩
      obtain ⟨B, hB⟩ : ∃ B, B = ofB P.flatten := ⟨_, rfl⟩
      have CO : Calls Try.prog 20 #[.slice (some ⟨g, 0, none⟩) m c0] wr (OfR FF M B wr) := by rw [hFF, hM, hB]; exact implRunOf g m c0 _ wr HOX.out
      have HFF : Hid (FF = ofL P.flatten) := hFF
      have HMM : Hid (M = ofM P.flatten) := hM
      have HBB : Hid (B = ofB P.flatten) := hB
      clear hFF hM hB
      go_wp2_with fail
      refine CO.mono ?_
      rintro e w6 ⟨aR, nR, cR, rfl, hOR, hb6⟩
      obtain ⟨Y, hY⟩ : ∃ Y, Y = w6.heap.size := ⟨_, rfl⟩
      obtain ⟨W, hW⟩ : ∃ W, W = w6.alloc (.cells #[.slice aR nR cR, .int .i64 M] 42) := ⟨_, rfl⟩
      have kW : Below w6.heap.size w6 W := by rw [hW]; exact (Below.refl _ _).alloc (Nat.le_refl _) _
      have kWr : Below wr.heap.size wr W := hb6.trans (kW.mono hb6.size)
      have x0 : W.cell? ⟨Y, 0, none⟩ = some (.slice aR nR cR) := by rw [hW, hY]; simp
      have x1 : W.cell? ⟨Y, 1, none⟩ = some (.int .i64 M) := by rw [hW, hY]; simp
      have ER : Hid (EntsAt W aR nR cR FF) := hOR.entsAt.keep kW
      have HO7 : Hid (EntsAt W (some ⟨gf, 0, none⟩) m m F) := HO5.out.keep kWr
      have HX7 : Hid (EntsAt W (some ⟨g, 0, none⟩) m c0 P.flatten) := HOX.out.keep kWr
      have HB7 : Hid (Below w.heap.size w W) := HBW.out.trans (kWr.mono HBW.out.size)
      have HRN : Hid (FF.length = nR) := hOR.len
      have zY : Y < W.heap.size := World.block_lt_of_cell? _ _ x0
      have HW : Hid (W = w6.alloc (.cells #[.slice aR nR cR, .int .i64 M] 42)) := hW
      have HY : Hid (Y = w6.heap.size) := hY
      clear hOR hb6 kW kWr hW hY CO HO5 HOX HBW
      by_cases hm0 : m = 0
      · obtain ⟨o1, o2⟩ := of_empty (F := P.flatten) (by have := HNF.out; omega)
        have hBf : B = false := by rw [HBB.out]; exact o1
        subst hBf
        subst hm0
        go_upto_region 14 with fail
        rw [← HW.out, ← HY.out]
        clear HW HY
        go_wp2
        go_ret
        exact ⟨rfl, HB7.out⟩
      · have hm0I : ¬ (m : Int) = 0 := by omega
        have hm0b : ((m : Int) == 0) = false := by simp; omega
        obtain ⟨o1, o2, o3⟩ := of_drawn (F := P.flatten) (by have := HNF.out; omega) (by have := HNF.out; omega) HU.out HEB.out
        have hBt : B = true := by rw [HBB.out]; exact o1
        subst hBt
        have hFe : FF = F := by rw [HFF.out, HF.out]; exact o2
        subst hFe
        have HRB : Hid (runB FF M = true) := by show runB FF M = true; rw [HMM.out, HF.out]; exact o3
        clear o1 o2 o3
        obtain rfl : nR = m := by have h1 := HRN.out; have h2 := HO7.out.length; omega
        obtain ⟨x, hx⟩ : ∃ x, x = cellL P.flatten key seq := ⟨_, rfl⟩
        have HC1 : Hid (cellL FF key seq = x) := by show _ = _; rw [hx, HF.out]; exact (cell_perm HU.out (sort_both P.flatten).2.symm key seq).symm
        have HC2 : Hid (cellL (findL FF key seq) key seq = x) := by show _ = _; rw [cell_found]; exact HC1.out
        have HC0 : Hid (cellL P.flatten key seq = x) := hx.symm
        clear hx
        obtain ⟨xb, xt, xn⟩ := x
        have HTX : Hid (∀ e ∈ FF, e.2.2.2.1.size ≤ 281474976710656) := fun e he => (HSM.out e (by rw [HF.out] at he; exact (sort_both _).2.mem_iff.1 he)).2
        have CA : Hid (∀ w', Below W.heap.size W w' → Calls Try.prog 21 #[.slice (some ⟨gf, 0, none⟩) nR nR, .string key, .int .i64 seq] w' fun e w'' => e = .returned (.agg #[.bool xb, .string xt, .int .i64 xn]) ∧ Below w'.heap.size w' w'') := fun w' kk => by
          have := implCellAll _ _ _ FF key seq w' (HO7.out.keep kk) (by omega) HTX.out
          rw [HC1.out] at this
          exact this
        have CB : Hid (∀ w', Below W.heap.size W w' → Calls Try.prog 21 #[.slice (some ⟨g, 0, none⟩) nR c0, .string key, .int .i64 seq] w' fun e w'' => e = .returned (.agg #[.bool xb, .string xt, .int .i64 xn]) ∧ Below w'.heap.size w' w'') := fun w' kk => by
          have := implCellAll _ _ _ P.flatten key seq w' (HX7.out.keep kk) (by omega) (fun e he => (HSM.out e he).2)
          rw [HC0.out] at this
          exact this
        have CF : Hid (∀ w', Below W.heap.size W w' → Calls Try.prog 22 #[.agg #[.slice aR nR cR, .int .i64 M], .string key, .int .i64 seq] w' fun e w'' => ∃ a3 n3 c3, e = .returned (.slice a3 n3 c3) ∧ EntsAt w'' a3 n3 c3 (findL FF key seq) ∧ n3 ≤ 16 ∧ Below w'.heap.size w' w'') := fun w' kk => by
          refine (implFind _ _ _ FF M key seq w' (ER.out.keep kk) (by omega)).mono ?_
          intro e w'' hfv
          obtain ⟨a3, n3, c3, rfl, hO3, hb3⟩ := foundV_own hfv
          have hl3 := hO3.len
          rw [found_yes HRB.out] at hl3 hO3
          have h5 := find_len FF key seq
          have h6 := HRN.out
          exact ⟨a3, n3, c3, rfl, hO3.entsAt, by omega, hb3⟩
        have heq := eql_cell_same xb xt xn
        go_upto_region 16 with fail
        rw [← HW.out, ← HY.out]
        clear HW HY
        go_wp2_with fail
        refine (wpEnts_any _ _ _ _ _ _ FF FF W ER.out HO7.out).mono ?_
        rintro e w7 ⟨rfl, hb7⟩
        rw [decide_eq_true rfl]
        have K7 : Hid (Below W.heap.size W w7) := hb7
        clear hb7
        go_wp2_with fail
        refine (CA.out w7 K7.out).mono ?_
        rintro e w8 ⟨rfl, hb8⟩
        have K8 : Hid (Below W.heap.size W w8) := K7.out.trans (hb8.mono K7.out.size)
        clear hb8 K7
        go_wp2_with fail
        refine (CB.out w8 K8.out).mono ?_
        rintro e w9 ⟨rfl, hb9⟩
        have K9 : Hid (Below W.heap.size W w9) := K8.out.trans (hb9.mono K8.out.size)
        have y0 := cell_later K9.out x0
        have y1 := cell_later K9.out x1
        have zy : Y < w9.heap.size := World.block_lt_of_cell? _ _ y0
        clear hb9 K8
        go_wp2_with fail
        refine (CF.out w9 K9.out).mono ?_
        rintro e w10 ⟨a3, n3, c3, rfl, hE3, hn3, hb10⟩
        have K10 : Hid (Below W.heap.size W w10) := K9.out.trans (hb10.mono K9.out.size)
        have CG : Calls Try.prog 21 #[.slice a3 n3 c3, .string key, .int .i64 seq] w10 fun e w'' => e = .returned (.agg #[.bool xb, .string xt, .int .i64 xn]) ∧ Below w10.heap.size w10 w'' := by
          have := implCellAll a3 n3 c3 (findL FF key seq) key seq w10 hE3 (by omega) (fun e he => HTX.out e (find_mem he))
          rw [HC2.out] at this
          exact this
        clear hb10 K9 hE3 y0 y1 zy
        go_wp2_with fail
        refine CG.mono ?_
        rintro e w11 ⟨rfl, hb11⟩
        have K11 : Hid (Below W.heap.size W w11) := K10.out.trans (hb11.mono K10.out.size)
        clear hb11 K10 CG
        go_wp2_with fail
        refine (CB.out w11 K11.out).mono ?_
        rintro e w12 ⟨rfl, hb12⟩
        have K12 : Hid (Below W.heap.size W w12) := K11.out.trans (hb12.mono K11.out.size)
        clear hb12 K11
        go_wp2
        go_ret
        exact ⟨rfl, HB7.out.trans (K12.out.mono HB7.out.size)⟩
end Go.Proofs.Ytkdalacclafihaa
