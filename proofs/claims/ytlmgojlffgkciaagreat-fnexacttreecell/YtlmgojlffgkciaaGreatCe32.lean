/-
  The library's merging of two neighbouring stretches of a row of which one has one entry, by walks of its Go text.
-/
import Derived.Deep.LoopGhost
import Derived.Test.YtlmgojlffgkciaaGreatCe31
namespace Go.Proofs.YtlmgojlffgkciaaGreat
open Go.RowKit
set_option maxRecDepth 100000
set_option maxHeartbeats 16000000
attribute [local go_sem] Oper.semAt_some
theorem grown_belowE {w w' : World} {g : Nat} (hb : Below w.heap.size w w') : w.grownBy w' (some g) := ⟨hb.os, hb.tape, hb.output, hb.size, fun k hk _ => hb.block k hk⟩
theorem implSeqB (ka ta kb tb : ByteArray) (qa da na qb db nb : Int) (w : World) :
    Calls Tryz.prog 137 #[.agg #[.string ka, .int .i64 qa, .int .i64 da, .string ta, .int .i64 na], .agg #[.string kb, .int .i64 qb, .int .i64 db, .string tb, .int .i64 nb]] w fun e w' => e = .returned (.int .i64 (Lib.compareInt qa qb)) ∧ Below w.heap.size w w' := by
  obtain ⟨D, hD⟩ : ∃ D, D = Lib.compareInt qa qb := ⟨_, rfl⟩
  have c2 : ∀ w, Calls Tryz.prog 174 #[.int .i64 qa, .int .i64 qb] w fun e w' => e = .returned (.int .i64 D) ∧ w' = w := by rw [hD]; exact intCompare qa qb
  rw [← hD]
  clear hD
  go_enter Tryz.func137, Tryz.ntmps137
  go_wp2_with fail
  refine (c2 _).mono ?_
  rintro e w' ⟨rfl, rfl⟩
  go_wp2
  go_ret
  exact ⟨rfl, ((Below.refl _ _).alloc (Nat.le_refl _) _).alloc (by simp) _⟩
theorem cmp_lt (a b : Int) : Lib.compareInt a b < 0 ↔ a < b := by
  unfold Lib.compareInt
  by_cases h : a < b
  · simp [h]
  · by_cases h2 : a > b <;> simp [h, h2]
theorem up_left {B : List EntD} {x y : EntD} {m h k : Nat} (hB : Asc B) (hy : B[h - m]? = some y) (hl : y.2.1 < x.2.1) (hk : k - m = h - m + 1) : ∀ e ∈ B.take (k - m), e.2.1 < x.2.1 := by
  intro e he
  rw [hk] at he
  obtain ⟨i, hi, rfl⟩ := List.mem_iff_getElem.1 he
  simp only [List.getElem_take] at *
  obtain ⟨hy1, hy2⟩ := List.getElem?_eq_some_iff.1 hy
  have hi' : i < h - m + 1 := by simp at hi; omega
  by_cases hih : i = h - m
  · subst hih; rw [hy2]; exact hl
  · have := List.pairwise_iff_getElem.1 hB i (h - m) (by omega) hy1 (by omega)
    rw [hy2] at this
    omega
theorem down_left {B : List EntD} {x y : EntD} {m h : Nat} (hB : Asc B) (hy : B[h - m]? = some y) (hl : x.2.1 ≤ y.2.1) : ∀ e ∈ B.drop (h - m), x.2.1 ≤ e.2.1 := by
  intro e he
  obtain ⟨i, hi, rfl⟩ := List.mem_iff_getElem.1 he
  simp only [List.getElem_drop] at *
  obtain ⟨hy1, hy2⟩ := List.getElem?_eq_some_iff.1 hy
  simp at hi
  by_cases hih : i = 0
  · subst hih; simp only [Nat.add_zero]; rw [hy2]; exact hl
  · have := List.pairwise_iff_getElem.1 hB (h - m) (h - m + i) hy1 (by omega) (by omega)
    rw [hy2] at this
    omega
theorem symOneL (base g n c : Nat) (Z B Y : List EntD) (x : EntD) (a m b : Nat) (w : World) (hO : OwnE w base g n c (Z ++ (x :: (B ++ Y)))) (hB : Asc B) (ha : a = Z.length) (hm : m = a + 1) (hb : b = m + B.length) (hn : n ≤ 1048576) :
    Calls Tryz.prog 196 #[.slice (some ⟨g, 0, none⟩) n c, .int .i64 a, .int .i64 m, .int .i64 b, .func (.func 137) #[] #[]] w fun e w' => e = .returned (.tuple #[]) ∧ OwnE w' base g n c (Z ++ (mrg [x] B ++ Y)) ∧ w.grownBy w' (some g) := by
  have HAB : Hid (Asc B) := hB
  have hl := hO.len
  simp only [List.length_append, List.length_cons] at hl
  have hcb := hO.entsAt.big
  have hcr := hO.entsAt.room
  unfold maxLen at hcb
  have HA : Hid (a = Z.length) := ha
  have HBL : Hid (b = m + B.length) := hb
  have HO : Hid (OwnE w base g n c (Z ++ (x :: (B ++ Y)))) := hO
  have hbn : b ≤ n := by omega
  have hmb : m ≤ b := by omega
  have ham : a < m := by omega
  have HM1 : Hid (m = a + 1) := hm
  have hma : IntKind.i64.wrap ((m : Int) - (a : Int)) = 1 := by rw [IntKind.wrap_i64]; omega
  clear hO hB ha hb hl hm
  go_enter Tryz.func196, Tryz.ntmps196
  go_wp2
  clear hma
  go_loopw [10, 11] (fun iv jv wr => ∃ i j : Nat, iv = .int .i64 i ∧ jv = .int .i64 j ∧ m ≤ i ∧ i ≤ j ∧ j ≤ b ∧ OwnE wr base g n c (Z ++ (x :: (B ++ Y))) ∧ w.grownBy wr (some g) ∧ (∀ e ∈ B.take (i - m), e.2.1 < x.2.1) ∧ (∀ e ∈ B.drop (j - m), x.2.1 ≤ e.2.1)) (fun iv jv _ => (intOf jv).toNat - (intOf iv).toNat)
  case atStart => exact ⟨m, b, rfl, rfl, Nat.le_refl _, hmb, Nat.le_refl _, HO.out, ⟨rfl, rfl, rfl, Nat.le_refl _, fun _ _ _ => rfl⟩, by rw [Nat.sub_self]; simp, by rw [List.drop_of_length_le (by have := HBL.out; omega)]; simp⟩
  case round =>
    obtain ⟨i, j, rfl, rfl, hmi, hij, hjb, hO1, hG1, h1, h2⟩ := hrel
    have HO1 : Hid (OwnE wr base g n c (Z ++ (x :: (B ++ Y)))) := hO1
    have HG1 : Hid (w.grownBy wr (some g)) := hG1
    have H1 : Hid (∀ e ∈ B.take (i - m), e.2.1 < x.2.1) := h1
    have H2 : Hid (∀ e ∈ B.drop (j - m), x.2.1 ≤ e.2.1) := h2
    clear hO1 hG1 h1 h2 HO
    by_cases hlt : i < j
    · have hltI : (i : Int) < (j : Int) := by omega
      obtain ⟨H, hH⟩ : ∃ H, H = (i + j) / 2 := ⟨_, rfl⟩
      have hH1 : i ≤ H := by omega
      have hH2 : H < j := by omega
      have eH : ((i : Int) + (j : Int)) / 2 = (H : Int) := by omega
      obtain ⟨y, hy⟩ : ∃ y, B[H - m]? = some y := ⟨_, List.getElem?_eq_getElem (by have := HBL.out; omega)⟩
      have HYB : Hid (B[H - m]? = some y) := hy
      have HDY : (Z ++ (x :: (B ++ Y)))[H]? = some y := by
        have := HA.out
        have := HM1.out
        rw [List.getElem?_append_right (by omega), show H - Z.length = H - m + 1 by omega, List.getElem?_cons_succ, List.getElem?_append_left (by have := (List.getElem?_eq_some_iff.1 hy).1; omega)]
        exact hy
      have HDX : (Z ++ (x :: (B ++ Y)))[a]? = some x := by
        rw [HA.out]; simp
      obtain ⟨C, hC⟩ : ∃ C, C = Lib.compareInt y.2.1 x.2.1 := ⟨_, rfl⟩
      have HC : Hid ((C < 0 → y.2.1 < x.2.1) ∧ (y.2.1 < x.2.1 → C < 0)) := by rw [hC]; exact ⟨(cmp_lt _ _).1, (cmp_lt _ _).2⟩
      have CQ0 : ∀ w, Calls Tryz.prog 137 #[.agg #[.string y.1, .int .i64 y.2.1, .int .i64 y.2.2.1, .string y.2.2.2.1, .int .i64 y.2.2.2.2], .agg #[.string x.1, .int .i64 x.2.1, .int .i64 x.2.2.1, .string x.2.2.2.1, .int .i64 x.2.2.2.2]] w fun e w' => e = .returned (.int .i64 C) ∧ Below w.heap.size w w' := by rw [hC]; exact fun w => implSeqB y.1 y.2.2.2.1 x.1 x.2.2.2.1 y.2.1 y.2.2.1 y.2.2.2.2 x.2.1 x.2.2.1 x.2.2.2.2 w
      obtain ⟨s, q, d, t, nn⟩ := y
      obtain ⟨s', q', d', t', nn'⟩ := x
      have HX : Hid ((Z ++ ((s', q', d', t', nn') :: (B ++ Y)))[H]? = some (s, q, d, t, nn)) := HDY
      have HY : Hid ((Z ++ ((s', q', d', t', nn') :: (B ++ Y)))[a]? = some (s', q', d', t', nn')) := HDX
      have CQ : Hid (∀ w, Calls Tryz.prog 137 #[.agg #[.string s, .int .i64 q, .int .i64 d, .string t, .int .i64 nn], .agg #[.string s', .int .i64 q', .int .i64 d', .string t', .int .i64 nn']] w fun e w' => e = .returned (.int .i64 C) ∧ Below w.heap.size w w') := CQ0
      have hHl : (H : Int) < (n : Int) := by omega
      have hal : (a : Int) < (n : Int) := by omega
      have k0 : OwnE wr.drew base g n c (Z ++ ((s', q', d', t', nn') :: (B ++ Y))) := HO1.out.below (Below.refl _ _).drew
      have gd : w.grownBy wr.drew (some g) := grown_trans HG1.out (grown_drewE _ _)
      clear hH hy HDY HDX hC CQ0 HO1 HG1
      go_wp2_with fail
      refine wp_region_held_drew (S := (fun w' => g < w'.heap.size)) (by kernel_rfl) (by exact k0.lt.2) (fun hHeld => ?_)
      generalize wr.drew = wd at k0 gd hHeld ⊢
      refine tkL 0 hHeld ?_; try go_frame
      refine tkL 1 hHeld ?_; try go_frame
      refine tkL 2 hHeld ?_; try go_frame
      refine tkL 3 hHeld ?_; try go_frame
      refine tkL 5 hHeld ?_; try go_frame
      refine tkL 6 hHeld ?_; try go_frame
      refine tkL 7 hHeld ?_; try go_frame
      refine wpAnyH_ready (rs := [4, 8]) (by kernel_rfl) (by simp) ?_
      refine consL rfl (fun K hK => ?_) (consL rfl (fun K hK => ?_) AllReadyH.nil)
      · obtain ⟨lc0, lc1, lc2, lc3, lc4⟩ := k0.at5 HX.out
        have lcl := k0.lt.2
        go_simp
        clear lc0 lc1 lc2 lc3 lc4 lcl
        refine hK.out _ _ (by exact k0.lt.2) (fun hHeld => ?_)
        clear hK K
        try go_frame
        refine wpAnyH_ready (rs := [8]) (by kernel_rfl) (by simp) ?_
        refine consL rfl (fun K hK => ?_) AllReadyH.nil
        obtain ⟨lc0, lc1, lc2, lc3, lc4⟩ := k0.at5 HY.out
        have lcl := k0.lt.2
        go_simp
        clear lc0 lc1 lc2 lc3 lc4 lcl
        refine hK.out _ _ (by exact k0.lt.2) (fun hHeld => ?_)
        clear hK K
        try go_frame
        refine wpAnyH_ready (rs := [9]) (by kernel_rfl) (by simp) ?_
        refine consL rfl (fun K hK => ?_) AllReadyH.nil
        go_simp
        refine (CQ.out _).mono ?_
        rintro e w1 ⟨rfl, b1⟩
        have k1 := k0.below b1
        have gw : w.grownBy w1 (some g) := grown_trans gd (grown_belowE b1)
        go_wp2_with fail
        refine hK.out _ _ (by exact k1.lt.2) (fun hHeld => ?_)
        clear hK K
        try go_frame
        refine tkL 10 hHeld ?_; try go_frame
        refine wpAnyH_done (by kernel_rfl) ?_ _
        have HK1 : Hid (OwnE w1 base g n c (Z ++ ((s', q', d', t', nn') :: (B ++ Y)))) := k1
        have HG1 : Hid (w.grownBy w1 (some g)) := gw
        clear k0 gd k1 gw hHeld b1
        by_cases hlo : C < 0
        · have HL : Hid ((s, q, d, t, nn).2.1 < (s', q', d', t', nn').2.1) := HC.out.1 hlo
          go_wp2
          go_roundw
          case rel => exact ⟨H + 1, j, by go_num, rfl, by omega, by omega, hjb, HK1.out, HG1.out, up_left HAB.out HYB.out HL.out (by omega), H2.out⟩
          case measure => simp [intOf]; omega
        · have HL : Hid ((s', q', d', t', nn').2.1 ≤ (s, q, d, t, nn).2.1) := Int.not_lt.1 (fun h => hlo (HC.out.2 h))
          go_wp2
          go_roundw
          case rel => exact ⟨i, H, rfl, rfl, hmi, by omega, by omega, HK1.out, HG1.out, H1.out, down_left HAB.out HYB.out HL.out⟩
          case measure => simp [intOf]; omega
      · obtain ⟨lc0, lc1, lc2, lc3, lc4⟩ := k0.at5 HY.out
        have lcl := k0.lt.2
        go_simp
        clear lc0 lc1 lc2 lc3 lc4 lcl
        refine hK.out _ _ (by exact k0.lt.2) (fun hHeld => ?_)
        clear hK K
        try go_frame
        refine wpAnyH_ready (rs := [4]) (by kernel_rfl) (by simp) ?_
        refine consL rfl (fun K hK => ?_) AllReadyH.nil
        obtain ⟨lc0, lc1, lc2, lc3, lc4⟩ := k0.at5 HX.out
        have lcl := k0.lt.2
        go_simp
        clear lc0 lc1 lc2 lc3 lc4 lcl
        refine hK.out _ _ (by exact k0.lt.2) (fun hHeld => ?_)
        clear hK K
        try go_frame
        refine wpAnyH_ready (rs := [9]) (by kernel_rfl) (by simp) ?_
        refine consL rfl (fun K hK => ?_) AllReadyH.nil
        go_simp
        refine (CQ.out _).mono ?_
        rintro e w1 ⟨rfl, b1⟩
        have k1 := k0.below b1
        have gw : w.grownBy w1 (some g) := grown_trans gd (grown_belowE b1)
        go_wp2_with fail
        refine hK.out _ _ (by exact k1.lt.2) (fun hHeld => ?_)
        clear hK K
        try go_frame
        refine tkL 10 hHeld ?_; try go_frame
        refine wpAnyH_done (by kernel_rfl) ?_ _
        have HK1 : Hid (OwnE w1 base g n c (Z ++ ((s', q', d', t', nn') :: (B ++ Y)))) := k1
        have HG1 : Hid (w.grownBy w1 (some g)) := gw
        clear k0 gd k1 gw hHeld b1
        by_cases hlo : C < 0
        · have HL : Hid ((s, q, d, t, nn).2.1 < (s', q', d', t', nn').2.1) := HC.out.1 hlo
          go_wp2
          go_roundw
          case rel => exact ⟨H + 1, j, by go_num, rfl, by omega, by omega, hjb, HK1.out, HG1.out, up_left HAB.out HYB.out HL.out (by omega), H2.out⟩
          case measure => simp [intOf]; omega
        · have HL : Hid ((s', q', d', t', nn').2.1 ≤ (s, q, d, t, nn).2.1) := Int.not_lt.1 (fun h => hlo (HC.out.2 h))
          go_wp2
          go_roundw
          case rel => exact ⟨i, H, rfl, rfl, hmi, by omega, by omega, HK1.out, HG1.out, H1.out, down_left HAB.out HYB.out HL.out⟩
          case measure => simp [intOf]; omega
    · have hltI : ¬ (i : Int) < (j : Int) := by omega
      have hije : i = j := by omega
      subst hije
      obtain ⟨B1, hB1⟩ : ∃ B1, B1 = B.take (i - m) := ⟨_, rfl⟩
      obtain ⟨B2, hB2⟩ : ∃ B2, B2 = B.drop (i - m) := ⟨_, rfl⟩
      have hBB : B = B1 ++ B2 := by rw [hB1, hB2, List.take_append_drop]
      have HRES : Hid (mrg [x] B = B1 ++ x :: B2) := by
        show mrg [x] B = _
        rw [hBB]
        exact mrg_one_left x B1 B2 (by rw [hB1]; exact H1.out) (by rw [hB2]; exact fun e he => Int.not_lt.2 (H2.out e he))
      have HL1 : Hid (B1.length = i - m) := by show B1.length = i - m; rw [hB1, List.length_take]; have := HBL.out; omega
      have HO2 : Hid (OwnE wr base g n c (Z ++ (B1.take 0 ++ x :: (B1.drop 0 ++ (B2 ++ Y))))) := by have := HO1.out; rw [hBB] at this; simpa [Hid] using this
      have hi1 : IntKind.i64.wrap ((i : Int) - 1) = (i : Int) - 1 := by rw [IntKind.wrap_i64]; omega
      clear hB1 hB2 hBB H1 H2 HO1
      go_wp2
      go_loopw [13] (fun kv wq => ∃ T : Nat, T ≤ i - m ∧ kv = .int .i64 ((a : Int) + (T : Int)) ∧ OwnE wq base g n c (Z ++ (B1.take T ++ x :: (B1.drop T ++ (B2 ++ Y)))) ∧ w.grownBy wq (some g)) (fun kv _ => i - (intOf kv).toNat)
      case atStart => exact ⟨0, Nat.zero_le _, by simp, HO2.out, HG1.out⟩
      case round =>
      obtain ⟨T, hT, rfl, hOT, hGT⟩ := hrel
      have HOT : Hid (OwnE wr base g n c (Z ++ (B1.take T ++ x :: (B1.drop T ++ (B2 ++ Y))))) := hOT
      have HGT : Hid (w.grownBy wr (some g)) := hGT
      clear hOT hGT HO2 HG1
      have hm1 := HM1.out
      by_cases hT1 : T < i - m
      · have hTI : (a : Int) + (T : Int) < (i : Int) - 1 := by omega
        obtain ⟨y, hy⟩ : ∃ y, B1[T]? = some y := ⟨_, List.getElem?_eq_getElem (by rw [HL1.out]; exact hT1)⟩
        have hd1 : B1.drop T = y :: B1.drop (T + 1) := by
          obtain ⟨h1, h2⟩ := List.getElem?_eq_some_iff.1 hy
          rw [List.drop_eq_getElem_cons h1, h2]
        have ht1 : B1.take (T + 1) = B1.take T ++ [y] := by rw [List.take_add_one, hy]; rfl
        have hD : Z ++ (B1.take T ++ x :: (B1.drop T ++ (B2 ++ Y))) = (Z ++ B1.take T) ++ x :: y :: (B1.drop (T + 1) ++ (B2 ++ Y)) := by rw [hd1]; simp only [List.append_assoc, List.cons_append]
        have hlen : (Z ++ B1.take T).length = a + T := by have := HA.out; have := HL1.out; simp; omega
        have HDX : (Z ++ (B1.take T ++ x :: (B1.drop T ++ (B2 ++ Y))))[a + T]? = some x := by rw [hD, ← hlen]; simp
        have HDY : (Z ++ (B1.take T ++ x :: (B1.drop T ++ (B2 ++ Y))))[a + T + 1]? = some y := by
          rw [hD, ← hlen, List.getElem?_append_right (by omega), Nat.add_sub_cancel_left]
          rfl
        have HSW0 : (((Z ++ (B1.take T ++ x :: (B1.drop T ++ (B2 ++ Y)))).set (a + T) y).set (a + T + 1) x) = Z ++ (B1.take (T + 1) ++ x :: (B1.drop (T + 1) ++ (B2 ++ Y))) := by
          have := set_two (Z ++ B1.take T) [] (B1.drop (T + 1) ++ (B2 ++ Y)) x y
          simp only [List.nil_append, List.length_nil, Nat.add_zero, hlen] at this
          rw [hD, this, ht1]
          simp only [List.append_assoc, List.cons_append, List.nil_append]
        obtain ⟨s, q, d, t, nn⟩ := x
        obtain ⟨s', q', d', t', nn'⟩ := y
        have HX : Hid ((Z ++ (B1.take T ++ (s, q, d, t, nn) :: (B1.drop T ++ (B2 ++ Y))))[a + T]? = some (s, q, d, t, nn)) := HDX
        have HY : Hid ((Z ++ (B1.take T ++ (s, q, d, t, nn) :: (B1.drop T ++ (B2 ++ Y))))[a + T + 1]? = some (s', q', d', t', nn')) := HDY
        have HSW : Hid ((((Z ++ (B1.take T ++ (s, q, d, t, nn) :: (B1.drop T ++ (B2 ++ Y)))).set (a + T) (s', q', d', t', nn')).set (a + T + 1) (s, q, d, t, nn)) = Z ++ (B1.take (T + 1) ++ (s, q, d, t, nn) :: (B1.drop (T + 1) ++ (B2 ++ Y)))) := HSW0
        have HI : Hid (a + T < n) := by show a + T < n; omega
        have HJ : Hid (a + T + 1 < n) := by show a + T + 1 < n; omega
        have HIJ : Hid (a + T ≠ a + T + 1) := by show a + T ≠ a + T + 1; omega
        have ea : ((a : Int) + (T : Int)).toNat = a + T := by omega
        have pa : (0 : Int) ≤ (a : Int) + (T : Int) := by omega
        have ba : (a : Int) + (T : Int) < (n : Int) := by omega
        have ec : ((a : Int) + (T : Int) + 1).toNat = a + T + 1 := by omega
        have pc : (0 : Int) ≤ (a : Int) + (T : Int) + 1 := by omega
        have bc : (a : Int) + (T : Int) + 1 < (n : Int) := by omega
        have rc : IntKind.i64.wrap ((a : Int) + (T : Int) + 1) = (a : Int) + (T : Int) + 1 := by rw [IntKind.wrap_i64]; omega
        have k0 : OwnE wr.drew base g n c (Z ++ (B1.take T ++ (s, q, d, t, nn) :: (B1.drop T ++ (B2 ++ Y)))) := HOT.out.below (Below.refl _ _).drew
        have gd : w.grownBy wr.drew (some g) := grown_trans HGT.out (grown_drewE _ _)
        clear hd1 ht1 hD hlen HDX HDY HSW0 hy HOT hm1
        go_wp2_with fail
        refine wp_region_held_drew (S := (fun w' => g < w'.heap.size)) (by kernel_rfl) (by exact k0.lt.2) (fun hHeld => ?_)
        generalize wr.drew = wd at k0 gd hHeld ⊢
        refine tkL 0 hHeld ?_; try go_frame
        refine tkL 1 hHeld ?_; try go_frame
        refine tkL 2 hHeld ?_; try go_frame
        refine tkL 3 hHeld ?_; try go_frame
        refine tkL 4 hHeld ?_; try go_frame
        refine tkL 5 hHeld ?_; try go_frame
        refine tkL 6 hHeld ?_; try go_frame
        refine tkL 7 hHeld ?_; try go_frame
        refine tkL 8 hHeld ?_; try go_frame
        refine tkL 10 hHeld ?_; try go_frame
        refine tkL 11 hHeld ?_; try go_frame
        refine tkL 12 hHeld ?_; try go_frame
        refine wpAnyH_ready (rs := [9, 13]) (by kernel_rfl) (by simp) ?_
        refine consL rfl (fun K hK => ?_) (consL rfl (fun K hK => ?_) AllReadyH.nil)
        · obtain ⟨lc0, lc1, lc2, lc3, lc4⟩ := k0.at5 HY.out
          have lcl := k0.lt.2
          go_simp
          clear lc0 lc1 lc2 lc3 lc4 lcl
          refine hK.out _ _ (by exact k0.lt.2) (fun hHeld => ?_)
          clear hK K
          try go_frame
          refine wpAnyH_ready (rs := [13]) (by kernel_rfl) (by simp) ?_
          refine consL rfl (fun K hK => ?_) AllReadyH.nil
          obtain ⟨lc0, lc1, lc2, lc3, lc4⟩ := k0.at5 HX.out
          have lcl := k0.lt.2
          go_simp
          clear lc0 lc1 lc2 lc3 lc4 lcl
          refine hK.out _ _ (by exact k0.lt.2) (fun hHeld => ?_)
          clear hK K
          try go_frame
          refine tkL 14 hHeld ?_; try go_frame
          refine wpAnyH_ready (rs := [15]) (by kernel_rfl) (by simp) ?_
          refine consL rfl (fun K hK => ?_) AllReadyH.nil
          obtain ⟨lc0, lc1, lc2, lc3, lc4⟩ := k0.at5 HX.out
          have lcl := k0.lt.2
          have lf := k0.owns.frozenAt
          have f0 := lf ((a + T) * 5)
          have f1 := lf ((a + T) * 5 + 1)
          have f2 := lf ((a + T) * 5 + 2)
          have f3 := lf ((a + T) * 5 + 3)
          have f4 := lf ((a + T) * 5 + 4)
          clear lf
          go_simp
          clear lc0 lc1 lc2 lc3 lc4 lcl
          clear f0 f1 f2 f3 f4
          have k1 := k0.setE (i := a + T) (e := (s', q', d', t', nn')) HI.out (k0.ents _ (List.mem_of_getElem? HY.out))
          refine hK.out _ (setE wd g (a + T) (s', q', d', t', nn')) (by exact k1.lt.2) (fun hHeld => ?_)
          clear hK K
          have gw1 := grown_setE wd g (a + T) (s', q', d', t', nn')
          generalize setE wd g (a + T) (s', q', d', t', nn') = w1' at k1 gw1 hHeld ⊢
          try go_frame
          refine tkL 16 hHeld ?_; try go_frame
          refine wpAnyH_ready (rs := [17]) (by kernel_rfl) (by simp) ?_
          refine consL rfl (fun K hK => ?_) AllReadyH.nil
          have HY1 : ((Z ++ (B1.take T ++ (s, q, d, t, nn) :: (B1.drop T ++ (B2 ++ Y)))).set (a + T) (s', q', d', t', nn'))[a + T + 1]? = some (s', q', d', t', nn') := by rw [List.getElem?_set_ne HIJ.out]; exact HY.out
          obtain ⟨lc0, lc1, lc2, lc3, lc4⟩ := k1.at5 HY1
          have lcl := k1.lt.2
          have lf := k1.owns.frozenAt
          have f0 := lf ((a + T + 1) * 5)
          have f1 := lf ((a + T + 1) * 5 + 1)
          have f2 := lf ((a + T + 1) * 5 + 2)
          have f3 := lf ((a + T + 1) * 5 + 3)
          have f4 := lf ((a + T + 1) * 5 + 4)
          clear lf
          go_simp
          clear lc0 lc1 lc2 lc3 lc4 lcl
          clear f0 f1 f2 f3 f4
          have k2 := k1.setE (i := a + T + 1) (e := (s, q, d, t, nn)) HJ.out (k0.ents _ (List.mem_of_getElem? HX.out))
          refine hK.out _ (setE w1' g (a + T + 1) (s, q, d, t, nn)) (by exact k2.lt.2) (fun hHeld => ?_)
          clear hK K
          have gw : wd.grownBy (setE w1' g (a + T + 1) (s, q, d, t, nn)) (some g) := grown_trans gw1 (grown_setE w1' g (a + T + 1) (s, q, d, t, nn))
          generalize setE w1' g (a + T + 1) (s, q, d, t, nn) = w2' at k2 gw hHeld ⊢
          try go_frame
          refine wpAnyH_done (by kernel_rfl) ?_ _
          have HK2 : Hid (OwnE w2' base g n c (Z ++ (B1.take (T + 1) ++ (s, q, d, t, nn) :: (B1.drop (T + 1) ++ (B2 ++ Y))))) := by have := k2; rw [HSW.out] at this; exact this
          have HG2 : Hid (w.grownBy w2' (some g)) := grown_trans gd gw
          clear k2 gw k0 k1 gw1 gd hHeld
          go_wp2
          go_roundw
          case rel => exact ⟨T + 1, by omega, by first | go_num | (congr 1; omega), HK2.out, HG2.out⟩
          case measure => simp [intOf]; omega
        · obtain ⟨lc0, lc1, lc2, lc3, lc4⟩ := k0.at5 HX.out
          have lcl := k0.lt.2
          go_simp
          clear lc0 lc1 lc2 lc3 lc4 lcl
          refine hK.out _ _ (by exact k0.lt.2) (fun hHeld => ?_)
          clear hK K
          try go_frame
          refine wpAnyH_ready (rs := [9]) (by kernel_rfl) (by simp) ?_
          refine consL rfl (fun K hK => ?_) AllReadyH.nil
          obtain ⟨lc0, lc1, lc2, lc3, lc4⟩ := k0.at5 HY.out
          have lcl := k0.lt.2
          go_simp
          clear lc0 lc1 lc2 lc3 lc4 lcl
          refine hK.out _ _ (by exact k0.lt.2) (fun hHeld => ?_)
          clear hK K
          try go_frame
          refine tkL 14 hHeld ?_; try go_frame
          refine wpAnyH_ready (rs := [15]) (by kernel_rfl) (by simp) ?_
          refine consL rfl (fun K hK => ?_) AllReadyH.nil
          obtain ⟨lc0, lc1, lc2, lc3, lc4⟩ := k0.at5 HX.out
          have lcl := k0.lt.2
          have lf := k0.owns.frozenAt
          have f0 := lf ((a + T) * 5)
          have f1 := lf ((a + T) * 5 + 1)
          have f2 := lf ((a + T) * 5 + 2)
          have f3 := lf ((a + T) * 5 + 3)
          have f4 := lf ((a + T) * 5 + 4)
          clear lf
          go_simp
          clear lc0 lc1 lc2 lc3 lc4 lcl
          clear f0 f1 f2 f3 f4
          have k1 := k0.setE (i := a + T) (e := (s', q', d', t', nn')) HI.out (k0.ents _ (List.mem_of_getElem? HY.out))
          refine hK.out _ (setE wd g (a + T) (s', q', d', t', nn')) (by exact k1.lt.2) (fun hHeld => ?_)
          clear hK K
          have gw1 := grown_setE wd g (a + T) (s', q', d', t', nn')
          generalize setE wd g (a + T) (s', q', d', t', nn') = w1' at k1 gw1 hHeld ⊢
          try go_frame
          refine tkL 16 hHeld ?_; try go_frame
          refine wpAnyH_ready (rs := [17]) (by kernel_rfl) (by simp) ?_
          refine consL rfl (fun K hK => ?_) AllReadyH.nil
          have HY1 : ((Z ++ (B1.take T ++ (s, q, d, t, nn) :: (B1.drop T ++ (B2 ++ Y)))).set (a + T) (s', q', d', t', nn'))[a + T + 1]? = some (s', q', d', t', nn') := by rw [List.getElem?_set_ne HIJ.out]; exact HY.out
          obtain ⟨lc0, lc1, lc2, lc3, lc4⟩ := k1.at5 HY1
          have lcl := k1.lt.2
          have lf := k1.owns.frozenAt
          have f0 := lf ((a + T + 1) * 5)
          have f1 := lf ((a + T + 1) * 5 + 1)
          have f2 := lf ((a + T + 1) * 5 + 2)
          have f3 := lf ((a + T + 1) * 5 + 3)
          have f4 := lf ((a + T + 1) * 5 + 4)
          clear lf
          go_simp
          clear lc0 lc1 lc2 lc3 lc4 lcl
          clear f0 f1 f2 f3 f4
          have k2 := k1.setE (i := a + T + 1) (e := (s, q, d, t, nn)) HJ.out (k0.ents _ (List.mem_of_getElem? HX.out))
          refine hK.out _ (setE w1' g (a + T + 1) (s, q, d, t, nn)) (by exact k2.lt.2) (fun hHeld => ?_)
          clear hK K
          have gw : wd.grownBy (setE w1' g (a + T + 1) (s, q, d, t, nn)) (some g) := grown_trans gw1 (grown_setE w1' g (a + T + 1) (s, q, d, t, nn))
          generalize setE w1' g (a + T + 1) (s, q, d, t, nn) = w2' at k2 gw hHeld ⊢
          try go_frame
          refine wpAnyH_done (by kernel_rfl) ?_ _
          have HK2 : Hid (OwnE w2' base g n c (Z ++ (B1.take (T + 1) ++ (s, q, d, t, nn) :: (B1.drop (T + 1) ++ (B2 ++ Y))))) := by have := k2; rw [HSW.out] at this; exact this
          have HG2 : Hid (w.grownBy w2' (some g)) := grown_trans gd gw
          clear k2 gw k0 k1 gw1 gd hHeld
          go_wp2
          go_roundw
          case rel => exact ⟨T + 1, by omega, by first | go_num | (congr 1; omega), HK2.out, HG2.out⟩
          case measure => simp [intOf]; omega
      · have hTI : ¬ (a : Int) + (T : Int) < (i : Int) - 1 := by omega
        have HD : Hid (OwnE wr base g n c (Z ++ (mrg [x] B ++ Y))) := by
          have := HOT.out
          rw [List.take_of_length_le (by rw [HL1.out]; omega), List.drop_of_length_le (by rw [HL1.out]; omega)] at this
          rw [HRES.out]
          simpa [Hid] using this
        clear HOT hm1
        go_wp2
        ((try simp only [Exit.inBlock, Exit.then]); refine bodyPost_ret (results_none rfl _ _ _) rfl ?_)
        exact ⟨rfl, HD.out, HGT.out⟩
theorem up_right {A : List EntD} {y z : EntD} {a h k : Nat} (hA : Asc A) (hz : A[h - a]? = some z) (hl : z.2.1 ≤ y.2.1) (hk : k - a = h - a + 1) : ∀ e ∈ A.take (k - a), e.2.1 ≤ y.2.1 := by
  intro e he
  rw [hk] at he
  obtain ⟨i, hi, rfl⟩ := List.mem_iff_getElem.1 he
  simp only [List.getElem_take] at *
  obtain ⟨hy1, hy2⟩ := List.getElem?_eq_some_iff.1 hz
  have hi' : i < h - a + 1 := by simp at hi; omega
  by_cases hih : i = h - a
  · subst hih; rw [hy2]; exact hl
  · have := List.pairwise_iff_getElem.1 hA i (h - a) (by omega) hy1 (by omega)
    rw [hy2] at this
    omega
theorem down_right {A : List EntD} {y z : EntD} {a h : Nat} (hA : Asc A) (hz : A[h - a]? = some z) (hl : y.2.1 < z.2.1) : ∀ e ∈ A.drop (h - a), y.2.1 < e.2.1 := by
  intro e he
  obtain ⟨i, hi, rfl⟩ := List.mem_iff_getElem.1 he
  simp only [List.getElem_drop] at *
  obtain ⟨hy1, hy2⟩ := List.getElem?_eq_some_iff.1 hz
  simp at hi
  by_cases hih : i = 0
  · subst hih; simp only [Nat.add_zero]; rw [hy2]; exact hl
  · have := List.pairwise_iff_getElem.1 hA (h - a) (h - a + i) hy1 (by omega) (by omega)
    rw [hy2] at this
    omega
theorem set_two_rev (X1 X3 : List EntD) (p q : EntD) : ((X1 ++ p :: q :: X3).set (X1.length + 1) p).set X1.length q = X1 ++ q :: p :: X3 := by
  rw [List.set_append_right _ _ (by omega), Nat.add_sub_cancel_left, List.set_cons_succ, List.set_cons_zero, List.set_append_right _ _ (Nat.le_refl _), Nat.sub_self, List.set_cons_zero]
theorem symOneR (base g n c : Nat) (Z A Y : List EntD) (y : EntD) (a m b : Nat) (w : World) (hO : OwnE w base g n c (Z ++ (A ++ (y :: Y)))) (hA : Asc A) (hA2 : 2 ≤ A.length) (ha : a = Z.length) (hm : m = a + A.length) (hb : b = m + 1) (hn : n ≤ 1048576) :
    Calls Tryz.prog 196 #[.slice (some ⟨g, 0, none⟩) n c, .int .i64 a, .int .i64 m, .int .i64 b, .func (.func 137) #[] #[]] w fun e w' => e = .returned (.tuple #[]) ∧ OwnE w' base g n c (Z ++ (mrg A [y] ++ Y)) ∧ w.grownBy w' (some g) := by
  have HAA : Hid (Asc A) := hA
  have hl := hO.len
  simp only [List.length_append, List.length_cons] at hl
  have hcb := hO.entsAt.big
  have hcr := hO.entsAt.room
  unfold maxLen at hcb
  have HA : Hid (a = Z.length) := ha
  have HAL : Hid (m = a + A.length) := hm
  have HO : Hid (OwnE w base g n c (Z ++ (A ++ (y :: Y)))) := hO
  have hbn : b ≤ n := by omega
  have hmb : m < b := by omega
  have ham : a ≤ m := by omega
  have HB1 : Hid (b = m + 1) := hb
  obtain ⟨ka, hka⟩ : ∃ ka, ka = A.length := ⟨_, rfl⟩
  have hma : IntKind.i64.wrap ((m : Int) - (a : Int)) = (ka : Int) := by rw [IntKind.wrap_i64]; omega
  have hk1 : ((ka : Int) == 1) = false := by simp; omega
  have hbm : IntKind.i64.wrap ((b : Int) - (m : Int)) = 1 := by rw [IntKind.wrap_i64]; omega
  clear hO hA ha hb hl hm hA2 hka
  go_enter Tryz.func196, Tryz.ntmps196
  go_wp2
  clear hma hbm
  go_loopw [14, 15] (fun iv jv wr => ∃ i j : Nat, iv = .int .i64 i ∧ jv = .int .i64 j ∧ a ≤ i ∧ i ≤ j ∧ j ≤ m ∧ OwnE wr base g n c (Z ++ (A ++ (y :: Y))) ∧ w.grownBy wr (some g) ∧ (∀ e ∈ A.take (i - a), e.2.1 ≤ y.2.1) ∧ (∀ e ∈ A.drop (j - a), y.2.1 < e.2.1)) (fun iv jv _ => (intOf jv).toNat - (intOf iv).toNat)
  case atStart => exact ⟨a, m, rfl, rfl, Nat.le_refl _, ham, Nat.le_refl _, HO.out, ⟨rfl, rfl, rfl, Nat.le_refl _, fun _ _ _ => rfl⟩, by rw [Nat.sub_self]; simp, by rw [List.drop_of_length_le (by have := HAL.out; omega)]; simp⟩
  case round =>
    obtain ⟨i, j, rfl, rfl, hai, hij, hjm, hO1, hG1, h1, h2⟩ := hrel
    have HO1 : Hid (OwnE wr base g n c (Z ++ (A ++ (y :: Y)))) := hO1
    have HG1 : Hid (w.grownBy wr (some g)) := hG1
    have H1 : Hid (∀ e ∈ A.take (i - a), e.2.1 ≤ y.2.1) := h1
    have H2 : Hid (∀ e ∈ A.drop (j - a), y.2.1 < e.2.1) := h2
    clear hO1 hG1 h1 h2 HO
    by_cases hlt : i < j
    · have hltI : (i : Int) < (j : Int) := by omega
      obtain ⟨H, hH⟩ : ∃ H, H = (i + j) / 2 := ⟨_, rfl⟩
      have hH1 : i ≤ H := by omega
      have hH2 : H < j := by omega
      have HHA : Hid (H + 1 - a = H - a + 1) := by show H + 1 - a = H - a + 1; omega
      have eH : ((i : Int) + (j : Int)) / 2 = (H : Int) := by omega
      obtain ⟨z, hz⟩ : ∃ z, A[H - a]? = some z := ⟨_, List.getElem?_eq_getElem (by have := HAL.out; omega)⟩
      have HZA : Hid (A[H - a]? = some z) := hz
      have HDZ : (Z ++ (A ++ (y :: Y)))[H]? = some z := by
        have := HA.out
        rw [List.getElem?_append_right (by omega), show H - Z.length = H - a by omega, List.getElem?_append_left ((List.getElem?_eq_some_iff.1 hz).1)]
        exact hz
      have HDY : (Z ++ (A ++ (y :: Y)))[m]? = some y := by
        have := HA.out
        have := HAL.out
        rw [List.getElem?_append_right (by omega), List.getElem?_append_right (by omega), show m - Z.length - A.length = 0 by omega]
        rfl
      obtain ⟨C, hC⟩ : ∃ C, C = Lib.compareInt y.2.1 z.2.1 := ⟨_, rfl⟩
      have HC : Hid ((C < 0 → y.2.1 < z.2.1) ∧ (y.2.1 < z.2.1 → C < 0)) := by rw [hC]; exact ⟨(cmp_lt _ _).1, (cmp_lt _ _).2⟩
      have CQ0 : ∀ w, Calls Tryz.prog 137 #[.agg #[.string y.1, .int .i64 y.2.1, .int .i64 y.2.2.1, .string y.2.2.2.1, .int .i64 y.2.2.2.2], .agg #[.string z.1, .int .i64 z.2.1, .int .i64 z.2.2.1, .string z.2.2.2.1, .int .i64 z.2.2.2.2]] w fun e w' => e = .returned (.int .i64 C) ∧ Below w.heap.size w w' := by rw [hC]; exact fun w => implSeqB y.1 y.2.2.2.1 z.1 z.2.2.2.1 y.2.1 y.2.2.1 y.2.2.2.2 z.2.1 z.2.2.1 z.2.2.2.2 w
      obtain ⟨s, q, d, t, nn⟩ := y
      obtain ⟨s', q', d', t', nn'⟩ := z
      have HX : Hid ((Z ++ (A ++ ((s, q, d, t, nn) :: Y)))[m]? = some (s, q, d, t, nn)) := HDY
      have HY : Hid ((Z ++ (A ++ ((s, q, d, t, nn) :: Y)))[H]? = some (s', q', d', t', nn')) := HDZ
      have CQ : Hid (∀ w, Calls Tryz.prog 137 #[.agg #[.string s, .int .i64 q, .int .i64 d, .string t, .int .i64 nn], .agg #[.string s', .int .i64 q', .int .i64 d', .string t', .int .i64 nn']] w fun e w' => e = .returned (.int .i64 C) ∧ Below w.heap.size w w') := CQ0
      have hHl : (H : Int) < (n : Int) := by omega
      have hml : (m : Int) < (n : Int) := by omega
      have k0 : OwnE wr.drew base g n c (Z ++ (A ++ ((s, q, d, t, nn) :: Y))) := HO1.out.below (Below.refl _ _).drew
      have gd : w.grownBy wr.drew (some g) := grown_trans HG1.out (grown_drewE _ _)
      clear hH hz HDY HDZ hC CQ0 HO1 HG1
      by_cases hlo : C < 0
      · have hd0 : decide (C < 0) = true := decide_eq_true hlo
        go_wp2_with fail
        refine wp_region_held_drew (S := (fun w' => g < w'.heap.size)) (by kernel_rfl) (by exact k0.lt.2) (fun hHeld => ?_)
        generalize wr.drew = wd at k0 gd hHeld ⊢
        refine tkL 0 hHeld ?_; try go_frame
        refine tkL 1 hHeld ?_; try go_frame
        refine tkL 2 hHeld ?_; try go_frame
        refine tkL 3 hHeld ?_; try go_frame
        refine tkL 5 hHeld ?_; try go_frame
        refine tkL 6 hHeld ?_; try go_frame
        refine tkL 7 hHeld ?_; try go_frame
        refine wpAnyH_ready (rs := [4, 8]) (by kernel_rfl) (by simp) ?_
        refine consL rfl (fun K hK => ?_) (consL rfl (fun K hK => ?_) AllReadyH.nil)
        · obtain ⟨lc0, lc1, lc2, lc3, lc4⟩ := k0.at5 HX.out
          have lcl := k0.lt.2
          go_simp
          clear lc0 lc1 lc2 lc3 lc4 lcl
          refine hK.out _ _ (by exact k0.lt.2) (fun hHeld => ?_)
          clear hK K
          try go_frame
          refine wpAnyH_ready (rs := [8]) (by kernel_rfl) (by simp) ?_
          refine consL rfl (fun K hK => ?_) AllReadyH.nil
          obtain ⟨lc0, lc1, lc2, lc3, lc4⟩ := k0.at5 HY.out
          have lcl := k0.lt.2
          go_simp
          clear lc0 lc1 lc2 lc3 lc4 lcl
          refine hK.out _ _ (by exact k0.lt.2) (fun hHeld => ?_)
          clear hK K
          try go_frame
          refine wpAnyH_ready (rs := [9]) (by kernel_rfl) (by simp) ?_
          refine consL rfl (fun K hK => ?_) AllReadyH.nil
          go_simp
          refine (CQ.out _).mono ?_
          rintro e w1 ⟨rfl, b1⟩
          have k1 := k0.below b1
          have gw : w.grownBy w1 (some g) := grown_trans gd (grown_belowE b1)
          go_wp2_with fail
          refine hK.out _ _ (by exact k1.lt.2) (fun hHeld => ?_)
          clear hK K
          try go_frame
          refine tkL 10 hHeld ?_; try go_frame
          refine tkL 11 hHeld ?_; try go_frame
          refine wpAnyH_done (by kernel_rfl) ?_ _
          have HK1 : Hid (OwnE w1 base g n c (Z ++ (A ++ ((s, q, d, t, nn) :: Y)))) := k1
          have HG1 : Hid (w.grownBy w1 (some g)) := gw
          clear k0 gd k1 gw hHeld b1
          have HL : Hid ((s, q, d, t, nn).2.1 < (s', q', d', t', nn').2.1) := HC.out.1 hlo
          go_wp2
          go_roundw
          case rel => exact ⟨i, H, rfl, rfl, hai, by omega, by omega, HK1.out, HG1.out, H1.out, down_right (y := (s, q, d, t, nn)) HAA.out HZA.out HL.out⟩
          case measure => simp [intOf]; omega
        · obtain ⟨lc0, lc1, lc2, lc3, lc4⟩ := k0.at5 HY.out
          have lcl := k0.lt.2
          go_simp
          clear lc0 lc1 lc2 lc3 lc4 lcl
          refine hK.out _ _ (by exact k0.lt.2) (fun hHeld => ?_)
          clear hK K
          try go_frame
          refine wpAnyH_ready (rs := [4]) (by kernel_rfl) (by simp) ?_
          refine consL rfl (fun K hK => ?_) AllReadyH.nil
          obtain ⟨lc0, lc1, lc2, lc3, lc4⟩ := k0.at5 HX.out
          have lcl := k0.lt.2
          go_simp
          clear lc0 lc1 lc2 lc3 lc4 lcl
          refine hK.out _ _ (by exact k0.lt.2) (fun hHeld => ?_)
          clear hK K
          try go_frame
          refine wpAnyH_ready (rs := [9]) (by kernel_rfl) (by simp) ?_
          refine consL rfl (fun K hK => ?_) AllReadyH.nil
          go_simp
          refine (CQ.out _).mono ?_
          rintro e w1 ⟨rfl, b1⟩
          have k1 := k0.below b1
          have gw : w.grownBy w1 (some g) := grown_trans gd (grown_belowE b1)
          go_wp2_with fail
          refine hK.out _ _ (by exact k1.lt.2) (fun hHeld => ?_)
          clear hK K
          try go_frame
          refine tkL 10 hHeld ?_; try go_frame
          refine tkL 11 hHeld ?_; try go_frame
          refine wpAnyH_done (by kernel_rfl) ?_ _
          have HK1 : Hid (OwnE w1 base g n c (Z ++ (A ++ ((s, q, d, t, nn) :: Y)))) := k1
          have HG1 : Hid (w.grownBy w1 (some g)) := gw
          clear k0 gd k1 gw hHeld b1
          have HL : Hid ((s, q, d, t, nn).2.1 < (s', q', d', t', nn').2.1) := HC.out.1 hlo
          go_wp2
          go_roundw
          case rel => exact ⟨i, H, rfl, rfl, hai, by omega, by omega, HK1.out, HG1.out, H1.out, down_right (y := (s, q, d, t, nn)) HAA.out HZA.out HL.out⟩
          case measure => simp [intOf]; omega
      · have hd0 : decide (C < 0) = false := decide_eq_false hlo
        have HL : Hid ((s', q', d', t', nn').2.1 ≤ (s, q, d, t, nn).2.1) := Int.not_lt.1 (fun h => hlo (HC.out.2 h))
        go_wp2_with fail
        refine wp_region_held_drew (S := (fun w' => g < w'.heap.size)) (by kernel_rfl) (by exact k0.lt.2) (fun hHeld => ?_)
        generalize wr.drew = wd at k0 gd hHeld ⊢
        refine tkL 0 hHeld ?_; try go_frame
        refine tkL 1 hHeld ?_; try go_frame
        refine tkL 2 hHeld ?_; try go_frame
        refine tkL 3 hHeld ?_; try go_frame
        refine tkL 5 hHeld ?_; try go_frame
        refine tkL 6 hHeld ?_; try go_frame
        refine tkL 7 hHeld ?_; try go_frame
        refine wpAnyH_ready (rs := [4, 8]) (by kernel_rfl) (by simp) ?_
        refine consL rfl (fun K hK => ?_) (consL rfl (fun K hK => ?_) AllReadyH.nil)
        · obtain ⟨lc0, lc1, lc2, lc3, lc4⟩ := k0.at5 HX.out
          have lcl := k0.lt.2
          go_simp
          clear lc0 lc1 lc2 lc3 lc4 lcl
          refine hK.out _ _ (by exact k0.lt.2) (fun hHeld => ?_)
          clear hK K
          try go_frame
          refine wpAnyH_ready (rs := [8]) (by kernel_rfl) (by simp) ?_
          refine consL rfl (fun K hK => ?_) AllReadyH.nil
          obtain ⟨lc0, lc1, lc2, lc3, lc4⟩ := k0.at5 HY.out
          have lcl := k0.lt.2
          go_simp
          clear lc0 lc1 lc2 lc3 lc4 lcl
          refine hK.out _ _ (by exact k0.lt.2) (fun hHeld => ?_)
          clear hK K
          try go_frame
          refine wpAnyH_ready (rs := [9]) (by kernel_rfl) (by simp) ?_
          refine consL rfl (fun K hK => ?_) AllReadyH.nil
          go_simp
          refine (CQ.out _).mono ?_
          rintro e w1 ⟨rfl, b1⟩
          have k1 := k0.below b1
          have gw : w.grownBy w1 (some g) := grown_trans gd (grown_belowE b1)
          go_wp2_with fail
          refine hK.out _ _ (by exact k1.lt.2) (fun hHeld => ?_)
          clear hK K
          try go_frame
          refine tkL 10 hHeld ?_; try go_frame
          refine tkL 11 hHeld ?_; try go_frame
          refine wpAnyH_done (by kernel_rfl) ?_ _
          have HK1 : Hid (OwnE w1 base g n c (Z ++ (A ++ ((s, q, d, t, nn) :: Y)))) := k1
          have HG1 : Hid (w.grownBy w1 (some g)) := gw
          clear k0 gd k1 gw hHeld b1
          go_wp2
          go_roundw
          case rel => exact ⟨H + 1, j, by go_num, rfl, by omega, by omega, hjm, HK1.out, HG1.out, up_right (y := (s, q, d, t, nn)) HAA.out HZA.out HL.out HHA.out, H2.out⟩
          case measure => simp [intOf]; omega
        · obtain ⟨lc0, lc1, lc2, lc3, lc4⟩ := k0.at5 HY.out
          have lcl := k0.lt.2
          go_simp
          clear lc0 lc1 lc2 lc3 lc4 lcl
          refine hK.out _ _ (by exact k0.lt.2) (fun hHeld => ?_)
          clear hK K
          try go_frame
          refine wpAnyH_ready (rs := [4]) (by kernel_rfl) (by simp) ?_
          refine consL rfl (fun K hK => ?_) AllReadyH.nil
          obtain ⟨lc0, lc1, lc2, lc3, lc4⟩ := k0.at5 HX.out
          have lcl := k0.lt.2
          go_simp
          clear lc0 lc1 lc2 lc3 lc4 lcl
          refine hK.out _ _ (by exact k0.lt.2) (fun hHeld => ?_)
          clear hK K
          try go_frame
          refine wpAnyH_ready (rs := [9]) (by kernel_rfl) (by simp) ?_
          refine consL rfl (fun K hK => ?_) AllReadyH.nil
          go_simp
          refine (CQ.out _).mono ?_
          rintro e w1 ⟨rfl, b1⟩
          have k1 := k0.below b1
          have gw : w.grownBy w1 (some g) := grown_trans gd (grown_belowE b1)
          go_wp2_with fail
          refine hK.out _ _ (by exact k1.lt.2) (fun hHeld => ?_)
          clear hK K
          try go_frame
          refine tkL 10 hHeld ?_; try go_frame
          refine tkL 11 hHeld ?_; try go_frame
          refine wpAnyH_done (by kernel_rfl) ?_ _
          have HK1 : Hid (OwnE w1 base g n c (Z ++ (A ++ ((s, q, d, t, nn) :: Y)))) := k1
          have HG1 : Hid (w.grownBy w1 (some g)) := gw
          clear k0 gd k1 gw hHeld b1
          go_wp2
          go_roundw
          case rel => exact ⟨H + 1, j, by go_num, rfl, by omega, by omega, hjm, HK1.out, HG1.out, up_right (y := (s, q, d, t, nn)) HAA.out HZA.out HL.out HHA.out, H2.out⟩
          case measure => simp [intOf]; omega
    · have hltI : ¬ (i : Int) < (j : Int) := by omega
      have hije : i = j := by omega
      subst hije
      obtain ⟨A1, hA1⟩ : ∃ A1, A1 = A.take (i - a) := ⟨_, rfl⟩
      obtain ⟨A2, hA2⟩ : ∃ A2, A2 = A.drop (i - a) := ⟨_, rfl⟩
      have hAA : A = A1 ++ A2 := by rw [hA1, hA2, List.take_append_drop]
      have HRES : Hid (mrg A [y] = A1 ++ y :: A2) := by
        show mrg A [y] = _
        rw [hAA]
        exact mrg_one_right y A1 A2 (by rw [hA1]; exact fun e he => Int.not_lt.2 (H1.out e he)) (by rw [hA2]; exact H2.out)
      have HL1 : Hid (A1.length = i - a ∧ A2.length = m - i) := by show A1.length = i - a ∧ A2.length = m - i; rw [hA1, hA2, List.length_take, List.length_drop]; have := HAL.out; omega
      have HO2 : Hid (OwnE wr base g n c (Z ++ (A1 ++ (A2.take (m - i) ++ y :: (A2.drop (m - i) ++ Y))))) := by
        have := HO1.out
        rw [hAA] at this
        rw [List.take_of_length_le (by rw [HL1.out.2]; omega), List.drop_of_length_le (by rw [HL1.out.2]; omega)]
        simpa [Hid] using this
      clear hA1 hA2 hAA H1 H2 HO1
      go_wp2
      go_loopw [17] (fun kv wq => ∃ KQ : Nat, i ≤ KQ ∧ KQ ≤ m ∧ kv = .int .i64 KQ ∧ OwnE wq base g n c (Z ++ (A1 ++ (A2.take (KQ - i) ++ y :: (A2.drop (KQ - i) ++ Y)))) ∧ w.grownBy wq (some g)) (fun kv _ => (intOf kv).toNat)
      case atStart => exact ⟨m, hjm, Nat.le_refl _, rfl, HO2.out, HG1.out⟩
      case round =>
      obtain ⟨KQ, hiK, hKm, rfl, hOT, hGT⟩ := hrel
      have HOT : Hid (OwnE wr base g n c (Z ++ (A1 ++ (A2.take (KQ - i) ++ y :: (A2.drop (KQ - i) ++ Y))))) := hOT
      have HGT : Hid (w.grownBy wr (some g)) := hGT
      clear hOT hGT HO2 HG1
      by_cases hK1 : i < KQ
      · have hKI : (i : Int) < (KQ : Int) := by omega
        obtain ⟨z, hz⟩ : ∃ z, A2[KQ - i - 1]? = some z := ⟨_, List.getElem?_eq_getElem (by rw [HL1.out.2]; omega)⟩
        have hd1 : A2.drop (KQ - 1 - i) = z :: A2.drop (KQ - i) := by
          obtain ⟨h1, h2⟩ := List.getElem?_eq_some_iff.1 hz
          rw [show KQ - 1 - i = KQ - i - 1 by omega, List.drop_eq_getElem_cons h1, h2, show KQ - i - 1 + 1 = KQ - i by omega]
        have ht1 : A2.take (KQ - i) = A2.take (KQ - 1 - i) ++ [z] := by rw [show KQ - i = KQ - 1 - i + 1 by omega, List.take_add_one, show KQ - 1 - i = KQ - i - 1 by omega, hz]; rfl
        have hD : Z ++ (A1 ++ (A2.take (KQ - i) ++ y :: (A2.drop (KQ - i) ++ Y))) = (Z ++ (A1 ++ A2.take (KQ - 1 - i))) ++ z :: y :: (A2.drop (KQ - i) ++ Y) := by rw [ht1]; simp only [List.append_assoc, List.cons_append, List.nil_append]
        have hlen : (Z ++ (A1 ++ A2.take (KQ - 1 - i))).length = KQ - 1 := by have := HA.out; have := HL1.out; have := HAL.out; simp; omega
        have HDX : (Z ++ (A1 ++ (A2.take (KQ - i) ++ y :: (A2.drop (KQ - i) ++ Y))))[KQ]? = some y := by
          rw [hD, List.getElem?_append_right (by omega), hlen, show KQ - (KQ - 1) = 1 by omega]
          rfl
        have HDY : (Z ++ (A1 ++ (A2.take (KQ - i) ++ y :: (A2.drop (KQ - i) ++ Y))))[KQ - 1]? = some z := by rw [hD, List.getElem?_append_right (by omega), hlen, Nat.sub_self]; rfl
        have HSW0 : (((Z ++ (A1 ++ (A2.take (KQ - i) ++ y :: (A2.drop (KQ - i) ++ Y)))).set KQ z).set (KQ - 1) y) = Z ++ (A1 ++ (A2.take (KQ - 1 - i) ++ y :: (A2.drop (KQ - 1 - i) ++ Y))) := by
          have := set_two_rev (Z ++ (A1 ++ A2.take (KQ - 1 - i))) (A2.drop (KQ - i) ++ Y) z y
          rw [hlen, show KQ - 1 + 1 = KQ by omega] at this
          rw [hD, this, hd1]
          simp only [List.append_assoc, List.cons_append]
        obtain ⟨s, q, d, t, nn⟩ := y
        obtain ⟨s', q', d', t', nn'⟩ := z
        have HX : Hid ((Z ++ (A1 ++ (A2.take (KQ - i) ++ (s, q, d, t, nn) :: (A2.drop (KQ - i) ++ Y))))[KQ]? = some (s, q, d, t, nn)) := HDX
        have HY : Hid ((Z ++ (A1 ++ (A2.take (KQ - i) ++ (s, q, d, t, nn) :: (A2.drop (KQ - i) ++ Y))))[KQ - 1]? = some (s', q', d', t', nn')) := HDY
        have HSW : Hid ((((Z ++ (A1 ++ (A2.take (KQ - i) ++ (s, q, d, t, nn) :: (A2.drop (KQ - i) ++ Y)))).set KQ (s', q', d', t', nn')).set (KQ - 1) (s, q, d, t, nn)) = Z ++ (A1 ++ (A2.take (KQ - 1 - i) ++ (s, q, d, t, nn) :: (A2.drop (KQ - 1 - i) ++ Y)))) := HSW0
        have HI : Hid (KQ < n) := by show KQ < n; omega
        have HJ : Hid (KQ - 1 < n) := by show KQ - 1 < n; omega
        have HIJ : Hid (KQ ≠ KQ - 1) := by show KQ ≠ KQ - 1; omega
        have ba : (KQ : Int) < (n : Int) := by omega
        have ec : ((KQ : Int) - 1).toNat = KQ - 1 := by omega
        have pc : (0 : Int) ≤ (KQ : Int) - 1 := by omega
        have pc' : (1 : Int) ≤ (KQ : Int) := by omega
        have bc : (KQ : Int) - 1 < (n : Int) := by omega
        have rc : IntKind.i64.wrap ((KQ : Int) - 1) = (KQ : Int) - 1 := by rw [IntKind.wrap_i64]; omega
        have k0 : OwnE wr.drew base g n c (Z ++ (A1 ++ (A2.take (KQ - i) ++ (s, q, d, t, nn) :: (A2.drop (KQ - i) ++ Y)))) := HOT.out.below (Below.refl _ _).drew
        have gd : w.grownBy wr.drew (some g) := grown_trans HGT.out (grown_drewE _ _)
        clear hd1 ht1 hD hlen HDX HDY HSW0 hz HOT
        go_wp2_with fail
        refine wp_region_held_drew (S := (fun w' => g < w'.heap.size)) (by kernel_rfl) (by exact k0.lt.2) (fun hHeld => ?_)
        generalize wr.drew = wd at k0 gd hHeld ⊢
        refine tkL 0 hHeld ?_; try go_frame
        refine tkL 1 hHeld ?_; try go_frame
        refine tkL 2 hHeld ?_; try go_frame
        refine tkL 3 hHeld ?_; try go_frame
        refine tkL 4 hHeld ?_; try go_frame
        refine tkL 5 hHeld ?_; try go_frame
        refine tkL 6 hHeld ?_; try go_frame
        refine tkL 7 hHeld ?_; try go_frame
        refine tkL 8 hHeld ?_; try go_frame
        refine tkL 10 hHeld ?_; try go_frame
        refine tkL 11 hHeld ?_; try go_frame
        refine tkL 12 hHeld ?_; try go_frame
        refine wpAnyH_ready (rs := [9, 13]) (by kernel_rfl) (by simp) ?_
        refine consL rfl (fun K hK => ?_) (consL rfl (fun K hK => ?_) AllReadyH.nil)
        · obtain ⟨lc0, lc1, lc2, lc3, lc4⟩ := k0.at5 HY.out
          have lcl := k0.lt.2
          go_simp
          clear lc0 lc1 lc2 lc3 lc4 lcl
          refine hK.out _ _ (by exact k0.lt.2) (fun hHeld => ?_)
          clear hK K
          try go_frame
          refine wpAnyH_ready (rs := [13]) (by kernel_rfl) (by simp) ?_
          refine consL rfl (fun K hK => ?_) AllReadyH.nil
          obtain ⟨lc0, lc1, lc2, lc3, lc4⟩ := k0.at5 HX.out
          have lcl := k0.lt.2
          go_simp
          clear lc0 lc1 lc2 lc3 lc4 lcl
          refine hK.out _ _ (by exact k0.lt.2) (fun hHeld => ?_)
          clear hK K
          try go_frame
          refine tkL 14 hHeld ?_; try go_frame
          refine wpAnyH_ready (rs := [15]) (by kernel_rfl) (by simp) ?_
          refine consL rfl (fun K hK => ?_) AllReadyH.nil
          obtain ⟨lc0, lc1, lc2, lc3, lc4⟩ := k0.at5 HX.out
          have lcl := k0.lt.2
          have lf := k0.owns.frozenAt
          have f0 := lf ((KQ) * 5)
          have f1 := lf ((KQ) * 5 + 1)
          have f2 := lf ((KQ) * 5 + 2)
          have f3 := lf ((KQ) * 5 + 3)
          have f4 := lf ((KQ) * 5 + 4)
          clear lf
          go_simp
          clear lc0 lc1 lc2 lc3 lc4 lcl
          clear f0 f1 f2 f3 f4
          have k1 := k0.setE (i := KQ) (e := (s', q', d', t', nn')) HI.out (k0.ents _ (List.mem_of_getElem? HY.out))
          refine hK.out _ (setE wd g (KQ) (s', q', d', t', nn')) (by exact k1.lt.2) (fun hHeld => ?_)
          clear hK K
          have gw1 := grown_setE wd g (KQ) (s', q', d', t', nn')
          generalize setE wd g (KQ) (s', q', d', t', nn') = w1' at k1 gw1 hHeld ⊢
          try go_frame
          refine tkL 16 hHeld ?_; try go_frame
          refine wpAnyH_ready (rs := [17]) (by kernel_rfl) (by simp) ?_
          refine consL rfl (fun K hK => ?_) AllReadyH.nil
          have HY1 : ((Z ++ (A1 ++ (A2.take (KQ - i) ++ (s, q, d, t, nn) :: (A2.drop (KQ - i) ++ Y)))).set (KQ) (s', q', d', t', nn'))[KQ - 1]? = some (s', q', d', t', nn') := by rw [List.getElem?_set_ne HIJ.out]; exact HY.out
          obtain ⟨lc0, lc1, lc2, lc3, lc4⟩ := k1.at5 HY1
          have lcl := k1.lt.2
          have lf := k1.owns.frozenAt
          have f0 := lf ((KQ - 1) * 5)
          have f1 := lf ((KQ - 1) * 5 + 1)
          have f2 := lf ((KQ - 1) * 5 + 2)
          have f3 := lf ((KQ - 1) * 5 + 3)
          have f4 := lf ((KQ - 1) * 5 + 4)
          clear lf
          go_simp
          clear lc0 lc1 lc2 lc3 lc4 lcl
          clear f0 f1 f2 f3 f4
          have k2 := k1.setE (i := KQ - 1) (e := (s, q, d, t, nn)) HJ.out (k0.ents _ (List.mem_of_getElem? HX.out))
          refine hK.out _ (setE w1' g (KQ - 1) (s, q, d, t, nn)) (by exact k2.lt.2) (fun hHeld => ?_)
          clear hK K
          have gw : wd.grownBy (setE w1' g (KQ - 1) (s, q, d, t, nn)) (some g) := grown_trans gw1 (grown_setE w1' g (KQ - 1) (s, q, d, t, nn))
          generalize setE w1' g (KQ - 1) (s, q, d, t, nn) = w2' at k2 gw hHeld ⊢
          try go_frame
          refine wpAnyH_done (by kernel_rfl) ?_ _
          have HK2 : Hid (OwnE w2' base g n c (Z ++ (A1 ++ (A2.take (KQ - 1 - i) ++ (s, q, d, t, nn) :: (A2.drop (KQ - 1 - i) ++ Y))))) := by have := k2; rw [HSW.out] at this; exact this
          have HG2 : Hid (w.grownBy w2' (some g)) := grown_trans gd gw
          clear k2 gw k0 k1 gw1 gd hHeld
          go_wp2
          go_roundw
          case rel => exact ⟨KQ - 1, by omega, by omega, by first | go_num | (congr 1; omega), HK2.out, HG2.out⟩
          case measure => simp [intOf]; omega
        · obtain ⟨lc0, lc1, lc2, lc3, lc4⟩ := k0.at5 HX.out
          have lcl := k0.lt.2
          go_simp
          clear lc0 lc1 lc2 lc3 lc4 lcl
          refine hK.out _ _ (by exact k0.lt.2) (fun hHeld => ?_)
          clear hK K
          try go_frame
          refine wpAnyH_ready (rs := [9]) (by kernel_rfl) (by simp) ?_
          refine consL rfl (fun K hK => ?_) AllReadyH.nil
          obtain ⟨lc0, lc1, lc2, lc3, lc4⟩ := k0.at5 HY.out
          have lcl := k0.lt.2
          go_simp
          clear lc0 lc1 lc2 lc3 lc4 lcl
          refine hK.out _ _ (by exact k0.lt.2) (fun hHeld => ?_)
          clear hK K
          try go_frame
          refine tkL 14 hHeld ?_; try go_frame
          refine wpAnyH_ready (rs := [15]) (by kernel_rfl) (by simp) ?_
          refine consL rfl (fun K hK => ?_) AllReadyH.nil
          obtain ⟨lc0, lc1, lc2, lc3, lc4⟩ := k0.at5 HX.out
          have lcl := k0.lt.2
          have lf := k0.owns.frozenAt
          have f0 := lf ((KQ) * 5)
          have f1 := lf ((KQ) * 5 + 1)
          have f2 := lf ((KQ) * 5 + 2)
          have f3 := lf ((KQ) * 5 + 3)
          have f4 := lf ((KQ) * 5 + 4)
          clear lf
          go_simp
          clear lc0 lc1 lc2 lc3 lc4 lcl
          clear f0 f1 f2 f3 f4
          have k1 := k0.setE (i := KQ) (e := (s', q', d', t', nn')) HI.out (k0.ents _ (List.mem_of_getElem? HY.out))
          refine hK.out _ (setE wd g (KQ) (s', q', d', t', nn')) (by exact k1.lt.2) (fun hHeld => ?_)
          clear hK K
          have gw1 := grown_setE wd g (KQ) (s', q', d', t', nn')
          generalize setE wd g (KQ) (s', q', d', t', nn') = w1' at k1 gw1 hHeld ⊢
          try go_frame
          refine tkL 16 hHeld ?_; try go_frame
          refine wpAnyH_ready (rs := [17]) (by kernel_rfl) (by simp) ?_
          refine consL rfl (fun K hK => ?_) AllReadyH.nil
          have HY1 : ((Z ++ (A1 ++ (A2.take (KQ - i) ++ (s, q, d, t, nn) :: (A2.drop (KQ - i) ++ Y)))).set (KQ) (s', q', d', t', nn'))[KQ - 1]? = some (s', q', d', t', nn') := by rw [List.getElem?_set_ne HIJ.out]; exact HY.out
          obtain ⟨lc0, lc1, lc2, lc3, lc4⟩ := k1.at5 HY1
          have lcl := k1.lt.2
          have lf := k1.owns.frozenAt
          have f0 := lf ((KQ - 1) * 5)
          have f1 := lf ((KQ - 1) * 5 + 1)
          have f2 := lf ((KQ - 1) * 5 + 2)
          have f3 := lf ((KQ - 1) * 5 + 3)
          have f4 := lf ((KQ - 1) * 5 + 4)
          clear lf
          go_simp
          clear lc0 lc1 lc2 lc3 lc4 lcl
          clear f0 f1 f2 f3 f4
          have k2 := k1.setE (i := KQ - 1) (e := (s, q, d, t, nn)) HJ.out (k0.ents _ (List.mem_of_getElem? HX.out))
          refine hK.out _ (setE w1' g (KQ - 1) (s, q, d, t, nn)) (by exact k2.lt.2) (fun hHeld => ?_)
          clear hK K
          have gw : wd.grownBy (setE w1' g (KQ - 1) (s, q, d, t, nn)) (some g) := grown_trans gw1 (grown_setE w1' g (KQ - 1) (s, q, d, t, nn))
          generalize setE w1' g (KQ - 1) (s, q, d, t, nn) = w2' at k2 gw hHeld ⊢
          try go_frame
          refine wpAnyH_done (by kernel_rfl) ?_ _
          have HK2 : Hid (OwnE w2' base g n c (Z ++ (A1 ++ (A2.take (KQ - 1 - i) ++ (s, q, d, t, nn) :: (A2.drop (KQ - 1 - i) ++ Y))))) := by have := k2; rw [HSW.out] at this; exact this
          have HG2 : Hid (w.grownBy w2' (some g)) := grown_trans gd gw
          clear k2 gw k0 k1 gw1 gd hHeld
          go_wp2
          go_roundw
          case rel => exact ⟨KQ - 1, by omega, by omega, by first | go_num | (congr 1; omega), HK2.out, HG2.out⟩
          case measure => simp [intOf]; omega
      · have hKI : ¬ (i : Int) < (KQ : Int) := by omega
        have HD : Hid (OwnE wr base g n c (Z ++ (mrg A [y] ++ Y))) := by
          have := HOT.out
          rw [show KQ - i = 0 by omega] at this
          rw [HRES.out]
          simpa [Hid] using this
        clear HOT
        go_wp2
        ((try simp only [Exit.inBlock, Exit.then]); refine bodyPost_ret (results_none rfl _ _ _) rfl ?_)
        exact ⟨rfl, HD.out, HGT.out⟩
end Go.Proofs.YtlmgojlffgkciaaGreat
