/-
  The library's merging of two neighbouring stretches of a row, by walks of its Go text.
-/
import Derived.Deep.CutBlock
import Derived.Deep.DeepCutAuto
import Derived.Test.YtlmgojlffgkciaaGreatCe32
namespace Go.Proofs.YtlmgojlffgkciaaGreat
open Go.RowKit
set_option maxRecDepth 100000
set_option maxHeartbeats 32000000
attribute [local go_sem] Oper.semAt_some
def lessAt (A B : List EntD) (a m p k : Nat) : Prop := ∃ x y, A[k - a]? = some x ∧ B[p - k - m]? = some y ∧ y.2.1 < x.2.1
theorem asc_le {A : List EntD} (h : Asc A) {i j : Nat} {x y : EntD} (hi : A[i]? = some x) (hj : A[j]? = some y) (hij : i ≤ j) : x.2.1 ≤ y.2.1 := by
  obtain ⟨h1, h2⟩ := List.getElem?_eq_some_iff.1 hi
  obtain ⟨h3, h4⟩ := List.getElem?_eq_some_iff.1 hj
  by_cases e : i = j
  · subst e; rw [h2] at h4; rw [h4]; exact Int.le_refl _
  · have := List.pairwise_iff_getElem.1 h i j h1 h3 (by omega)
    rw [h2, h4] at this
    exact this
theorem down_sym {A B : List EntD} {a m p H hi' : Nat} {x y : EntD} {C : Int} (hA : Asc A) (hB : Asc B) (hC : (C < 0 → y.2.1 < x.2.1) ∧ (y.2.1 < x.2.1 → C < 0)) (hlo : C < 0) (hx : A[H - a]? = some x ∧ a ≤ H ∧ hi' ≤ a + A.length) (hy : B[p - H - m]? = some y ∧ hi' + m ≤ p + 1) : ∀ k, H ≤ k → k < hi' → lessAt A B a m p k := by
  intro k hk hh
  obtain ⟨hx1, hx2, hx3⟩ := hx
  obtain ⟨hy1, hy2⟩ := hy
  have l1 := (List.getElem?_eq_some_iff.1 hy1).1
  have e1 := List.getElem?_eq_getElem (show k - a < A.length by omega)
  have e2 := List.getElem?_eq_getElem (show p - k - m < B.length by omega)
  refine ⟨_, _, e1, e2, ?_⟩
  have h1 := asc_le hA hx1 e1 (by omega)
  have h2 := asc_le hB e2 hy1 (by omega)
  have := hC.1 hlo
  omega
theorem up_sym {A B : List EntD} {a m p H lo : Nat} {x y : EntD} {C : Int} (hA : Asc A) (hB : Asc B) (hC : (C < 0 → y.2.1 < x.2.1) ∧ (y.2.1 < x.2.1 → C < 0)) (hlo : ¬ C < 0) {hi' : Nat} (hx : A[H - a]? = some x ∧ a ≤ H ∧ hi' ≤ a + A.length) (hy : B[p - H - m]? = some y ∧ hi' + m ≤ p + 1) : ∀ k, lo ≤ k → k < H + 1 → ¬ lessAt A B a m p k := by
  intro k hk hh hl
  obtain ⟨x', y', e1, e2, h3⟩ := hl
  have h1 := asc_le hA e1 hx.1 (by omega)
  have h2 := asc_le hB hy.1 e2 (by omega)
  exact hlo (hC.2 (by omega))
theorem sym_split {A B : List EntD} {a m b mid s p : Nat} (hA : Asc A) (hB : Asc B) (hm : m = a + A.length) (hb : b = m + B.length) (hp : p + 1 = mid + m) (has : a ≤ s) (hsm : s ≤ m) (hsd : s ≤ mid) (hno : ∀ k, a ≤ k → mid + m ≤ k + b → k < s → ¬ lessAt A B a m p k) (hyes : ∀ k, s ≤ k → k < m → k < mid → lessAt A B a m p k) :
    mrg A B = mrg (A.take (s - a)) (B.take (mid - s)) ++ mrg (A.drop (s - a)) (B.drop (mid - s)) := by
  have h := mrg_split (A.take (s - a)) (A.drop (s - a)) (B.take (mid - s)) (B.drop (mid - s)) ?_ ?_
  · rw [List.take_append_drop, List.take_append_drop] at h
    exact h
  · intro x hx y hy hlt
    obtain ⟨i, hi, rfl⟩ := List.mem_iff_getElem.1 hx
    obtain ⟨j, hj, rfl⟩ := List.mem_iff_getElem.1 hy
    simp only [List.getElem_take, List.getElem_drop] at hlt
    simp at hi hj
    have hs1 : a < s := by omega
    have e1 := List.getElem?_eq_getElem (show s - 1 - a < A.length by omega)
    have e2 := List.getElem?_eq_getElem (show p - (s - 1) - m < B.length by omega)
    refine hno (s - 1) (by omega) (by omega) (by omega) ⟨_, _, e1, e2, ?_⟩
    have h1 := asc_le hA (List.getElem?_eq_getElem (show i < A.length by omega)) e1 (by omega)
    have h2 := asc_le hB e2 (List.getElem?_eq_getElem (show mid - s + j < B.length by omega)) (by omega)
    omega
  · intro y hy x hx
    obtain ⟨j, hj, rfl⟩ := List.mem_iff_getElem.1 hy
    obtain ⟨i, hi, rfl⟩ := List.mem_iff_getElem.1 hx
    simp only [List.getElem_take, List.getElem_drop]
    simp at hi hj
    obtain ⟨x', y', e1, e2, h3⟩ := hyes s (Nat.le_refl _) (by omega) (by omega)
    have h1 := asc_le hA e1 (List.getElem?_eq_getElem (show s - a + i < A.length by omega)) (by omega)
    have h2 := asc_le hB (List.getElem?_eq_getElem (show j < B.length by omega)) e2 (by omega)
    omega
theorem asc_take {A : List EntD} (h : Asc A) (k : Nat) : Asc (A.take k) := List.Pairwise.sublist (List.take_sublist k A) h
theorem asc_drop {A : List EntD} (h : Asc A) (k : Nat) : Asc (A.drop k) := List.Pairwise.sublist (List.drop_sublist k A) h
theorem symMany (base g n c : Nat) (Z A B Y : List EntD) (a m b : Nat) (w : World) (hO : OwnE w base g n c (Z ++ (A ++ (B ++ Y)))) (hA : Asc A) (hB : Asc B) (hA2 : 2 ≤ A.length) (hB2 : 2 ≤ B.length) (ha : a = Z.length) (hm : m = a + A.length) (hb : b = m + B.length) (hn : n ≤ 1048576)
    (hrec : ∀ (Z' A' B' Y' : List EntD) (a' m' b' : Nat) (w' : World), A'.length + B'.length < A.length + B.length → OwnE w' base g n c (Z' ++ (A' ++ (B' ++ Y'))) → Asc A' → Asc B' → 1 ≤ A'.length → 1 ≤ B'.length → a' = Z'.length → m' = a' + A'.length → b' = m' + B'.length →
      Calls Tryz.prog 196 #[.slice (some ⟨g, 0, none⟩) n c, .int .i64 a', .int .i64 m', .int .i64 b', .func (.func 137) #[] #[]] w' fun e w'' => e = .returned (.tuple #[]) ∧ OwnE w'' base g n c (Z' ++ (mrg A' B' ++ Y')) ∧ w'.grownBy w'' (some g)) :
    Calls Tryz.prog 196 #[.slice (some ⟨g, 0, none⟩) n c, .int .i64 a, .int .i64 m, .int .i64 b, .func (.func 137) #[] #[]] w fun e w' => e = .returned (.tuple #[]) ∧ OwnE w' base g n c (Z ++ (mrg A B ++ Y)) ∧ w.grownBy w' (some g) := by
  have HREC : Hid (∀ (Z' A' B' Y' : List EntD) (a' m' b' : Nat) (w' : World), A'.length + B'.length < A.length + B.length → OwnE w' base g n c (Z' ++ (A' ++ (B' ++ Y'))) → Asc A' → Asc B' → 1 ≤ A'.length → 1 ≤ B'.length → a' = Z'.length → m' = a' + A'.length → b' = m' + B'.length →
      Calls Tryz.prog 196 #[.slice (some ⟨g, 0, none⟩) n c, .int .i64 a', .int .i64 m', .int .i64 b', .func (.func 137) #[] #[]] w' fun e w'' => e = .returned (.tuple #[]) ∧ OwnE w'' base g n c (Z' ++ (mrg A' B' ++ Y')) ∧ w'.grownBy w'' (some g)) := hrec
  have HAA : Hid (Asc A) := hA
  have HBB : Hid (Asc B) := hB
  have hl := hO.len
  simp only [List.length_append] at hl
  have hcb := hO.entsAt.big
  have hcr := hO.entsAt.room
  unfold maxLen at hcb
  have HZ : Hid (a = Z.length) := ha
  have HM : Hid (m = a + A.length) := hm
  have HB : Hid (b = m + B.length) := hb
  have HA2 : Hid (2 ≤ A.length) := hA2
  have HB2 : Hid (2 ≤ B.length) := hB2
  have HO : Hid (OwnE w base g n c (Z ++ (A ++ (B ++ Y)))) := hO
  have hbn : b ≤ n := by omega
  have hmb : m + 2 ≤ b := by omega
  have ham : a + 2 ≤ m := by omega
  obtain ⟨ka, hka⟩ : ∃ ka, ka = A.length := ⟨_, rfl⟩
  obtain ⟨kb, hkb⟩ : ∃ kb, kb = B.length := ⟨_, rfl⟩
  have hma : IntKind.i64.wrap ((m : Int) - (a : Int)) = (ka : Int) := by rw [IntKind.wrap_i64]; omega
  have hk1 : ((ka : Int) == 1) = false := by simp; omega
  have hbm : IntKind.i64.wrap ((b : Int) - (m : Int)) = (kb : Int) := by rw [IntKind.wrap_i64]; omega
  have hk2 : ((kb : Int) == 1) = false := by simp; omega
  obtain ⟨mid, hmid⟩ : ∃ mid, mid = (a + b) / 2 := ⟨_, rfl⟩
  have eM : ((a : Int) + (b : Int)) / 2 = (mid : Int) := by omega
  have hmid1 : a + 2 ≤ mid := by omega
  have hmid2 : mid + 2 ≤ b := by omega
  have rab : IntKind.i64.wrap ((a : Int) + (b : Int)) = (a : Int) + (b : Int) := by rw [IntKind.wrap_i64]; omega
  obtain ⟨N, hN⟩ : ∃ N, N = mid + m := ⟨_, rfl⟩
  have rN : IntKind.i64.wrap ((mid : Int) + (m : Int)) = (N : Int) := by rw [IntKind.wrap_i64]; omega
  obtain ⟨p, hp⟩ : ∃ p, p = N - 1 := ⟨_, rfl⟩
  have rp : IntKind.i64.wrap ((N : Int) - 1) = (p : Int) := by rw [IntKind.wrap_i64]; omega
  obtain ⟨lo, hlo'⟩ : ∃ lo, lo = if mid < m then N - b else a := ⟨_, rfl⟩
  obtain ⟨hi', hhi⟩ : ∃ hi', hi' = if mid < m then mid else m := ⟨_, rfl⟩
  have rNb : mid < m → IntKind.i64.wrap ((N : Int) - (b : Int)) = (lo : Int) := fun h => by rw [IntKind.wrap_i64, hlo', if_pos h]; omega
  have HNN : Hid (N = mid + m ∧ p + 1 = N) := by show N = mid + m ∧ p + 1 = N; omega
  have HLO : Hid (a ≤ lo ∧ N ≤ lo + b ∧ lo ≤ hi' ∧ hi' ≤ m ∧ hi' ≤ mid) := by
    show a ≤ lo ∧ N ≤ lo + b ∧ lo ≤ hi' ∧ hi' ≤ m ∧ hi' ≤ mid
    rw [hlo', hhi]
    split <;> omega
  have HHI : Hid (hi' = m ∨ hi' = mid) := by show hi' = m ∨ hi' = mid; rw [hhi]; split <;> omega
  have HLW : Hid (lo = a ∨ lo + b = N) := by show lo = a ∨ lo + b = N; rw [hlo']; split <;> omega
  have HLT : Hid (mid < m → lo + b = N ∧ hi' = mid) := fun h => by rw [hlo', hhi, if_pos h, if_pos h]; omega
  have HGE : Hid (¬ mid < m → lo = a ∧ hi' = m) := fun h => by rw [hlo', hhi, if_neg h, if_neg h]; exact ⟨rfl, rfl⟩
  clear hO hA hB ha hb hl hm hA2 hB2 hka hkb hmid hN hp hlo' hhi hrec
  go_enter Tryz.func196, Tryz.ntmps196
  go_upto_if 140 with fail
  clear hma hbm hk1 hk2 eM rab rN
  go_cut [20, 21] (fun s20 s21 wx => s20 = .int .i64 lo ∧ s21 = .int .i64 hi' ∧ w = wx)
  case first =>
    as_aux_lemma =>
      by_cases hmm : mid < m
      · have hmmI : (mid : Int) < (m : Int) := by omega
        have hr := rNb hmm
        have HE := HLT.out hmm
        have HEH : Hid (hi' = mid) := HE.2
        clear HE
        go_wp2
        go_meet
        exact ⟨rfl, by rw [HEH.out], rfl⟩
      · have hmmI : ¬ (mid : Int) < (m : Int) := by omega
        have HE := HGE.out hmm
        have HEH : Hid (lo = a ∧ hi' = m) := HE
        clear HE
        go_wp2
        go_meet
        exact ⟨by rw [HEH.out.1], by rw [HEH.out.2], rfl⟩
  case rest =>
  obtain ⟨rfl, rfl, hwc⟩ := hcut
  subst hwc
  clear rNb HLT HGE
  go_wp2
  clear rp
  go_loopw [20, 21] (fun sv rv wr => ∃ S Rr : Nat, sv = .int .i64 S ∧ rv = .int .i64 Rr ∧ lo ≤ S ∧ S ≤ Rr ∧ Rr ≤ hi' ∧ OwnE wr base g n c (Z ++ (A ++ (B ++ Y))) ∧ w.grownBy wr (some g) ∧ (∀ k, lo ≤ k → k < S → ¬ lessAt A B a m p k) ∧ (∀ k, Rr ≤ k → k < hi' → lessAt A B a m p k)) (fun sv rv _ => (intOf rv).toNat - (intOf sv).toNat)
  case atStart => exact ⟨lo, hi', rfl, rfl, Nat.le_refl _, HLO.out.2.2.1, Nat.le_refl _, HO.out, ⟨rfl, rfl, rfl, Nat.le_refl _, fun _ _ _ => rfl⟩, (fun k h1 h2 => absurd h2 (by omega)), (fun k h1 h2 => absurd h2 (by omega))⟩
  case round =>
    obtain ⟨S, Rr, rfl, rfl, hS0, hSR, hRh, hO1, hG1, h1, h2⟩ := hrel
    have HO1 : Hid (OwnE wr base g n c (Z ++ (A ++ (B ++ Y)))) := hO1
    have HG1 : Hid (w.grownBy wr (some g)) := hG1
    have H1 : Hid (∀ k, lo ≤ k → k < S → ¬ lessAt A B a m p k) := h1
    have H2 : Hid (∀ k, Rr ≤ k → k < hi' → lessAt A B a m p k) := h2
    clear hO1 hG1 h1 h2 HO
    by_cases hlt : S < Rr
    · have hltI : (S : Int) < (Rr : Int) := by omega
      obtain ⟨H, hH⟩ : ∃ H, H = (S + Rr) / 2 := ⟨_, rfl⟩
      have hH1 : S ≤ H := by omega
      have hH2 : H < Rr := by omega
      have eH : ((S : Int) + (Rr : Int)) / 2 = (H : Int) := by omega
      obtain ⟨hN1, hN2⟩ := HNN.out
      obtain ⟨hL1, hL2, hL3, hL4, hL5⟩ := HLO.out
      have hM0 := HM.out
      have hB0 := HB.out
      have hZ0 := HZ.out
      obtain ⟨Q, hQ⟩ : ∃ Q, Q = p - H := ⟨_, rfl⟩
      have rQ : IntKind.i64.wrap ((p : Int) - (H : Int)) = (Q : Int) := by rw [IntKind.wrap_i64]; omega
      obtain ⟨x, hx⟩ : ∃ x, A[H - a]? = some x := ⟨_, List.getElem?_eq_getElem (by omega)⟩
      obtain ⟨y, hy⟩ : ∃ y, B[p - H - m]? = some y := ⟨_, List.getElem?_eq_getElem (by omega)⟩
      have HZL : Hid (A[H - a]? = some x ∧ a ≤ H ∧ hi' ≤ a + A.length) := ⟨hx, by omega, by omega⟩
      have HZR : Hid (B[p - H - m]? = some y ∧ hi' + m ≤ p + 1) := ⟨hy, by omega⟩
      have HDX : (Z ++ (A ++ (B ++ Y)))[H]? = some x := by
        rw [List.getElem?_append_right (by omega), List.getElem?_append_left (by omega), ← hZ0]
        exact hx
      have HDY : (Z ++ (A ++ (B ++ Y)))[Q]? = some y := by
        rw [List.getElem?_append_right (by omega), List.getElem?_append_right (by omega), List.getElem?_append_left (by omega), show Q - Z.length - A.length = p - H - m by omega]
        exact hy
      obtain ⟨C, hC⟩ : ∃ C, C = Lib.compareInt y.2.1 x.2.1 := ⟨_, rfl⟩
      have HC : Hid ((C < 0 → y.2.1 < x.2.1) ∧ (y.2.1 < x.2.1 → C < 0)) := by rw [hC]; exact ⟨(cmp_lt _ _).1, (cmp_lt _ _).2⟩
      have CQ0 : ∀ w, Calls Tryz.prog 137 #[.agg #[.string y.1, .int .i64 y.2.1, .int .i64 y.2.2.1, .string y.2.2.2.1, .int .i64 y.2.2.2.2], .agg #[.string x.1, .int .i64 x.2.1, .int .i64 x.2.2.1, .string x.2.2.2.1, .int .i64 x.2.2.2.2]] w fun e w' => e = .returned (.int .i64 C) ∧ Below w.heap.size w w' := by rw [hC]; exact fun w => implSeqB y.1 y.2.2.2.1 x.1 x.2.2.2.1 y.2.1 y.2.2.1 y.2.2.2.2 x.2.1 x.2.2.1 x.2.2.2.2 w
      obtain ⟨s, q, d, t, nn⟩ := y
      obtain ⟨s', q', d', t', nn'⟩ := x
      have HX : Hid ((Z ++ (A ++ (B ++ Y)))[Q]? = some (s, q, d, t, nn)) := HDY
      have HY : Hid ((Z ++ (A ++ (B ++ Y)))[H]? = some (s', q', d', t', nn')) := HDX
      have CQ : Hid (∀ w, Calls Tryz.prog 137 #[.agg #[.string s, .int .i64 q, .int .i64 d, .string t, .int .i64 nn], .agg #[.string s', .int .i64 q', .int .i64 d', .string t', .int .i64 nn']] w fun e w' => e = .returned (.int .i64 C) ∧ Below w.heap.size w w') := CQ0
      have hHl : (H : Int) < (n : Int) := by omega
      have hQl : (Q : Int) < (n : Int) := by omega
      have k0 : OwnE wr.drew base g n c (Z ++ (A ++ (B ++ Y))) := HO1.out.below (Below.refl _ _).drew
      have gd : w.grownBy wr.drew (some g) := grown_trans HG1.out (grown_drewE _ _)
      clear hH hx hy HDX HDY hC CQ0 HO1 HG1 hN1 hN2 hM0 hB0 hZ0 hQ hL1 hL2 hL3 hL4 hL5
      by_cases hlo : C < 0
      · have hd0 : decide (C < 0) = true := decide_eq_true hlo
        have HDN : Hid (∀ k, H ≤ k → k < hi' → lessAt A B a m p k) := down_sym HAA.out HBB.out HC.out hlo HZL.out HZR.out
        go_wp2_with fail
        as_aux_lemma =>
          refine wp_region_held_drew (S := (fun w' => g < w'.heap.size)) (by kernel_rfl) (by exact k0.lt.2) (fun hHeld => ?_)
          generalize wr.drew = wd at k0 gd hHeld ⊢
          refine tkL 0 hHeld ?_; try go_frame
          refine tkL 1 hHeld ?_; try go_frame
          refine tkL 2 hHeld ?_; try go_frame
          refine tkL 3 hHeld ?_; try go_frame
          refine tkL 4 hHeld ?_; try go_frame
          refine tkL 5 hHeld ?_; try go_frame
          refine tkL 7 hHeld ?_; try go_frame
          refine tkL 8 hHeld ?_; try go_frame
          refine tkL 9 hHeld ?_; try go_frame
          refine wpAnyH_ready (rs := [6, 10]) (by kernel_rfl) (by simp) ?_
          refine consL rfl (fun K hK => ?_) (consL rfl (fun K hK => ?_) AllReadyH.nil)
          · obtain ⟨lc0, lc1, lc2, lc3, lc4⟩ := k0.at5 HX.out
            have lcl := k0.lt.2
            go_simp
            clear lc0 lc1 lc2 lc3 lc4 lcl
            refine hK.out _ _ (by exact k0.lt.2) (fun hHeld => ?_)
            clear hK K
            try go_frame
            refine wpAnyH_ready (rs := [10]) (by kernel_rfl) (by simp) ?_
            refine consL rfl (fun K hK => ?_) AllReadyH.nil
            obtain ⟨lc0, lc1, lc2, lc3, lc4⟩ := k0.at5 HY.out
            have lcl := k0.lt.2
            go_simp
            clear lc0 lc1 lc2 lc3 lc4 lcl
            refine hK.out _ _ (by exact k0.lt.2) (fun hHeld => ?_)
            clear hK K
            try go_frame
            refine wpAnyH_ready (rs := [11]) (by kernel_rfl) (by simp) ?_
            refine consL rfl (fun K hK => ?_) AllReadyH.nil
            go_simp
            refine (CQ.out _).mono ?_
            rintro e w1 ⟨rfl, b1⟩
            have k1 := k0.below b1
            have gw : w.grownBy w1 (some g) := grown_trans gd (grown_belowE b1)
            go_wp2_with fail
            refine hK.out _ _ (by exact k1.lt.2) (fun hHeld => ?_)
            clear hK K
            try go_frame
            refine tkL 12 hHeld ?_; try go_frame
            refine tkL 13 hHeld ?_; try go_frame
            refine wpAnyH_done (by kernel_rfl) ?_ _
            have HK1 : Hid (OwnE w1 base g n c (Z ++ (A ++ (B ++ Y)))) := k1
            have HG1 : Hid (w.grownBy w1 (some g)) := gw
            clear k0 gd k1 gw hHeld b1
            go_wp2
            go_roundw
            case rel => exact ⟨S, H, rfl, rfl, hS0, by omega, by omega, HK1.out, HG1.out, H1.out, HDN.out⟩
            case measure => simp [intOf]; omega
          · obtain ⟨lc0, lc1, lc2, lc3, lc4⟩ := k0.at5 HY.out
            have lcl := k0.lt.2
            go_simp
            clear lc0 lc1 lc2 lc3 lc4 lcl
            refine hK.out _ _ (by exact k0.lt.2) (fun hHeld => ?_)
            clear hK K
            try go_frame
            refine wpAnyH_ready (rs := [6]) (by kernel_rfl) (by simp) ?_
            refine consL rfl (fun K hK => ?_) AllReadyH.nil
            obtain ⟨lc0, lc1, lc2, lc3, lc4⟩ := k0.at5 HX.out
            have lcl := k0.lt.2
            go_simp
            clear lc0 lc1 lc2 lc3 lc4 lcl
            refine hK.out _ _ (by exact k0.lt.2) (fun hHeld => ?_)
            clear hK K
            try go_frame
            refine wpAnyH_ready (rs := [11]) (by kernel_rfl) (by simp) ?_
            refine consL rfl (fun K hK => ?_) AllReadyH.nil
            go_simp
            refine (CQ.out _).mono ?_
            rintro e w1 ⟨rfl, b1⟩
            have k1 := k0.below b1
            have gw : w.grownBy w1 (some g) := grown_trans gd (grown_belowE b1)
            go_wp2_with fail
            refine hK.out _ _ (by exact k1.lt.2) (fun hHeld => ?_)
            clear hK K
            try go_frame
            refine tkL 12 hHeld ?_; try go_frame
            refine tkL 13 hHeld ?_; try go_frame
            refine wpAnyH_done (by kernel_rfl) ?_ _
            have HK1 : Hid (OwnE w1 base g n c (Z ++ (A ++ (B ++ Y)))) := k1
            have HG1 : Hid (w.grownBy w1 (some g)) := gw
            clear k0 gd k1 gw hHeld b1
            go_wp2
            go_roundw
            case rel => exact ⟨S, H, rfl, rfl, hS0, by omega, by omega, HK1.out, HG1.out, H1.out, HDN.out⟩
            case measure => simp [intOf]; omega
      · have hd0 : decide (C < 0) = false := decide_eq_false hlo
        have HUP : Hid (∀ k, lo ≤ k → k < H + 1 → ¬ lessAt A B a m p k) := up_sym HAA.out HBB.out HC.out hlo HZL.out HZR.out
        go_wp2_with fail
        as_aux_lemma =>
          refine wp_region_held_drew (S := (fun w' => g < w'.heap.size)) (by kernel_rfl) (by exact k0.lt.2) (fun hHeld => ?_)
          generalize wr.drew = wd at k0 gd hHeld ⊢
          refine tkL 0 hHeld ?_; try go_frame
          refine tkL 1 hHeld ?_; try go_frame
          refine tkL 2 hHeld ?_; try go_frame
          refine tkL 3 hHeld ?_; try go_frame
          refine tkL 4 hHeld ?_; try go_frame
          refine tkL 5 hHeld ?_; try go_frame
          refine tkL 7 hHeld ?_; try go_frame
          refine tkL 8 hHeld ?_; try go_frame
          refine tkL 9 hHeld ?_; try go_frame
          refine wpAnyH_ready (rs := [6, 10]) (by kernel_rfl) (by simp) ?_
          refine consL rfl (fun K hK => ?_) (consL rfl (fun K hK => ?_) AllReadyH.nil)
          · obtain ⟨lc0, lc1, lc2, lc3, lc4⟩ := k0.at5 HX.out
            have lcl := k0.lt.2
            go_simp
            clear lc0 lc1 lc2 lc3 lc4 lcl
            refine hK.out _ _ (by exact k0.lt.2) (fun hHeld => ?_)
            clear hK K
            try go_frame
            refine wpAnyH_ready (rs := [10]) (by kernel_rfl) (by simp) ?_
            refine consL rfl (fun K hK => ?_) AllReadyH.nil
            obtain ⟨lc0, lc1, lc2, lc3, lc4⟩ := k0.at5 HY.out
            have lcl := k0.lt.2
            go_simp
            clear lc0 lc1 lc2 lc3 lc4 lcl
            refine hK.out _ _ (by exact k0.lt.2) (fun hHeld => ?_)
            clear hK K
            try go_frame
            refine wpAnyH_ready (rs := [11]) (by kernel_rfl) (by simp) ?_
            refine consL rfl (fun K hK => ?_) AllReadyH.nil
            go_simp
            refine (CQ.out _).mono ?_
            rintro e w1 ⟨rfl, b1⟩
            have k1 := k0.below b1
            have gw : w.grownBy w1 (some g) := grown_trans gd (grown_belowE b1)
            go_wp2_with fail
            refine hK.out _ _ (by exact k1.lt.2) (fun hHeld => ?_)
            clear hK K
            try go_frame
            refine tkL 12 hHeld ?_; try go_frame
            refine tkL 13 hHeld ?_; try go_frame
            refine wpAnyH_done (by kernel_rfl) ?_ _
            have HK1 : Hid (OwnE w1 base g n c (Z ++ (A ++ (B ++ Y)))) := k1
            have HG1 : Hid (w.grownBy w1 (some g)) := gw
            clear k0 gd k1 gw hHeld b1
            go_wp2
            go_roundw
            case rel => exact ⟨H + 1, Rr, by go_num, rfl, by omega, by omega, hRh, HK1.out, HG1.out, HUP.out, H2.out⟩
            case measure => simp [intOf]; omega
          · obtain ⟨lc0, lc1, lc2, lc3, lc4⟩ := k0.at5 HY.out
            have lcl := k0.lt.2
            go_simp
            clear lc0 lc1 lc2 lc3 lc4 lcl
            refine hK.out _ _ (by exact k0.lt.2) (fun hHeld => ?_)
            clear hK K
            try go_frame
            refine wpAnyH_ready (rs := [6]) (by kernel_rfl) (by simp) ?_
            refine consL rfl (fun K hK => ?_) AllReadyH.nil
            obtain ⟨lc0, lc1, lc2, lc3, lc4⟩ := k0.at5 HX.out
            have lcl := k0.lt.2
            go_simp
            clear lc0 lc1 lc2 lc3 lc4 lcl
            refine hK.out _ _ (by exact k0.lt.2) (fun hHeld => ?_)
            clear hK K
            try go_frame
            refine wpAnyH_ready (rs := [11]) (by kernel_rfl) (by simp) ?_
            refine consL rfl (fun K hK => ?_) AllReadyH.nil
            go_simp
            refine (CQ.out _).mono ?_
            rintro e w1 ⟨rfl, b1⟩
            have k1 := k0.below b1
            have gw : w.grownBy w1 (some g) := grown_trans gd (grown_belowE b1)
            go_wp2_with fail
            refine hK.out _ _ (by exact k1.lt.2) (fun hHeld => ?_)
            clear hK K
            try go_frame
            refine tkL 12 hHeld ?_; try go_frame
            refine tkL 13 hHeld ?_; try go_frame
            refine wpAnyH_done (by kernel_rfl) ?_ _
            have HK1 : Hid (OwnE w1 base g n c (Z ++ (A ++ (B ++ Y)))) := k1
            have HG1 : Hid (w.grownBy w1 (some g)) := gw
            clear k0 gd k1 gw hHeld b1
            go_wp2
            go_roundw
            case rel => exact ⟨H + 1, Rr, by go_num, rfl, by omega, by omega, hRh, HK1.out, HG1.out, HUP.out, H2.out⟩
            case measure => simp [intOf]; omega
    · have hltI : ¬ (S : Int) < (Rr : Int) := by omega
      have hije : S = Rr := by omega
      subst hije
      obtain ⟨hN1, hN2⟩ := HNN.out
      obtain ⟨hL1, hL2, hL3, hL4, hL5⟩ := HLO.out
      have hM0 := HM.out
      have hB0 := HB.out
      have hZ0 := HZ.out
      have hA20 := HA2.out
      have hB20 := HB2.out
      have HSPL : Hid (mrg A B = mrg (A.take (S - a)) (B.take (mid - S)) ++ mrg (A.drop (S - a)) (B.drop (mid - S))) := sym_split (p := p) HAA.out HBB.out hM0 hB0 (by omega) (by omega) (by omega) (by omega)
        (fun k h1 h2 h3 => H1.out k (by rcases HLW.out with h | h <;> omega) h3) (fun k h1 h2 h3 => H2.out k h1 (by rcases HHI.out with h | h <;> omega))
      obtain ⟨A1, hA1⟩ : ∃ A1, A1 = A.take (S - a) := ⟨_, rfl⟩
      obtain ⟨A2, hA2⟩ : ∃ A2, A2 = A.drop (S - a) := ⟨_, rfl⟩
      obtain ⟨B1, hB1⟩ : ∃ B1, B1 = B.take (mid - S) := ⟨_, rfl⟩
      obtain ⟨B2, hB2⟩ : ∃ B2, B2 = B.drop (mid - S) := ⟨_, rfl⟩
      rw [← hA1, ← hA2, ← hB1, ← hB2] at HSPL
      have HA1 : Hid (Asc A1) := by rw [hA1]; exact asc_take HAA.out _
      have HA2' : Hid (Asc A2) := by rw [hA2]; exact asc_drop HAA.out _
      have HB1 : Hid (Asc B1) := by rw [hB1]; exact asc_take HBB.out _
      have HB2' : Hid (Asc B2) := by rw [hB2]; exact asc_drop HBB.out _
      have HLL : Hid (A1.length = S - a ∧ A2.length = m - S ∧ B1.length = mid - S ∧ B2.length = b - (N - S)) := by
        show A1.length = S - a ∧ A2.length = m - S ∧ B1.length = mid - S ∧ B2.length = b - (N - S)
        rw [hA1, hA2, hB1, hB2, List.length_take, List.length_drop, List.length_take, List.length_drop]
        omega
      have HLS : Hid (A1.length + B1.length < A.length + B.length ∧ A2.length + B2.length < A.length + B.length) := by
        show A1.length + B1.length < A.length + B.length ∧ A2.length + B2.length < A.length + B.length
        have := HLL.out
        omega
      have HD : Hid (OwnE wr base g n c (Z ++ (A1 ++ (A2 ++ (B1 ++ (B2 ++ Y)))))) := by
        have := HO1.out
        rw [show A = A1 ++ A2 by rw [hA1, hA2, List.take_append_drop], show B = B1 ++ B2 by rw [hB1, hB2, List.take_append_drop]] at this
        simpa [Hid] using this
      obtain ⟨E, hE⟩ : ∃ E, E = N - S := ⟨_, rfl⟩
      have rE : IntKind.i64.wrap ((N : Int) - (S : Int)) = (E : Int) := by rw [IntKind.wrap_i64]; omega
      have HFACT : Hid (E = mid + m - S ∧ a ≤ S ∧ S ≤ m ∧ S ≤ mid ∧ E ≤ b ∧ m ≤ E) := by show E = mid + m - S ∧ a ≤ S ∧ S ≤ m ∧ S ≤ mid ∧ E ≤ b ∧ m ≤ E; omega
      clear hA1 hA2 hB1 hB2 HO1 hN1 hN2 hL1 hL2 hL3 hL4 hL5 hM0 hB0 hZ0 hA20 hB20 hE H1 H2
      go_upto_region 39 with fail
      clear rE
      go_cut [185] (fun v wx => v = .bool (decide (S < m) && decide (m < E)) ∧ wr = wx)
      case first =>
        as_aux_lemma =>
          by_cases hs1 : S < m
          · have hs1I : (S : Int) < (m : Int) := by omega
            by_cases hs2 : m < E
            · have hs2I : (m : Int) < (E : Int) := by omega
              go_wp2
              go_meet
              exact ⟨by simp [hs1, hs2], rfl⟩
            · have hs2I : ¬ (m : Int) < (E : Int) := by omega
              go_wp2
              go_meet
              exact ⟨by simp [hs2], rfl⟩
          · have hs1I : ¬ (S : Int) < (m : Int) := by omega
            go_wp2
            go_meet
            exact ⟨by simp [hs1], rfl⟩
      case rest =>
      obtain ⟨rfl, hw1⟩ := hcut
      subst hw1
      go_upto_if 185 with fail
      go_cut [20] (fun s20 wx => s20 = .int .i64 S ∧ OwnE wx base g n c (Z ++ (A1 ++ (B1 ++ (A2 ++ (B2 ++ Y))))) ∧ w.grownBy wx (some g))
      case first =>
        as_aux_lemma =>
          by_cases hs : S < m ∧ m < E
          · have hd : (decide (S < m) && decide (m < E)) = true := by simp [hs.1, hs.2]
            have HD' : Hid (OwnE wr base g n c ((Z ++ A1) ++ (A2 ++ (B1 ++ (B2 ++ Y))))) := by simpa [Hid] using HD.out
            have HQ1 : Hid (S = (Z ++ A1).length ∧ m = (Z ++ A1).length + A2.length ∧ E = (Z ++ A1).length + A2.length + B1.length ∧ 1 ≤ A2.length ∧ 1 ≤ B1.length) := by
              show S = (Z ++ A1).length ∧ m = (Z ++ A1).length + A2.length ∧ E = (Z ++ A1).length + A2.length + B1.length ∧ 1 ≤ A2.length ∧ 1 ≤ B1.length
              have := HLL.out
              have := HFACT.out
              have := HZ.out
              rw [List.length_append]
              omega
            clear hs
            rw [hd]
            clear hd
            go_wp2_with fail
            refine (rotate base g n c (Z ++ A1) A2 B1 (B2 ++ Y) S m E _ _ HD'.out HQ1.out.1 HQ1.out.2.1 HQ1.out.2.2.1 HQ1.out.2.2.2.1 HQ1.out.2.2.2.2 hn).mono ?_
            rintro e w1 ⟨rfl, hO2, hG2⟩
            have HO2 : Hid (OwnE w1 base g n c (Z ++ (A1 ++ (B1 ++ (A2 ++ (B2 ++ Y)))))) := by simpa [Hid] using hO2
            have HG2 : Hid (w.grownBy w1 (some g)) := grown_trans HG1.out hG2
            clear hO2 hG2
            go_wp2
            go_meet
            exact ⟨rfl, HO2.out, HG2.out⟩
          · have hd : (decide (S < m) && decide (m < E)) = false := by
              cases h : (decide (S < m) && decide (m < E)) with
              | false => rfl
              | true => simp at h; exact absurd h hs
            have HO2 : Hid (OwnE wr base g n c (Z ++ (A1 ++ (B1 ++ (A2 ++ (B2 ++ Y)))))) := by
              have h0 : A2 = [] ∨ B1 = [] := by
                have := HLL.out
                have := HFACT.out
                by_cases h1 : S < m
                · right; exact List.length_eq_zero_iff.1 (by omega)
                · left; exact List.length_eq_zero_iff.1 (by omega)
              have := HD.out
              rcases h0 with h0 | h0
              · rw [h0] at this ⊢; simpa [Hid] using this
              · rw [h0] at this ⊢; simpa [Hid] using this
            clear hs
            rw [hd]
            clear hd
            go_wp2
            go_meet
            exact ⟨rfl, HO2.out, HG1.out⟩
      case rest =>
      rename World => wA
      obtain ⟨rfl, hO2, hG2⟩ := hcut
      have HD2 : Hid (OwnE wA base g n c (Z ++ (A1 ++ (B1 ++ (A2 ++ (B2 ++ Y)))))) := hO2
      have HG2 : Hid (w.grownBy wA (some g)) := hG2
      clear hO2 hG2 HD HG1
      go_upto_region 41 with fail
      go_cut [199] (fun v wx => v = .bool (decide (a < S) && decide (S < mid)) ∧ wA = wx)
      case first =>
        as_aux_lemma =>
          by_cases hs1 : a < S
          · have hs1I : (a : Int) < (S : Int) := by omega
            by_cases hs2 : S < mid
            · have hs2I : (S : Int) < (mid : Int) := by omega
              go_wp2
              go_meet
              exact ⟨by simp [hs1, hs2], rfl⟩
            · have hs2I : ¬ (S : Int) < (mid : Int) := by omega
              go_wp2
              go_meet
              exact ⟨by simp [hs2], rfl⟩
          · have hs1I : ¬ (a : Int) < (S : Int) := by omega
            go_wp2
            go_meet
            exact ⟨by simp [hs1], rfl⟩
      case rest =>
      obtain ⟨rfl, hw2⟩ := hcut
      subst hw2
      go_upto_if 199 with fail
      go_cut [20] (fun s20 wx => s20 = .int .i64 S ∧ OwnE wx base g n c (Z ++ (mrg A1 B1 ++ (A2 ++ (B2 ++ Y)))) ∧ w.grownBy wx (some g))
      case first =>
        as_aux_lemma =>
          by_cases hs : a < S ∧ S < mid
          · have hd : (decide (a < S) && decide (S < mid)) = true := by simp [hs.1, hs.2]
            have HQ1 : Hid (1 ≤ A1.length ∧ 1 ≤ B1.length ∧ S = a + A1.length ∧ mid = S + B1.length) := by
              show 1 ≤ A1.length ∧ 1 ≤ B1.length ∧ S = a + A1.length ∧ mid = S + B1.length
              have := HLL.out
              have := HFACT.out
              omega
            clear hs
            rw [hd]
            clear hd
            go_wp2_with fail
            refine (HREC.out Z A1 B1 (A2 ++ (B2 ++ Y)) a S mid _ HLS.out.1 HD2.out HA1.out HB1.out HQ1.out.1 HQ1.out.2.1 HZ.out HQ1.out.2.2.1 HQ1.out.2.2.2).mono ?_
            rintro e w1 ⟨rfl, hO3, hG3⟩
            have HO3 : Hid (OwnE w1 base g n c (Z ++ (mrg A1 B1 ++ (A2 ++ (B2 ++ Y))))) := hO3
            have HG3 : Hid (w.grownBy w1 (some g)) := grown_trans HG2.out hG3
            clear hO3 hG3
            go_wp2
            go_meet
            exact ⟨rfl, HO3.out, HG3.out⟩
          · have hd : (decide (a < S) && decide (S < mid)) = false := by
              cases h : (decide (a < S) && decide (S < mid)) with
              | false => rfl
              | true => simp at h; exact absurd h hs
            have HO3 : Hid (OwnE wA base g n c (Z ++ (mrg A1 B1 ++ (A2 ++ (B2 ++ Y))))) := by
              have h0 : A1 = [] ∨ B1 = [] := by
                have := HLL.out
                have := HFACT.out
                by_cases h1 : a < S
                · right; exact List.length_eq_zero_iff.1 (by omega)
                · left; exact List.length_eq_zero_iff.1 (by omega)
              have := HD2.out
              rcases h0 with h0 | h0
              · rw [h0] at this ⊢; rw [mrg_nil]; simpa [Hid] using this
              · rw [h0] at this ⊢; rw [mrg_nil']; simpa [Hid] using this
            clear hs
            rw [hd]
            clear hd
            go_wp2
            go_meet
            exact ⟨rfl, HO3.out, HG2.out⟩
      case rest =>
      rename World => wB
      obtain ⟨rfl, hO3, hG3⟩ := hcut
      have HD3 : Hid (OwnE wB base g n c ((Z ++ mrg A1 B1) ++ (A2 ++ (B2 ++ Y)))) := by simpa [Hid] using hO3
      have HG3 : Hid (w.grownBy wB (some g)) := hG3
      clear hO3 hG3 HD2 HG2
      go_upto_region 43 with fail
      go_cut [213] (fun v wx => v = .bool (decide (mid < E) && decide (E < b)) ∧ wB = wx)
      case first =>
        as_aux_lemma =>
          by_cases hs1 : mid < E
          · have hs1I : (mid : Int) < (E : Int) := by omega
            by_cases hs2 : E < b
            · have hs2I : (E : Int) < (b : Int) := by omega
              go_wp2
              go_meet
              exact ⟨by simp [hs1, hs2], rfl⟩
            · have hs2I : ¬ (E : Int) < (b : Int) := by omega
              go_wp2
              go_meet
              exact ⟨by simp [hs2], rfl⟩
          · have hs1I : ¬ (mid : Int) < (E : Int) := by omega
            go_wp2
            go_meet
            exact ⟨by simp [hs1], rfl⟩
      case rest =>
      obtain ⟨rfl, hw3⟩ := hcut
      subst hw3
      go_upto_if 213 with fail
      by_cases hs : mid < E ∧ E < b
      · have hd : (decide (mid < E) && decide (E < b)) = true := by simp [hs.1, hs.2]
        have HQ1 : Hid (1 ≤ A2.length ∧ 1 ≤ B2.length ∧ mid = (Z ++ mrg A1 B1).length ∧ E = mid + A2.length ∧ b = E + B2.length) := by
          show 1 ≤ A2.length ∧ 1 ≤ B2.length ∧ mid = (Z ++ mrg A1 B1).length ∧ E = mid + A2.length ∧ b = E + B2.length
          have := HLL.out
          have := HFACT.out
          have := HZ.out
          have := HNN.out
          rw [List.length_append, mrg_len]
          omega
        clear hs
        rw [hd]
        clear hd
        go_wp2_with fail
        refine (HREC.out (Z ++ mrg A1 B1) A2 B2 Y mid E b _ HLS.out.2 HD3.out HA2'.out HB2'.out HQ1.out.1 HQ1.out.2.1 HQ1.out.2.2.1 HQ1.out.2.2.2.1 HQ1.out.2.2.2.2).mono ?_
        rintro e w1 ⟨rfl, hO4, hG4⟩
        have HO4 : Hid (OwnE w1 base g n c (Z ++ (mrg A B ++ Y))) := by rw [HSPL.out]; simpa [Hid] using hO4
        have HG4 : Hid (w.grownBy w1 (some g)) := grown_trans HG3.out hG4
        clear hO4 hG4
        go_wp2
        go_end0
        exact ⟨rfl, HO4.out, HG4.out⟩
      · have hd : (decide (mid < E) && decide (E < b)) = false := by
          cases h : (decide (mid < E) && decide (E < b)) with
          | false => rfl
          | true => simp at h; exact absurd h hs
        have HO4 : Hid (OwnE wB base g n c (Z ++ (mrg A B ++ Y))) := by
          have h0 : A2 = [] ∨ B2 = [] := by
            have := HLL.out
            have := HFACT.out
            have := HNN.out
            by_cases h1 : mid < E
            · right; exact List.length_eq_zero_iff.1 (by omega)
            · left; exact List.length_eq_zero_iff.1 (by omega)
          have := HD3.out
          rw [HSPL.out]
          rcases h0 with h0 | h0
          · rw [h0] at this ⊢; rw [mrg_nil]; simpa [Hid] using this
          · rw [h0] at this ⊢; rw [mrg_nil']; simpa [Hid] using this
        clear hs
        rw [hd]
        clear hd
        go_wp2
        go_end0
        exact ⟨rfl, HO4.out, HG3.out⟩
theorem symMerge (base g n c : Nat) (hn : n ≤ 1048576) : ∀ (N : Nat) (Z A B Y : List EntD) (a m b : Nat) (w : World), A.length + B.length ≤ N → OwnE w base g n c (Z ++ (A ++ (B ++ Y))) → Asc A → Asc B → 1 ≤ A.length → 1 ≤ B.length → a = Z.length → m = a + A.length → b = m + B.length →
    Calls Tryz.prog 196 #[.slice (some ⟨g, 0, none⟩) n c, .int .i64 a, .int .i64 m, .int .i64 b, .func (.func 137) #[] #[]] w fun e w' => e = .returned (.tuple #[]) ∧ OwnE w' base g n c (Z ++ (mrg A B ++ Y)) ∧ w.grownBy w' (some g) := by
  intro N
  induction N with
  | zero => intro Z A B Y a m b w h _ _ _ hA _; omega
  | succ N ih =>
    intro Z A B Y a m b w h hO hA hB hA1 hB1 ha hm hb
    by_cases h1 : A.length = 1
    · obtain ⟨x, rfl⟩ := List.length_eq_one_iff.1 h1
      exact symOneL base g n c Z B Y x a m b w (by simpa using hO) hB ha (by simpa using hm) hb hn
    by_cases h2 : B.length = 1
    · obtain ⟨y, rfl⟩ := List.length_eq_one_iff.1 h2
      exact symOneR base g n c Z A Y y a m b w (by simpa using hO) hA (by omega) ha hm (by simpa using hb) hn
    exact symMany base g n c Z A B Y a m b w hO hA hB (by omega) (by omega) ha hm hb hn (fun Z' A' B' Y' a' m' b' w' hl hO' hA' hB' l1 l2 e1 e2 e3 => ih Z' A' B' Y' a' m' b' w' (by omega) hO' hA' hB' l1 l2 e1 e2 e3)
end Go.Proofs.YtlmgojlffgkciaaGreat
