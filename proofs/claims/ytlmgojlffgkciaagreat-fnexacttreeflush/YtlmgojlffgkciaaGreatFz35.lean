/-
  What the program's RunOf answers at every list of entries, wherever it begins in its block, by a walk of its Go text.
-/
import Derived.Test.YtlmgojlffgkciaaGreatFz34
namespace Go.Proofs.YtlmgojlffgkciaaGreat
open Go.RowKit
set_option maxRecDepth 100000
set_option maxHeartbeats 4000000
theorem ents_newsO {w : World} {b off n c : Nat} {L : List EntD} (h : EntsAt w (some ⟨b, off, none⟩) n c L) : ∀ j u, (flatE L)[j]? = some u → w.cell? ((⟨b, off, none⟩ : Addr).add j) = some u := by
  intro j u hj
  have hlt : j < (flatE L).length := (List.getElem?_eq_some_iff.1 hj).1
  rw [flatE_len] at hlt
  have hi : j / 5 < L.length := by omega
  obtain ⟨c0, c1, c2, c3, c4⟩ := h.cells _ rfl (j / 5) hi
  obtain ⟨r0, r1, r2, r3, r4⟩ := flatE_has L (j / 5) L[j / 5] (List.getElem?_eq_getElem hi)
  rw [Go.WideShapes.add_plain]
  simp only [Nat.add_assoc] at c0 c1 c2 c3 c4
  have : j = j / 5 * 5 ∨ j = j / 5 * 5 + 1 ∨ j = j / 5 * 5 + 2 ∨ j = j / 5 * 5 + 3 ∨ j = j / 5 * 5 + 4 := by omega
  rcases this with e | e | e | e | e
  · rw [← e] at r0 c0; rw [r0] at hj; cases hj; exact c0
  · rw [← e] at r1 c1; rw [r1] at hj; cases hj; exact c1
  · rw [← e] at r2 c2; rw [r2] at hj; cases hj; exact c2
  · rw [← e] at r3 c3; rw [r3] at hj; cases hj; exact c3
  · rw [← e] at r4 c4; rw [r4] at hj; cases hj; exact c4
theorem cloneRowO (b off n c : Nat) (L : List EntD) (w : World) (hL : EntsAt w (some ⟨b, off, none⟩) n c L) (hn : n ≤ 1048576) :
    Calls Tryz.prog 89 #[.slice (some ⟨b, off, none⟩) n c] w fun e w' => ∃ g c', e = .returned (.slice (some ⟨g, 0, none⟩) n c') ∧ OwnE w' w.heap.size g n c' L ∧ Below w.heap.size w w' := by
  obtain ⟨i0, hi, hz0, hz1, hz2⟩ := info_parts Tryz.infoEnt
  have h := AnyE.slices_Clone Tryz.cloneL i0 _ 5 56 hi hz0 hz1 hz2 rfl (by decide) Tryz.sizeOf78 b off n c (flatE L) w (by rw [flatE_len, hL.length]) (by unfold maxLen; omega) (by omega) (fun j u hu => by have := ents_newsO hL j u hu; rwa [WideShapes.add_plain] at this) (flatE_one _)
  have h' : Calls Tryz.prog 89 #[.slice (some ⟨b, off, none⟩) n c] w fun e w' => ∃ v', e = .returned v' ∧ w'.ownsRow w.heap.size 78 5 v' n (flatE L) ∧ v' ≠ .slice none 0 0 ∧ Below w.heap.size w w' := h
  refine h'.mono ?_
  rintro e w' ⟨v', rfl, ho, hne, hb⟩
  obtain ⟨g, c', rfl⟩ : ∃ g cap, v' = .slice (some ⟨g, 0, none⟩) n cap := by
    rcases ho.2 with ⟨hv, h0⟩ | ⟨g, cap, cur, hv, _⟩
    · exact absurd hv hne
    · exact ⟨g, cap, hv⟩
  exact ⟨g, c', rfl, ⟨ho, hL.length, hL.ents⟩, hb⟩
theorem implRunOfX (b off len cap : Nat) (L : List EntD) (w : World) (hL : EntsAt w (some ⟨b, off, none⟩) len cap L) :
    Calls Tryz.prog 98 #[.slice (some ⟨b, off, none⟩) len cap] w (OfR (ofL L) (ofM L) (ofB L) w) := by
  have HLEN : Hid (L.length = len) := hL.length
  have hbl := hL.room
  have hbc := hL.big
  unfold maxLen at hbc
  have kA : Below w.heap.size w (w.alloc (.cells #[.slice none 0 0, .int .i64 0] 102)) := (Below.refl _ _).alloc (Nat.le_refl _) _
  by_cases h2 : 150 < len
  · have h2' : (150 : Int) < (len : Int) := by omega
    go_enter Tryz.func98, Tryz.ntmps98
    go_wp2
    refine bodyPost_ret (v := .tuple #[.agg #[.slice none 0 0, .int .i64 0], .bool false]) (by simp [results, Tryz.results98, go_sem]) rfl ?_
    exact of_no (by have := HLEN.out; simp only [ofB, decide_eq_false (show ¬ L.length ≤ 150 by omega), Bool.false_and, Bool.and_false]) kA
  have h2' : ¬ (150 : Int) < (len : Int) := by omega
  have HL : Hid (EntsAt w (some ⟨b, off, none⟩) len cap L) := hL
  clear hL
  go_enter Tryz.func98, Tryz.ntmps98
  go_wp2_with fail
  refine (cloneRowO b off len cap L _ (HL.out.keep kA) (by omega)).mono ?_
  rintro e w1 ⟨g, c, rfl, hO1, hb1⟩
  obtain ⟨X, hX⟩ : ∃ X, X = w.heap.size := ⟨_, rfl⟩
  have HXw : Hid (w.heap.size ≤ X) := by rw [hX]; exact Nat.le_refl _
  have x1 : w1.cell? ⟨X, 0, none⟩ = some (.slice none 0 0) := cell_later hb1 (by rw [hX]; simp)
  have y1 : w1.cell? ⟨X, 1, none⟩ = some (.int .i64 0) := cell_later hb1 (by rw [hX]; simp)
  have f1 : ∀ o, w1.frozen? ⟨X, o, none⟩ = false := fun o => (hb1.frozen (p := ⟨X, o, none⟩) (by rw [hX]; simp)).trans (by rw [hX]; simp)
  have hgX : X < g := by have := hO1.lt.1; simp at this; omega
  have HO1 : Hid (OwnE w1 w.heap.size g len c L) := hO1.mono (by simp)
  have HB1 : Hid (Below w.heap.size w w1) := kA.trans (hb1.mono kA.size)
  have hX1 := World.block_lt_of_cell? _ _ x1
  simp only at hX1
  have hXg : X ≠ g := by omega
  rw [← hX]
  clear hO1 hb1 kA hX
  go_wp2_with fail
  refine (sortRow w.heap.size g len c L w1 HO1.out (by omega)).mono ?_
  rintro e w2 ⟨rfl, D, hWk, hPm, hE2, hg2⟩
  have x2 : w2.cell? ⟨X, 0, none⟩ = some (.slice none 0 0) := (grown_cell hg2 (x := ⟨X, 0, none⟩) hX1 hXg).trans x1
  have y2 : w2.cell? ⟨X, 1, none⟩ = some (.int .i64 0) := (grown_cell hg2 (x := ⟨X, 1, none⟩) hX1 hXg).trans y1
  have f2 : ∀ o, w2.frozen? ⟨X, o, none⟩ = false := fun o => by
    have hk := hg2.block X hX1 (fun e => hXg (by cases e; rfl))
    have := f1 o
    simpa [World.frozen?, hk] using this
  have HB2 : Hid (Below w.heap.size w w2) := HB1.out.grown hg2 HB1.out.size (fun k e => by cases e; exact HO1.out.lt.1)
  have HS : Hid (rightB D = rightB (sortE L) ∧ (rightB D = true → D = sortE L)) := sorted_same hWk hPm
  have HDL : Hid (D.length = len) := hE2.length
  have HE2 : Hid (EntsAt w2 (some ⟨g, 0, none⟩) len c D) := hE2
  clear hWk hPm hE2 hg2 HO1 HB1 x1 y1 f1 hX1
  go_wp2_with fail
  refine (implMaskL _ len c D w2 HE2.out).mono ?_
  rintro e w3 ⟨rfl, hb3⟩
  obtain ⟨M, hM⟩ : ∃ M : Int, M = ((maskL D : Nat) : Int) := ⟨_, rfl⟩
  have HM : Hid (M = ((maskL D : Nat) : Int)) := hM
  rw [← hM]
  clear hM
  obtain ⟨Y, hY⟩ : ∃ Y, Y = w3.heap.size := ⟨_, rfl⟩
  obtain ⟨W, hW⟩ : ∃ W, W = w3.alloc (.cells #[.slice (some ⟨g, 0, none⟩) len c, .int .i64 M] 102) := ⟨_, rfl⟩
  have k3 : Below w3.heap.size w3 W := by rw [hW]; exact (Below.refl _ _).alloc (Nat.le_refl _) _
  have k23 : Below w2.heap.size w2 W := hb3.trans (k3.mono hb3.size)
  have z0 : W.cell? ⟨Y, 0, none⟩ = some (.slice (some ⟨g, 0, none⟩) len c) := by rw [hW, hY]; simp
  have z1 : W.cell? ⟨Y, 1, none⟩ = some (.int .i64 M) := by rw [hW, hY]; simp
  have x3 := cell_later k23 x2
  have y3 := cell_later k23 y2
  have hX2 := World.block_lt_of_cell? _ _ x2
  simp only at hX2
  have f3 : ∀ o, W.frozen? ⟨X, o, none⟩ = false := fun o => (k23.frozen (p := ⟨X, o, none⟩) hX2).trans (f2 o)
  have HXY : Hid (X ≠ Y) := by have := hb3.size; unfold Hid; omega
  have HEW : Hid (EntsAt W (some ⟨g, 0, none⟩) len c D) := HE2.out.keep k23
  have HBW : Hid (Below w.heap.size w W) := HB2.out.trans (k23.mono HB2.out.size)
  have HWW : Hid (W = w3.alloc (.cells #[.slice (some ⟨g, 0, none⟩) len c, .int .i64 M] 102)) := hW
  go_wp2_with fail
  rw [← hY, ← hW]
  clear hb3 k3 k23 x2 y2 f2 hX2 HE2 HB2 hY hW HWW
  refine (implRunOk _ len c D M W HEW.out).mono ?_
  rintro e w4 ⟨rfl, hb4⟩
  have kO : Of8 w W X Y M := ⟨HBW.out, ⟨_, x3⟩, ⟨_, y3⟩, f3, z1⟩
  have k4 := kO.call hb4
  have HE4 : Hid (EntsAt w4 (some ⟨g, 0, none⟩) len c D) := HEW.out.keep hb4
  obtain ⟨v0, c0⟩ := k4.r0
  obtain ⟨v1, c1⟩ := k4.r1
  have f40 := k4.fr 0
  have f41 := k4.fr 1
  have hRB : runB D M = (decide (1 ≤ len) && rightB D) := by
    have hl := HDL.out
    rw [HM.out]
    simp [runB, hl, decide_eq_true (show len ≤ 150 by omega)]
  have hOB : ofB L = (decide (1 ≤ len) && rightB D) := by
    have hl := HLEN.out
    rw [HS.out.1]
    simp [ofB, hl, decide_eq_true (show len ≤ 150 by omega)]
  have HOB : Hid (ofB L = runB D M) := hOB.trans hRB.symm
  have HRB : Hid (runB D M = (decide (1 ≤ len) && rightB D)) := hRB
  clear hRB hOB hb4 kO x3 y3 f3 z0 z1 HEW HBW
  cases hr : runB D M with
  | false =>
    have HK4 : Hid (Of8 w w4 X Y M) := k4
    clear k4
    go_wp2
    refine bodyPost_ret (v := .tuple #[.agg #[.slice none 0 0, .int .i64 0], .bool false]) (by simp [results, Tryz.results98, go_sem, c0, c1]) rfl ?_
    exact of_no (HOB.out.trans hr) (((HK4.out.store 0 _ HXY.out HXw.out).store 1 _ HXY.out HXw.out).all)
  | true =>
    have hRD : rightB D = true := by have := HRB.out; rw [hr] at this; simp at this; exact this.2
    have HDS : Hid (D = sortE L) := HS.out.2 hRD
    have HSM : Hid (∀ e ∈ D, e.1.size ≤ 281474976710656 ∧ e.2.2.2.1.size ≤ 281474976710656) := right_small hRD
    clear hRD c0 c1 f40 f41
    have HED : Hid (EntsAt w4.drew (some ⟨g, 0, none⟩) len c D) := HE4.out.keep (Below.refl _ w4).drew
    have k0 : Of8 w w4.drew X Y M := k4.call (Below.refl _ w4).drew
    have HMK : Hid (∀ w', Of8 w w' X Y M → w'.cell? ⟨Y, 1, none⟩ = some (.int .i64 M)) := fun w' kk => kk.y1
    have y4 := k4.y1
    go_wp2_with fail
    refine wp_region_held_drew (S := (fun w' => w'.cell? ⟨Y, 1, none⟩ = some (.int .i64 M))) (by kernel_rfl) (HMK.out _ k0) (fun hHeld => ?_)
    refine tkL 0 hHeld ?_; try go_frame
    refine tkL 2 hHeld ?_; try go_frame
    refine tkL 3 hHeld ?_; try go_frame
    refine wpAnyH_ready (rs := [1]) (by kernel_rfl) (by simp) ?_
    refine consL rfl (fun K hK => ?_) AllReadyH.nil
    go_simp
    refine (cloneE_ex _ len c D _ HED.out (by omega) HSM.out).mono ?_
    rintro e w6 ⟨Z, rfl, hZ, hO6, hb6⟩
    have k1 := k0.call hb6
    have HO6 : Hid (OwnE w6 w.heap.size Z len len D) := hO6.mono k0.all.size
    have hXZ : X < Z := Nat.lt_of_lt_of_le k0.ltX hZ
    clear hO6 hZ
    go_wp2_with fail
    refine hK.out _ _ (HMK.out _ k1) (fun hHeld => ?_)
    clear hK K
    try go_frame
    refine tkL 4 hHeld ?_; try go_frame
    refine wpAnyH_ready (rs := [5]) (by kernel_rfl) (by simp) ?_
    refine consL rfl (fun K hK => ?_) AllReadyH.nil
    obtain ⟨v0, c0⟩ := k1.r0
    obtain ⟨v1, c1⟩ := k1.r1
    have f0 := k1.fr 0
    have f1 := k1.fr 1
    go_simp
    have k2 := (k1.store 0 (.slice (some ⟨Z, 0, none⟩) len len) HXY.out HXw.out).store 1 (.int .i64 M) HXY.out HXw.out
    refine hK.out _ _ (HMK.out _ k2) (fun hHeld => ?_)
    clear hK K
    try go_frame
    refine tkL 6 hHeld ?_; try go_frame
    refine wpAnyH_done (by kernel_rfl) ?_ _
    go_wp2
    refine bodyPost_ret (v := .tuple #[.agg #[.slice (some ⟨Z, 0, none⟩) len len, .int .i64 M], .bool true]) (by simp [results, Tryz.results98, go_sem, c0, c1]) rfl ?_
    have hz := of_yes (L := L) (HOB.out.trans hr) (w := w) (g := Z) (n := len) (c := len) (by rw [← HDS.out]; exact (HO6.out.setCell (p := ⟨X, 0, none⟩) (by simp; omega) (.slice (some ⟨Z, 0, none⟩) len len)).setCell (p := ⟨X, 1, none⟩) (by simp; omega) (.int .i64 M)) k2.all
    rw [← HDS.out, ← HM.out] at hz
    exact hz
end Go.Proofs.YtlmgojlffgkciaaGreat
