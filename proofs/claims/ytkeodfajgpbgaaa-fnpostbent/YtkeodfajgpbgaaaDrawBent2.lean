/-
  What the law FnPostBent draws: a leg, a text; by walks of their Go text.
-/
import Derived.Test.YtkeodfajgpbgaaaDrawBent
import Derived.Test.YtkeodfajgpbgaaaBox3
namespace Go.Proofs.Ytkeodfajgpbgaaa
open Go.RowKit

/-- A leg that has been drawn. -/
def LegOkR (w : World) (e : Ending) (w' : World) : Prop := ∃ (s : ByteArray) (c n : Int), e = .returned (.agg #[.string s, .int .i64 c, .int .i64 n]) ∧ LegW (s, c, n) ∧ Below w.heap.size w w'

set_option maxRecDepth 100000 in
set_option maxHeartbeats 4000000 in
theorem drawLegOk_any (a : Option Addr) (len cap : Nat) (w : World) (hb : BytesAt w a len cap) :
    Calls Try.prog 36 #[.slice a len cap] w (LegOkR w) := by
  have k0 : Below w.heap.size w (w.alloc (.cells #[.string ⟨#[]⟩, .int .i64 0, .int .i64 0] 69)) := (Below.refl _ _).alloc (Nat.le_refl _) _
  obtain ⟨hb1, hb2, hb3⟩ := hb.keep k0
  have A0 := Box3.new w 69 (.string ⟨#[]⟩) (.int .i64 0) (.int .i64 0)
  clear hb
  go_enter Try.func36, Try.ntmps36
  go_wp2_with fail
  refine (l9Open_any a len cap _ hb1 hb2 hb3).mono ?_
  rintro e w1 ⟨len', rfl, r1, k1, s1⟩
  simp only [World.size_alloc] at r1 s1 ⊢
  obtain ⟨R, hR⟩ : ∃ R, R = w.heap.size + 1 := ⟨_, rfl⟩
  rw [← hR] at r1 s1 ⊢
  have low : Low a len' R := by
    rcases r1.bytes with e | ⟨b, off, ha, h1, h2, _⟩
    · exact Or.inl e
    · exact Or.inr (fun b' off' e => by rw [ha] at e; cases e; omega)
  have A1 := A0.below k1
  have G1 : w.grownBy w1 (some R) := grown_below (k0.trans (k1.mono (by simp)))
  have hwR : w.heap.size < R := by omega
  have hXR : w.heap.size ≠ R := by omega
  have hRs := r1.lt
  clear k0 k1 A0 hb1 hb2 hb3 hR s1
  go_wp2_with fail
  refine (l1Post_any R 0 a len' cap _ r1 low (by omega)).mono ?_
  rintro e w2 ⟨id2, b2, n2, c2, P2, L2, rfl, D2, hn2, r2, hP2, g2⟩
  have A2 := A1.grown g2 hXR
  have G2 := grown_trans G1 g2
  have hF2 := D2.accts
  have hs2 := g2.size
  clear r1 G1 g2 A1
  go_wp2_with fail
  refine (l1Bent_any R P2 a len' cap id2 b2 0 n2 c2 L2 _ r2 low (by omega) D2.legsAt hF2 hn2).mono ?_
  rintro e w3 ⟨id3, b3, n3, c3, P3, L3, rfl, D3, hn3, r3, hP3, g3⟩
  have A3 := A2.grown g3 hXR
  have G3 := grown_trans G2 g3
  have hF3 := D3.accts
  clear r2 G2 g3 D2 A2
  go_wp2_with fail
  refine (l1Bent_any R P3 a len' cap id3 b3 0 n3 c3 L3 _ r3 low (by omega) D3.legsAt hF3 hn3).mono ?_
  rintro e w4 ⟨id4, b4, n4, c4, P4, L4, rfl, D4, hn4, r4, hP4, g4⟩
  have A4 := A3.grown g4 hXR
  have G4 := grown_trans G3 g4
  have hF4 := D4.accts
  clear r3 G3 g4 D3 A3
  go_wp2_with fail
  refine (l1Bent_any R P4 a len' cap id4 b4 0 n4 c4 L4 _ r4 low (by omega) D4.legsAt hF4 hn4).mono ?_
  rintro e w5 ⟨id5, b5, n5, c5, P5, L5, rfl, D5, hn5, r5, hP5, g5⟩
  have A5 := A4.grown g5 hXR
  have G5 := grown_trans G4 g5
  have hF5 := D5.accts
  have hb5R : some b5 ≠ some R := fun e => by have := D5.lt.1; have := r4.lt; cases e; omega
  clear r4 G4 g5 D4 A4
  have hRw : R < w5.heap.size := r5.lt
  obtain ⟨Y, hY⟩ : ∃ Y, Y = w5.heap.size := ⟨_, rfl⟩
  obtain ⟨W5, hW5⟩ : ∃ W5, W5 = w5.alloc (.cells #[.int .i64 id5, .slice (some ⟨b5, 0, none⟩) n5 c5] 65) := ⟨_, rfl⟩
  have kW5 : Below w5.heap.size w5 W5 := by rw [hW5]; exact (Below.refl _ _).alloc (Nat.le_refl _) _
  have AX6 := A5.below kW5.drew
  have AX5 := A5.below kW5
  have AY6 : BoxH W5.drew Y (.int .i64 id5) (.slice (some ⟨b5, 0, none⟩) n5 c5) := by rw [hW5, hY]; exact (BoxH.new w5 (.int .i64 id5) (.slice (some ⟨b5, 0, none⟩) n5 c5)).below (Below.refl _ _).drew
  have AY5 : BoxH W5 Y (.int .i64 id5) (.slice (some ⟨b5, 0, none⟩) n5 c5) := by rw [hW5, hY]; exact BoxH.new w5 (.int .i64 id5) (.slice (some ⟨b5, 0, none⟩) n5 c5)
  have D6 := D5.below kW5.drew
  have r6 := r5.below kW5.drew
  have G6 : w.grownBy W5.drew (some R) := grown_trans G5 (grown_below kW5.drew)
  have G6' : w.grownBy W5 (some R) := grown_trans G5 (grown_below kW5)
  have hYR : some Y ≠ some R := fun e => by cases e; omega
  have hbR : some b5 ≠ some R := hb5R
  have hXY : w.heap.size ≠ Y := by have := A5.lt; omega
  have y1 := AY5.box.c1
  have yz := AY5.lt
  by_cases hn0 : n5 = 0
  · subst hn0
    have x0 := AX5.c0
    have x1 := AX5.c1
    have x2 := AX5.c2
    have xf := AX5.fr
    have xz := AX5.lt
    have HAX : Hid (Box3 W5 w.heap.size (.string ⟨#[]⟩) (.int .i64 0) (.int .i64 0)) := AX5
    have HG : Hid (w.grownBy W5 (some R)) := G6'
    go_upto_region 3 with fail
    rw [← hW5]
    try rw [← hY]
    clear hW5 hY kW5 A5 G5 D5 r5 AX6 AY6 D6 r6 G6 AX5 AY5 G6' hF5 hF2 hRs hs2
    go_wp2
    have c := HAX.out.setAll (.string ⟨#[]⟩) (.int .i64 0) (.int .i64 0)
    have g := grown_store (grown_store (grown_store HG.out (p := ⟨w.heap.size, 0, none⟩) (Nat.le_refl _) (.string ⟨#[]⟩)) (p := ⟨w.heap.size, 1, none⟩) (Nat.le_refl _) (.int .i64 0)) (p := ⟨w.heap.size, 2, none⟩) (Nat.le_refl _) (.int .i64 0)
    exact bodyPost_ret (v := .agg #[.string ⟨#[]⟩, .int .i64 0, .int .i64 0]) (by simp [results, Try.results36, go_sem, c.c0, c.c1, c.c2]) rfl ⟨⟨#[]⟩, 0, 0, rfl, ⟨by unfold maxLen; decide, by decide, by decide⟩, (Below.refl w.heap.size w).grown g (Nat.le_refl _) (fun k e => by cases e; omega)⟩
  have hn0I : ¬ (n5 : Int) = 0 := by omega
  have hn0b : ((n5 : Int) == 0) = false := by simpa using hn0I
  go_upto_region 5 with fail
  rw [← hW5]
  try rw [← hY]
  clear hW5 hY kW5 A5 G5 D5 r5 AX5 AY5 G6' hF5 hF2 hRs hs2 y1 yz
  refine wp_region_held_drew (S := (fun w' => w'.cell? ⟨Y, 1, none⟩ = some (.slice (some ⟨b5, 0, none⟩) n5 c5) ∧ Y < w'.heap.size)) (by kernel_rfl) (⟨AY6.box.c1, AY6.lt⟩) (fun hHeld => ?_)
  generalize W5.drew = wd at r6 AX6 AY6 D6 G6 hHeld ⊢
  refine wpAnyH_takeL (i := 0) (v := ?_) rfl (by kernel_rfl) (by kernel_rfl) (by kernel_rfl) (fun _ _ _ h => h) (Or.inl ⟨by rfl, ?_⟩) hHeld ?_
  rotate_left
  · (intro w hSw; (try dsimp only at hSw); go_simp; try with_reducible rfl)
  try go_frame
  refine wpAnyH_takeL (i := 1) (v := ?_) rfl (by kernel_rfl) (by kernel_rfl) (by kernel_rfl) (fun _ _ _ h => h) (Or.inl ⟨by rfl, ?_⟩) hHeld ?_
  rotate_left
  · (intro w hSw; (try dsimp only at hSw); go_simp; try with_reducible rfl)
  try go_frame
  refine wpAnyH_takeL (i := 2) (v := ?_) rfl (by kernel_rfl) (by kernel_rfl) (by kernel_rfl) (fun _ _ _ h => h) (Or.inl ⟨by rfl, ?_⟩) hHeld ?_
  rotate_left
  · (intro w hSw; (try dsimp only at hSw); go_simp; try with_reducible rfl)
  try go_frame
  refine wpAnyH_takeL (i := 3) (v := ?_) rfl (by kernel_rfl) (by kernel_rfl) (by kernel_rfl) (fun _ _ _ h => h) (Or.inl ⟨by rfl, ?_⟩) hHeld ?_
  rotate_left
  · (intro w hSw; (try dsimp only at hSw); go_simp; try with_reducible rfl)
  try go_frame
  refine wpAnyH_takeL (i := 4) (v := ?_) rfl (by kernel_rfl) (by kernel_rfl) (by kernel_rfl) (fun _ _ _ h => h) (Or.inl ⟨by rfl, ?_⟩) hHeld ?_
  rotate_left
  · (intro w hSw; (try dsimp only at hSw); go_simp; try with_reducible rfl)
  try go_frame
  refine wpAnyH_takeL (i := 5) (v := ?_) rfl (by kernel_rfl) (by kernel_rfl) (by kernel_rfl) (fun _ _ _ h => h) (Or.inl ⟨by rfl, ?_⟩) hHeld ?_
  rotate_left
  · (intro w hSw; (try dsimp only at hSw); go_simp; try with_reducible rfl)
  try go_frame
  refine wpAnyH_ready (rs := [6]) (by kernel_rfl) (by simp) ?_
  refine consL rfl (fun K hK => ?_) AllReadyH.nil
  go_simp
  refine (pick_any R P5 a len' cap (n5 : Int) _ r6 (by omega) (by omega)).mono ?_
  rintro e w7 ⟨q, rfl, hq, r7, g7⟩
  obtain ⟨k, rfl⟩ : ∃ k : Nat, q = (k : Int) := ⟨q.toNat, by have := hq.1; omega⟩
  have hkn : k < n5 := by have := hq.2 (by omega); omega
  have hknI : (k : Int) < (n5 : Int) := by omega
  have AX7 := AX6.grown g7 hXR
  have AY7 := AY6.grown g7 hYR
  have D7 := D6.grown g7 hbR
  have G7 := grown_trans G6 g7
  clear AX6 AY6 D6 G6 g7 hq r6
  go_wp2_with fail
  refine hK.out _ _ (⟨AY7.box.c1, AY7.lt⟩) (fun hHeld => ?_)
  clear hK K
  try go_frame
  refine wpAnyH_takeL (i := 7) (v := ?_) rfl (by kernel_rfl) (by kernel_rfl) (by kernel_rfl) (fun _ _ _ h => h) (Or.inl ⟨by rfl, ?_⟩) hHeld ?_
  rotate_left
  · (intro w hSw; (try dsimp only at hSw); go_simp; try with_reducible rfl)
  try go_frame
  refine wpAnyH_ready (rs := [8]) (by kernel_rfl) (by simp) ?_
  refine consL rfl (fun K hK => ?_) AllReadyH.nil
  obtain ⟨ls, lc, ln, hlg, hlw, l0, l1, l2⟩ := D7.legsAt.leg (Below.refl _ w7) D7.lt.2 k hkn
  have lz := D7.lt.2
  rw [Nat.zero_add] at l0 l1 l2
  go_simp
  refine hK.out _ _ (⟨AY7.box.c1, AY7.lt⟩) (fun hHeld => ?_)
  clear hK K
  try go_frame
  refine wpAnyH_ready (rs := [9]) (by kernel_rfl) (by simp) ?_
  refine consL rfl (fun K hK => ?_) AllReadyH.nil
  have x0 := AX7.c0
  have x1 := AX7.c1
  have x2 := AX7.c2
  have xf := AX7.fr
  have xz := AX7.lt
  go_simp
  have AX8 := AX7.setAll (.string ls) (.int .i64 lc) (.int .i64 ln)
  have AY8 := ((AY7.other (p := ⟨w.heap.size, 0, none⟩) hXY (.string ls)).other (p := ⟨w.heap.size, 1, none⟩) hXY (.int .i64 lc)).other (p := ⟨w.heap.size, 2, none⟩) hXY (.int .i64 ln)
  have G8 := grown_store (grown_store (grown_store G7 (p := ⟨w.heap.size, 0, none⟩) (Nat.le_refl _) (.string ls)) (p := ⟨w.heap.size, 1, none⟩) (Nat.le_refl _) (.int .i64 lc)) (p := ⟨w.heap.size, 2, none⟩) (Nat.le_refl _) (.int .i64 ln)
  refine hK.out _ _ (⟨AY8.box.c1, AY8.lt⟩) (fun hHeld => ?_)
  clear hK K
  try go_frame
  refine wpAnyH_done (by kernel_rfl) ?_ _
  have e0 := AX8.c0
  have e1 := AX8.c1
  have e2 := AX8.c2
  have HK : Hid (Below w.heap.size w _) := (Below.refl w.heap.size w).grown G8 (Nat.le_refl _) (fun k e => by cases e; omega)
  have HLW : Hid (LegW (ls, lc, ln)) := hlw
  clear hlw
  go_wp2
  exact bodyPost_ret (v := .agg #[.string ls, .int .i64 lc, .int .i64 ln]) (by simp [results, Try.results36, go_sem, e0, e1, e2]) rfl ⟨ls, lc, ln, rfl, HLW.out, HK.out⟩

/-- A text that has been drawn. -/
def AcctOkR (w : World) (e : Ending) (w' : World) : Prop := ∃ z : ByteArray, e = .returned (.string z) ∧ z.size ≤ 8 ∧ Below w.heap.size w w'
/-- A short text. -/
def Few8 (s : ByteArray) : Prop := s.size ≤ 8
set_option maxRecDepth 100000 in
set_option maxHeartbeats 800000 in
theorem drawAcctOk_any (a : Option Addr) (len cap : Nat) (w : World) (hb : BytesAt w a len cap) :
    Calls Try.prog 37 #[.slice a len cap] w (AcctOkR w) := by
  obtain ⟨hb1, hb2, hb3⟩ := hb
  go_enter Try.func37, Try.ntmps37
  go_wp2_with fail
  refine (l9Open_any a len cap _ hb1 hb2 hb3).mono ?_
  rintro e w1 ⟨len', rfl, r1, k1, s1⟩
  clear s1
  obtain ⟨R, hR⟩ : ∃ R, R = w.heap.size := ⟨_, rfl⟩
  rw [← hR] at r1 ⊢
  have hRl := r1.lt
  have HR : Hid (R = w.heap.size) := hR
  clear hR hb1 hb2 hb3
  go_wp2_with fail
  have hb0 : Below w1.heap.size w1 (w1.alloc (.cells (([⟨#[97]⟩, ⟨#[99, 97, 115, 104]⟩, ⟨#[]⟩, ⟨#[97, 98, 99, 100, 101]⟩, ⟨#[65]⟩, ⟨#[97, 49]⟩, ⟨#[122, 122]⟩, ⟨#[97, 32, 98]⟩] : List ByteArray).map Value.string).toArray 9)) := (Below.refl _ _).alloc (Nat.le_refl _) _
  refine (of_any Few8 R 0 a len' cap w1.heap.size 0 8 8 _ (r1.below hb0) (by omega) (by omega) (by omega) (by omega) (by simp) (strs_new w1 9 [⟨#[97]⟩, ⟨#[99, 97, 115, 104]⟩, ⟨#[]⟩, ⟨#[97, 98, 99, 100, 101]⟩, ⟨#[65]⟩, ⟨#[97, 49]⟩, ⟨#[122, 122]⟩, ⟨#[97, 32, 98]⟩] Few8 ?_)).mono ?_
  · intro s hs
    simp only [List.mem_cons, List.not_mem_nil, or_false] at hs
    rcases hs with rfl | rfl | rfl | rfl | rfl | rfl | rfl | rfl <;> (unfold Few8; decide)
  rintro e w2 ⟨z, rfl, hz, _, hg1⟩
  have K2 : Hid (Below w.heap.size w w2) := (k1.trans (hb0.mono k1.size)).grown hg1 (Nat.le_trans k1.size hb0.size) (fun k e => by cases e; rw [HR.out]; exact Nat.le_refl _)
  clear hg1 hb0 k1 r1
  go_wp2
  go_ret
  exact ⟨z, rfl, hz, K2.out⟩
end Go.Proofs.Ytkeodfajgpbgaaa
