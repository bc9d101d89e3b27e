/-
  What the law FnPostBent draws: two postings, a leg, a text; by walks of their Go text.
-/
import Derived.Test.YtkeodfajgpbgaaaBytesD
import Derived.Test.YtkeodfajgpbgaaaBent
import Derived.Test.YtkeodfajgpbgaaaHeld
namespace Go.Proofs.Ytkeodfajgpbgaaa
open Go.RowKit

/-- Two postings that have been drawn. -/
def PSameR (w : World) (e : Ending) (w' : World) : Prop :=
  ∃ (id : Int) (b n c : Nat) (L : List LegD) (id' : Int) (b' n' c' : Nat) (L' : List LegD), e = .returned (.tuple #[.agg #[.int .i64 id, .slice (some ⟨b, 0, none⟩) n c], .agg #[.int .i64 id', .slice (some ⟨b', 0, none⟩) n' c']]) ∧ LegsAt w' (some ⟨b, 0, none⟩) n c L ∧ LegsAt w' (some ⟨b', 0, none⟩) n' c' L' ∧ n ≤ 10 ∧ n' ≤ 10 ∧ (∀ l ∈ L, FewB l.1) ∧ Below w.heap.size w w'

set_option maxRecDepth 100000 in
set_option maxHeartbeats 4000000 in
theorem drawPostSame_any (a : Option Addr) (len cap : Nat) (w : World) (hb : BytesAt w a len cap) :
    Calls Try.prog 35 #[.slice a len cap] w (PSameR w) := by
  have k0 : Below w.heap.size w ((w.alloc (.cells #[.int .i64 0, .slice none 0 0] 65)).alloc (.cells #[.int .i64 0, .slice none 0 0] 65)) := ((Below.refl _ _).alloc (Nat.le_refl _) _).alloc (by simp) _
  obtain ⟨hb1, hb2, hb3⟩ := hb.keep k0
  have A0 := (BoxH.new w (.int .i64 0) (.slice none 0 0)).alloc (.cells #[.int .i64 0, .slice none 0 0] 65)
  have U0 := BoxH.new (w.alloc (.cells #[.int .i64 0, .slice none 0 0] 65)) (.int .i64 0) (.slice none 0 0)
  rw [World.size_alloc] at U0
  clear hb
  go_enter Try.func35, Try.ntmps35
  go_wp2_with fail
  refine (l9Open_any a len cap _ hb1 hb2 hb3).mono ?_
  rintro e w1 ⟨len', rfl, r1, k1, s1⟩
  simp only [World.size_alloc] at r1 s1 ⊢
  obtain ⟨R, hR⟩ : ∃ R, R = w.heap.size + 1 + 1 := ⟨_, rfl⟩
  rw [← hR] at r1 s1 ⊢
  have low : Low a len' R := by
    rcases r1.bytes with e | ⟨b, off, ha, h1, h2, _⟩
    · exact Or.inl e
    · exact Or.inr (fun b' off' e => by rw [ha] at e; cases e; omega)
  have A1 := A0.below k1
  have U1 := U0.below k1
  have G1 : w.grownBy w1 (some R) := grown_below (k0.trans (k1.mono (by simp; omega)))
  have hwR : w.heap.size + 1 < R := by omega
  have hXR : some w.heap.size ≠ some R := fun e => by cases e; omega
  have hUR : some (w.heap.size + 1) ≠ some R := fun e => by cases e; omega
  clear k0 k1 A0 U0 hb1 hb2 hb3 hR s1
  go_wp2_with fail
  refine (l1Post_any R 0 a len' cap _ r1 low (by omega)).mono ?_
  rintro e w2 ⟨id2, b2, n2, c2, P2, L2, rfl, D0, hn2, r0, hP2, g2⟩
  have hRw : R < w2.heap.size := r0.lt
  obtain ⟨Y, hY⟩ : ∃ Y, Y = w2.heap.size := ⟨_, rfl⟩
  obtain ⟨W3, hW3⟩ : ∃ W3, W3 = w2.alloc (.cells #[.int .i64 id2, .slice (some ⟨b2, 0, none⟩) n2 c2] 65) := ⟨_, rfl⟩
  have kW3 : Below w2.heap.size w2 W3 := by rw [hW3]; exact (Below.refl _ _).alloc (Nat.le_refl _) _
  have AX2 : BoxH W3.drew w.heap.size (.int .i64 0) (.slice none 0 0) := (A1.grown g2 hXR).below kW3.drew
  have AU2 : BoxH W3.drew (w.heap.size + 1) (.int .i64 0) (.slice none 0 0) := (U1.grown g2 hUR).below kW3.drew
  have AY2 : BoxH W3.drew Y (.int .i64 id2) (.slice (some ⟨b2, 0, none⟩) n2 c2) := by rw [hW3, hY]; exact (BoxH.new w2 (.int .i64 id2) (.slice (some ⟨b2, 0, none⟩) n2 c2)).below (Below.refl _ _).drew
  have D22 : DrawnAt W3.drew w1.heap.size b2 n2 c2 L2 := D0.below kW3.drew
  have r2 : RdAt W3.drew R a len' cap P2 := r0.below kW3.drew
  have G2 : w.grownBy W3.drew (some R) := grown_trans (grown_trans G1 g2) (grown_below kW3.drew)
  have hF2 := D0.accts
  have hYR : some Y ≠ some R := fun e => by cases e; omega
  have hbR : some b2 ≠ some R := fun e => by have := D0.lt.1; have := r1.lt; cases e; omega
  have hXY : w.heap.size ≠ Y := by omega
  have hUY : w.heap.size + 1 ≠ Y := by omega
  have hXU : w.heap.size ≠ w.heap.size + 1 := by omega
  have hwX : w.heap.size ≤ w.heap.size := Nat.le_refl _
  have hwU : w.heap.size ≤ w.heap.size + 1 := by omega
  go_wp2_with fail
  rw [← hW3, ← hY]
  clear hW3 hY kW3 A1 U1 G1 g2 D0 r0 r1 hRw
  refine wp_region_held_drew (S := (fun w' => w'.cell? ⟨Y, 0, none⟩ = some (.int .i64 id2) ∧ w'.cell? ⟨Y, 1, none⟩ = some (.slice (some ⟨b2, 0, none⟩) n2 c2) ∧ Y < w'.heap.size)) (by kernel_rfl) (⟨AY2.box.c0, AY2.box.c1, AY2.lt⟩) (fun hHeld => ?_)
  generalize W3.drew = wd at r2 AX2 AU2 AY2 D22 G2 hHeld ⊢
  refine wpAnyH_takeL (i := 0) (v := ?_) rfl (by kernel_rfl) (by kernel_rfl) (by kernel_rfl) (fun _ _ _ h => h) (Or.inl ⟨by rfl, ?_⟩) hHeld ?_
  rotate_left
  · (intro w hSw; (try dsimp only at hSw); go_simp; try with_reducible rfl)
  try go_frame
  refine wpAnyH_takeL (i := 1) (v := ?_) rfl (by kernel_rfl) (by kernel_rfl) (by kernel_rfl) (fun _ _ _ h => h) (Or.inl ⟨by rfl, ?_⟩) hHeld ?_
  rotate_left
  · (intro w hSw; (try dsimp only at hSw); go_simp; try with_reducible rfl)
  try go_frame
  refine wpAnyH_takeL (i := 2) (v := ?_) rfl (by kernel_rfl) (by kernel_rfl) (by kernel_rfl) (fun _ _ _ h => h) (Or.inl ⟨by rfl, ?_⟩) hHeld ?_
  rotate_left
  · (intro w hSw; (try dsimp only at hSw); go_simp; try with_reducible rfl)
  try go_frame
  refine wpAnyH_takeL (i := 3) (v := ?_) rfl (by kernel_rfl) (by kernel_rfl) (by kernel_rfl) (fun _ _ _ h => h) (Or.inl ⟨by rfl, ?_⟩) hHeld ?_
  rotate_left
  · (intro w hSw; (try dsimp only at hSw); go_simp; try with_reducible rfl)
  try go_frame
  refine wpAnyH_takeL (i := 4) (v := ?_) rfl (by kernel_rfl) (by kernel_rfl) (by kernel_rfl) (fun _ _ _ h => h) (Or.inl ⟨by rfl, ?_⟩) hHeld ?_
  rotate_left
  · (intro w hSw; (try dsimp only at hSw); go_simp; try with_reducible rfl)
  try go_frame
  refine wpAnyH_takeL (i := 5) (v := ?_) rfl (by kernel_rfl) (by kernel_rfl) (by kernel_rfl) (fun _ _ _ h => h) (Or.inl ⟨by rfl, ?_⟩) hHeld ?_
  rotate_left
  · (intro w hSw; (try dsimp only at hSw); go_simp; try with_reducible rfl)
  try go_frame
  refine wpAnyH_ready (rs := [6]) (by kernel_rfl) (by simp) ?_
  refine consL rfl (fun K hK => ?_) AllReadyH.nil
  go_simp
  refine (l1Bent_any R P2 a len' cap id2 b2 0 n2 c2 L2 _ r2 low (by omega) D22.legsAt hF2 hn2).mono ?_
  rintro e w3 ⟨id3, b3, n3, c3, P3, L3, rfl, D3, hn3, r3, hP3, g3⟩
  have AX3 := AX2.grown g3 hXR
  have AU3 := AU2.grown g3 hUR
  have AY3 := AY2.grown g3 hYR
  have D23 := D22.grown g3 hbR
  have G3 := grown_trans G2 g3
  have hF3 := D3.accts
  clear AX2 AU2 AY2 D22 G2 g3 r2
  go_wp2_with fail
  refine hK.out _ _ (⟨AY3.box.c0, AY3.box.c1, AY3.lt⟩) (fun hHeld => ?_)
  clear hK K
  try go_frame
  refine wpAnyH_ready (rs := [7]) (by kernel_rfl) (by simp) ?_
  refine consL rfl (fun K hK => ?_) AllReadyH.nil
  go_simp
  refine (l1Bent_any R P3 a len' cap id3 b3 0 n3 c3 L3 _ r3 low (by omega) D3.legsAt hF3 hn3).mono ?_
  rintro e w4 ⟨id4, b4, n4, c4, P4, L4, rfl, D4, hn4, r4, hP4, g4⟩
  have AX4 := AX3.grown g4 hXR
  have AU4 := AU3.grown g4 hUR
  have AY4 := AY3.grown g4 hYR
  have D24 := D23.grown g4 hbR
  have G4 := grown_trans G3 g4
  have hF4 := D4.accts
  clear AX3 AU3 AY3 D23 G3 g4 r3 D3
  go_wp2_with fail
  refine hK.out _ _ (⟨AY4.box.c0, AY4.box.c1, AY4.lt⟩) (fun hHeld => ?_)
  clear hK K
  try go_frame
  refine wpAnyH_ready (rs := [8]) (by kernel_rfl) (by simp) ?_
  refine consL rfl (fun K hK => ?_) AllReadyH.nil
  go_simp
  refine (l1Bent_any R P4 a len' cap id4 b4 0 n4 c4 L4 _ r4 low (by omega) D4.legsAt hF4 hn4).mono ?_
  rintro e w5 ⟨id5, b5, n5, c5, P5, L5, rfl, D5, hn5, r5, hP5, g5⟩
  have AX5 := AX4.grown g5 hXR
  have AU5 := AU4.grown g5 hUR
  have AY5 := AY4.grown g5 hYR
  have D25 := D24.grown g5 hbR
  have G5 := grown_trans G4 g5
  have hF5 := D5.accts
  clear AX4 AU4 AY4 D24 G4 g5 r4 D4
  go_wp2_with fail
  refine hK.out _ _ (⟨AY5.box.c0, AY5.box.c1, AY5.lt⟩) (fun hHeld => ?_)
  clear hK K
  try go_frame
  refine wpAnyH_ready (rs := [9]) (by kernel_rfl) (by simp) ?_
  refine consL rfl (fun K hK => ?_) AllReadyH.nil
  go_simp
  refine (l1Bent_any R P5 a len' cap id5 b5 0 n5 c5 L5 _ r5 low (by omega) D5.legsAt hF5 hn5).mono ?_
  rintro e w6 ⟨id6, b6, n6, c6, P6, L6, rfl, D6, hn6, r6, hP6, g6⟩
  have AX6 := AX5.grown g6 hXR
  have AU6 := AU5.grown g6 hUR
  have AY6 := AY5.grown g6 hYR
  have D26 := D25.grown g6 hbR
  have G6 := grown_trans G5 g6
  have hF6 := D6.accts
  clear AX5 AU5 AY5 D25 G5 g6 r5 D5
  go_wp2_with fail
  refine hK.out _ _ (⟨AY6.box.c0, AY6.box.c1, AY6.lt⟩) (fun hHeld => ?_)
  clear hK K
  try go_frame
  refine wpAnyH_ready (rs := [10]) (by kernel_rfl) (by simp) ?_
  refine consL rfl (fun K hK => ?_) AllReadyH.nil
  have s010 := AX6.box.c0
  have s110 := AX6.box.c1
  have t010 := AX6.box.f0
  have t110 := AX6.box.f1
  have z10 := AX6.lt
  go_simp
  have AX7 := (AX6.set0 (.int .i64 id2)).set1 (.slice (some ⟨b2, 0, none⟩) n2 c2)
  have AU7 := (AU6.other (p := ⟨w.heap.size, 0, none⟩) hXU (.int .i64 id2)).other (p := ⟨w.heap.size, 1, none⟩) hXU (.slice (some ⟨b2, 0, none⟩) n2 c2)
  have AY7 := (AY6.other (p := ⟨w.heap.size, 0, none⟩) hXY (.int .i64 id2)).other (p := ⟨w.heap.size, 1, none⟩) hXY (.slice (some ⟨b2, 0, none⟩) n2 c2)
  have D27 := (D26.setCell (p := ⟨w.heap.size, 0, none⟩) (AX6.ne_row D26) (.int .i64 id2)).setCell (p := ⟨w.heap.size, 1, none⟩) (AX6.ne_row D26) (.slice (some ⟨b2, 0, none⟩) n2 c2)
  have D67 := (D6.setCell (p := ⟨w.heap.size, 0, none⟩) (AX6.ne_row D6) (.int .i64 id2)).setCell (p := ⟨w.heap.size, 1, none⟩) (AX6.ne_row D6) (.slice (some ⟨b2, 0, none⟩) n2 c2)
  have G7 := grown_store (grown_store G6 (p := ⟨w.heap.size, 0, none⟩) hwX (.int .i64 id2)) (p := ⟨w.heap.size, 1, none⟩) hwX (.slice (some ⟨b2, 0, none⟩) n2 c2)
  refine hK.out _ _ (⟨AY7.box.c0, AY7.box.c1, AY7.lt⟩) (fun hHeld => ?_)
  clear hK K
  try go_frame
  refine wpAnyH_ready (rs := [11]) (by kernel_rfl) (by simp) ?_
  refine consL rfl (fun K hK => ?_) AllReadyH.nil
  have s011 := AU7.box.c0
  have s111 := AU7.box.c1
  have t011 := AU7.box.f0
  have t111 := AU7.box.f1
  have z11 := AU7.lt
  go_simp
  have AU8 := (AU7.set0 (.int .i64 id6)).set1 (.slice (some ⟨b6, 0, none⟩) n6 c6)
  have AX8 := (AX7.other (p := ⟨(w.heap.size + 1), 0, none⟩) hXU.symm (.int .i64 id6)).other (p := ⟨(w.heap.size + 1), 1, none⟩) hXU.symm (.slice (some ⟨b6, 0, none⟩) n6 c6)
  have AY8 := (AY7.other (p := ⟨(w.heap.size + 1), 0, none⟩) hUY (.int .i64 id6)).other (p := ⟨(w.heap.size + 1), 1, none⟩) hUY (.slice (some ⟨b6, 0, none⟩) n6 c6)
  have D28 := (D27.setCell (p := ⟨(w.heap.size + 1), 0, none⟩) (AU7.ne_row D27) (.int .i64 id6)).setCell (p := ⟨(w.heap.size + 1), 1, none⟩) (AU7.ne_row D27) (.slice (some ⟨b6, 0, none⟩) n6 c6)
  have D68 := (D67.setCell (p := ⟨(w.heap.size + 1), 0, none⟩) (AU7.ne_row D67) (.int .i64 id6)).setCell (p := ⟨(w.heap.size + 1), 1, none⟩) (AU7.ne_row D67) (.slice (some ⟨b6, 0, none⟩) n6 c6)
  have G8 := grown_store (grown_store G7 (p := ⟨(w.heap.size + 1), 0, none⟩) hwU (.int .i64 id6)) (p := ⟨(w.heap.size + 1), 1, none⟩) hwU (.slice (some ⟨b6, 0, none⟩) n6 c6)
  refine hK.out _ _ (⟨AY8.box.c0, AY8.box.c1, AY8.lt⟩) (fun hHeld => ?_)
  clear hK K
  try go_frame
  refine wpAnyH_done (by kernel_rfl) ?_ _
  have e0 := AX8.box.c0
  have e1 := AX8.box.c1
  have e2 := AU8.box.c0
  have e3 := AU8.box.c1
  have HL2 : Hid (LegsAt _ (some ⟨b2, 0, none⟩) n2 c2 L2) := D28.legsAt
  have HL6 : Hid (LegsAt _ (some ⟨b6, 0, none⟩) n6 c6 L6) := D68.legsAt
  have HK : Hid (Below w.heap.size w _) := (Below.refl w.heap.size w).grown G8 (Nat.le_refl _) (fun k e => by cases e; omega)
  go_wp2
  exact bodyPost_ret (v := .tuple #[.agg #[.int .i64 id2, .slice (some ⟨b2, 0, none⟩) n2 c2], .agg #[.int .i64 id6, .slice (some ⟨b6, 0, none⟩) n6 c6]]) (by simp [results, Try.results35, go_sem, e0, e1, e2, e3]) rfl ⟨id2, b2, n2, c2, L2, id6, b6, n6, c6, L6, rfl, HL2.out, HL6.out, hn2, hn6, hF2, HK.out⟩
end Go.Proofs.Ytkeodfajgpbgaaa
