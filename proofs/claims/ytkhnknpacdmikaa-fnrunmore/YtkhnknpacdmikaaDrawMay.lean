/-
  The run and the key that the law FnRunMay draws, by a walk of its Go text.
-/
import Derived.Test.YtkhnknpacdmikaaDrawRun
namespace Go.Proofs.Ytkhnknpacdmikaa
open Go.RowKit

/-- A run and a key that have been drawn. -/
def MayR (w : World) (e : Ending) (w' : World) : Prop :=
  ∃ (g n c : Nat) (m : Int) (L : List EntD) (key : ByteArray), e = .returned (.tuple #[.agg #[.slice (some ⟨g, 0, none⟩) n c, .int .i64 m], .string key]) ∧ OwnE w' w.heap.size g n c L ∧ n ≤ 13 ∧ AllF L ∧ (Lit.int .i64 m).wf = true ∧ Few key ∧ Below w.heap.size w w'

set_option maxRecDepth 100000 in
set_option maxHeartbeats 1000000 in
theorem drawMay_any (a : Option Addr) (len cap : Nat) (w : World) (hb : BytesAt w a len cap) :
    Calls Try.prog 15 #[.slice a len cap] w (MayR w) := by
  have kA : Below w.heap.size w (w.alloc (.cells #[.slice none 0 0, .int .i64 0] 26)) := (Below.refl _ _).alloc (Nat.le_refl _) _
  obtain ⟨hc1, hc2, hc3⟩ := hb
  have hc3' : len = 0 ∨ ∃ b off, a = some ⟨b, off, none⟩ ∧ b < (w.alloc (.cells #[.slice none 0 0, .int .i64 0] 26)).heap.size ∧ ∀ i, i < len → ∃ z : Nat, z ≤ 255 ∧ (w.alloc (.cells #[.slice none 0 0, .int .i64 0] 26)).cell? ⟨b, off + i, none⟩ = some (.int .u8 z) := by
    rcases hc3 with h0 | ⟨b, off, ha, hb1, hcc⟩
    · exact Or.inl h0
    · exact Or.inr ⟨b, off, ha, Nat.lt_of_lt_of_le hb1 kA.size, fun i hi => by obtain ⟨z, hz, hzc⟩ := hcc i hi; exact ⟨z, hz, cell_later kA hzc⟩⟩
  go_enter Try.func15, Try.ntmps15
  go_wp2_with fail
  refine (l9Open_any a len cap _ hc1 hc2 hc3').mono ?_
  rintro e w1 ⟨len', rfl, hR1, hb1, hsz1⟩
  obtain ⟨X, hX⟩ : ∃ X, X = w.heap.size := ⟨_, rfl⟩
  obtain ⟨R, hR⟩ : ∃ R, R = (w.alloc (.cells #[.slice none 0 0, .int .i64 0] 26)).heap.size := ⟨_, rfl⟩
  rw [← hR] at hR1
  rw [← hR, ← hX]
  have hRX : R = X + 1 := by rw [hR, hX]; simp
  have x1 : w1.cell? ⟨X, 0, none⟩ = some (.slice none 0 0) := cell_later hb1 (by rw [hX]; simp)
  have y1 : w1.cell? ⟨X, 1, none⟩ = some (.int .i64 0) := cell_later hb1 (by rw [hX]; simp)
  have f1 : ∀ o, w1.frozen? ⟨X, o, none⟩ = false := fun o => (hb1.frozen (p := ⟨X, o, none⟩) (by rw [hX]; simp)).trans (by rw [hX]; exact World.frozen?_alloc_new w _ _ o)
  have HB1 : Hid (Below w.heap.size w w1) := kA.trans (hb1.mono kA.size)
  have HLX : Hid (∀ b off, a = some ⟨b, off, none⟩ → 0 < len' → b ≠ X) := fun b off ha hp e => by
    subst e
    rcases hR1.bytes with h0 | ⟨b2, off2, ha2, _, _, hcc⟩
    · omega
    · rw [ha] at ha2
      cases ha2
      obtain ⟨z, _, hz⟩ := hcc 0 hp
      rw [Nat.add_zero] at hz
      match off, hz with
      | 0, hz => rw [x1] at hz; cases hz
      | 1, hz => rw [y1] at hz; cases hz
      | o + 2, hz =>
        have hnone : w1.cell? ⟨b, o + 2, none⟩ = none := (hb1.cell (p := ⟨b, o + 2, none⟩) (by rw [hX]; simp)).trans (by rw [hX]; simp)
        rw [hnone] at hz
        cases hz
  have low : Low a len' R := by
    rcases hR1.bytes with h0 | ⟨b, off, ha, h1, h2, _⟩
    · exact Or.inl h0
    · exact Or.inr (fun b' off' e => by rw [ha] at e; cases e; omega)
  have hXw : w.heap.size ≤ X := by omega
  have hXltR : X < R := by omega
  clear kA hc1 hc2 hc3 hc3' hb1 hR hX hRX hsz1
  have HLOW : Hid (Low a len' R) := low
  have HR1 : Hid (RdAt w1 R a len' cap 0) := hR1
  clear low hR1
  have zX1 := World.block_lt_of_cell? _ _ x1
  simp only at zX1
  go_wp2_with fail
  refine (l4Draw_any R 0 a len' cap w1 HR1.out HLOW.out (by omega)).mono ?_
  rintro e w2 ⟨g, n, c, P2, m, L, rfl, hO2, hn, hF, hm, hR2, hP2, hG2⟩
  have hz2 := hG2.size
  have hXR : X ≠ R := by omega
  have x2 := (grown_cell hG2 (x := ⟨X, 0, none⟩) zX1 hXR).trans x1
  have y2 := (grown_cell hG2 (x := ⟨X, 1, none⟩) zX1 hXR).trans y1
  have f2 : ∀ o, w2.frozen? ⟨X, o, none⟩ = false := fun o => (grown_frozen hG2 (x := ⟨X, o, none⟩) zX1 (fun e => hXR (by cases e; rfl))).trans (f1 o)
  have hRl := HR1.out.lt
  have hg1 := hO2.lt.1
  have HB2 : Hid (Below w.heap.size w w2) := HB1.out.grown hG2 HB1.out.size (fun k e => by cases e; omega)
  have HF : Hid (AllF L) := hF
  have HM : Hid ((Lit.int .i64 m).wf = true) := hm
  have HO2 : Hid (OwnE w2 w.heap.size g n c L) := hO2.mono HB1.out.size
  obtain ⟨Y, hY⟩ : ∃ Y, Y = w2.heap.size := ⟨_, rfl⟩
  obtain ⟨W, hW⟩ : ∃ W, W = w2.alloc (.cells #[.slice (some ⟨g, 0, none⟩) n c, .int .i64 m] 26) := ⟨_, rfl⟩
  have kW : Below w2.heap.size w2 W := by rw [hW]; exact (Below.refl _ _).alloc (Nat.le_refl _) _
  have zX2 := World.block_lt_of_cell? _ _ x2
  simp only at zX2
  have S0 : Hid (MySt w W R a len' cap P2 X Y g n c m L) := ⟨HB2.out.trans (kW.mono HB2.out.size), hR2.below kW, ⟨_, cell_later kW x2⟩, ⟨_, cell_later kW y2⟩, (fun o => (kW.frozen (p := ⟨X, o, none⟩) zX2).trans (f2 o)), by rw [hW, hY]; simp, by rw [hW, hY]; simp, HO2.out.below kW, hXw, by omega, hXR, by omega, by omega, by omega, by omega, HLX.out⟩
  have HWW : Hid (W = w2.alloc (.cells #[.slice (some ⟨g, 0, none⟩) n c, .int .i64 m] 26)) := hW
  have HYY : Hid (Y = w2.heap.size) := hY
  clear kW hW hY x2 y2 f2 x1 y1 f1 HB1 HB2 HO2 hR2 hG2 hO2 hm hF HR1 HLOW zX1 zX2 HLX hg1 hRl hz2
  go_wp2_with fail
  rw [← HWW.out, ← HYY.out]
  have k0 : MySt w W.drew R a len' cap P2 X Y g n c m L := S0.out.below (Below.refl _ W).drew
  clear HWW HYY S0
  refine wp_region_held_drew (S := (fun w' => w'.cell? ⟨Y, 0, none⟩ = some (.slice (some ⟨g, 0, none⟩) n c) ∧ w'.cell? ⟨Y, 1, none⟩ = some (.int .i64 m) ∧ Y < w'.heap.size)) (by kernel_rfl) (⟨k0.y0, k0.y1, k0.ltY⟩) (fun hHeld => ?_)
  generalize W.drew = wd at k0 hHeld ⊢
  refine wpAnyH_takeL (i := 0) (v := ?_) rfl (by kernel_rfl) (by kernel_rfl) (by kernel_rfl) (fun _ _ _ h => h) (Or.inl ⟨by rfl, ?_⟩) hHeld ?_
  rotate_left
  · (intro w hSw; (try dsimp only at hSw); go_simp; try with_reducible rfl)
  try go_frame
  refine wpAnyH_takeL (i := 1) (v := ?_) rfl (by kernel_rfl) (by kernel_rfl) (by kernel_rfl) (fun _ _ _ h => h) (Or.inl ⟨by rfl, ?_⟩) hHeld ?_
  rotate_left
  · (intro w hSw; (try dsimp only at hSw); go_simp; try with_reducible rfl)
  try go_frame
  refine wpAnyH_takeL (i := 2) (v := ?_) rfl (by kernel_rfl) (by kernel_rfl) (by kernel_rfl) (fun _ _ _ h => h) (Or.inl ⟨by rfl, ?_⟩) hHeld ?_
  rotate_left
  · (intro w hSw; (try dsimp only at hSw); go_simp; try with_reducible rfl)
  try go_frame
  refine wpAnyH_takeL (i := 4) (v := ?_) rfl (by kernel_rfl) (by kernel_rfl) (by kernel_rfl) (fun _ _ _ h => h) (Or.inl ⟨by rfl, ?_⟩) hHeld ?_
  rotate_left
  · (intro w hSw; (try dsimp only at hSw); go_simp; try with_reducible rfl)
  try go_frame
  refine wpAnyH_ready (rs := [3]) (by kernel_rfl) (by simp) ?_
  refine consL rfl (fun K hK => ?_) AllReadyH.nil
  go_simp
  refine (l3Key_any R _ a len' cap _ k0.rd (by omega)).mono ?_
  rintro e wq1 ⟨z1, rfl, hz1, Rq1, gq1⟩
  have kq1 := k0.read gq1 Rq1
  go_wp2_with fail
  refine hK.out _ _ (⟨kq1.y0, kq1.y1, kq1.ltY⟩) (fun hHeld => ?_)
  clear hK K
  try go_frame
  refine wpAnyH_ready (rs := [5]) (by kernel_rfl) (by simp) ?_
  refine consL rfl (fun K hK => ?_) AllReadyH.nil
  go_simp
  refine (l3Key_any R _ a len' cap _ kq1.rd (by omega)).mono ?_
  rintro e wq2 ⟨z2, rfl, hz2, Rq2, gq2⟩
  have kq2 := kq1.read gq2 Rq2
  go_wp2_with fail
  refine hK.out _ _ (⟨kq2.y0, kq2.y1, kq2.ltY⟩) (fun hHeld => ?_)
  clear hK K
  try go_frame
  refine wpAnyH_ready (rs := [6]) (by kernel_rfl) (by simp) ?_
  refine consL rfl (fun K hK => ?_) AllReadyH.nil
  go_simp
  have kc : Below wq2.heap.size wq2 (wq2.alloc (.cells (([z1, z2, ⟨#[97, 97]⟩, ⟨#[122, 122]⟩, ⟨#[]⟩, ⟨#[98, 47, 97, 47, 50]⟩] : List ByteArray).map Value.string).toArray 9)) := (Below.refl _ _).alloc (Nat.le_refl _) _
  have kb := kq2.below kc
  have cb := strs_new wq2 9 [z1, z2, ⟨#[97, 97]⟩, ⟨#[122, 122]⟩, ⟨#[]⟩, ⟨#[98, 47, 97, 47, 50]⟩] Few (by intro s hs; simp only [List.mem_cons, List.not_mem_nil, or_false] at hs; rcases hs with rfl | rfl | rfl | rfl | rfl | rfl <;> first | assumption | (unfold Few; decide))
  have bR : wq2.heap.size ≠ R := by have := kq2.rd.lt; omega
  have bl : wq2.heap.size < (wq2.alloc (.cells (([z1, z2, ⟨#[97, 97]⟩, ⟨#[122, 122]⟩, ⟨#[]⟩, ⟨#[98, 47, 97, 47, 50]⟩] : List ByteArray).map Value.string).toArray 9)).heap.size := by simp
  simp only [List.map_cons, List.map_nil] at kc kb cb bl
  generalize wq2.heap.size = gb at cb bR bl ⊢
  generalize wq2.alloc (.cells #[.string z1, .string z2, .string ⟨#[97, 97]⟩, .string ⟨#[122, 122]⟩, .string ⟨#[]⟩, .string ⟨#[98, 47, 97, 47, 50]⟩] 9) = wb at kb cb bl ⊢
  refine hK.out _ _ (⟨kb.y0, kb.y1, kb.ltY⟩) (fun hHeld => ?_)
  clear hK K
  try go_frame
  refine wpAnyH_ready (rs := [7]) (by kernel_rfl) (by simp) ?_
  refine consL rfl (fun K hK => ?_) AllReadyH.nil
  go_simp
  refine (of_any Few R _ a len' cap gb 0 6 6 _ kb.rd (by omega) (by omega) (by omega) bR bl cb).mono ?_
  rintro e wn ⟨key, rfl, hkey, Rn, gn⟩
  have kn := kb.read gn Rn
  go_wp2_with fail
  refine hK.out _ _ (⟨kn.y0, kn.y1, kn.ltY⟩) (fun hHeld => ?_)
  clear hK K
  try go_frame
  refine wpAnyH_ready (rs := [8]) (by kernel_rfl) (by simp) ?_
  refine consL rfl (fun K hK => ?_) AllReadyH.nil
  obtain ⟨v0, c0⟩ := kn.x0
  obtain ⟨v1, c1⟩ := kn.x1
  have f0 := kn.fx 0
  have f1 := kn.fx 1
  go_simp
  have ks := (kn.setX 0 (.slice (some ⟨g, 0, none⟩) n c)).setX 1 (.int .i64 m)
  refine hK.out _ _ (⟨ks.y0, ks.y1, ks.ltY⟩) (fun hHeld => ?_)
  clear hK K
  try go_frame
  refine wpAnyH_takeL (i := 9) (v := ?_) rfl (by kernel_rfl) (by kernel_rfl) (by kernel_rfl) (fun _ _ _ h => h) (Or.inl ⟨by rfl, ?_⟩) hHeld ?_
  rotate_left
  · (intro w hSw; (try dsimp only at hSw); go_simp; try with_reducible rfl)
  try go_frame
  refine wpAnyH_done (by kernel_rfl) ?_ _
  have HK : Hid (MySt w _ R a len' cap _ X Y g n c m L) := ks
  have HKEY : Hid (Few key) := hkey
  go_wp2
  refine bodyPost_ret (v := .tuple #[.agg #[.slice (some ⟨g, 0, none⟩) n c, .int .i64 m], .string key]) (by simp [results, Try.results15, go_sem, c0, c1]) rfl ?_
  exact ⟨g, n, c, m, L, key, rfl, HK.out.own, hn, HF.out, HM.out, HKEY.out, HK.out.all⟩
end Go.Proofs.Ytkhnknpacdmikaa
