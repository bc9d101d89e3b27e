/-
  The two runs that the law FnRunBent draws, by a walk of its Go text.
-/
import Derived.Test.YtnopbjhlnjbodaaSameSt
namespace Go.Proofs.Ytnopbjhlnjbodaa
open Go.RowKit

theorem cell_keep {w : World} {X o p : Nat} {u : Value} (h : ∃ v, w.cell? ⟨X, p, none⟩ = some v) : ∃ z, (w.setCell ⟨X, o, none⟩ u).cell? ⟨X, p, none⟩ = some z := by
  obtain ⟨v, h⟩ := h
  by_cases hp : p = o
  · subst hp
    exact ⟨u, World.cell?_setCell_same' _ _ _ (by rw [h]; rfl)⟩
  · exact ⟨v, by rw [World.cell?_setCell_other _ _ _ _ (by intro e; cases e; exact hp rfl)]; exact h⟩
theorem SmSt.setX {w wi : World} {R : Nat} {a : Option Addr} {len cap P X X' Y Y' g n c g' c' : Nat} {m m' : Int} {L L' : List EntD} (h : SmSt w wi R a len cap P X X' Y Y' g n c g' c' m m' L L') (o : Nat) (u : Value) : SmSt w (wi.setCell ⟨X, o, none⟩ u) R a len cap P X X' Y Y' g n c g' c' m m' L L' where
  all := h.all.setCell (p := ⟨X, o, none⟩) h.hb.1 _
  rd := h.rd.other h.nr.1 (fun b off e hp => (h.nb b off e hp).1) o u
  x0 := cell_keep h.x0
  x1 := cell_keep h.x1
  fx := fun q => by rw [World.frozen?_setCell]; exact h.fx q
  u0 := by obtain ⟨v, hv⟩ := h.u0; exact ⟨v, (grown_cell (grown_set wi X o u) (x := ⟨X', 0, none⟩) h.ltU (Ne.symm h.nu.2.2.2.2)).trans hv⟩
  u1 := by obtain ⟨v, hv⟩ := h.u1; exact ⟨v, (grown_cell (grown_set wi X o u) (x := ⟨X', 1, none⟩) h.ltU (Ne.symm h.nu.2.2.2.2)).trans hv⟩
  fu := fun q => by rw [World.frozen?_setCell]; exact h.fu q
  y0 := (grown_cell (grown_set wi X o u) (x := ⟨Y, 0, none⟩) h.ltY (h.nx.1)).trans h.y0
  y1 := (grown_cell (grown_set wi X o u) (x := ⟨Y, 1, none⟩) h.ltY (h.nx.1)).trans h.y1
  z0 := (grown_cell (grown_set wi X o u) (x := ⟨Y', 0, none⟩) h.ltZ (h.nx.2.1)).trans h.z0
  z1 := (grown_cell (grown_set wi X o u) (x := ⟨Y', 1, none⟩) h.ltZ (h.nx.2.1)).trans h.z1
  own := h.own.grown (grown_set wi X o u) (fun e => h.nx.2.2.1 (by cases e; rfl))
  own' := h.own'.grown (grown_set wi X o u) (fun e => h.nx.2.2.2 (by cases e; rfl))
  hb := h.hb
  nr := h.nr
  nx := h.nx
  nu := h.nu
  ng := h.ng
  nb := h.nb
theorem SmSt.setU {w wi : World} {R : Nat} {a : Option Addr} {len cap P X X' Y Y' g n c g' c' : Nat} {m m' : Int} {L L' : List EntD} (h : SmSt w wi R a len cap P X X' Y Y' g n c g' c' m m' L L') (o : Nat) (u : Value) : SmSt w (wi.setCell ⟨X', o, none⟩ u) R a len cap P X X' Y Y' g n c g' c' m m' L L' where
  all := h.all.setCell (p := ⟨X', o, none⟩) h.hb.2.1 _
  rd := h.rd.other h.nr.2.1 (fun b off e hp => (h.nb b off e hp).2.1) o u
  x0 := by obtain ⟨v, hv⟩ := h.x0; exact ⟨v, (grown_cell (grown_set wi X' o u) (x := ⟨X, 0, none⟩) h.ltX (h.nu.2.2.2.2)).trans hv⟩
  x1 := by obtain ⟨v, hv⟩ := h.x1; exact ⟨v, (grown_cell (grown_set wi X' o u) (x := ⟨X, 1, none⟩) h.ltX (h.nu.2.2.2.2)).trans hv⟩
  fx := fun q => by rw [World.frozen?_setCell]; exact h.fx q
  u0 := cell_keep h.u0
  u1 := cell_keep h.u1
  fu := fun q => by rw [World.frozen?_setCell]; exact h.fu q
  y0 := (grown_cell (grown_set wi X' o u) (x := ⟨Y, 0, none⟩) h.ltY (h.nu.1)).trans h.y0
  y1 := (grown_cell (grown_set wi X' o u) (x := ⟨Y, 1, none⟩) h.ltY (h.nu.1)).trans h.y1
  z0 := (grown_cell (grown_set wi X' o u) (x := ⟨Y', 0, none⟩) h.ltZ (h.nu.2.1)).trans h.z0
  z1 := (grown_cell (grown_set wi X' o u) (x := ⟨Y', 1, none⟩) h.ltZ (h.nu.2.1)).trans h.z1
  own := h.own.grown (grown_set wi X' o u) (fun e => h.nu.2.2.1 (by cases e; rfl))
  own' := h.own'.grown (grown_set wi X' o u) (fun e => h.nu.2.2.2.1 (by cases e; rfl))
  hb := h.hb
  nr := h.nr
  nx := h.nx
  nu := h.nu
  ng := h.ng
  nb := h.nb

theorem not_box {w : World} {R X : Nat} {a : Option Addr} {len cap P : Nat} (h : RdAt w R a len cap P) (x0 : w.cell? ⟨X, 0, none⟩ = some (.slice none 0 0)) (x1 : w.cell? ⟨X, 1, none⟩ = some (.int .i64 0)) (x2 : ∀ o, w.cell? ⟨X, o + 2, none⟩ = none) : ∀ b off, a = some ⟨b, off, none⟩ → 0 < len → b ≠ X := fun b off ha hp e => by
  subst e
  rcases h.bytes with h0 | ⟨b2, off2, ha2, _, _, hcc⟩
  · omega
  · rw [ha] at ha2
    cases ha2
    obtain ⟨z, _, hz⟩ := hcc 0 hp
    rw [Nat.add_zero] at hz
    match off, hz with
    | 0, hz => rw [x0] at hz; cases hz
    | 1, hz => rw [x1] at hz; cases hz
    | o + 2, hz => rw [x2] at hz; cases hz
set_option maxRecDepth 100000 in
set_option maxHeartbeats 4000000 in
theorem drawSame_any (a : Option Addr) (len cap : Nat) (w : World) (hb : BytesAt w a len cap) :
    Calls Try.prog 13 #[.slice a len cap] w (SameR w) := by
  obtain ⟨i0, hi, hz0, hz1, hz2⟩ := info_parts Try.infoEnt
  obtain ⟨wa, hwa⟩ : ∃ wa, wa = (w.alloc (.cells #[.slice none 0 0, .int .i64 0] 25)).alloc (.cells #[.slice none 0 0, .int .i64 0] 25) := ⟨_, rfl⟩
  have kA : Below w.heap.size w wa := by rw [hwa]; exact ((Below.refl _ _).alloc (Nat.le_refl _) _).alloc (by simp) _
  obtain ⟨X, hX⟩ : ∃ X, X = w.heap.size := ⟨_, rfl⟩
  obtain ⟨X', hX'⟩ : ∃ X', X' = w.heap.size + 1 := ⟨_, rfl⟩
  have hwas : wa.heap.size = w.heap.size + 1 + 1 := by rw [hwa]; simp
  have xa0 : wa.cell? ⟨X, 0, none⟩ = some (.slice none 0 0) := by rw [hwa, hX]; simp
  have xa1 : wa.cell? ⟨X, 1, none⟩ = some (.int .i64 0) := by rw [hwa, hX]; simp
  have ua0 : wa.cell? ⟨X', 0, none⟩ = some (.slice none 0 0) := by rw [hwa, hX']; simp
  have ua1 : wa.cell? ⟨X', 1, none⟩ = some (.int .i64 0) := by rw [hwa, hX']; simp
  have fxa : ∀ o, wa.frozen? ⟨X, o, none⟩ = false := fun o => by rw [hwa, hX]; simp
  have fua : ∀ o, wa.frozen? ⟨X', o, none⟩ = false := fun o => by rw [hwa, hX']; simp
  obtain ⟨hc1, hc2, hc3⟩ := hb.keep kA
  have HC3 : Hid (len = 0 ∨ ∃ b off, a = some ⟨b, off, none⟩ ∧ b < w.heap.size) := by
    rcases hb.2.2 with h0 | ⟨b, off, ha, h1, _⟩
    · exact Or.inl h0
    · exact Or.inr ⟨b, off, ha, h1⟩
  go_enter Try.func13, Try.ntmps13
  go_wp2_with fail
  rw [← hwa, ← hX', ← hX]
  refine (l9Open_any a len cap wa hc1 hc2 hc3).mono ?_
  rintro e w1 ⟨len', rfl, hR1, hb1, hsz1⟩
  obtain ⟨R, hR⟩ : ∃ R, R = wa.heap.size := ⟨_, rfl⟩
  rw [← hR] at hR1 ⊢
  have hXX : X < X' := by omega
  have hXR : X' < R := by omega
  have hXw : w.heap.size ≤ X := by omega
  have x1 := cell_later hb1 xa0
  have x1' := cell_later hb1 xa1
  have u1 := cell_later hb1 ua0
  have u1' := cell_later hb1 ua1
  have zXa := World.block_lt_of_cell? _ _ xa0
  have zUa := World.block_lt_of_cell? _ _ ua0
  simp only at zXa zUa
  have fx1 : ∀ o, w1.frozen? ⟨X, o, none⟩ = false := fun o => (hb1.frozen (p := ⟨X, o, none⟩) zXa).trans (fxa o)
  have fu1 : ∀ o, w1.frozen? ⟨X', o, none⟩ = false := fun o => (hb1.frozen (p := ⟨X', o, none⟩) zUa).trans (fua o)
  have HNX : Hid (∀ b off, a = some ⟨b, off, none⟩ → 0 < len' → b ≠ X) := not_box hR1 x1 x1' (fun o => (hb1.cell (p := ⟨X, o + 2, none⟩) zXa).trans (by rw [hwa, hX]; simp))
  have HNU : Hid (∀ b off, a = some ⟨b, off, none⟩ → 0 < len' → b ≠ X') := not_box hR1 u1 u1' (fun o => (hb1.cell (p := ⟨X', o + 2, none⟩) zUa).trans (by rw [hwa, hX']; simp))
  have HLOW : Hid (Low a len' R) := by
    rcases hR1.bytes with h0 | ⟨b, off, ha, h1, h2, _⟩
    · exact Or.inl h0
    · exact Or.inr (fun b' off' e => by rw [ha] at e; cases e; omega)
  have HB1 : Hid (Below w.heap.size w w1) := kA.trans (hb1.mono kA.size)
  have HR1 : Hid (RdAt w1 R a len' cap 0) := hR1
  have zX1 := World.block_lt_of_cell? _ _ x1
  have zU1 := World.block_lt_of_cell? _ _ u1
  simp only at zX1 zU1
  have hRl := hR1.lt
  clear hR1 hb1 hsz1 hR hwa kA hX hX' hwas xa0 xa1 ua0 ua1 fxa fua hc1 hc2 hc3 HC3 zXa zUa hb
  go_wp2_with fail
  refine (l4Ents_any R 0 6 a len' cap w1 HR1.out HLOW.out (by omega) (by omega)).mono ?_
  rintro e w2 ⟨g, n, c, P2, L, rfl, hO2, hn, hF, hR2, hP2, hG2⟩
  have nXR : X ≠ R := by omega
  have nUR : X' ≠ R := by omega
  have x2 := (grown_cell hG2 (x := ⟨X, 0, none⟩) zX1 nXR).trans x1
  have x2' := (grown_cell hG2 (x := ⟨X, 1, none⟩) zX1 nXR).trans x1'
  have u2 := (grown_cell hG2 (x := ⟨X', 0, none⟩) zU1 nUR).trans u1
  have u2' := (grown_cell hG2 (x := ⟨X', 1, none⟩) zU1 nUR).trans u1'
  have fx2 : ∀ o, w2.frozen? ⟨X, o, none⟩ = false := fun o => (grown_frozen hG2 (x := ⟨X, o, none⟩) zX1 (fun e => nXR (by cases e; rfl))).trans (fx1 o)
  have fu2 : ∀ o, w2.frozen? ⟨X', o, none⟩ = false := fun o => (grown_frozen hG2 (x := ⟨X', o, none⟩) zU1 (fun e => nUR (by cases e; rfl))).trans (fu1 o)
  have hg1 := hO2.lt.1
  have hg2 := hO2.lt.2
  have hgR : R < g := by omega
  have HB2 : Hid (Below w.heap.size w w2) := HB1.out.grown hG2 HB1.out.size (fun k e => by cases e; omega)
  have HO2 : Hid (OwnE w2 w.heap.size g n c L) := hO2.mono HB1.out.size
  have HF : Hid (AllF L) := hF
  have HR2 : Hid (RdAt w2 R a len' cap P2) := hR2
  have zX2 := World.block_lt_of_cell? _ _ x2
  have zU2 := World.block_lt_of_cell? _ _ u2
  simp only at zX2 zU2
  clear hO2 hF hR2 hG2 HB1 HR1 x1 x1' u1 u1' fx1 fu1 zX1 zU1 hg1 hRl
  go_wp2_with fail
  refine (specRunA _ n c L w2 HO2.out.entsAt).mono ?_
  rintro e w3 ⟨rfl, hb3⟩
  obtain ⟨M, hM⟩ : ∃ M : Int, M = ((maskL L : Nat) : Int) := ⟨_, rfl⟩
  have HM : Hid ((Lit.int .i64 M).wf = true) := WalkArith.wf_i64 (by have := maskL_lt L; omega)
  have HM0 : Hid (M = ((maskL L : Nat) : Int)) := hM
  rw [← hM]
  clear hM
  obtain ⟨Y, hY⟩ : ∃ Y, Y = w3.heap.size := ⟨_, rfl⟩
  obtain ⟨W3, hW3⟩ : ∃ W, W = w3.alloc (.cells #[.slice (some ⟨g, 0, none⟩) n c, .int .i64 M] 25) := ⟨_, rfl⟩
  have k3 : Below w2.heap.size w2 W3 := by rw [hW3]; exact hb3.trans ((Below.refl _ _).alloc hb3.size _)
  have y3 : W3.cell? ⟨Y, 0, none⟩ = some (.slice (some ⟨g, 0, none⟩) n c) := by rw [hW3, hY]; simp
  have y3' : W3.cell? ⟨Y, 1, none⟩ = some (.int .i64 M) := by rw [hW3, hY]; simp
  have hgY : g < Y := by have := hb3.size; omega
  have hYW : Y < W3.heap.size := World.block_lt_of_cell? _ _ y3
  have HWW : Hid (W3 = w3.alloc (.cells #[.slice (some ⟨g, 0, none⟩) n c, .int .i64 M] 25)) := hW3
  have HYY : Hid (Y = w3.heap.size) := hY
  clear hW3 hY hb3
  go_upto_region 4 with fail
  rw [← HWW.out, ← HYY.out]
  clear HWW HYY
  have HO3 : Hid (OwnE W3 w.heap.size g n c L) := HO2.out.below k3
  have kE : Below W3.heap.size W3 (W3.alloc (.cells #[] 32)) := (Below.refl _ _).alloc (Nat.le_refl _) _
  have HOE : Hid (OwnE (W3.alloc (.cells #[] 32)) W3.heap.size W3.heap.size 0 0 []) := own_empty W3 _ (Nat.le_refl _)
  go_wp2_with (at_builtin; refine wpList_append_own _ rfl _ _ 23 rfl W3.heap.size 32 i0 _ 5 56 Try.underlying23 hi hz0 hz1 hz2 rfl (by decide) _ _ _ rfl HOE.out.owns ⟨g, 0, none⟩ n c (flatE L) rfl (by rw [flatE_len, HO3.out.len]) (ents_news (HO3.out.below kE).entsAt) (flatE_one _) (by unfold maxLen; omega) (by omega) (by have := kE.size; omega) ?_)
  intro v' w5 hown hgrow hnil
  have hown' : w5.ownsRow W3.heap.size 32 5 v' n (flatE L) := hown
  obtain ⟨g', c', rfl⟩ := row_form hown' hnil
  have hgrow' : (W3.alloc (.cells #[] 32)).grownBy w5 (some W3.heap.size) := hgrow
  have hO5 : OwnE w5 W3.heap.size g' n c' L := ⟨hown', HO3.out.len, HO3.out.ents⟩
  have hg5 := hO5.lt
  have k5 : Below W3.heap.size W3 w5 := kE.grown hgrow' kE.size (fun k e => by cases e; exact Nat.le_refl _)
  have k25 : Below w2.heap.size w2 w5 := k3.trans (k5.mono k3.size)
  have HO5 : Hid (OwnE w5 w.heap.size g' n c' L) := hO5.mono (Nat.le_trans HB2.out.size k3.size)
  have hgg : W3.heap.size ≤ g' := hg5.1
  have hg5' := hg5.2
  have y5 := cell_later k5 y3
  have y5' := cell_later k5 y3'
  clear hown hown' hgrow hnil hgrow' hO5 hg5 kE HOE y3 y3'
  go_wp2_with fail
  refine (specRunA _ n c' L w5 HO5.out.entsAt).mono ?_
  rintro e w6 ⟨rfl, hb6⟩
  rw [← HM0.out]
  obtain ⟨Y', hY'⟩ : ∃ Y, Y = w6.heap.size := ⟨_, rfl⟩
  obtain ⟨W6, hW6⟩ : ∃ W, W = w6.alloc (.cells #[.slice (some ⟨g', 0, none⟩) n c', .int .i64 M] 25) := ⟨_, rfl⟩
  have k6 : Below w5.heap.size w5 W6 := by rw [hW6]; exact hb6.trans ((Below.refl _ _).alloc hb6.size _)
  have k26 : Below w2.heap.size w2 W6 := k25.trans (k6.mono k25.size)
  have hgY' : g' < Y' := by have := hb6.size; omega
  have hYY : Y < Y' := by omega
  have HNG : Hid (∀ b off, a = some ⟨b, off, none⟩ → 0 < len' → b ≠ g') := fun b off e hp => by
    rcases HLOW.out with h0 | hl
    · omega
    · have := hl b off e
      omega
  have S0 : Hid (SmSt w W6 R a len' cap P2 X X' Y Y' g n c g' c' M M L L) := ⟨HB2.out.trans (k26.mono HB2.out.size), HR2.out.below k26, ⟨_, cell_later k26 x2⟩, ⟨_, cell_later k26 x2'⟩, (fun o => (k26.frozen (p := ⟨X, o, none⟩) zX2).trans (fx2 o)), ⟨_, cell_later k26 u2⟩, ⟨_, cell_later k26 u2'⟩, (fun o => (k26.frozen (p := ⟨X', o, none⟩) zU2).trans (fu2 o)), cell_later k6 y5, cell_later k6 y5', by rw [hW6, hY']; simp, by rw [hW6, hY']; simp, HO2.out.below k26, HO5.out.below k6, ⟨hXw, by omega, by omega⟩, ⟨by omega, by omega, by omega, by omega, by omega, by omega⟩, ⟨by omega, by omega, by omega, by omega⟩, ⟨by omega, by omega, by omega, by omega, by omega⟩, ⟨by omega, by omega, by omega⟩, fun b off e hp => ⟨HNX.out b off e hp, HNU.out b off e hp, HNG.out b off e hp⟩⟩
  have HWW : Hid (W6 = w6.alloc (.cells #[.slice (some ⟨g', 0, none⟩) n c', .int .i64 M] 25)) := hW6
  have HYY : Hid (Y' = w6.heap.size) := hY'
  clear hW6 hY' hb6 k6 k26 k25 k5 k3 x2 x2' u2 u2' fx2 fu2 zX2 zU2 HO2 HO3 HO5 HR2 HB2 y5 y5' HNX HNU HNG HLOW HM0 hXX hXR hXw hgY hYW hgg hg5' hgY' hYY nXR nUR hg2 hgR
  go_upto_region 5 with fail
  rw [← HWW.out, ← HYY.out]
  clear HWW HYY
  by_cases hn0 : n = 0
  · have hnI : ¬ (0 : Int) < (n : Int) := by omega
    clear hn0
    go_wp2_with fail
    have k0 := S0.out.below (Below.refl _ W6).drew
    refine wp_region_held_drew (S := (fun w' => w'.cell? ⟨Y, 0, none⟩ = some (.slice (some ⟨g, 0, none⟩) n c) ∧ w'.cell? ⟨Y, 1, none⟩ = some (.int .i64 M) ∧ Y < w'.heap.size ∧ w'.cell? ⟨Y', 0, none⟩ = some (.slice (some ⟨g', 0, none⟩) n c') ∧ w'.cell? ⟨Y', 1, none⟩ = some (.int .i64 M) ∧ Y' < w'.heap.size)) (by kernel_rfl) (⟨k0.y0, k0.y1, k0.ltY, k0.z0, k0.z1, k0.ltZ⟩) (fun hHeld => ?_)
    generalize W6.drew = wd at k0 hHeld ⊢
    refine wpAnyH_takeL (i := 0) (v := ?_) rfl (by kernel_rfl) (by kernel_rfl) (by kernel_rfl) (fun _ _ _ h => h) (Or.inl ⟨by rfl, ?_⟩) hHeld ?_
    rotate_left
    · (intro w hSw; (try dsimp only at hSw); go_simp; try with_reducible rfl)
    try go_frame
    refine wpAnyH_takeL (i := 1) (v := ?_) rfl (by kernel_rfl) (by kernel_rfl) (by kernel_rfl) (fun _ _ _ h => h) (Or.inl ⟨by rfl, ?_⟩) hHeld ?_
    rotate_left
    · (intro w hSw; (try dsimp only at hSw); go_simp; try with_reducible rfl)
    try go_frame
    refine wpAnyH_ready (rs := [2]) (by kernel_rfl) (by simp) ?_
    refine consL rfl (fun K hK => ?_) AllReadyH.nil
    obtain ⟨v0a, c0a⟩ := k0.x0
    obtain ⟨v1a, c1a⟩ := k0.x1
    have f0a := k0.fx 0
    have f1a := k0.fx 1
    go_simp
    have ka := (k0.setX 0 (.slice (some ⟨g, 0, none⟩) n c)).setX 1 (.int .i64 M)
    refine hK.out _ _ (⟨ka.y0, ka.y1, ka.ltY, ka.z0, ka.z1, ka.ltZ⟩) (fun hHeld => ?_)
    clear hK K
    try go_frame
    refine wpAnyH_ready (rs := [3]) (by kernel_rfl) (by simp) ?_
    refine consL rfl (fun K hK => ?_) AllReadyH.nil
    obtain ⟨v0b, c0b⟩ := ka.u0
    obtain ⟨v1b, c1b⟩ := ka.u1
    have f0b := ka.fu 0
    have f1b := ka.fu 1
    go_simp
    have kb := (ka.setU 0 (.slice (some ⟨g', 0, none⟩) n c')).setU 1 (.int .i64 M)
    refine hK.out _ _ (⟨kb.y0, kb.y1, kb.ltY, kb.z0, kb.z1, kb.ltZ⟩) (fun hHeld => ?_)
    clear hK K
    try go_frame
    refine wpAnyH_done (by kernel_rfl) ?_ _
    have HK : Hid (SmSt w _ R a len' cap _ X X' Y Y' g n c g' c' M M L L) := kb
    have nXX := kb.nu.2.2.2.2
    have d0 := ka.x0
    go_wp2
    refine bodyPost_ret (v := .tuple #[.agg #[.slice (some ⟨g, 0, none⟩) n c, .int .i64 M], .agg #[.slice (some ⟨g', 0, none⟩) n c', .int .i64 M]]) (by simp [results, Try.results13, go_sem, c0a, c1a, c0b, c1b]) rfl ?_
    exact ⟨g, n, c, g', c', M, M, L, L, rfl, HK.out.own, HK.out.own', hn, HF.out, HF.out, HM.out, HM.out, HK.out.all⟩
  · have hnI : (0 : Int) < (n : Int) := by omega
    have hnN : 0 < n := by omega
    go_wp2_with fail
    refine (pick_any R P2 a len' cap _ W6 S0.out.rd (by omega) (by omega)).mono ?_
    rintro e wp ⟨q2, rfl, hq2, Rp, gp⟩
    have Sp : Hid (SmSt w wp R a len' cap (P2 + 1) X X' Y Y' g n c g' c' M M L L) := S0.out.read gp Rp
    clear S0 Rp gp hq2
    by_cases hq : q2 = 0
    · subst hq
      go_wp2_with fail
      refine (pick_any R (P2 + 1) a len' cap _ wp Sp.out.rd (by omega) (by omega)).mono ?_
      rintro e w7 ⟨qk, rfl, hqk, R7, g7⟩
      have S7 : Hid (SmSt w w7 R a len' cap (P2 + 1 + 1) X X' Y Y' g n c g' c' M M L L) := Sp.out.read g7 R7
      obtain ⟨k, hk⟩ := Int.eq_ofNat_of_zero_le hqk.1
      subst hk
      have hkn : k < n := by have := hqk.2 (by omega); omega
      have hknI : (k : Int) < (n : Int) := by omega
      clear R7 g7 Sp hqk
      go_wp2_with fail
      have k0 := S7.out.below (Below.refl _ w7).drew
      refine wp_region_held_drew (S := (fun w' => w'.cell? ⟨Y', 0, none⟩ = some (.slice (some ⟨g', 0, none⟩) n c') ∧ Y' < w'.heap.size ∧ g' < w'.heap.size)) (by kernel_rfl) (⟨k0.z0, k0.ltZ, k0.own'.lt.2⟩) (fun hHeld => ?_)
      generalize w7.drew = wd at k0 hHeld ⊢
      refine wpAnyH_takeL (i := 0) (v := ?_) rfl (by kernel_rfl) (by kernel_rfl) (by kernel_rfl) (fun _ _ _ h => h) (Or.inl ⟨by rfl, ?_⟩) hHeld ?_
      rotate_left
      · (intro w hSw; (try dsimp only at hSw); go_simp; try with_reducible rfl)
      try go_frame
      refine wpAnyH_takeL (i := 1) (v := ?_) rfl (by kernel_rfl) (by kernel_rfl) (by kernel_rfl) (fun _ _ _ h => h) (Or.inl ⟨by rfl, ?_⟩) hHeld ?_
      rotate_left
      · (intro w hSw; (try dsimp only at hSw); go_simp; try with_reducible rfl)
      try go_frame
      refine wpAnyH_takeL (i := 2) (v := ?_) rfl (by kernel_rfl) (by kernel_rfl) (by kernel_rfl) (fun _ _ _ h => h) (Or.inl ⟨by rfl, ?_⟩) hHeld ?_
      rotate_left
      · (intro w hSw; (try dsimp only at hSw); go_simp; try with_reducible rfl)
      try go_frame
      refine wpAnyH_takeL (i := 3) (v := ?_) rfl (by kernel_rfl) (by kernel_rfl) (by kernel_rfl) (fun _ _ _ h => h) (Or.inl ⟨by rfl, ?_⟩) hHeld ?_
      rotate_left
      · (intro w hSw; (try dsimp only at hSw); go_simp; try with_reducible rfl)
      try go_frame
      refine wpAnyH_takeL (i := 4) (v := ?_) rfl (by kernel_rfl) (by kernel_rfl) (by kernel_rfl) (fun _ _ _ h => h) (Or.inl ⟨by rfl, ?_⟩) hHeld ?_
      rotate_left
      · (intro w hSw; (try dsimp only at hSw); go_simp; try with_reducible rfl)
      try go_frame
      refine wpAnyH_takeL (i := 5) (v := ?_) rfl (by kernel_rfl) (by kernel_rfl) (by kernel_rfl) (fun _ _ _ h => h) (Or.inl ⟨by rfl, ?_⟩) hHeld ?_
      rotate_left
      · (intro w hSw; (try dsimp only at hSw); go_simp; try with_reducible rfl)
      try go_frame
      refine wpAnyH_takeL (i := 6) (v := ?_) rfl (by kernel_rfl) (by kernel_rfl) (by kernel_rfl) (fun _ _ _ h => h) (Or.inl ⟨by rfl, ?_⟩) hHeld ?_
      rotate_left
      · (intro w hSw; (try dsimp only at hSw); go_simp; try with_reducible rfl)
      try go_frame
      refine wpAnyH_takeL (i := 7) (v := ?_) rfl (by kernel_rfl) (by kernel_rfl) (by kernel_rfl) (fun _ _ _ h => h) (Or.inl ⟨by rfl, ?_⟩) hHeld ?_
      rotate_left
      · (intro w hSw; (try dsimp only at hSw); go_simp; try with_reducible rfl)
      try go_frame
      refine wpAnyH_takeL (i := 8) (v := ?_) rfl (by kernel_rfl) (by kernel_rfl) (by kernel_rfl) (fun _ _ _ h => h) (Or.inl ⟨by rfl, ?_⟩) hHeld ?_
      rotate_left
      · (intro w hSw; (try dsimp only at hSw); go_simp; try with_reducible rfl)
      try go_frame
      refine wpAnyH_takeL (i := 9) (v := ?_) rfl (by kernel_rfl) (by kernel_rfl) (by kernel_rfl) (fun _ _ _ h => h) (Or.inl ⟨by rfl, ?_⟩) hHeld ?_
      rotate_left
      · (intro w hSw; (try dsimp only at hSw); go_simp; try with_reducible rfl)
      try go_frame
      refine wpAnyH_ready (rs := [10]) (by kernel_rfl) (by simp) ?_
      refine consL rfl (fun K hK => ?_) AllReadyH.nil
      obtain ⟨es, et, eq, ed, en, hEk, e0, e1, e2, e3, e4⟩ := k0.at HF.out hkn
      go_simp
      clear e0 e1 e2 e3 e4
      refine hK.out _ _ (⟨k0.z0, k0.ltZ, k0.own'.lt.2⟩) (fun hHeld => ?_)
      clear hK K
      try go_frame
      refine wpAnyH_ready (rs := [11]) (by kernel_rfl) (by simp) ?_
      refine consL rfl (fun K hK => ?_) AllReadyH.nil
      go_simp
      refine (l3Bent_any R _ a len' cap _ _ _ _ _ _ k0.rd (by omega) hEk).mono ?_
      rintro e wq1 ⟨es1, et1, eq1, ed1, en1, Pq1, rfl, hE1, Rq1, hPq1, gq1⟩
      have kq1 := k0.read gq1 Rq1
      go_wp2_with fail
      refine hK.out _ _ (⟨kq1.z0, kq1.ltZ, kq1.own'.lt.2⟩) (fun hHeld => ?_)
      clear hK K
      try go_frame
      refine wpAnyH_ready (rs := [12]) (by kernel_rfl) (by simp) ?_
      refine consL rfl (fun K hK => ?_) AllReadyH.nil
      go_simp
      refine (l3Bent_any R _ a len' cap _ _ _ _ _ _ kq1.rd (by omega) hE1).mono ?_
      rintro e wq2 ⟨es2, et2, eq2, ed2, en2, Pq2, rfl, hE2, Rq2, hPq2, gq2⟩
      have kq2 := kq1.read gq2 Rq2
      go_wp2_with fail
      refine hK.out _ _ (⟨kq2.z0, kq2.ltZ, kq2.own'.lt.2⟩) (fun hHeld => ?_)
      clear hK K
      try go_frame
      refine wpAnyH_ready (rs := [13]) (by kernel_rfl) (by simp) ?_
      refine consL rfl (fun K hK => ?_) AllReadyH.nil
      go_simp
      refine (l3Bent_any R _ a len' cap _ _ _ _ _ _ kq2.rd (by omega) hE2).mono ?_
      rintro e wq3 ⟨es3, et3, eq3, ed3, en3, Pq3, rfl, hE3, Rq3, hPq3, gq3⟩
      have kq3 := kq2.read gq3 Rq3
      go_wp2_with fail
      refine hK.out _ _ (⟨kq3.z0, kq3.ltZ, kq3.own'.lt.2⟩) (fun hHeld => ?_)
      clear hK K
      try go_frame
      refine wpAnyH_takeL (i := 14) (v := ?_) rfl (by kernel_rfl) (by kernel_rfl) (by kernel_rfl) (fun _ _ _ h => h) (Or.inl ⟨by rfl, ?_⟩) hHeld ?_
      rotate_left
      · (intro w hSw; (try dsimp only at hSw); go_simp; try with_reducible rfl)
      try go_frame
      refine wpAnyH_ready (rs := [15]) (by kernel_rfl) (by simp) ?_
      refine consL rfl (fun K hK => ?_) AllReadyH.nil
      obtain ⟨x0, x1, x2, x3, x4⟩ := kq3.own'.entsAt.cells _ rfl k (by rw [kq3.own'.len]; exact hkn)
      simp only [Nat.zero_add] at x0 x1 x2 x3 x4
      have y0 := kq3.own'.owns.frozenAt (k * 5)
      have y1 := kq3.own'.owns.frozenAt (k * 5 + 1)
      have y2 := kq3.own'.owns.frozenAt (k * 5 + 2)
      have y3 := kq3.own'.owns.frozenAt (k * 5 + 3)
      have y4 := kq3.own'.owns.frozenAt (k * 5 + 4)
      go_simp
      have ks := kq3.put hkn es3 et3 eq3 ed3 en3 (entF_w hE3)
      clear x0 x1 x2 x3 x4 y0 y1 y2 y3 y4
      refine hK.out _ _ (⟨ks.z0, ks.ltZ, ks.own'.lt.2⟩) (fun hHeld => ?_)
      clear hK K
      try go_frame
      refine wpAnyH_done (by kernel_rfl) ?_ _
      generalize ((((wq3.setCell ⟨g', k * 5, none⟩ (.string es3)).setCell ⟨g', k * 5 + 1, none⟩ (.int .i64 eq3)).setCell ⟨g', k * 5 + 2, none⟩ (.int .i64 ed3)).setCell ⟨g', k * 5 + 3, none⟩ (.string et3)).setCell ⟨g', k * 5 + 4, none⟩ (.int .i64 en3) = w9 at ks ⊢
      have HFs : Hid (AllF (L.set k (es3, eq3, ed3, et3, en3))) := allF_set HF.out hE3
      have S9 : Hid (SmSt w w9 R a len' cap _ X X' Y Y' g n c g' c' M M L (L.set k (es3, eq3, ed3, et3, en3))) := ks
      clear ks kq3 kq2 kq1 k0 hHeld
      go_wp2_with fail
      have k0 := S9.out.below (Below.refl _ w9).drew
      refine wp_region_held_drew (S := (fun w' => w'.cell? ⟨Y, 0, none⟩ = some (.slice (some ⟨g, 0, none⟩) n c) ∧ w'.cell? ⟨Y, 1, none⟩ = some (.int .i64 M) ∧ Y < w'.heap.size ∧ w'.cell? ⟨Y', 0, none⟩ = some (.slice (some ⟨g', 0, none⟩) n c') ∧ w'.cell? ⟨Y', 1, none⟩ = some (.int .i64 M) ∧ Y' < w'.heap.size)) (by kernel_rfl) (⟨k0.y0, k0.y1, k0.ltY, k0.z0, k0.z1, k0.ltZ⟩) (fun hHeld => ?_)
      generalize w9.drew = wd at k0 hHeld ⊢
      refine wpAnyH_takeL (i := 0) (v := ?_) rfl (by kernel_rfl) (by kernel_rfl) (by kernel_rfl) (fun _ _ _ h => h) (Or.inl ⟨by rfl, ?_⟩) hHeld ?_
      rotate_left
      · (intro w hSw; (try dsimp only at hSw); go_simp; try with_reducible rfl)
      try go_frame
      refine wpAnyH_takeL (i := 1) (v := ?_) rfl (by kernel_rfl) (by kernel_rfl) (by kernel_rfl) (fun _ _ _ h => h) (Or.inl ⟨by rfl, ?_⟩) hHeld ?_
      rotate_left
      · (intro w hSw; (try dsimp only at hSw); go_simp; try with_reducible rfl)
      try go_frame
      refine wpAnyH_ready (rs := [2]) (by kernel_rfl) (by simp) ?_
      refine consL rfl (fun K hK => ?_) AllReadyH.nil
      obtain ⟨v0a, c0a⟩ := k0.x0
      obtain ⟨v1a, c1a⟩ := k0.x1
      have f0a := k0.fx 0
      have f1a := k0.fx 1
      go_simp
      have ka := (k0.setX 0 (.slice (some ⟨g, 0, none⟩) n c)).setX 1 (.int .i64 M)
      refine hK.out _ _ (⟨ka.y0, ka.y1, ka.ltY, ka.z0, ka.z1, ka.ltZ⟩) (fun hHeld => ?_)
      clear hK K
      try go_frame
      refine wpAnyH_ready (rs := [3]) (by kernel_rfl) (by simp) ?_
      refine consL rfl (fun K hK => ?_) AllReadyH.nil
      obtain ⟨v0b, c0b⟩ := ka.u0
      obtain ⟨v1b, c1b⟩ := ka.u1
      have f0b := ka.fu 0
      have f1b := ka.fu 1
      go_simp
      have kb := (ka.setU 0 (.slice (some ⟨g', 0, none⟩) n c')).setU 1 (.int .i64 M)
      refine hK.out _ _ (⟨kb.y0, kb.y1, kb.ltY, kb.z0, kb.z1, kb.ltZ⟩) (fun hHeld => ?_)
      clear hK K
      try go_frame
      refine wpAnyH_done (by kernel_rfl) ?_ _
      have HK : Hid (SmSt w _ R a len' cap _ X X' Y Y' g n c g' c' M M L (L.set k (es3, eq3, ed3, et3, en3))) := kb
      have nXX := kb.nu.2.2.2.2
      have d0 := ka.x0
      go_wp2
      refine bodyPost_ret (v := .tuple #[.agg #[.slice (some ⟨g, 0, none⟩) n c, .int .i64 M], .agg #[.slice (some ⟨g', 0, none⟩) n c', .int .i64 M]]) (by simp [results, Try.results13, go_sem, c0a, c1a, c0b, c1b]) rfl ?_
      exact ⟨g, n, c, g', c', M, M, L, (L.set k (es3, eq3, ed3, et3, en3)), rfl, HK.out.own, HK.out.own', hn, HF.out, HFs.out, HM.out, HM.out, HK.out.all⟩
    · go_wp2_with fail
      have k0 := Sp.out.below (Below.refl _ wp).drew
      refine wp_region_held_drew (S := (fun w' => w'.cell? ⟨Y, 0, none⟩ = some (.slice (some ⟨g, 0, none⟩) n c) ∧ w'.cell? ⟨Y, 1, none⟩ = some (.int .i64 M) ∧ Y < w'.heap.size ∧ w'.cell? ⟨Y', 0, none⟩ = some (.slice (some ⟨g', 0, none⟩) n c') ∧ w'.cell? ⟨Y', 1, none⟩ = some (.int .i64 M) ∧ Y' < w'.heap.size)) (by kernel_rfl) (⟨k0.y0, k0.y1, k0.ltY, k0.z0, k0.z1, k0.ltZ⟩) (fun hHeld => ?_)
      generalize wp.drew = wd at k0 hHeld ⊢
      refine wpAnyH_takeL (i := 0) (v := ?_) rfl (by kernel_rfl) (by kernel_rfl) (by kernel_rfl) (fun _ _ _ h => h) (Or.inl ⟨by rfl, ?_⟩) hHeld ?_
      rotate_left
      · (intro w hSw; (try dsimp only at hSw); go_simp; try with_reducible rfl)
      try go_frame
      refine wpAnyH_takeL (i := 1) (v := ?_) rfl (by kernel_rfl) (by kernel_rfl) (by kernel_rfl) (fun _ _ _ h => h) (Or.inl ⟨by rfl, ?_⟩) hHeld ?_
      rotate_left
      · (intro w hSw; (try dsimp only at hSw); go_simp; try with_reducible rfl)
      try go_frame
      refine wpAnyH_ready (rs := [2]) (by kernel_rfl) (by simp) ?_
      refine consL rfl (fun K hK => ?_) AllReadyH.nil
      obtain ⟨v0a, c0a⟩ := k0.x0
      obtain ⟨v1a, c1a⟩ := k0.x1
      have f0a := k0.fx 0
      have f1a := k0.fx 1
      go_simp
      have ka := (k0.setX 0 (.slice (some ⟨g, 0, none⟩) n c)).setX 1 (.int .i64 M)
      refine hK.out _ _ (⟨ka.y0, ka.y1, ka.ltY, ka.z0, ka.z1, ka.ltZ⟩) (fun hHeld => ?_)
      clear hK K
      try go_frame
      refine wpAnyH_ready (rs := [3]) (by kernel_rfl) (by simp) ?_
      refine consL rfl (fun K hK => ?_) AllReadyH.nil
      obtain ⟨v0b, c0b⟩ := ka.u0
      obtain ⟨v1b, c1b⟩ := ka.u1
      have f0b := ka.fu 0
      have f1b := ka.fu 1
      go_simp
      have kb := (ka.setU 0 (.slice (some ⟨g', 0, none⟩) n c')).setU 1 (.int .i64 M)
      refine hK.out _ _ (⟨kb.y0, kb.y1, kb.ltY, kb.z0, kb.z1, kb.ltZ⟩) (fun hHeld => ?_)
      clear hK K
      try go_frame
      refine wpAnyH_done (by kernel_rfl) ?_ _
      have HK : Hid (SmSt w _ R a len' cap _ X X' Y Y' g n c g' c' M M L L) := kb
      have nXX := kb.nu.2.2.2.2
      have d0 := ka.x0
      go_wp2
      refine bodyPost_ret (v := .tuple #[.agg #[.slice (some ⟨g, 0, none⟩) n c, .int .i64 M], .agg #[.slice (some ⟨g', 0, none⟩) n c', .int .i64 M]]) (by simp [results, Try.results13, go_sem, c0a, c1a, c0b, c1b]) rfl ?_
      exact ⟨g, n, c, g', c', M, M, L, L, rfl, HK.out.own, HK.out.own', hn, HF.out, HF.out, HM.out, HM.out, HK.out.all⟩
end Go.Proofs.Ytnopbjhlnjbodaa
