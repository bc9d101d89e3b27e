/-
  The posting that a law draws, one in eight bent, by a walk of its Go text: some posting, in memory of its own.
-/
import Derived.Test.YtcabinakcmpkeaaDoorBent1
namespace Go.Proofs.YtcabinakcmpkeaaDoor
open Go.RowKit

set_option maxRecDepth 100000 in
set_option maxHeartbeats 400000 in
theorem l1Max_any (x y : Int) (w : World) : Calls Tryd.prog 112 #[.int .i64 x, .int .i64 y] w fun e w' => ∃ z : Int, e = .returned (.int .i64 z) ∧ (z = x ∨ z = y) ∧ x ≤ z ∧ y ≤ z ∧ w' = w := by
  by_cases h : y < x
  · go_enter Tryd.func112, Tryd.ntmps112
    go_wp2
    go_ret
    exact ⟨x, rfl, Or.inl rfl, Int.le_refl _, by omega, rfl⟩
  · go_enter Tryd.func112, Tryd.ntmps112
    go_wp2
    go_ret
    exact ⟨y, rfl, Or.inr rfl, by omega, Int.le_refl _, rfl⟩

/-- How long the list in the box B is. -/
def lenAt (w : World) (B : Nat) : Nat := match w.cell? ⟨B, 1, none⟩ with | some (.slice _ n _) => n | _ => 0
theorem lenAt_box {w : World} {B : Nat} {u : Value} {x : Option Addr} {n c : Nat} (h : BoxH w B u (.slice x n c)) : lenAt w B = n := by
  unfold lenAt; rw [h.box.c1]

def AnyI (z : Int) : Prop := (Lit.int .i64 z).wf = true

/-- What comes of a bent posting. -/
def BentR (w : World) (R : Nat) (a : Option Addr) (len cap P : Nat) (e : Ending) (w' : World) : Prop :=
  ∃ (id' : Int) (b' n' c' P' : Nat) (L' : List LegD), e = .returned (.agg #[.int .i64 id', .slice (some ⟨b', 0, none⟩) n' c']) ∧ DrawnAt w' w.heap.size b' n' c' L' ∧ n' ≤ 10 ∧ RdAt w' R a len cap P' ∧ P' ≤ P + 20 ∧ w.grownBy w' (some R)

set_option maxRecDepth 100000 in
set_option maxHeartbeats 4000000 in
theorem l1Bent_any (R P : Nat) (a : Option Addr) (len cap : Nat) (id : Int) (b off n c : Nat) (L : List LegD) (w : World) (h : RdAt w R a len cap P) (hlow : Low a len R) (hP : P < 90000) (hL : LegsAt w (some ⟨b, off, none⟩) n c L) (hF : ∀ l ∈ L, FewB l.1) (hn : n ≤ 10) :
    Calls Tryd.prog 90 #[.pointer (some ⟨R, 0, none⟩), .agg #[.int .i64 id, .slice (some ⟨b, off, none⟩) n c]] w fun e w' => BentR w R a len cap P e w' := by
  obtain ⟨i0, hi, hz0, hz1, hz2⟩ := info_parts Tryd.infoLeg
  have hRw := h.lt
  have k0 : Below w.heap.size w ((w.alloc (.cells #[.int .i64 id, .slice (some ⟨b, off, none⟩) n c] 29)).alloc (.cells #[.int .i64 0, .slice none 0 0] 29)) := ((Below.refl _ _).alloc (Nat.le_refl _) _).alloc (by simp) _
  have r0 := h.below k0
  have A0 := BoxH.new (w.alloc (.cells #[.int .i64 id, .slice (some ⟨b, off, none⟩) n c] 29)) (.int .i64 0) (.slice none 0 0)
  simp only [World.size_alloc] at A0
  have hL0 := hL.keep k0
  clear h hL
  go_enter Tryd.func90, Tryd.ntmps90
  go_wp2_with fail
  refine (l1Copy_any _ _ _ _ _ L _ hL0 hF (by omega)).mono ?_
  rintro e w1 ⟨g, c1, rfl, D1, k1⟩
  have r1 := r0.below k1
  have A1 := A0.below k1
  have G1 : w.grownBy w1 (some R) := grown_below (k0.trans (k1.mono (by simp; omega)))
  have D1' := D1.mono (base' := w.heap.size) (by simp; omega)
  clear r0 A0 hL0 k0 k1 D1 hF
  obtain ⟨B, hBe⟩ : ∃ B, B = w1.heap.size := ⟨_, rfl⟩
  have kB : Below w1.heap.size w1 (w1.alloc (.cells #[.int .i64 id, .slice (some ⟨g, 0, none⟩) n c1] 29)) := (Below.refl _ _).alloc (Nat.le_refl _) _
  have r2 := r1.below kB
  have A2 := A1.below kB
  have G2 := grown_trans G1 (grown_below (R := some R) kB)
  have D2 := D1'.below kB
  have B2 := BoxH.new w1 (.int .i64 id) (.slice (some ⟨g, 0, none⟩) n c1)
  have hAB : w.heap.size + 1 < B := by have := A1.lt; omega
  clear r1 A1 G1 D1' kB
  rw [← hBe] at B2
  have b0 := B2.box.c0
  have b1 := B2.box.c1
  go_wp2_with fail
  refine (l1Max_any _ _ _).mono ?_
  rintro e w3 ⟨m, rfl, hm, hm1, hm2, rfl⟩
  have hmn : m ≤ 10 := by omega
  obtain ⟨W2, hW2⟩ : ∃ W2, W2 = w1.alloc (.cells #[.int .i64 id, .slice (some ⟨g, 0, none⟩) n c1] 29) := ⟨_, rfl⟩
  simp only [← hW2, ← hBe]
  rw [← hW2] at r2 A2 G2 D2 B2
  have hnil0 : W2 = W2 := rfl
  clear hW2 hBe b0 b1 hnil0
  have b0 := B2.box.c0
  have b1 := B2.box.c1
  go_wp2_with fail
  refine (pick_any R P a len cap _ _ r2 (by omega) (by omega)).mono ?_
  rintro e w3 ⟨q3, rfl, hq3, r3, g3⟩
  have G3 := grown_trans G2 g3
  have A3 := A2.gR g3 (by omega)
  have B3 := B2.gR g3 (by omega)
  have D3 := D2.grown g3 (fun e => by have := D2.lt.1; cases e; omega)
  have hgl := D3.lt.1
  obtain ⟨k, rfl⟩ := Int.eq_ofNat_of_zero_le hq3.1
  have hkm : (k : Int) < m := hq3.2 (by omega)
  clear r2 G2 A2 B2 D2 g3 hq3 b0 b1
  have b0 := B3.box.c0
  have b1 := B3.box.c1
  have hRg : R < g := by omega
  have hBg := B3.ne_row D3
  have hneR : some g ≠ some R := fun e => by cases e; omega
  by_cases hn0 : n = 0
  · subst hn0
    have eA := A3.box
    have eB := B3.box
    have b0 := eB.c0
    have b1 := eB.c1
    have a0 := eA.c0
    have a1 := eA.c1
    have af0 := eA.f0
    have af1 := eA.f1
    have hAg := BoxH.ne_row A3 D3
    obtain ⟨z1, z2, z3⟩ := post_fin (A := w.heap.size + 1) (.int .i64 id) (.slice (some ⟨g, 0, none⟩) 0 c1) (by omega) (by omega) hAg (Nat.le_refl _) hlow D3 r3 G3
    go_wp2
    exact bodyPost_ret (v := .agg #[.int .i64 id, .slice (some ⟨g, 0, none⟩) 0 c1]) (by simp [results, Tryd.results90, go_sem, a0, a1]) rfl ⟨id, g, 0, c1, (P + 1), _, rfl, z1, by omega, z2, by omega, z3⟩
  have hn0b : ((n : Int) == 0) = false := by simpa using hn0
  have hkn : k < n := by omega
  have hknI : (k : Int) < (n : Int) := by omega
  go_wp2_with fail
  refine (pick_any R (P + 1) a len cap _ _ r3 (by omega) (by omega)).mono ?_
  rintro e w4 ⟨q4, rfl, hq4, r4, g4⟩
  have G4 := grown_trans G3 g4
  have A4 := A3.gR g4 (by omega)
  have B4 := B3.gR g4 (by omega)
  have D4 := D3.grown g4 hneR
  have hB4 := B4.lt
  clear r3 G3 A3 B3 D3 g4 hq4 b0 b1
  by_cases hc0 : q4 = 0
  · subst hc0
    have kk : Below w4.heap.size w4 (w4.alloc (.cells (([-1, 99, 100, 3] : List Int).map (Value.int .i64)).toArray 3)) := (Below.refl _ _).alloc (Nat.le_refl _) _
    go_wp2_with fail
    refine (num_any AnyI R (P + 1 + 1) a len cap w4.heap.size 0 4 4 _ (r4.below kk) (by omega) (by omega) (by omega) (by have := r4.lt; omega) (by simp) (ints_new w4 3 [-1, 99, 100, 3] AnyI ?_)).mono ?_
    · intro s hs
      simp only [List.mem_cons, List.not_mem_nil, or_false] at hs
      rcases hs with rfl | rfl | rfl | rfl <;> exact WalkArith.wf_i64 (by omega)
    rintro e w5 ⟨z, rfl, hz, r5, g5⟩
    have A5 := ((A4.below kk).gR g5 (by omega)).other (p := ⟨B, 0, none⟩) (by simp; omega) (.int .i64 z)
    have B5' := (B4.below kk).gR g5 (by omega)
    have B5 := B5'.set0 (.int .i64 z)
    have D5 := ((D4.below kk).grown g5 hneR).setCell (p := ⟨B, 0, none⟩) hBg (.int .i64 z)
    have R5 := rd_store r5 hlow (p := ⟨B, 0, none⟩) (by simp; omega) (.int .i64 z)
    have G5 := grown_store (grown_trans (grown_trans G4 (grown_below kk)) g5) (p := ⟨B, 0, none⟩) (by simp; omega) (.int .i64 z)
    have b50 := B5'.box.c0
    have b5f := B5'.box.f0
    clear r4 G4 A4 B4 D4 kk g5
    have eA := A5.box
    have eB := B5.box
    have b0 := eB.c0
    have b1 := eB.c1
    have a0 := eA.c0
    have a1 := eA.c1
    have af0 := eA.f0
    have af1 := eA.f1
    have hAg := BoxH.ne_row A5 D5
    obtain ⟨z1, z2, z3⟩ := post_fin (A := w.heap.size + 1) (.int .i64 z) (.slice (some ⟨g, 0, none⟩) n c1) (by omega) (by omega) hAg (Nat.le_refl _) hlow D5 R5 G5
    go_wp2
    exact bodyPost_ret (v := .agg #[.int .i64 z, .slice (some ⟨g, 0, none⟩) n c1]) (by simp [results, Tryd.results90, go_sem, a0, a1]) rfl ⟨z, g, n, c1, (P + 1 + 1 + 1), _, rfl, z1, by omega, z2, by omega, z3⟩
  have hf0 : (q4 == 0) = false := by simpa using hc0
  by_cases hc1 : q4 = 1
  · subst hc1
    obtain ⟨l, hl, hlw, l0, l1, l2, lf⟩ := D4.leg hkn
    have hall : ∀ s ∈ ([0, 1000, 1001, -1001, -9223372036854775808] : List Int), AnyI s := by intro s hs; simp only [List.mem_cons, List.not_mem_nil, or_false] at hs; rcases hs with rfl | rfl | rfl | rfl | rfl <;> exact WalkArith.wf_i64 (by omega)
    have hRn : w4.heap.size ≠ R := by have := r4.lt; omega
    have b0 := B4.box.c0
    have b1 := B4.box.c1
    have kd : Below w4.heap.size w4 (w4.drew.alloc (.cells (([0, 1000, 1001, -1001, -9223372036854775808] : List Int).map (Value.int .i64)).toArray 3)) := ((Below.refl _ _).drew).alloc (Nat.le_refl _) _
    have rd := r4.below kd
    have Bd := B4.below kd
    have Dd := D4.below kd
    have bd0 := Bd.box.c0
    have bd1 := Bd.box.c1
    have hall' := (ints_new w4.drew 3 [0, 1000, 1001, -1001, -9223372036854775808] AnyI hall)
    go_wp2_with fail
    go_region_with (go_at_call 93; refine (num_any AnyI R (P + 1 + 1) a len cap w4.heap.size 0 5 5 _ rd ?_ ?_ ?_ hRn ?_ hall').mono ?_; omega; omega; omega; simp; rintro e w5 ⟨z, rfl, hz, r5, g5⟩; have B5 := Bd.gR g5 (by omega); have D5 := Dd.grown g5 hneR; obtain ⟨l', hl', hlw', m0, m1, m2, mf⟩ := D5.leg hkn; have b50 := B5.box.c0; have b51 := B5.box.c1; have mf0 := mf (k * 3); have mf1 := mf (k * 3 + 1); have mf2 := mf (k * 3 + 2))
    all_goals
      have A6 := ((A4.below kd).gR g5 (by omega)).other (p := ⟨g, k * 3 + 2, none⟩) (by simp; exact fun e => BoxH.ne_row A4 D4 e.symm) (.int .i64 z)
      have B6 := B5.other (p := ⟨g, k * 3 + 2, none⟩) (by simp; exact fun e => hBg e.symm) (.int .i64 z)
      have D6 := D5.setN hl' z hz
      have R6 := rd_store r5 hlow (p := ⟨g, k * 3 + 2, none⟩) (by simp; omega) (.int .i64 z)
      have G6 := grown_store (grown_trans (grown_trans G4 (grown_below kd)) g5) (p := ⟨g, k * 3 + 2, none⟩) (by simp; omega) (.int .i64 z)
      clear r4 G4 A4 B4 D4 kd g5 rd Bd Dd bd0 bd1 hall' hall b0 b1 l0 l1 l2 lf hl hlw m0 m1 m2 mf mf0 mf1 mf2 b50 b51 B5 D5 hl' hlw'
      have eA := A6.box
      have eB := B6.box
      have b0 := eB.c0
      have b1 := eB.c1
      have a0 := eA.c0
      have a1 := eA.c1
      have af0 := eA.f0
      have af1 := eA.f1
      have hAg := BoxH.ne_row A6 D6
      obtain ⟨z1, z2, z3⟩ := post_fin (A := w.heap.size + 1) (.int .i64 id) (.slice (some ⟨g, 0, none⟩) n c1) (by omega) (by omega) hAg (Nat.le_refl _) hlow D6 R6 G6
      go_wp2
      exact bodyPost_ret (v := .agg #[.int .i64 id, .slice (some ⟨g, 0, none⟩) n c1]) (by simp [results, Tryd.results90, go_sem, a0, a1]) rfl ⟨id, g, n, c1, (P + 1 + 1 + 1), _, rfl, z1, by omega, z2, by omega, z3⟩
  have hf1 : (q4 == 1) = false := by simpa using hc1
  by_cases hc2 : q4 = 2
  · subst hc2
    obtain ⟨l, hl, hlw, l0, l1, l2, lf⟩ := D4.leg hkn
    have hall : ∀ s ∈ ([⟨#[]⟩, ⟨#[65]⟩, ⟨#[97, 98, 99, 100, 101]⟩, ⟨#[97, 32, 98]⟩, ⟨#[97, 58]⟩] : List ByteArray), FewB s := by intro s hs; simp only [List.mem_cons, List.not_mem_nil, or_false] at hs; rcases hs with rfl | rfl | rfl | rfl | rfl <;> (unfold FewB; decide)
    have hRn : w4.heap.size ≠ R := by have := r4.lt; omega
    have b0 := B4.box.c0
    have b1 := B4.box.c1
    have kd : Below w4.heap.size w4 (w4.drew.alloc (.cells (([⟨#[]⟩, ⟨#[65]⟩, ⟨#[97, 98, 99, 100, 101]⟩, ⟨#[97, 32, 98]⟩, ⟨#[97, 58]⟩] : List ByteArray).map Value.string).toArray 9)) := ((Below.refl _ _).drew).alloc (Nat.le_refl _) _
    have rd := r4.below kd
    have Bd := B4.below kd
    have Dd := D4.below kd
    have bd0 := Bd.box.c0
    have bd1 := Bd.box.c1
    have hall' := (strs_new w4.drew 9 [⟨#[]⟩, ⟨#[65]⟩, ⟨#[97, 98, 99, 100, 101]⟩, ⟨#[97, 32, 98]⟩, ⟨#[97, 58]⟩] FewB hall)
    go_wp2_with fail
    go_region_with (go_at_call 68; refine (of_any FewB R (P + 1 + 1) a len cap w4.heap.size 0 5 5 _ rd ?_ ?_ ?_ hRn ?_ hall').mono ?_; omega; omega; omega; simp; rintro e w5 ⟨z, rfl, hz, r5, g5⟩; have B5 := Bd.gR g5 (by omega); have D5 := Dd.grown g5 hneR; obtain ⟨l', hl', hlw', m0, m1, m2, mf⟩ := D5.leg hkn; have b50 := B5.box.c0; have b51 := B5.box.c1; have mf0 := mf (k * 3); have mf1 := mf (k * 3 + 1); have mf2 := mf (k * 3 + 2))
    all_goals
      have A6 := ((A4.below kd).gR g5 (by omega)).other (p := ⟨g, k * 3, none⟩) (by simp; exact fun e => BoxH.ne_row A4 D4 e.symm) (.string z)
      have B6 := B5.other (p := ⟨g, k * 3, none⟩) (by simp; exact fun e => hBg e.symm) (.string z)
      have D6 := D5.setS hl' z hz
      have R6 := rd_store r5 hlow (p := ⟨g, k * 3, none⟩) (by simp; omega) (.string z)
      have G6 := grown_store (grown_trans (grown_trans G4 (grown_below kd)) g5) (p := ⟨g, k * 3, none⟩) (by simp; omega) (.string z)
      clear r4 G4 A4 B4 D4 kd g5 rd Bd Dd bd0 bd1 hall' hall b0 b1 l0 l1 l2 lf hl hlw m0 m1 m2 mf mf0 mf1 mf2 b50 b51 B5 D5 hl' hlw'
      have eA := A6.box
      have eB := B6.box
      have b0 := eB.c0
      have b1 := eB.c1
      have a0 := eA.c0
      have a1 := eA.c1
      have af0 := eA.f0
      have af1 := eA.f1
      have hAg := BoxH.ne_row A6 D6
      obtain ⟨z1, z2, z3⟩ := post_fin (A := w.heap.size + 1) (.int .i64 id) (.slice (some ⟨g, 0, none⟩) n c1) (by omega) (by omega) hAg (Nat.le_refl _) hlow D6 R6 G6
      go_wp2
      exact bodyPost_ret (v := .agg #[.int .i64 id, .slice (some ⟨g, 0, none⟩) n c1]) (by simp [results, Tryd.results90, go_sem, a0, a1]) rfl ⟨id, g, n, c1, (P + 1 + 1 + 1), _, rfl, z1, by omega, z2, by omega, z3⟩
  have hf2 : (q4 == 2) = false := by simpa using hc2
  by_cases hc3 : q4 = 3
  · subst hc3
    obtain ⟨l, hl, hlw, l0, l1, l2, lf⟩ := D4.leg hkn
    have hall : ∀ s ∈ ([0, 4, -1, 1] : List Int), AnyI s := by intro s hs; simp only [List.mem_cons, List.not_mem_nil, or_false] at hs; rcases hs with rfl | rfl | rfl | rfl <;> exact WalkArith.wf_i64 (by omega)
    have hRn : w4.heap.size ≠ R := by have := r4.lt; omega
    have b0 := B4.box.c0
    have b1 := B4.box.c1
    have kd : Below w4.heap.size w4 (w4.drew.alloc (.cells (([0, 4, -1, 1] : List Int).map (Value.int .i64)).toArray 3)) := ((Below.refl _ _).drew).alloc (Nat.le_refl _) _
    have rd := r4.below kd
    have Bd := B4.below kd
    have Dd := D4.below kd
    have bd0 := Bd.box.c0
    have bd1 := Bd.box.c1
    have hall' := (ints_new w4.drew 3 [0, 4, -1, 1] AnyI hall)
    go_wp2_with fail
    go_region_with (go_at_call 93; refine (num_any AnyI R (P + 1 + 1) a len cap w4.heap.size 0 4 4 _ rd ?_ ?_ ?_ hRn ?_ hall').mono ?_; omega; omega; omega; simp; rintro e w5 ⟨z, rfl, hz, r5, g5⟩; have B5 := Bd.gR g5 (by omega); have D5 := Dd.grown g5 hneR; obtain ⟨l', hl', hlw', m0, m1, m2, mf⟩ := D5.leg hkn; have b50 := B5.box.c0; have b51 := B5.box.c1; have mf0 := mf (k * 3); have mf1 := mf (k * 3 + 1); have mf2 := mf (k * 3 + 2))
    all_goals
      have A6 := ((A4.below kd).gR g5 (by omega)).other (p := ⟨g, k * 3 + 1, none⟩) (by simp; exact fun e => BoxH.ne_row A4 D4 e.symm) (.int .i64 z)
      have B6 := B5.other (p := ⟨g, k * 3 + 1, none⟩) (by simp; exact fun e => hBg e.symm) (.int .i64 z)
      have D6 := D5.setC hl' z hz
      have R6 := rd_store r5 hlow (p := ⟨g, k * 3 + 1, none⟩) (by simp; omega) (.int .i64 z)
      have G6 := grown_store (grown_trans (grown_trans G4 (grown_below kd)) g5) (p := ⟨g, k * 3 + 1, none⟩) (by simp; omega) (.int .i64 z)
      clear r4 G4 A4 B4 D4 kd g5 rd Bd Dd bd0 bd1 hall' hall b0 b1 l0 l1 l2 lf hl hlw m0 m1 m2 mf mf0 mf1 mf2 b50 b51 B5 D5 hl' hlw'
      have eA := A6.box
      have eB := B6.box
      have b0 := eB.c0
      have b1 := eB.c1
      have a0 := eA.c0
      have a1 := eA.c1
      have af0 := eA.f0
      have af1 := eA.f1
      have hAg := BoxH.ne_row A6 D6
      obtain ⟨z1, z2, z3⟩ := post_fin (A := w.heap.size + 1) (.int .i64 id) (.slice (some ⟨g, 0, none⟩) n c1) (by omega) (by omega) hAg (Nat.le_refl _) hlow D6 R6 G6
      go_wp2
      exact bodyPost_ret (v := .agg #[.int .i64 id, .slice (some ⟨g, 0, none⟩) n c1]) (by simp [results, Tryd.results90, go_sem, a0, a1]) rfl ⟨id, g, n, c1, (P + 1 + 1 + 1), _, rfl, z1, by omega, z2, by omega, z3⟩
  have hf3 : (q4 == 3) = false := by simpa using hc3
  by_cases hc4 : q4 = 4
  · subst hc4
    have b0 := B4.box.c0
    have b1 := B4.box.c1
    have bf := B4.box.f1
    obtain ⟨W5, hW5⟩ : ∃ W5, W5 = (w4.setCell ⟨B, 1, none⟩ (.slice (some ⟨w4.heap.size, 0, none⟩) 0 0)).alloc (.cells #[] 58) := ⟨_, rfl⟩
    have es : (w4.setCell ⟨B, 1, none⟩ (.slice (some ⟨w4.heap.size, 0, none⟩) 0 0)).heap.size = w4.heap.size := by simp [World.setCell]
    have D5 : DrawnAt W5 w.heap.size w4.heap.size 0 0 [] := by
      refine ⟨?_, rfl, by simp, by simp⟩
      have := World.ownsRow_lit (base := w.heap.size) (e := 58) (size := 3) (w4.setCell ⟨B, 1, none⟩ (.slice (some ⟨w4.heap.size, 0, none⟩) 0 0)) #[] 0 (by rw [es]; omega) (by unfold maxLen; omega) (by simp)
      rw [es] at this
      rw [hW5]
      exact this
    have A5 : BoxH W5 (w.heap.size + 1) (.int .i64 0) (.slice none 0 0) := by rw [hW5]; exact (A4.other (p := ⟨B, 1, none⟩) (by simp; omega) _).alloc _
    have B5 : BoxH W5 B (.int .i64 id) (.slice (some ⟨w4.heap.size, 0, none⟩) 0 0) := by rw [hW5]; exact (B4.set1 _).alloc _
    have R5 : RdAt W5 R a len cap (P + 1 + 1) := by
      rw [hW5]
      exact (rd_store r4 hlow (p := ⟨B, 1, none⟩) (by simp; omega) _).below ((Below.refl _ _).alloc (Nat.le_refl _) _)
    have G5 : w.grownBy W5 (some R) := by rw [hW5]; exact grown_alloc (grown_store G4 (p := ⟨B, 1, none⟩) (by simp; omega) _) _
    go_upto_region 22 with fail
    rw [← hW5]
    clear hW5 es r4 G4 A4 B4 D4 b0 b1 bf
    have eA := A5.box
    have eB := B5.box
    have b0 := eB.c0
    have b1 := eB.c1
    have a0 := eA.c0
    have a1 := eA.c1
    have af0 := eA.f0
    have af1 := eA.f1
    have hAg := BoxH.ne_row A5 D5
    obtain ⟨z1, z2, z3⟩ := post_fin (A := w.heap.size + 1) (.int .i64 id) (.slice (some ⟨w4.heap.size, 0, none⟩) 0 0) (by omega) (by omega) hAg (Nat.le_refl _) hlow D5 R5 G5
    go_wp2
    exact bodyPost_ret (v := .agg #[.int .i64 id, .slice (some ⟨w4.heap.size, 0, none⟩) 0 0]) (by simp [results, Tryd.results90, go_sem, a0, a1]) rfl ⟨id, w4.heap.size, 0, 0, (P + 1 + 1), _, rfl, z1, by omega, z2, by omega, z3⟩
  have hf4 : (q4 == 4) = false := by simpa using hc4
  by_cases hc5 : q4 = 5
  · subst hc5
    go_wp2_with fail
    have hgB : g < B ∨ B < g := by omega
    go_loopw [64] (fun _ wr => ∃ (g' n' c' P' : Nat) (L' : List LegD), DrawnAt wr w.heap.size g' n' c' L' ∧ 1 ≤ n' ∧ n' ≤ 10 ∧ RdAt wr R a len cap P' ∧ P' ≤ P + 2 + n' ∧ BoxH wr B (.int .i64 id) (.slice (some ⟨g', 0, none⟩) n' c') ∧ BoxH wr (w.heap.size + 1) (.int .i64 0) (.slice none 0 0) ∧ w.grownBy wr (some R)) (fun _ wr => 10 - lenAt wr B)
    case atStart => exact ⟨g, n, c1, _, L, D4, by omega, hn, r4, by omega, B4, A4, G4⟩
    case round =>
      clear r4 G4 A4 B4 D4
      obtain ⟨g', n', c', P', L', D5, hn1', hn10, r5, hP5, B5, A5, G5⟩ := hrel
      have hBold : Hid (BoxH wr B (.int .i64 id) (.slice (some ⟨g', 0, none⟩) n' c')) := B5
      have b0 := B5.box.c0
      have b1 := B5.box.c1
      have hg5 := D5.lt.1
      have hneR5 : some g' ≠ some R := fun e => by cases e; omega
      have r5d := r5.below ((Below.refl _ _).drew)
      have B5d := B5.below ((Below.refl _ _).drew)
      have D5d := D5.below ((Below.refl _ _).drew)
      have A5d := A5.below ((Below.refl _ _).drew)
      go_wp2_with fail
      go_cut [70] from 64 to 79 (fun t wx => ∃ q : Int, t = .bool (decide ((n' : Int) < 4 + q)) ∧ 0 ≤ q ∧ q < 2 ∧ RdAt wx R a len cap (P' + 1) ∧ BoxH wx B (.int .i64 id) (.slice (some ⟨g', 0, none⟩) n' c') ∧ BoxH wx (w.heap.size + 1) (.int .i64 0) (.slice none 0 0) ∧ DrawnAt wx w.heap.size g' n' c' L' ∧ w.grownBy wx (some R))
      case first =>
        go_region_with (go_at_call 67; refine (pick_any R P' a len cap _ _ r5d ?_ ?_).mono ?_; omega; omega; rintro e w6 ⟨q6, rfl, hq6, r6, g6⟩; have B6 := B5d.gR g6 (by omega); have b60 := B6.box.c0; have b61 := B6.box.c1; have hq61 := hq6.1; have hq62 := hq6.2 (by omega))
        all_goals
          go_wp2
          go_meet
          have hwr : IntKind.i64.wrap (4 + q6) = 4 + q6 := by rw [IntKind.wrap_i64]; omega
          exact ⟨q6, by rw [hwr], hq61, hq62, r6, B6, A5d.gR g6 (by omega), D5d.grown g6 hneR5, grown_trans (grown_trans G5 (grown_below ((Below.refl _ _).drew))) g6⟩
      case rest =>
        obtain ⟨q, rfl, hq1, hq2, r6, B6, A6, D6, G6⟩ := hcut
        clear r5 r5d B5 B5d D5 D5d A5 A5d G5 b0 b1
        by_cases hlt : (n' : Int) < 4 + q
        · have hd : decide ((n' : Int) < 4 + q) = true := decide_eq_true hlt
          have hn4 : n' ≤ 4 := by omega
          obtain ⟨l, hl, hlw, l0, l1, l2, lf⟩ := D6.leg (k := 0) (by omega)
          obtain ⟨l1', l2', l3'⟩ := l
          simp only [Nat.zero_mul, Nat.zero_add] at l0 l1 l2
          have b0 := B6.box.c0
          have b1 := B6.box.c1
          have hB6 := B6.lt
          have hg6 := D6.lt.2
          have hnI : (0 : Int) < (n' : Int) := by omega
          have hnp : 0 < n' := by omega
          have hml : n' + 1 ≤ maxLen := by unfold maxLen; omega
          have hby : (n' + 1) * 32 ≤ 140737488355328 := by omega
          have kd : Below wc.heap.size wc (wc.drew.alloc (.cells (flat [(l1', l2', l3')]).toArray 58)) := ((Below.refl _ _).drew).alloc (Nat.le_refl _) _
          have Dd := D6.below kd
          have Bd := B6.below kd
          have bd0 := Bd.box.c0
          have bd1 := Bd.box.c1
          have hGA : w.heap.size ≤ (wc.drew.alloc (.cells (flat [(l1', l2', l3')]).toArray 58)).heap.size := by have := kd.size; have := G6.size; omega
          have hBg' : some B ≠ (Value.slice (some ⟨g', 0, none⟩) n' c').ownBlock := by have := B6.ne_row D6; simp [Value.ownBlock]; omega
          have hAg' : some (w.heap.size + 1) ≠ (Value.slice (some ⟨g', 0, none⟩) n' c').ownBlock := by have := A6.ne_row D6; simp [Value.ownBlock]; omega
          have hfn := flat_new wc.drew 58 [(l1', l2', l3')]
          go_wp2_with fail
          go_region_law (refine step_append_own rfl (.tmp 72) (.tmp 77) 27 rfl w.heap.size 58 i0 _ 3 32 Tryd.underlying27 hi hz0 hz1 hz2 rfl (Nat.succ_pos 2) (.slice (some ⟨g', 0, none⟩) n' c') n' _ ?_ Dd.owns ⟨wc.heap.size, 0, none⟩ 1 1 (flat [(l1', l2', l3')]) ?_ ?_ ?_ (flat_one _) hml hby ?_ ?_; rfl; rfl; rfl; exact hfn; exact hGA; intro v' wA hown hgrow hnil; obtain ⟨gA, cA, rfl⟩ := row_form hown (fun e => not_nil_slice (hnil.1 e).1); have BA := Bd.grown hgrow hBg'; have bA0 := BA.box.c0; have bA1 := BA.box.c1; have bAf := BA.box.f1)
          all_goals
            have DA : DrawnAt wA w.heap.size gA (n' + 1) cA (L' ++ [(l1', l2', l3')]) := by
              refine ⟨by rw [flat_append]; exact hown, by rw [List.length_append, D6.len]; rfl, ?_, ?_⟩
              · intro x hx
                rcases List.mem_append.1 hx with h1 | h1
                · exact D6.legs x h1
                · simp only [List.mem_cons, List.not_mem_nil, or_false] at h1
                  subst h1
                  exact hlw
              · intro x hx
                rcases List.mem_append.1 hx with h1 | h1
                · exact D6.accts x h1
                · simp only [List.mem_cons, List.not_mem_nil, or_false] at h1
                  subst h1
                  exact D6.accts _ (List.mem_of_getElem? hl)
            have hBA := BA.ne_row DA
            have rA := (r6.below kd).grown hgrow hlow (fun k e => by rw [own_G e]; omega)
            have AA := (A6.below kd).grown hgrow hAg'
            have GA := grown_then (grown_trans G6 (grown_below kd)) hgrow (fun k e => by rw [own_G e]; omega)
            go_wp2
            go_roundw
            case rel => exact ⟨gA, n' + 1, cA, P' + 1, _, DA.setCell (p := ⟨B, 1, none⟩) hBA _, by omega, by omega, rd_store rA hlow (p := ⟨B, 1, none⟩) (by simp; omega) _, by omega, BA.set1 _, AA.other (p := ⟨B, 1, none⟩) (by simp; omega) _, grown_store GA (p := ⟨B, 1, none⟩) (by simp; omega) _⟩
            case measure => rw [lenAt_box (BA.set1 _), lenAt_box hBold.out]; omega
        · have hd : decide ((n' : Int) < 4 + q) = false := decide_eq_false hlt
          have eA := A6.box
          have eB := B6.box
          have b0 := eB.c0
          have b1 := eB.c1
          have a0 := eA.c0
          have a1 := eA.c1
          have af0 := eA.f0
          have af1 := eA.f1
          have hAg := BoxH.ne_row A6 D6
          obtain ⟨z1, z2, z3⟩ := post_fin (A := w.heap.size + 1) (.int .i64 id) (.slice (some ⟨g', 0, none⟩) n' c') (by omega) (by omega) hAg (Nat.le_refl _) hlow D6 r6 G6
          go_wp2
          exact bodyPost_ret (v := .agg #[.int .i64 id, .slice (some ⟨g', 0, none⟩) n' c']) (by simp [results, Tryd.results90, go_sem, a0, a1]) rfl ⟨id, g', n', c', (P' + 1), _, rfl, z1, by omega, z2, by omega, z3⟩
  have hf5 : (q4 == 5) = false := by simpa using hc5
  by_cases hc6 : q4 = 6 ∨ q4 = 7
  · obtain ⟨l, hl, hlw, l0, l1, l2, lf⟩ := D4.leg hkn
    have b0 := B4.box.c0
    have b1 := B4.box.c1
    have lf2 := lf (k * 3 + 2)
    have kd : Below w4.heap.size w4 w4.drew := (Below.refl _ _).drew
    have hw : (Lit.int .i64 (wrap64 (l.2.2 + 1))).wf = true := wrap64_wf _
    obtain ⟨l1', l2', l3'⟩ := l
    simp only at l0 l1 l2 hw
    have kd2 : Below (w4.setCell ⟨g, k * 3 + 2, none⟩ (.int .i64 (wrap64 (l3' + 1)))).heap.size (w4.setCell ⟨g, k * 3 + 2, none⟩ (.int .i64 (wrap64 (l3' + 1)))) (w4.setCell ⟨g, k * 3 + 2, none⟩ (.int .i64 (wrap64 (l3' + 1)))).drew := (Below.refl _ _).drew
    have A6 := (A4.other (p := ⟨g, k * 3 + 2, none⟩) (by simp; exact fun e => BoxH.ne_row A4 D4 e.symm) (.int .i64 (wrap64 (l3' + 1)))).below kd2
    have B6 := (B4.other (p := ⟨g, k * 3 + 2, none⟩) (by simp; exact fun e => hBg e.symm) (.int .i64 (wrap64 (l3' + 1)))).below kd2
    have D6 := (D4.setN hl (wrap64 (l3' + 1)) hw).below kd2
    have R6 := (rd_store r4 hlow (p := ⟨g, k * 3 + 2, none⟩) (by simp; omega) (.int .i64 (wrap64 (l3' + 1)))).below kd2
    have G6 := grown_trans (grown_store G4 (p := ⟨g, k * 3 + 2, none⟩) (by simp; omega) (.int .i64 (wrap64 (l3' + 1)))) (grown_below (R := some R) kd2)
    obtain ⟨W6, hW6⟩ : ∃ W6, W6 = (w4.setCell ⟨g, k * 3 + 2, none⟩ (.int .i64 (wrap64 (l3' + 1)))).drew := ⟨_, rfl⟩
    rw [← hW6] at A6 B6 D6 R6 G6
    have HW6 : Hid (W6 = (w4.setCell ⟨g, k * 3 + 2, none⟩ (.int .i64 (wrap64 (l3' + 1)))).drew) := hW6
    clear hW6
    have h67 : (q4 == 6) = true ∨ ((q4 == 6) = false ∧ (q4 == 7) = true) := by
      rcases hc6 with rfl | rfl
      · exact Or.inl rfl
      · exact Or.inr ⟨rfl, rfl⟩
    rcases h67 with h6 | ⟨h6, h7⟩
    · go_wp2_with fail
      go_region
      rw [← HW6.out]
      clear HW6 r4 G4 A4 B4 D4 kd kd2 b0 b1 l0 l1 l2 lf lf2
      have eA := A6.box
      have eB := B6.box
      have b0 := eB.c0
      have b1 := eB.c1
      have a0 := eA.c0
      have a1 := eA.c1
      have af0 := eA.f0
      have af1 := eA.f1
      have hAg := BoxH.ne_row A6 D6
      obtain ⟨z1, z2, z3⟩ := post_fin (A := w.heap.size + 1) (.int .i64 id) (.slice (some ⟨g, 0, none⟩) n c1) (by omega) (by omega) hAg (Nat.le_refl _) hlow D6 R6 G6
      go_wp2
      exact bodyPost_ret (v := .agg #[.int .i64 id, .slice (some ⟨g, 0, none⟩) n c1]) (by simp [results, Tryd.results90, go_sem, a0, a1]) rfl ⟨id, g, n, c1, (P + 1 + 1), _, rfl, z1, by omega, z2, by omega, z3⟩
    · go_wp2_with fail
      go_region
      rw [← HW6.out]
      clear HW6 r4 G4 A4 B4 D4 kd kd2 b0 b1 l0 l1 l2 lf lf2
      have eA := A6.box
      have eB := B6.box
      have b0 := eB.c0
      have b1 := eB.c1
      have a0 := eA.c0
      have a1 := eA.c1
      have af0 := eA.f0
      have af1 := eA.f1
      have hAg := BoxH.ne_row A6 D6
      obtain ⟨z1, z2, z3⟩ := post_fin (A := w.heap.size + 1) (.int .i64 id) (.slice (some ⟨g, 0, none⟩) n c1) (by omega) (by omega) hAg (Nat.le_refl _) hlow D6 R6 G6
      go_wp2
      exact bodyPost_ret (v := .agg #[.int .i64 id, .slice (some ⟨g, 0, none⟩) n c1]) (by simp [results, Tryd.results90, go_sem, a0, a1]) rfl ⟨id, g, n, c1, (P + 1 + 1), _, rfl, z1, by omega, z2, by omega, z3⟩
  have hf6 : (q4 == 6) = false := by simp; exact fun e => hc6 (Or.inl e)
  have hf7 : (q4 == 7) = false := by simp; exact fun e => hc6 (Or.inr e)
  have eA := A4.box
  have eB := B4.box
  have b0 := eB.c0
  have b1 := eB.c1
  have a0 := eA.c0
  have a1 := eA.c1
  have af0 := eA.f0
  have af1 := eA.f1
  have hAg := BoxH.ne_row A4 D4
  obtain ⟨z1, z2, z3⟩ := post_fin (A := w.heap.size + 1) (.int .i64 id) (.slice (some ⟨g, 0, none⟩) n c1) (by omega) (by omega) hAg (Nat.le_refl _) hlow D4 r4 G4
  go_wp2
  exact bodyPost_ret (v := .agg #[.int .i64 id, .slice (some ⟨g, 0, none⟩) n c1]) (by simp [results, Tryd.results90, go_sem, a0, a1]) rfl ⟨id, g, n, c1, (P + 1 + 1), _, rfl, z1, by omega, z2, by omega, z3⟩

end Go.Proofs.YtcabinakcmpkeaaDoor
