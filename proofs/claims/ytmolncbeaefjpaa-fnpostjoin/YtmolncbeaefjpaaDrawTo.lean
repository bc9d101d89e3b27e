/-
  The posting, the account and the currency that a law draws, by a walk of its Go text: some posting in memory of its own, whose accounts are none of none.
-/
import Derived.Test.YtmolncbeaefjpaaBent
namespace Go.Proofs.Ytmolncbeaefjpaa
open Go.RowKit

/-- The bytes that came in. -/
def BytesAt (w : World) (a : Option Addr) (len cap : Nat) : Prop := len ≤ cap ∧ cap ≤ maxLen ∧ (len = 0 ∨ ∃ b off, a = some ⟨b, off, none⟩ ∧ b < w.heap.size ∧ ∀ i, i < len → ∃ z : Nat, z ≤ 255 ∧ w.cell? ⟨b, off + i, none⟩ = some (.int .u8 z))

theorem BytesAt.keep {w w' : World} {a : Option Addr} {len cap : Nat} (h : BytesAt w a len cap) (hb : Below w.heap.size w w') : BytesAt w' a len cap := by
  obtain ⟨h1, h2, h3⟩ := h
  refine ⟨h1, h2, ?_⟩
  rcases h3 with e | ⟨b, off, ha, hlt, hc⟩
  · exact Or.inl e
  · exact Or.inr ⟨b, off, ha, Nat.lt_of_lt_of_le hlt hb.size, fun i hi => by obtain ⟨z, hz, hcc⟩ := hc i hi; exact ⟨z, hz, cell_later hb hcc⟩⟩

/-- What comes of the draw. -/
def DrawR (w : World) (e : Ending) (w' : World) : Prop :=
  ∃ (id : Int) (b n c : Nat) (L : List LegD) (acct : ByteArray) (cur : Int), e = .returned (.tuple #[.agg #[.int .i64 id, .slice (some ⟨b, 0, none⟩) n c], .string acct, .int .i64 cur]) ∧ LegsAt w' (some ⟨b, 0, none⟩) n c L ∧ (∀ l ∈ L, FewB l.1) ∧ n ≤ 10 ∧ acct.size ≤ maxLen ∧ AnyI cur ∧ Below w.heap.size w w'

set_option maxRecDepth 100000 in
set_option maxHeartbeats 1000000 in
theorem drawTo_any (a : Option Addr) (len cap : Nat) (w : World) (hb : BytesAt w a len cap) :
    Calls Try.prog 11 #[.slice a len cap] w fun e w' => DrawR w e w' := by
  have k0 : Below w.heap.size w (w.alloc (.cells #[.int .i64 0, .slice none 0 0] 25)) := (Below.refl _ _).alloc (Nat.le_refl _) _
  obtain ⟨hb1, hb2, hb3⟩ := hb.keep k0
  have A0 := BoxH.new w (.int .i64 0) (.slice none 0 0)
  clear hb
  go_enter Try.func11, Try.ntmps11
  go_wp2_with fail
  refine (l9Open_any a len cap _ hb1 hb2 hb3).mono ?_
  rintro e w1 ⟨len', rfl, r1, k1, s1⟩
  simp only [World.size_alloc] at r1 s1 ⊢
  obtain ⟨R, hR⟩ : ∃ R, R = w.heap.size + 1 := ⟨_, rfl⟩
  rw [← hR] at r1 s1 ⊢
  have hRA : R < R + 1 := by omega
  have low : Low a len' R := by
    rcases r1.bytes with e | ⟨b, off, ha, h1, h2, _⟩
    · exact Or.inl e
    · exact Or.inr (fun b' off' e => by rw [ha] at e; cases e; omega)
  have A1 := A0.below k1
  have G1 : w.grownBy w1 (some R) := grown_below (k0.trans (k1.mono (by simp)))
  have hwR : w.heap.size < R := by omega
  clear k0 k1 A0 hb1 hb2 hb3 hRA hR
  go_wp2_with fail
  refine (l1Post_any R 0 a len' cap _ r1 low (by omega)).mono ?_
  rintro e w2 ⟨id2, b2, n2, c2, P2, L2, rfl, D2, hn2, r2, hP2, g2⟩
  have hA12 : some w.heap.size ≠ some R := fun e => by cases e; omega
  have A2 := A1.grown g2 hA12
  have G2 := grown_trans G1 g2
  have L2' := D2.legsAt
  have hF2 := D2.accts
  clear r1 A1 G1 g2 D2
  go_wp2_with fail
  refine (l1Bent_any R P2 a len' cap id2 b2 0 n2 c2 L2 _ r2 low (by omega) L2' hF2 hn2).mono ?_
  rintro e w3 ⟨id3, b3, n3, c3, P3, L3, rfl, D3, hn3, r3, hP3, g3⟩
  have A3 := A2.grown g3 hA12
  have G3 := grown_trans G2 g3
  have hw23 : R < w2.heap.size := r2.lt
  have hb3 := D3.lt.1
  have hF3 := D3.accts
  clear r2 A2 G2 g3 L2' hF2 hn2
  obtain ⟨B, hB⟩ : ∃ B, B = w3.heap.size := ⟨_, rfl⟩
  have kB : Below w3.heap.size w3 (w3.alloc (.cells #[.int .i64 id3, .slice (some ⟨b3, 0, none⟩) n3 c3] 25)) := (Below.refl _ _).alloc (Nat.le_refl _) _
  have r3' := r3.below kB
  have A3' := A3.below kB
  have D3' := D3.below kB
  have G3' := grown_trans G3 (grown_below (R := some R) kB)
  have B3 := BoxH.new w3 (.int .i64 id3) (.slice (some ⟨b3, 0, none⟩) n3 c3)
  rw [← hB] at B3
  have hRB : R < B := by have := r3.lt; omega
  have hneR : some b3 ≠ some R := fun e => by cases e; omega
  clear r3 A3 D3 G3 kB
  go_wp2_with fail
  refine (l1Acct_any R P3 a len' cap _ r3' (by omega)).mono ?_
  rintro e w4 ⟨s4, rfl, hs4, r4, g4⟩
  have A4 := A3'.grown g4 hA12
  have B4 := B3.gR g4 hRB
  have D4 := D3'.grown g4 hneR
  have G4 := grown_trans G3' g4
  have hs4m : s4.size ≤ maxLen := Nat.le_trans hs4.1 (by unfold maxLen; omega)
  clear r3' A3' B3 D3' G3' g4
  simp only [← hB]
  clear hB
  have b0 := B4.box.c0
  have b1 := B4.box.c1
  by_cases hn0 : n3 = 0
  · subst hn0
    have kd : Below w4.heap.size w4 (w4.alloc (.cells (([1, 2, 3, 0, 4] : List Int).map (Value.int .i64)).toArray 3)).drew := ((Below.refl _ _).alloc (Nat.le_refl _) _).drew
    have hall : ∀ s ∈ ([1, 2, 3, 0, 4] : List Int), AnyI s := by intro s hs; simp only [List.mem_cons, List.not_mem_nil, or_false] at hs; rcases hs with rfl | rfl | rfl | rfl | rfl <;> exact WalkArith.wf_i64 (by omega)
    have hall' := ints_new w4 3 [1, 2, 3, 0, 4] AnyI hall
    have rd := r4.below kd
    have Bd := B4.below kd
    have b0 := B4.box.c0
    have b1 := B4.box.c1
    have bd0 := Bd.box.c0
    have bd1 := Bd.box.c1
    have hBlt := B4.lt
    have hRn : w4.heap.size ≠ R := by have := r4.lt; omega
    go_wp2_with fail
    go_region_with (go_at_call 49; refine (num_any AnyI R (P3 + 1) a len' cap w4.heap.size 0 5 5 _ rd ?_ ?_ ?_ hRn ?_ hall').mono ?_; omega; omega; omega; simp; rintro e w9 ⟨z, rfl, hz, r9, g9⟩; have B9 := Bd.gR g9 hRB; have A9 := (A4.below kd).grown g9 hA12; have b90 := B9.box.c0; have b91 := B9.box.c1; have a90 := A9.box.c0; have a91 := A9.box.c1; have af0 := A9.box.f0; have af1 := A9.box.f1)
    all_goals
      have D9 := (D4.below kd).grown g9 hneR
      have hAg := A9.ne_row D9
      have L9 := ((D9.setCell (p := ⟨w.heap.size, 0, none⟩) hAg (.int .i64 id3)).setCell (p := ⟨w.heap.size, 1, none⟩) hAg (.slice (some ⟨b3, 0, none⟩) 0 c3)).legsAt
      have G9 := grown_store (grown_store (grown_trans (grown_trans G4 (grown_below kd)) g9) (p := ⟨w.heap.size, 0, none⟩) (Nat.le_refl _) (.int .i64 id3)) (p := ⟨w.heap.size, 1, none⟩) (Nat.le_refl _) (.slice (some ⟨b3, 0, none⟩) 0 c3)
      have K9 := (Below.refl w.heap.size w).grown G9 (Nat.le_refl _) (fun k e => by cases e; omega)
      go_wp2
      exact bodyPost_ret (v := .tuple #[.agg #[.int .i64 id3, .slice (some ⟨b3, 0, none⟩) 0 c3], .string s4, .int .i64 z]) (by simp [results, Try.results11, go_sem, a90, a91]) rfl ⟨id3, b3, 0, c3, L3, s4, z, rfl, L9, hF3, hn3, hs4m, hz, K9⟩
  have hn0I : (0 : Int) < (n3 : Int) := by omega
  have hn0N : 0 < n3 := by omega
  go_wp2_with fail
  refine (pick_any R (P3 + 1) a len' cap _ _ r4 (by omega) (by omega)).mono ?_
  rintro e w5 ⟨q5, rfl, hq5, r5, g5⟩
  have A5 := A4.grown g5 hA12
  have B5 := B4.gR g5 hRB
  have D5 := D4.grown g5 hneR
  have G5 := grown_trans G4 g5
  clear r4 A4 B4 D4 G4 g5 b0 b1
  by_cases hq : 0 < q5
  · have b0 := B5.box.c0
    have b1 := B5.box.c1
    have a0 := A5.box.c0
    have a1 := A5.box.c1
    have af0 := A5.box.f0
    have af1 := A5.box.f1
    have hBlt := B5.lt
    have hAlt := A5.lt
    obtain ⟨l, hl, hlw, l0, l1, l2, lf⟩ := D5.leg (k := 0) hn0N
    obtain ⟨l1', l2', l3'⟩ := l
    simp only [Nat.zero_mul, Nat.zero_add] at l0 l1 l2
    have hg5 := D5.lt.2
    go_wp2_with fail
    have L9 := ((D5.setCell (p := ⟨w.heap.size, 0, none⟩) (A5.ne_row D5) (.int .i64 id3)).setCell (p := ⟨w.heap.size, 1, none⟩) (A5.ne_row D5) (.slice (some ⟨b3, 0, none⟩) n3 c3)).legsAt
    have G9 := grown_store (grown_store G5 (p := ⟨w.heap.size, 0, none⟩) (Nat.le_refl _) (.int .i64 id3)) (p := ⟨w.heap.size, 1, none⟩) (Nat.le_refl _) (.slice (some ⟨b3, 0, none⟩) n3 c3)
    have K9 := (Below.refl w.heap.size w).grown G9 (Nat.le_refl _) (fun k e => by cases e; omega)
    go_region
    all_goals
      go_wp2
      exact bodyPost_ret (v := .tuple #[.agg #[.int .i64 id3, .slice (some ⟨b3, 0, none⟩) n3 c3], .string l1', .int .i64 l2']) (by simp [results, Try.results11, go_sem, a0, a1]) rfl ⟨id3, b3, n3, c3, L3, l1', l2', rfl, L9.keep ((Below.refl _ _).drew), hF3, hn3, hlw.1, hlw.2.1, K9.drew⟩
  · have b0 := B5.box.c0
    have b1 := B5.box.c1
    have hqf : (decide (0 < q5)) = false := decide_eq_false hq
    have kd : Below w5.heap.size w5 (w5.alloc (.cells (([1, 2, 3, 0, 4] : List Int).map (Value.int .i64)).toArray 3)).drew := ((Below.refl _ _).alloc (Nat.le_refl _) _).drew
    have hall : ∀ s ∈ ([1, 2, 3, 0, 4] : List Int), AnyI s := by intro s hs; simp only [List.mem_cons, List.not_mem_nil, or_false] at hs; rcases hs with rfl | rfl | rfl | rfl | rfl <;> exact WalkArith.wf_i64 (by omega)
    have hall' := ints_new w5 3 [1, 2, 3, 0, 4] AnyI hall
    have rd := r5.below kd
    have Bd := B5.below kd
    have b0 := B5.box.c0
    have b1 := B5.box.c1
    have bd0 := Bd.box.c0
    have bd1 := Bd.box.c1
    have hBlt := B5.lt
    have hRn : w5.heap.size ≠ R := by have := r5.lt; omega
    go_wp2_with fail
    go_region_with (go_at_call 49; refine (num_any AnyI R (P3 + 1 + 1) a len' cap w5.heap.size 0 5 5 _ rd ?_ ?_ ?_ hRn ?_ hall').mono ?_; omega; omega; omega; simp; rintro e w9 ⟨z, rfl, hz, r9, g9⟩; have B9 := Bd.gR g9 hRB; have A9 := (A5.below kd).grown g9 hA12; have b90 := B9.box.c0; have b91 := B9.box.c1; have a90 := A9.box.c0; have a91 := A9.box.c1; have af0 := A9.box.f0; have af1 := A9.box.f1)
    all_goals
      have D9 := (D5.below kd).grown g9 hneR
      have hAg := A9.ne_row D9
      have L9 := ((D9.setCell (p := ⟨w.heap.size, 0, none⟩) hAg (.int .i64 id3)).setCell (p := ⟨w.heap.size, 1, none⟩) hAg (.slice (some ⟨b3, 0, none⟩) n3 c3)).legsAt
      have G9 := grown_store (grown_store (grown_trans (grown_trans G5 (grown_below kd)) g9) (p := ⟨w.heap.size, 0, none⟩) (Nat.le_refl _) (.int .i64 id3)) (p := ⟨w.heap.size, 1, none⟩) (Nat.le_refl _) (.slice (some ⟨b3, 0, none⟩) n3 c3)
      have K9 := (Below.refl w.heap.size w).grown G9 (Nat.le_refl _) (fun k e => by cases e; omega)
      go_wp2
      exact bodyPost_ret (v := .tuple #[.agg #[.int .i64 id3, .slice (some ⟨b3, 0, none⟩) n3 c3], .string s4, .int .i64 z]) (by simp [results, Try.results11, go_sem, a90, a91]) rfl ⟨id3, b3, n3, c3, L3, s4, z, rfl, L9, hF3, hn3, hs4m, hz, K9⟩

end Go.Proofs.Ytmolncbeaefjpaa
