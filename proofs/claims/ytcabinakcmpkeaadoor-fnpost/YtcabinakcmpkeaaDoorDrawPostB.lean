/-
  The posting that a law draws is one that the document calls ok, by a walk of its Go text.
-/
import Derived.Test.YtcabinakcmpkeaaDoorDrawPost
import Derived.Test.YtcabinakcmpkeaaDoorPlain
namespace Go.Proofs.YtcabinakcmpkeaaDoor
open Go.RowKit

def AcB (s : ByteArray) : Prop := FewB s ∧ acctB s = true
set_option maxHeartbeats 400000 in
theorem l1Acct_ok (R P : Nat) (a : Option Addr) (len cap : Nat) (w : World) (h : RdAt w R a len cap P) (hP : P < 100000) :
    Calls Tryd.prog 94 #[.pointer (some ⟨R, 0, none⟩)] w fun e w' => ∃ z : ByteArray, e = .returned (.string z) ∧ FewB z ∧ Hid (acctB z = true) ∧ RdAt w' R a len cap (P + 1) ∧ w.grownBy w' (some R) := by
  go_enter Tryd.func94, Tryd.ntmps94
  go_wp2_with fail
  have hb0 : Below w.heap.size w (w.alloc (.cells (([⟨#[97]⟩, ⟨#[98]⟩, ⟨#[97, 98]⟩, ⟨#[99]⟩, ⟨#[99, 97, 115, 104]⟩, ⟨#[97, 97]⟩] : List ByteArray).map Value.string).toArray 9)) := (Below.refl _ _).alloc (Nat.le_refl _) _
  refine (of_any AcB R P a len cap w.heap.size 0 6 6 _ (h.below hb0) hP (by omega) (by omega) (by have := h.lt; omega) (by simp) (strs_new w 9 [⟨#[97]⟩, ⟨#[98]⟩, ⟨#[97, 98]⟩, ⟨#[99]⟩, ⟨#[99, 97, 115, 104]⟩, ⟨#[97, 97]⟩] AcB ?_)).mono ?_
  · intro s hs
    simp only [List.mem_cons, List.not_mem_nil, or_false] at hs
    rcases hs with rfl | rfl | rfl | rfl | rfl | rfl <;> (unfold AcB FewB; decide)
  rintro e w1 ⟨z, rfl, ⟨hz, hac⟩, hR1, hg1⟩
  have T : Hid (acctB z = true) := hac
  clear hac
  go_wp2
  go_ret
  exact ⟨z, rfl, hz, T, hR1, grown_trans (grown_below hb0) hg1⟩

theorem legB_mk {s : ByteArray} {c n : Int} (h : Hid (acctB s = true)) (h1 : 1 ≤ c) (h2 : c ≤ 3) (h3 : -1000 ≤ n) (h4 : n ≤ 1000) (h5 : n ≠ 0) : legB (s, c, n) = true := by
  have h := h.out
  simp [legB, h, h1, h2, h3, h4, h5]
theorem postB_mk {id : Int} {L : List LegD} (h : 0 ≤ id ∧ id ≤ 99) (h1 : 1 ≤ L.length) (h2 : L.length ≤ 4) (h3 : L.all legB = true) : postB id L = true := by
  unfold postB
  rw [h3]
  simp [h.1, h.2, h2]
  omega
theorem all2 {x y : LegD} (hx : legB x = true) (hy : legB y = true) : [x, y].all legB = true := by simp [hx, hy]
theorem all3 {x y z : LegD} (hx : legB x = true) (hy : legB y = true) (hz : legB z = true) : ([x, y] ++ [z]).all legB = true := by simp [hx, hy, hz]
theorem all4 {x y z u : LegD} (hx : legB x = true) (hy : legB y = true) (hz : legB z = true) (hu : legB u = true) : ([x, y] ++ [z, u]).all legB = true := by simp [hx, hy, hz, hu]

set_option maxRecDepth 100000 in
set_option maxHeartbeats 2000000 in
theorem l1Post_ok (R P : Nat) (a : Option Addr) (len cap : Nat) (w : World) (h : RdAt w R a len cap P) (hlow : Low a len R) (hP : P < 90000) :
    Calls Tryd.prog 66 #[.pointer (some ⟨R, 0, none⟩)] w fun e w' => ∃ (id : Int) (b n c P' : Nat) (L : List LegD), e = .returned (.agg #[.int .i64 id, .slice (some ⟨b, 0, none⟩) n c]) ∧ DrawnAt w' w.heap.size b n c L ∧ n ≤ 10 ∧ RdAt w' R a len cap P' ∧ P' ≤ P + 20 ∧ w.grownBy w' (some R) ∧ postB id L = true := by
  obtain ⟨i0, hi, hz0, hz1, hz2⟩ := info_parts Tryd.infoLeg
  have hRw := h.lt
  have k0 : Below w.heap.size w (w.alloc (.cells #[.int .i64 0, .slice none 0 0] 29)) := (Below.refl _ _).alloc (Nat.le_refl _) _
  have r0 := h.below k0
  have g0 : w.grownBy (w.alloc (.cells #[.int .i64 0, .slice none 0 0] 29)) (some R) := grown_below k0
  have A0 := Box2.new w 29 (.int .i64 0) (.slice none 0 0)
  clear h k0
  go_enter Tryd.func66, Tryd.ntmps66
  go_wp2_with fail
  refine (pick_any R P a len cap _ _ r0 (by omega) (by omega)).mono ?_
  rintro e w1 ⟨q1, rfl, hq1, r1, g1⟩
  have HQ1 : Hid (0 ≤ q1 ∧ q1 ≤ 99) := ⟨hq1.1, by have := hq1.2 (by omega); omega⟩
  have G1 := grown_trans g0 g1
  have A1 := A0.gR g1 (by omega)
  have hA1 := A1.lt
  clear r0 g0 g1 A0
  -- the box of p, and the list of numbers
  have k1 : Below w1.heap.size w1 ((w1.alloc (.cells #[.int .i64 q1, .slice none 0 0] 29)).alloc (.cells (([5, 20, 100, 700, 1, 300, 1000] : List Int).map (Value.int .i64)).toArray 3)) := ((Below.refl _ _).alloc (Nat.le_refl _) _).alloc (by simp) _
  have B1 := (Box2.new w1 29 (.int .i64 q1) (.slice none 0 0)).alloc (.cells (([5, 20, 100, 700, 1, 300, 1000] : List Int).map (Value.int .i64)).toArray 3)
  go_wp2_with fail
  refine (num_any Small R (P + 1) a len cap (w1.heap.size + 1) 0 7 7 _ (r1.below k1) (by omega) (by omega) (by omega) (by omega) (by simp) (fun i hi => ?_)).mono ?_
  · have := ints_new (w1.alloc (.cells #[.int .i64 q1, .slice none 0 0] 29)) 3 [5, 20, 100, 700, 1, 300, 1000] Small (by intro s hs; simp only [List.mem_cons, List.not_mem_nil, or_false] at hs; rcases hs with rfl | rfl | rfl | rfl | rfl | rfl | rfl <;> (unfold Small; omega)) i hi
    simpa using this
  rintro e w2 ⟨n, rfl, hn, r2, g2⟩
  obtain ⟨hn1, hn2⟩ := hn
  obtain ⟨B, hBe⟩ : ∃ B, B = w1.heap.size := ⟨_, rfl⟩
  rw [← hBe] at B1 hA1
  have G2 := grown_trans (grown_trans G1 (grown_below k1)) g2
  have A2 := (A1.below k1).gR g2 (by omega)
  have B2 := B1.gR g2 (by omega)
  have hB2 := B2.lt
  clear r1 G1 A1 B1 k1 g2 hq1
  simp only [← hBe]
  clear hBe
  go_wp2_with fail
  refine (pick_any R (P + 1 + 1) a len cap _ _ r2 (by omega) (by omega)).mono ?_
  rintro e w3 ⟨q3, rfl, hq3, r3, g3⟩
  have hq31 : 0 ≤ q3 := hq3.1
  have hq32 : q3 < 3 := hq3.2 (by omega)
  have G3 := grown_trans G2 g3
  have A3 := A2.gR g3 (by omega)
  have B3 := B2.gR g3 (by omega)
  clear r2 G2 A2 B2 g3 hq3
  go_wp2_with fail
  refine (l1Acct_ok R (P + 1 + 1 + 1) a len cap _ r3 (by omega)).mono ?_
  rintro e w4 ⟨s4, rfl, hs4, T4, r4, g4⟩
  have G4 := grown_trans G3 g4
  have A4 := A3.gR g4 (by omega)
  have B4 := B3.gR g4 (by omega)
  clear r3 G3 A3 B3 g4
  go_wp2_with fail
  refine (l1Acct_ok R (P + 1 + 1 + 1 + 1) a len cap _ r4 (by omega)).mono ?_
  rintro e w5 ⟨s5, rfl, hs5, T5, r5, g5⟩
  have G5 := grown_trans G4 g5
  have A5 := A4.gR g5 (by omega)
  have B5 := B4.gR g5 (by omega)
  have hB5 := B5.lt
  clear r4 G4 A4 B4 g5
  have b50 := B5.c0
  have b51 := B5.c1
  have b5f := B5.f1
  go_wp2_with fail
  obtain ⟨G, hG⟩ : ∃ G, G = w5.heap.size := ⟨_, rfl⟩
  obtain ⟨W5, hW5⟩ : ∃ W5, W5 = (w5.setCell ⟨B, 1, none⟩ (.slice (some ⟨w5.heap.size, 0, none⟩) 2 2)).alloc (.cells #[.string s4, .int .i64 (1 + q3), .int .i64 n, .string s5, .int .i64 (1 + q3), .int .i64 (-n)] 58) := ⟨_, rfl⟩
  have kW5 : Below w5.heap.size (w5.setCell ⟨B, 1, none⟩ (.slice (some ⟨w5.heap.size, 0, none⟩) 2 2)) W5 := by rw [hW5]; exact (Below.refl _ _).alloc (by simp [World.setCell]) _
  have rW5 : RdAt W5 R a len cap (P + 1 + 1 + 1 + 1 + 1) := (rd_store r5 hlow (p := ⟨B, 1, none⟩) (by simp; omega) _).below (by simpa [World.setCell] using kW5)
  have GW5 : w.grownBy W5 (some R) := by rw [hW5]; exact grown_alloc (grown_store G5 (p := ⟨B, 1, none⟩) (by simp; omega) _) _
  have AW5 : Box2 W5 w.heap.size (.int .i64 0) (.slice none 0 0) := by rw [hW5]; exact (A5.other (p := ⟨B, 1, none⟩) (by simp; omega) _).alloc _
  have BW5 : Box2 W5 B (.int .i64 q1) (.slice (some ⟨G, 0, none⟩) 2 2) := by rw [hW5, hG]; exact (B5.set1 _).alloc _
  have DW5 : DrawnAt W5 G G 2 2 [(s4, 1 + q3, n), (s5, 1 + q3, -n)] := by
    refine ⟨?_, rfl, ?_, ?_⟩
    · have := World.ownsRow_lit (base := G) (e := 58) (size := 3) (w5.setCell ⟨B, 1, none⟩ (.slice (some ⟨w5.heap.size, 0, none⟩) 2 2)) #[.string s4, .int .i64 (1 + q3), .int .i64 n, .string s5, .int .i64 (1 + q3), .int .i64 (-n)] 2 (by simp [World.setCell, hG]) (by unfold maxLen; omega) (by simp)
      have es : (w5.setCell ⟨B, 1, none⟩ (.slice (some ⟨w5.heap.size, 0, none⟩) 2 2)).heap.size = w5.heap.size := by simp [World.setCell]
      rw [es, ← hG] at this
      rw [hW5, ← hG]
      exact this
    · have w1 : (Lit.int .i64 (1 + q3)).wf = true := WalkArith.wf_i64 (by omega)
      have w2 : (Lit.int .i64 n).wf = true := WalkArith.wf_i64 (by omega)
      have w3 : (Lit.int .i64 (-n)).wf = true := WalkArith.wf_i64 (by omega)
      have e4 : s4.size ≤ maxLen := Nat.le_trans hs4.1 (by unfold maxLen; omega)
      have e5 : s5.size ≤ maxLen := Nat.le_trans hs5.1 (by unfold maxLen; omega)
      intro l hl
      simp only [List.mem_cons, List.not_mem_nil, or_false] at hl
      rcases hl with rfl | rfl
      · exact ⟨e4, w1, w2⟩
      · exact ⟨e5, w1, w3⟩
    · intro l hl
      simp only [List.mem_cons, List.not_mem_nil, or_false] at hl
      rcases hl with rfl | rfl
      · exact hs4
      · exact hs5
  have hBG : B < G := by omega
  rw [← hW5, ← hG]
  clear hW5 hG kW5 r5 G5 A5 B5 b50 b51 b5f hB2 hB5 hs4 hs5
  refine (pick_any R (P + 1 + 1 + 1 + 1 + 1) a len cap _ _ rW5 (by omega) (by omega)).mono ?_
  rintro e w6 ⟨q6, rfl, hq6, r6, g6⟩
  have G6 := grown_trans GW5 g6
  have A6 := AW5.gR g6 (by omega)
  have B6 := BW5.gR g6 (by omega)
  have D6 := DW5.grown g6 (fun e => by cases e; omega)
  clear rW5 GW5 AW5 BW5 DW5 g6 hq6
  have hG6 := D6.lt.2
  have hRB : R < B := by omega
  have hneR : some G ≠ some R := fun e => by cases e; omega
  have hneB : some B ≠ (Value.slice (some ⟨G, 0, none⟩) 2 2).ownBlock := by simp [Value.ownBlock]; omega
  by_cases hc0 : q6 = 0
  · subst hc0
    go_wp2_with fail
    refine (pick_any R (P + 1 + 1 + 1 + 1 + 1 + 1) a len cap _ _ r6 (by omega) (by omega)).mono ?_
    rintro e w7 ⟨q7, rfl, hq7, r7, g7⟩
    have hq71 : 0 ≤ q7 := hq7.1
    have hq72 : q7 < 3 := hq7.2 (by omega)
    have G7 := grown_trans G6 g7
    have A7 := A6.gR g7 (by omega)
    have B7 := B6.gR g7 (by omega)
    have D7 := D6.grown g7 (fun e => by cases e; omega)
    clear r6 G6 A6 B6 D6 g7 hq7
    have hd1 : (Lit.int .i64 (1 + q7)).wf = true := WalkArith.wf_i64 (by omega)
    have hm4 : 2 + 2 ≤ maxLen := by unfold maxLen; omega
    have hb4 : (2 + 2) * 32 ≤ 140737488355328 := by omega
    have b70 := B7.c0
    have b71 := B7.c1
    have b7f := B7.f1
    have r7d := r7.below ((Below.refl _ _).drew)
    go_wp2_with fail
    go_region_law (first
      | (refine step_append_own rfl (.tmp 37) (.tmp 46) 27 rfl G 58 i0 _ 3 32 Tryd.underlying27 hi hz0 hz1 hz2 rfl (Nat.succ_pos 2) (.slice (some ⟨G, 0, none⟩) 2 2) 2 _ ?_ DA.owns ⟨w9.heap.size, 0, none⟩ 2 2 (flat [(s8, 1 + q7, 7), (s9, 1 + q7, -7)]) ?_ ?_ ?_ (flat_one _) hm4 hb4 ?_ ?_; rfl; rfl; rfl; exact flat_new w9 58 [(s8, 1 + q7, 7), (s9, 1 + q7, -7)]; exact hGA; intro v' wA hown hgrow hnil; obtain ⟨g, c', rfl⟩ := row_form hown (fun e => not_nil_slice (hnil.1 e).1); have BA := (B9.alloc _).grown hgrow hneB; have bA1 := BA.c1; have bAf := BA.f1)
      | (go_simp; go_at_call 94; refine (l1Acct_ok R _ a len cap _ r8 ?_).mono ?_; omega; rintro e w9 ⟨s9, rfl, hs9, T9, r9, g9⟩; have B9 := B8.gR g9 hRB; have D9 := D8.grown g9 hneR; have DA := D9.below ((Below.refl _ _).alloc (Nat.le_refl _) (.cells (flat [(s8, 1 + q7, 7), (s9, 1 + q7, -7)]).toArray 58)); have hGA := Nat.le_of_lt DA.lt.2; have b90 := B9.c0; have b91 := B9.c1; have b9f := B9.f1; have hB9 := B9.lt)
      | (go_simp; go_at_call 94; refine (l1Acct_ok R _ a len cap _ r7d ?_).mono ?_; omega; rintro e w8 ⟨s8, rfl, hs8, T8, r8, g8⟩; have B8 := (B7.below ((Below.refl _ _).drew)).gR g8 hRB; have D8 := (D7.below ((Below.refl _ _).drew)).grown g8 hneR; have b80 := B8.c0; have b81 := B8.c1; have b8f := B8.f1))
    all_goals
      have k9 : Below w9.heap.size w9 (w9.alloc (.cells (flat [(s8, 1 + q7, 7), (s9, 1 + q7, -7)]).toArray 58)) := (Below.refl _ _).alloc (Nat.le_refl _) _
      have AA := ((((A7.below ((Below.refl _ _).drew)).gR g8 hRw).gR g9 hRw).below k9).grown hgrow (by simp [Value.ownBlock]; omega)
      have rA := ((r9.below k9).grown hgrow hlow (fun k e => by rw [own_G e]; omega))
      have GA := grown_then (grown_trans (grown_trans (grown_trans G7 (grown_below ((Below.refl _ _).drew))) (grown_trans g8 g9)) (grown_below k9)) hgrow (fun k e => by rw [own_G e]; omega)
      have DD : DrawnAt wA G g 4 c' ([(s4, 1 + q3, n), (s5, 1 + q3, -n)] ++ [(s8, 1 + q7, 7), (s9, 1 + q7, -7)]) := by
        refine ⟨by rw [flat_append]; exact hown, rfl, ?_, ?_⟩
        · intro l hl
          rcases List.mem_append.1 hl with h1 | h1
          · exact D7.legs l h1
          · simp only [List.mem_cons, List.not_mem_nil, or_false] at h1
            rcases h1 with rfl | rfl
            · exact ⟨Nat.le_trans hs8.1 (by unfold maxLen; omega), hd1, WalkArith.wf_i64 (n := 7) (by omega)⟩
            · exact ⟨Nat.le_trans hs9.1 (by unfold maxLen; omega), hd1, WalkArith.wf_i64 (n := -7) (by omega)⟩
        · intro l hl
          rcases List.mem_append.1 hl with h1 | h1
          · exact D7.accts l h1
          · simp only [List.mem_cons, List.not_mem_nil, or_false] at h1
            rcases h1 with rfl | rfl
            · exact hs8
            · exact hs9
      have hgG := DD.lt.1
      have BB := BA.set1 (.slice (some ⟨g, 0, none⟩) 4 c')
      have AB := AA.other (p := ⟨B, 1, none⟩) (by simp; omega) (.slice (some ⟨g, 0, none⟩) 4 c')
      have DB := DD.setCell (p := ⟨B, 1, none⟩) (by simp; omega) (.slice (some ⟨g, 0, none⟩) 4 c')
      have rB := rd_store rA hlow (p := ⟨B, 1, none⟩) hRB (.slice (some ⟨g, 0, none⟩) 4 c')
      have GB := grown_store GA (p := ⟨B, 1, none⟩) (by simp; omega) (.slice (some ⟨g, 0, none⟩) 4 c')
      have e0 := BB.c0
      have e1 := BB.c1
      have a0 := AB.c0
      have a1 := AB.c1
      have af0 := AB.f0
      have af1 := AB.f1
      obtain ⟨z1, z2, z3⟩ := post_fin (A := w.heap.size) (.int .i64 q1) (.slice (some ⟨g, 0, none⟩) 4 c') hRw (Nat.le_refl _) (by omega) (by omega) hlow DB rB GB
      clear k9 AA rA GA DD BB AB DB rB GB hown hgrow hnil BA bA1 bAf D9 DA g9 g8 r8 r9 B9 B8 D8
      go_wp2
      exact bodyPost_ret (v := .agg #[.int .i64 q1, .slice (some ⟨g, 0, none⟩) 4 c']) (by simp [results, Tryd.results66, go_sem, a0, a1]) rfl ⟨q1, g, 4, c', _, _, rfl, z1, by omega, z2, by omega, z3, postB_mk HQ1.out (by simp) (by simp) (all4 (legB_mk T4 (by omega) (by omega) (by omega) (by omega) (by omega)) (legB_mk T5 (by omega) (by omega) (by omega) (by omega) (by omega)) (legB_mk T8 (by omega) (by omega) (by omega) (by omega) (by omega)) (legB_mk T9 (by omega) (by omega) (by omega) (by omega) (by omega)))⟩
  · have hf0 : (q6 == 0) = false := by simpa using hc0
    by_cases hc1 : q6 = 1
    · subst hc1
      have cG : w6.cell? ⟨G, 5, none⟩ = some (.int .i64 (-n)) := (D6.owns.cellAt 5 (by omega)).trans rfl
      have fG : w6.frozen? ⟨G, 5, none⟩ = false := D6.owns.frozenAt 5
      by_cases hn3 : 1 < n
      · have D7 : DrawnAt (w6.setCell ⟨G, 5, none⟩ (.int .i64 (1 - n))) G G 2 2 [(s4, 1 + q3, n), (s5, 1 + q3, 1 - n)] := by
          refine ⟨(D6.owns.stored 5 (.int .i64 (1 - n))).1, rfl, ?_, ?_⟩
          · intro l hl
            simp only [List.mem_cons, List.not_mem_nil, or_false] at hl
            rcases hl with rfl | rfl
            · exact D6.legs _ (by simp)
            · have := D6.legs (s5, 1 + q3, -n) (by simp)
              exact ⟨this.1, this.2.1, WalkArith.wf_i64 (by simp; omega)⟩
          · intro l hl
            simp only [List.mem_cons, List.not_mem_nil, or_false] at hl
            rcases hl with rfl | rfl
            · exact D6.accts (s4, 1 + q3, n) (by simp)
            · exact D6.accts (s5, 1 + q3, -n) (by simp)
        have r7 := rd_store r6 hlow (p := ⟨G, 5, none⟩) (by simp; omega) (.int .i64 (1 - n))
        have G7 := grown_store G6 (p := ⟨G, 5, none⟩) (by simp; omega) (.int .i64 (1 - n))
        have A7 := A6.other (p := ⟨G, 5, none⟩) (by simp; omega) (.int .i64 (1 - n))
        have B7 := B6.other (p := ⟨G, 5, none⟩) (by simp; omega) (.int .i64 (1 - n))
        have hm4 : 2 + 1 ≤ maxLen := by unfold maxLen; omega
        have hb4 : (2 + 1) * 32 ≤ 140737488355328 := by omega
        have hw3 : (Lit.int .i64 (1 + q3)).wf = true := WalkArith.wf_i64 (by omega)
        have b60 := B6.c0
        have b61 := B6.c1
        have b6f := B6.f1
        have b70 := B7.c0
        have b71 := B7.c1
        have b7f := B7.f1
        have r7d := r7.below ((Below.refl _ _).drew)
        go_wp2_with fail
        go_region_law (first
          | (refine step_append_own rfl (.tmp 60) (.tmp 65) 27 rfl G 58 i0 _ 3 32 Tryd.underlying27 hi hz0 hz1 hz2 rfl (Nat.succ_pos 2) (.slice (some ⟨G, 0, none⟩) 2 2) 2 _ ?_ DA.owns ⟨w8.heap.size, 0, none⟩ 1 1 (flat [(s8, 1 + q3, -1)]) ?_ ?_ ?_ (flat_one _) hm4 hb4 ?_ ?_; rfl; rfl; rfl; exact flat_new w8 58 [(s8, 1 + q3, -1)]; exact hGA; intro v' wA hown hgrow hnil; obtain ⟨g, c', rfl⟩ := row_form hown (fun e => not_nil_slice (hnil.1 e).1); have BA := (B8.alloc _).grown hgrow hneB; have bA1 := BA.c1; have bAf := BA.f1)
          | (go_simp; go_at_call 94; refine (l1Acct_ok R _ a len cap _ r7d ?_).mono ?_; omega; rintro e w8 ⟨s8, rfl, hs8, T8, r8, g8⟩; have B8 := (B7.below ((Below.refl _ _).drew)).gR g8 hRB; have D8 := (D7.below ((Below.refl _ _).drew)).grown g8 hneR; have DA := D8.below ((Below.refl _ _).alloc (Nat.le_refl _) (.cells (flat [(s8, 1 + q3, -1)]).toArray 58)); have hGA := Nat.le_of_lt DA.lt.2; have b80 := B8.c0; have b81 := B8.c1; have b8f := B8.f1; have hB8 := B8.lt))
        all_goals
          have k9 : Below w8.heap.size w8 (w8.alloc (.cells (flat [(s8, 1 + q3, -1)]).toArray 58)) := (Below.refl _ _).alloc (Nat.le_refl _) _
          have AA := (((A7.below ((Below.refl _ _).drew)).gR g8 hRw).below k9).grown hgrow (by simp [Value.ownBlock]; omega)
          have rA := ((r8.below k9).grown hgrow hlow (fun k e => by rw [own_G e]; omega))
          have GA := grown_then (grown_trans (grown_trans (grown_trans G7 (grown_below ((Below.refl _ _).drew))) g8) (grown_below k9)) hgrow (fun k e => by rw [own_G e]; omega)
          have DD : DrawnAt wA G g 3 c' ([(s4, 1 + q3, n), (s5, 1 + q3, 1 - n)] ++ [(s8, 1 + q3, -1)]) := by
            refine ⟨by rw [flat_append]; exact hown, rfl, ?_, ?_⟩
            · intro l hl
              rcases List.mem_append.1 hl with h1 | h1
              · exact D7.legs l h1
              · simp only [List.mem_cons, List.not_mem_nil, or_false] at h1
                subst h1
                exact ⟨Nat.le_trans hs8.1 (by unfold maxLen; omega), hw3, WalkArith.wf_i64 (n := -1) (by omega)⟩
            · intro l hl
              rcases List.mem_append.1 hl with h1 | h1
              · exact D7.accts l h1
              · simp only [List.mem_cons, List.not_mem_nil, or_false] at h1
                subst h1
                exact hs8
          have hgG := DD.lt.1
          have BB := BA.set1 (.slice (some ⟨g, 0, none⟩) 3 c')
          have AB := AA.other (p := ⟨B, 1, none⟩) (by simp; omega) (.slice (some ⟨g, 0, none⟩) 3 c')
          have DB := DD.setCell (p := ⟨B, 1, none⟩) (by simp; omega) (.slice (some ⟨g, 0, none⟩) 3 c')
          have rB := rd_store rA hlow (p := ⟨B, 1, none⟩) hRB (.slice (some ⟨g, 0, none⟩) 3 c')
          have GB := grown_store GA (p := ⟨B, 1, none⟩) (by simp; omega) (.slice (some ⟨g, 0, none⟩) 3 c')
          have e0 := BB.c0
          have e1 := BB.c1
          have a0 := AB.c0
          have a1 := AB.c1
          have af0 := AB.f0
          have af1 := AB.f1
          obtain ⟨z1, z2, z3⟩ := post_fin (A := w.heap.size) (.int .i64 q1) (.slice (some ⟨g, 0, none⟩) 3 c') hRw (Nat.le_refl _) (by omega) (by omega) hlow DB rB GB
          clear k9 AA rA GA DD BB AB DB rB GB hown hgrow hnil BA bA1 bAf D8 DA g8 r8 B8
          go_wp2
          exact bodyPost_ret (v := .agg #[.int .i64 q1, .slice (some ⟨g, 0, none⟩) 3 c']) (by simp [results, Tryd.results66, go_sem, a0, a1]) rfl ⟨q1, g, 3, c', _, _, rfl, z1, by omega, z2, by omega, z3, postB_mk HQ1.out (by simp) (by simp) (all3 (legB_mk T4 (by omega) (by omega) (by omega) (by omega) (by omega)) (legB_mk T5 (by omega) (by omega) (by omega) (by omega) (by omega)) (legB_mk T8 (by omega) (by omega) (by omega) (by omega) (by omega)))⟩
      · have b0 := B6.c0
        have b1 := B6.c1
        have a0 := A6.c0
        have a1 := A6.c1
        have af0 := A6.f0
        have af1 := A6.f1
        go_wp2
        obtain ⟨z1, z2, z3⟩ := post_fin (A := w.heap.size) (.int .i64 q1) (.slice (some ⟨G, 0, none⟩) 2 2) hRw (Nat.le_refl _) (by omega) (by omega) hlow D6 r6 G6
        exact bodyPost_ret (v := .agg #[.int .i64 q1, .slice (some ⟨G, 0, none⟩) 2 2]) (by simp [results, Tryd.results66, go_sem, a0, a1]) rfl ⟨q1, G, 2, 2, _, _, rfl, z1, by omega, z2, by omega, z3, postB_mk HQ1.out (by simp) (by simp) (all2 (legB_mk T4 (by omega) (by omega) (by omega) (by omega) (by omega)) (legB_mk T5 (by omega) (by omega) (by omega) (by omega) (by omega)))⟩
    · have hf1 : (q6 == 1) = false := by simpa using hc1
      have b0 := B6.c0
      have b1 := B6.c1
      have a0 := A6.c0
      have a1 := A6.c1
      have af0 := A6.f0
      have af1 := A6.f1
      go_wp2
      obtain ⟨z1, z2, z3⟩ := post_fin (A := w.heap.size) (.int .i64 q1) (.slice (some ⟨G, 0, none⟩) 2 2) hRw (Nat.le_refl _) (by omega) (by omega) hlow D6 r6 G6
      exact bodyPost_ret (v := .agg #[.int .i64 q1, .slice (some ⟨G, 0, none⟩) 2 2]) (by simp [results, Tryd.results66, go_sem, a0, a1]) rfl ⟨q1, G, 2, 2, _, _, rfl, z1, by omega, z2, by omega, z3, postB_mk HQ1.out (by simp) (by simp) (all2 (legB_mk T4 (by omega) (by omega) (by omega) (by omega) (by omega)) (legB_mk T5 (by omega) (by omega) (by omega) (by omega) (by omega)))⟩
end Go.Proofs.YtcabinakcmpkeaaDoor
