/-
  The entries that the law FnRunOf draws, by a walk of its Go text.
-/
import Derived.Test.YtkhnknpacdmikaaDrawRun
import Derived.Test.YtkhnknpacdmikaaBytesD
import Derived.Deep.LoopGhost
namespace Go.Proofs.Ytkhnknpacdmikaa
open Go.RowKit

/-- The reader and a row of entries. -/
structure OfSt (w wi : World) (R : Nat) (a : Option Addr) (len cap P g n c : Nat) (L : List EntD) : Prop where
  all : Below w.heap.size w wi
  rd : RdAt wi R a len cap P
  own : OwnE wi w.heap.size g n c L
  hr : w.heap.size ≤ R
  gr : R < g
  low : Low a len R
theorem OfSt.read {w wi wj : World} {R : Nat} {a : Option Addr} {len cap P P' g n c : Nat} {L : List EntD} (h : OfSt w wi R a len cap P g n c L) (hg : wi.grownBy wj (some R)) (hr : RdAt wj R a len cap P') : OfSt w wj R a len cap P' g n c L :=
  ⟨h.all.grown hg h.all.size (fun k e => by cases e; exact h.hr), hr, h.own.gR hg h.gr, h.hr, h.gr, h.low⟩
theorem OfSt.below {w wi wj : World} {R : Nat} {a : Option Addr} {len cap P g n c : Nat} {L : List EntD} (h : OfSt w wi R a len cap P g n c L) (hb : Below wi.heap.size wi wj) : OfSt w wj R a len cap P g n c L := h.read (grown_below hb) (h.rd.below hb)
theorem OfSt.step {w wi wj : World} {R : Nat} {a : Option Addr} {len cap P g n c g' n' c' : Nat} {L L' : List EntD} (h : OfSt w wi R a len cap P g n c L) (hg : wi.grownBy wj (some g)) (ho : OwnE wj w.heap.size g' n' c' L') (hgr : R < g') : OfSt w wj R a len cap P g' n' c' L' :=
  ⟨h.all.grown hg h.all.size (fun k e => by cases e; have := h.hr; have := h.gr; omega), h.rd.grown hg h.low (fun k e => by cases e; exact h.gr), ho, h.hr, hgr, h.low⟩
theorem OfSt.put {w wi : World} {R : Nat} {a : Option Addr} {len cap P g n c k : Nat} {L : List EntD} (h : OfSt w wi R a len cap P g n c L) (hk : k < n) (s t : ByteArray) (q d nn : Int) (hw : EntW (s, q, d, t, nn)) :
    OfSt w (((((wi.setCell ⟨g, k * 5, none⟩ (.string s)).setCell ⟨g, k * 5 + 1, none⟩ (.int .i64 q)).setCell ⟨g, k * 5 + 2, none⟩ (.int .i64 d)).setCell ⟨g, k * 5 + 3, none⟩ (.string t)).setCell ⟨g, k * 5 + 4, none⟩ (.int .i64 nn)) R a len cap P g n c (L.set k (s, q, d, t, nn)) :=
  h.step (grown_five wi g (k * 5) _ _ _ _ _) (h.own.put hk s t q d nn hw) h.gr
theorem OfSt.at {w wi : World} {R : Nat} {a : Option Addr} {len cap P g n c k : Nat} {L : List EntD} (h : OfSt w wi R a len cap P g n c L) (hk : k < n) :
    ∃ s t q d nn, L[k]? = some (s, q, d, t, nn) ∧ EntW (s, q, d, t, nn) ∧ wi.cell? ⟨g, k * 5, none⟩ = some (.string s) ∧ wi.cell? ⟨g, k * 5 + 1, none⟩ = some (.int .i64 q) ∧ wi.cell? ⟨g, k * 5 + 2, none⟩ = some (.int .i64 d) ∧ wi.cell? ⟨g, k * 5 + 3, none⟩ = some (.string t) ∧ wi.cell? ⟨g, k * 5 + 4, none⟩ = some (.int .i64 nn) := by
  have hl : k < L.length := by rw [h.own.len]; exact hk
  obtain ⟨e0, e1, e2, e3, e4⟩ := h.own.entsAt.cells _ rfl k hl
  simp only [Nat.zero_add] at e0 e1 e2 e3 e4
  exact ⟨_, _, _, _, _, List.getElem?_eq_getElem hl, h.own.ents _ (List.getElem_mem hl), e0, e1, e2, e3, e4⟩
/-- Entries behind a row. -/
theorem OfSt.more {w wi wj : World} {R : Nat} {a : Option Addr} {len cap P g n c g' c' : Nat} {L : List EntD} {e : EntD} (h : OfSt w wi R a len cap P g n c L) (hg : wi.grownBy wj (Value.slice (some ⟨g, 0, none⟩) n c).ownBlock) (ho : wj.ownsRow (R + 1) 31 5 (.slice (some ⟨g', 0, none⟩) (n + 1) c') (n + 1) (flatE L ++ flatE [e])) (he : EntW e) : OfSt w wj R a len cap P g' (n + 1) c' (L ++ [e]) := by
  have hg' : wi.grownBy wj (some g) := by simpa [Value.ownBlock] using hg
  have hb := (ho.lt g' rfl).1
  have hO : OwnE wj (R + 1) g' (n + 1) c' (L ++ [e]) := ⟨by rw [flatE_append]; exact ho, by simp [h.own.len], fun x hx => by rcases List.mem_append.1 hx with h1 | h1; exact h.own.ents x h1; rw [List.mem_singleton] at h1; subst h1; exact he⟩
  exact h.step hg' (hO.mono (by have := h.hr; omega)) (by omega)
theorem OwnE.raise {w : World} {base base' g n c : Nat} {L : List EntD} (h : OwnE w base g n c L) (hb : base' ≤ g) : w.ownsRow base' 31 5 (.slice (some ⟨g, 0, none⟩) n c) n (flatE L) := by
  obtain ⟨h1, h2⟩ := h.owns
  refine ⟨h1, ?_⟩
  rcases h2 with h2 | ⟨g', cap', cur, e, _, h3⟩
  · exact .inl h2
  · simp only [Value.slice.injEq, Option.some.injEq, Addr.mk.injEq, and_true, true_and] at e
    obtain ⟨e1, e2⟩ := e
    subst e1 e2
    exact .inr ⟨g, c, cur, rfl, hb, h3⟩

theorem em_w (n : Nat) (h : n ≤ 1000) : EntW (⟨#[109]⟩, 100 + (n : Int), 3, ⟨#[]⟩, 1) := by
  refine ⟨show 1 ≤ maxLen by unfold maxLen; omega, ?_, show (Lit.int .i64 3).wf = true by decide, show 0 ≤ maxLen by unfold maxLen; omega, show (Lit.int .i64 1).wf = true by decide⟩
  show (Lit.int .i64 (100 + (n : Int))).wf = true
  exact WalkArith.wf_i64 (by omega)
/-- Entries that have been drawn. -/
def OfDr (w : World) (e : Ending) (w' : World) : Prop :=
  ∃ (g n c : Nat) (L : List EntD), e = .returned (.slice (some ⟨g, 0, none⟩) n c) ∧ OwnE w' w.heap.size g n c L ∧ n ≤ 200 ∧ Below w.heap.size w w'

set_option maxRecDepth 100000 in
set_option maxHeartbeats 8000000 in
theorem drawOf_any (a : Option Addr) (len cap : Nat) (w : World) (hb : BytesAt w a len cap) :
    Calls Try.prog 9 #[.slice a len cap] w (OfDr w) := by
  obtain ⟨hc1, hc2, hc3⟩ := hb
  obtain ⟨i0, hi, hz0, hz1, hz2⟩ := info_parts Try.infoEnt
  go_enter Try.func9, Try.ntmps9
  go_wp2_with fail
  refine (l9Open_any a len cap w hc1 hc2 hc3).mono ?_
  rintro e w1 ⟨len', rfl, hR1, hb1, hsz1⟩
  obtain ⟨R, hR⟩ : ∃ R, R = w.heap.size := ⟨_, rfl⟩
  rw [← hR] at hR1 ⊢
  have low : Low a len' R := by
    rcases hR1.bytes with h0 | ⟨b, off, ha, h1, h2, _⟩
    · exact Or.inl h0
    · exact Or.inr (fun b' off' e => by rw [ha] at e; cases e; omega)
  have HLOW : Hid (Low a len' R) := low
  have HR1 : Hid (RdAt w1 R a len' cap 0) := hR1
  have HB1 : Hid (Below w.heap.size w w1) := hb1
  have hw1 : w1.heap.size = R + 1 := by omega
  have hRw : w.heap.size ≤ R := by omega
  clear hc1 hc2 hc3 hb1 hR1 low hsz1 hR
  go_wp2_with fail
  refine (l3List_any R 0 12 a len' cap w1 HR1.out HLOW.out (by omega) (by omega)).mono ?_
  rintro e w2 ⟨g, n, c, P2, L, rfl, hO2, hn, hF, hR2, hP2, hG2⟩
  have hg2 := hO2.lt.1
  have S2 : Hid (OfSt w w2 R a len' cap P2 g n c L) := ⟨HB1.out.grown hG2 HB1.out.size (fun k e => by cases e; exact hRw), hR2, hO2.mono HB1.out.size, hRw, by omega, HLOW.out⟩
  have HF : Hid (AllF L) := hF
  clear hO2 hF hR2 hG2 HR1 HB1 HLOW hw1 hg2 hRw
  go_upto_region 3 with fail
  go_cut [18] (fun s18 wx => ∃ (B : Bool) (PB : Nat), s18 = .bool B ∧ (B = true → 0 < n) ∧ OfSt w wx R a len' cap PB g n c L ∧ PB ≤ P2 + 1)
  case first =>
    by_cases hn0 : n = 0
    · subst hn0
      go_wp2
      go_meet
      exact ⟨false, P2, rfl, (fun h => by cases h), S2.out, by omega⟩
    · have hnp : 0 < n := by omega
      have hnI : (0 : Int) < (n : Int) := by omega
      go_wp2_with fail
      refine (pick_any R P2 a len' cap 8 w2 S2.out.rd (by omega) (by omega)).mono ?_
      rintro e w3 ⟨q, rfl, hq, R3, g3⟩
      have S3 : Hid (OfSt w w3 R a len' cap (P2 + 1) g n c L) := S2.out.read g3 R3
      clear R3 g3 hq
      go_wp2
      go_meet
      exact ⟨_, P2 + 1, rfl, (fun _ => hnp), S3.out, by omega⟩
  case rest =>
  obtain ⟨B, PB, rfl, hBn, S3, hPB⟩ := hcut
  have S3 : Hid (OfSt w wc R a len' cap PB g n c L) := S3
  clear S2
  go_upto_if 18 with fail
  go_cut [4] (fun s4 wx => ∃ (L' : List EntD) (P' : Nat), s4 = .slice (some ⟨g, 0, none⟩) n c ∧ OfSt w wx R a len' cap P' g n c L' ∧ P' ≤ P2 + 20)
  case first =>
    cases hBB : B with
    | false =>
      go_wp2
      go_meet
      exact ⟨L, PB, rfl, S3.out, by omega⟩
    | true =>
        have hnp := hBn hBB
        have hnI : (0 : Int) < (n : Int) := by omega
        go_wp2_with fail
        refine (pick_any R PB a len' cap n wc S3.out.rd (by omega) (by omega)).mono ?_
        rintro e w4 ⟨q4, rfl, hq4, R4, g4⟩
        obtain ⟨k, rfl⟩ : ∃ k : Nat, q4 = (k : Int) := ⟨q4.toNat, by have := hq4.1; omega⟩
        have hk : k < n := by have := hq4.2 (by omega); omega
        have hkI : (k : Int) < (n : Int) := by omega
        have S4 : Hid (OfSt w w4 R a len' cap (PB + 1) g n c L) := S3.out.read g4 R4
        clear R4 g4 hq4
        obtain ⟨s, t, q, d, nn, hLk, _, e0, e1, e2, e3, e4⟩ := S4.out.at hk
        have hE : EntF s t q d nn := HF.out _ (List.mem_of_getElem? hLk)
        have zg := World.block_lt_of_cell? _ _ e0
        simp only at zg
        clear hLk
        go_wp2_with fail
        clear e0 e1 e2 e3 e4 zg
        refine (l3Bent_any R _ a len' cap _ _ _ _ _ _ S4.out.rd (by omega) hE).mono ?_
        rintro e w5 ⟨s5, t5, q5, d5, n5, P5, rfl, hE5, R5, hP5, g5⟩
        have S5 : Hid (OfSt w w5 R a len' cap P5 g n c L) := S4.out.read g5 R5
        clear R5 g5 S4 hE
        go_wp2_with fail
        refine (l3Bent_any R _ a len' cap _ _ _ _ _ _ S5.out.rd (by omega) hE5).mono ?_
        rintro e w6 ⟨s6, t6, q6, d6, n6, P6, rfl, hE6, R6, hP6, g6⟩
        have S6 : Hid (OfSt w w6 R a len' cap P6 g n c L) := S5.out.read g6 R6
        clear R6 g6 S5 hE5
        go_wp2_with fail
        refine (l3Bent_any R _ a len' cap _ _ _ _ _ _ S6.out.rd (by omega) hE6).mono ?_
        rintro e w7 ⟨s7, t7, q7, d7, n7, P7, rfl, hE7, R7, hP7, g7⟩
        have S7 : Hid (OfSt w w7 R a len' cap P7 g n c L) := S6.out.read g7 R7
        clear R7 g7 S6 hE6
        obtain ⟨_, _, _, _, _, _, _, x0, x1, x2, x3, x4⟩ := S7.out.at hk
        have y0 := S7.out.own.owns.frozenAt (k * 5)
        have y1 := S7.out.own.owns.frozenAt (k * 5 + 1)
        have y2 := S7.out.own.owns.frozenAt (k * 5 + 2)
        have y3 := S7.out.own.owns.frozenAt (k * 5 + 3)
        have y4 := S7.out.own.owns.frozenAt (k * 5 + 4)
        have zg := World.block_lt_of_cell? _ _ x0
        simp only at zg
        have HE7 : Hid (EntW (s7, q7, d7, t7, n7)) := entF_w hE7
        clear hE7
        go_wp2
        go_meet
        exact ⟨_, P7, rfl, S7.out.put hk s7 t7 q7 d7 n7 HE7.out, by omega⟩
  case rest =>
    clear S3
    obtain ⟨L3, P3, rfl, S3, hP3⟩ := hcut
    have S3 : Hid (OfSt w wc R a len' cap P3 g n c L3) := S3
    clear HF
    go_upto_region 6 with fail
    go_cut [43] (fun s43 wx => ∃ (D : Bool) (PD : Nat), s43 = .bool D ∧ (D = true → 0 < n) ∧ OfSt w wx R a len' cap PD g n c L3 ∧ PD ≤ P3 + 1)
    case first =>
      by_cases hn0 : n = 0
      · subst hn0
        go_wp2
        go_meet
        exact ⟨false, P3, rfl, (fun h => by cases h), S3.out, by omega⟩
      · have hnp : 0 < n := by omega
        have hnI : (0 : Int) < (n : Int) := by omega
        go_wp2_with fail
        refine (pick_any R P3 a len' cap 16 wc S3.out.rd (by omega) (by omega)).mono ?_
        rintro e w4 ⟨q, rfl, hq, R4, g4⟩
        have S4 : Hid (OfSt w w4 R a len' cap (P3 + 1) g n c L3) := S3.out.read g4 R4
        clear R4 g4 hq
        go_wp2
        go_meet
        exact ⟨_, P3 + 1, rfl, (fun _ => hnp), S4.out, by omega⟩
    case rest =>
    obtain ⟨D, PD, rfl, hDn, S4, hPD⟩ := hcut
    have S4 : Hid (OfSt w wc R a len' cap PD g n c L3) := S4
    clear S3
    go_upto_if 43 with fail
    go_cut [4] (fun s4 wx => ∃ (g n c : Nat) (L' : List EntD) (P' : Nat), s4 = .slice (some ⟨g, 0, none⟩) n c ∧ OfSt w wx R a len' cap P' g n c L' ∧ P' ≤ P3 + 20 ∧ n ≤ 13)
    case first =>
      cases hDD : D with
      | false =>
        go_wp2
        go_meet
        exact ⟨g, n, c, L3, PD, rfl, S4.out, by omega, by omega⟩
      | true =>
          have hnp := hDn hDD
          have hnI : (0 : Int) < (n : Int) := by omega
          go_wp2_with fail
          refine (pick_any R PD a len' cap n wc S4.out.rd (by omega) (by omega)).mono ?_
          rintro e w5 ⟨q5, rfl, hq5, R5, g5⟩
          obtain ⟨k, rfl⟩ : ∃ k : Nat, q5 = (k : Int) := ⟨q5.toNat, by have := hq5.1; omega⟩
          have hk : k < n := by have := hq5.2 (by omega); omega
          have hkI : (k : Int) < (n : Int) := by omega
          have S5 : Hid (OfSt w w5 R a len' cap (PD + 1) g n c L3) := S4.out.read g5 R5
          clear R5 g5 hq5
          obtain ⟨s, t, q, d, nn, _, hEw, e0, e1, e2, e3, e4⟩ := S5.out.at hk
          have zg := World.block_lt_of_cell? _ _ e0
          simp only at zg
          have HEW : Hid (EntW (s, q, d, t, nn)) := hEw
          obtain ⟨W6, hW6⟩ : ∃ W6, W6 = w5.alloc (.cells #[.string s, .int .i64 q, .int .i64 d, .string t, .int .i64 nn] 31) := ⟨_, rfl⟩
          have k6 : Below w5.heap.size w5 W6 := by rw [hW6]; exact (Below.refl _ _).alloc (Nat.le_refl _) _
          have S6 : Hid (OfSt w W6 R a len' cap (PD + 1) g n c L3) := S5.out.below k6
          have N6 : Hid (EntsAt W6 (some ⟨w5.heap.size, 0, none⟩) 1 1 [(s, q, d, t, nn)]) := by rw [hW6]; exact ents_one w5 _ _ _ _ _ HEW.out
          have HW6 : Hid (W6 = w5.alloc (.cells #[.string s, .int .i64 q, .int .i64 d, .string t, .int .i64 nn] 31)) := hW6
          have hRs : R + 1 ≤ W6.heap.size := by have := S6.out.own.lt; have := S6.out.gr; omega
          clear hEw hW6 k6
          go_wp2_with (at_builtin; rw [← HW6.out]; refine wpList_append_own _ rfl _ _ 23 rfl (R + 1) 31 i0 _ 5 56 Try.underlying23 hi hz0 hz1 hz2 rfl (by decide) _ _ _ rfl (S6.out.own.raise S6.out.gr) ⟨w5.heap.size, 0, none⟩ 1 1 (flatE [(s, q, d, t, nn)]) rfl ?c0 ?c1 ?c2 ?c3 ?c4 ?c5 ?_)
          case c0 => rfl
          case c1 => exact ents_news N6.out
          case c2 => exact flatE_one _
          case c3 => unfold maxLen; omega
          case c4 => omega
          case c5 => exact hRs
          intro v7 w7 hown hgrow hnil
          obtain ⟨g7, c7, rfl⟩ := row_form hown hnil
          have S7 : Hid (OfSt w w7 R a len' cap (PD + 1) g7 (n + 1) c7 (L3 ++ [(s, q, d, t, nn)])) := S6.out.more hgrow hown HEW.out
          clear hown hgrow hnil S6 S5 N6 HW6 e0 e1 e2 e3 e4 zg
          go_wp2
          go_meet
          exact ⟨g7, n + 1, c7, _, _, rfl, S7.out, by omega, by omega⟩
    case rest =>
      clear S4
      obtain ⟨g, n, c, L4, P4, rfl, S4, hP4, hn4⟩ := hcut
      have S4 : Hid (OfSt w wc R a len' cap P4 g n c L4) := S4
      go_wp2_with fail
      refine (pick_any R P4 a len' cap 40 wc S4.out.rd (by omega) (by omega)).mono ?_
      rintro e w5 ⟨q, rfl, hq, R5, g5⟩
      have S5 : Hid (OfSt w w5 R a len' cap (P4 + 1) g n c L4) := S4.out.read g5 R5
      clear R5 g5 hq S4
      by_cases hq0 : q = 0
      · subst hq0
        go_wp2
        go_loopw [4, 6] (fun s4 iv wx => ∃ (g n c : Nat) (L' : List EntD) (P' : Nat), s4 = .slice (some ⟨g, 0, none⟩) n c ∧ iv = .int .i64 n ∧ OfSt w wx R a len' cap P' g n c L' ∧ P' ≤ P4 + 1 + n ∧ n ≤ 151) (fun _ iv _ => 200 - (intOf iv).toNat)
        case atStart => exact ⟨g, n, c, L4, P4 + 1, rfl, rfl, S5.out, by omega, by omega⟩
        case round =>
          obtain ⟨g, n, c, L6, P6, rfl, rfl, S6, hP6, hn6⟩ := hrel
          have S6 : Hid (OfSt w wr R a len' cap P6 g n c L6) := S6
          clear S5
          go_wp2_with fail
          refine (pick_any R P6 a len' cap 2 wr S6.out.rd (by omega) (by omega)).mono ?_
          rintro e w7 ⟨q, rfl, hq, R7, g7⟩
          have hq1 := hq.1
          have hq2 := hq.2 (by omega)
          have S7 : Hid (OfSt w w7 R a len' cap (P6 + 1) g n c L6) := S6.out.read g7 R7
          clear R7 g7 hq S6
          by_cases hlt : (n : Int) < 150 + q
          · obtain ⟨W8, hW8⟩ : ∃ W8, W8 = w7.alloc (.cells #[.string ⟨#[109]⟩, .int .i64 (100 + (n : Int)), .int .i64 3, .string ⟨#[]⟩, .int .i64 1] 31) := ⟨_, rfl⟩
            have k8 : Below w7.heap.size w7 W8 := by rw [hW8]; exact (Below.refl _ _).alloc (Nat.le_refl _) _
            have HEW : Hid (EntW (⟨#[109]⟩, 100 + (n : Int), 3, ⟨#[]⟩, 1)) := em_w n (by omega)
            have S8 : Hid (OfSt w W8 R a len' cap (P6 + 1) g n c L6) := S7.out.below k8
            have N8 : Hid (EntsAt W8 (some ⟨w7.heap.size, 0, none⟩) 1 1 [(⟨#[109]⟩, 100 + (n : Int), 3, ⟨#[]⟩, 1)]) := by rw [hW8]; exact ents_one w7 _ _ _ _ _ HEW.out
            have HW8 : Hid (W8 = w7.alloc (.cells #[.string ⟨#[109]⟩, .int .i64 (100 + (n : Int)), .int .i64 3, .string ⟨#[]⟩, .int .i64 1] 31)) := hW8
            have hRs : R + 1 ≤ W8.heap.size := by have := S8.out.own.lt; have := S8.out.gr; omega
            clear hW8 k8
            go_wp2_with (at_builtin; rw [← HW8.out]; refine wpList_append_own _ rfl _ _ 23 rfl (R + 1) 31 i0 _ 5 56 Try.underlying23 hi hz0 hz1 hz2 rfl (by decide) _ _ _ rfl (S8.out.own.raise S8.out.gr) ⟨w7.heap.size, 0, none⟩ 1 1 (flatE [(⟨#[109]⟩, 100 + (n : Int), 3, ⟨#[]⟩, 1)]) rfl ?c0 ?c1 ?c2 ?c3 ?c4 ?c5 ?_)
            case c0 => rfl
            case c1 => exact ents_news N8.out
            case c2 => exact flatE_one _
            case c3 => unfold maxLen; omega
            case c4 => omega
            case c5 => exact hRs
            intro v9 w9 hown hgrow hnil
            obtain ⟨g9, c9, rfl⟩ := row_form hown hnil
            have S9 : Hid (OfSt w w9 R a len' cap (P6 + 1) g9 (n + 1) c9 (L6 ++ [(⟨#[109]⟩, 100 + (n : Int), 3, ⟨#[]⟩, 1)])) := S8.out.more hgrow hown HEW.out
            clear hown hgrow hnil S8 S7 N8 HW8
            go_wp2
            go_roundw
            case rel => exact ⟨g9, n + 1, c9, _, _, rfl, by go_num, S9.out, by omega, by omega⟩
            case measure => simp [intOf]; omega
          · go_wp2
            go_ret
            exact ⟨g, n, c, L6, rfl, S7.out.own, by omega, S7.out.all⟩
      · go_wp2
        go_ret
        exact ⟨g, n, c, L4, rfl, S5.out.own, by omega, S5.out.all⟩
end Go.Proofs.Ytkhnknpacdmikaa
