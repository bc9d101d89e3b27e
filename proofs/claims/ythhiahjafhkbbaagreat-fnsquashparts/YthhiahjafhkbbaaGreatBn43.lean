/-
  The list of entries that a law draws, by a walk of its Go text: some entries in memory of their own.
  The entries that the laws draw, with their times, kinds and numbers, by walks of their Go text.
  The list of entries that a law draws, of unlike times, by a walk of its Go text.
-/
import Derived.Test.YthhiahjafhkbbaaGreatBn19
import Derived.Test.YthhiahjafhkbbaaGreatBn42
import Derived.Test.YthhiahjafhkbbaaGreatBn10
namespace Go.Proofs.YthhiahjafhkbbaaGreat
open Go.RowKit

/-- All are entries that may have been drawn. -/
def AllF (L : List EntD) : Prop := ∀ e ∈ L, EntF e.1 e.2.2.2.1 e.2.1 e.2.2.1 e.2.2.2.2
theorem entF_w {k t : ByteArray} {q d n : Int} (h : EntF k t q d n) : EntW (k, q, d, t, n) := by
  obtain ⟨h1, h2, h3, h4, h5⟩ := h
  exact ⟨by unfold Few at h1; unfold maxLen; simp only; omega, h3, h4, by unfold Few at h2; unfold maxLen; simp only; omega, h5⟩
theorem allF_w {L : List EntD} (h : AllF L) : ∀ e ∈ L, EntW e := fun e he => entF_w (h e he)
theorem allF_app {A B : List EntD} (h : AllF A) (k : AllF B) : AllF (A ++ B) := fun e he => (List.mem_append.1 he).elim (h e) (k e)
theorem allF_one {k t : ByteArray} {q d n : Int} (h : EntF k t q d n) : AllF [(k, q, d, t, n)] := fun e he => by
  simp only [List.mem_singleton] at he
  subst he
  exact h
/-- Entries that have been drawn, at most so many. -/
def ListR (R : Nat) (a : Option Addr) (len cap P many : Nat) (w : World) (e : Ending) (w' : World) : Prop :=
  ∃ (g n c P' : Nat) (L : List EntD), e = .returned (.slice (some ⟨g, 0, none⟩) n c) ∧ OwnE w' w.heap.size g n c L ∧ n ≤ many ∧ AllF L ∧ RdAt w' R a len cap P' ∧ P' ≤ P + 1 + 8 * many ∧ w.grownBy w' (some R)
theorem OwnE.gR {w w' : World} {base g n c R : Nat} {L : List EntD} (h : OwnE w base g n c L) (hg : w.grownBy w' (some R)) (hR : R < g) : OwnE w' base g n c L := h.grown hg (fun e => by cases e; omega)

set_option maxRecDepth 100000 in
set_option maxHeartbeats 8000000 in
theorem l3List_any (R P many : Nat) (a : Option Addr) (len cap : Nat) (w : World) (h : RdAt w R a len cap P) (hlow : Low a len R) (hP : P < 80000) (hm : many ≤ 100) :
    Calls Tryz.prog 75 #[.pointer (some ⟨R, 0, none⟩), .int .i64 many] w (ListR R a len cap P many w) := by
  obtain ⟨i0, hi, hz0, hz1, hz2⟩ := info_parts Tryz.infoEnt
  have hRw := h.lt
  have kt : Below w.heap.size w (w.alloc (.cells #[] 30)) := (Below.refl _ _).alloc (Nat.le_refl _) _
  have HO0 : Hid (OwnE (w.alloc (.cells #[] 30)) w.heap.size w.heap.size 0 0 []) := own_empty w _ (Nat.le_refl _)
  have R0 := h.below kt
  have G0 : w.grownBy (w.alloc (.cells #[] 30)) (some R) := grown_below kt
  have HLOW : Hid (Low a len R) := hlow
  clear kt h hlow
  go_enter Tryz.func75, Tryz.ntmps75
  go_wp2_with fail
  refine (pick_any R P a len cap _ _ R0 (by omega) (by omega)).mono ?_
  rintro e w1 ⟨q1, rfl, hq1, R1, g1⟩
  have hq0 := hq1.1
  have hqm : q1 ≤ many := by have := hq1.2 (by omega); omega
  obtain ⟨I0, hI0⟩ := Int.eq_ofNat_of_zero_le hq0
  subst hI0
  have HO1 : Hid (OwnE w1 w.heap.size w.heap.size 0 0 []) := HO0.out.gR g1 hRw
  have HG1 : Hid (w.grownBy w1 (some R)) := grown_trans G0 g1
  have HR1 : Hid (RdAt w1 R a len cap (P + 1)) := R1
  clear G0 g1 R0 R1 HO0 hq1 hq0
  go_wp2
  go_loopw [5, 6, 7] (fun ov sv iv wr => ∃ (i sq n g c P' : Nat) (L : List EntD), iv = .int .i64 i ∧ sv = .int .i64 sq ∧ ov = .slice (some ⟨g, 0, none⟩) n c ∧ i + n ≤ many ∧ sq ≤ 2 * n ∧ P' ≤ P + 1 + 8 * n ∧ OwnE wr w.heap.size g n c L ∧ AllF L ∧ RdAt wr R a len cap P' ∧ w.grownBy wr (some R)) (fun _ _ iv _ => (intOf iv).toNat)
  case atStart => exact ⟨I0, 0, 0, w.heap.size, 0, P + 1, [], rfl, rfl, rfl, by omega, by omega, by omega, HO1.out, (fun e he => by cases he), HR1.out, HG1.out⟩
  case round =>
    obtain ⟨i, sq, n, g, c, P', L, rfl, rfl, rfl, hin, hsq, hP', hO, hF, hR, hG⟩ := hrel
    have HO : Hid (OwnE wr w.heap.size g n c L) := hO
    have HF : Hid (AllF L) := hF
    have HR : Hid (RdAt wr R a len cap P') := hR
    have HG : Hid (w.grownBy wr (some R)) := hG
    have hgr := hO.lt
    have hwr := hG.size
    clear hO hF hR hG HO1 HG1 HR1
    by_cases hi0 : i = 0
    · subst hi0
      go_wp2
      go_ret
      exact ⟨g, n, c, P', L, rfl, HO.out, by omega, HF.out, HR.out, by omega, HG.out⟩
    · have hip : (0 : Int) < (i : Int) := by omega
      have hipN : 0 < i := by omega
      go_wp2_with fail
      refine (pick_any R P' a len cap _ _ HR.out (by omega) (by omega)).mono ?_
      rintro e w2 ⟨q2, rfl, hq2, R2, g2⟩
      obtain ⟨S2, hS2⟩ := Int.eq_ofNat_of_zero_le hq2.1
      subst hS2
      have hS2 : S2 ≤ 1 := by have := hq2.2 (by omega); omega
      have HO2 : Hid (OwnE w2 w.heap.size g n c L) := HO.out.gR g2 (by omega)
      have HG2 : Hid (w.grownBy w2 (some R)) := grown_trans HG.out g2
      have HR2 : Hid (RdAt w2 R a len cap (P' + 1)) := R2
      have hs2 := g2.size
      clear R2 g2 hq2 HO HG HR
      go_wp2_with fail
      refine (l3Entry_any R (P' + 1) a len cap _ _ HR2.out (by omega) (WalkArith.wf_i64 (by omega))).mono ?_
      rintro e w3 ⟨s, t, q, d, nn, P3, rfl, hE, R3, hP3, g3⟩
      have HE : Hid (EntF s t q d nn) := hE
      have HO3 : Hid (OwnE w3 w.heap.size g n c L) := HO2.out.gR g3 (by omega)
      have HG3 : Hid (w.grownBy w3 (some R)) := grown_trans HG2.out g3
      have hs3 := g3.size
      obtain ⟨X, hX⟩ : ∃ X, X = w3.heap.size := ⟨_, rfl⟩
      obtain ⟨W3, hW3⟩ : ∃ W3, W3 = w3.alloc (.cells #[.string s, .int .i64 q, .int .i64 d, .string t, .int .i64 nn] 30) := ⟨_, rfl⟩
      have k3 : Below w3.heap.size w3 W3 := by rw [hW3]; exact (Below.refl _ _).alloc (Nat.le_refl _) _
      have x0 : W3.cell? ⟨X, 0, none⟩ = some (.string s) := by rw [hW3, hX]; simp
      have x1 : W3.cell? ⟨X, 1, none⟩ = some (.int .i64 q) := by rw [hW3, hX]; simp
      have x2 : W3.cell? ⟨X, 2, none⟩ = some (.int .i64 d) := by rw [hW3, hX]; simp
      have x3 : W3.cell? ⟨X, 3, none⟩ = some (.string t) := by rw [hW3, hX]; simp
      have x4 : W3.cell? ⟨X, 4, none⟩ = some (.int .i64 nn) := by rw [hW3, hX]; simp
      have HR3 : Hid (RdAt W3 R a len cap P3) := R3.below k3
      have HO3' : Hid (OwnE W3 w.heap.size g n c L) := HO3.out.below k3
      have HG3' : Hid (w.grownBy W3 (some R)) := grown_trans HG3.out (grown_below k3)
      have hRX : R < X := by omega
      have hs3' := k3.size
      clear hE R3 g3 HO2 HG2 HR2 HO3 HG3 k3
      go_wp2_with fail
      rw [← hW3, ← hX]
      clear hW3 hX
      refine (pick_any R P3 a len cap _ _ HR3.out (by omega) (by omega)).mono ?_
      rintro e w4 ⟨q4, rfl, hq4, R4, g4⟩
      obtain ⟨S4, hS4⟩ := Int.eq_ofNat_of_zero_le hq4.1
      subst hS4
      have nXR : X ≠ R := by omega
      have zX := World.block_lt_of_cell? _ _ x0
      simp only at zX
      have y0 := (grown_cell g4 (x := ⟨X, 0, none⟩) zX nXR).trans x0
      have y1 := (grown_cell g4 (x := ⟨X, 1, none⟩) zX nXR).trans x1
      have y2 := (grown_cell g4 (x := ⟨X, 2, none⟩) zX nXR).trans x2
      have y3 := (grown_cell g4 (x := ⟨X, 3, none⟩) zX nXR).trans x3
      have y4 := (grown_cell g4 (x := ⟨X, 4, none⟩) zX nXR).trans x4
      have zX4 := World.block_lt_of_cell? _ _ y0
      simp only at zX4
      have HR4 : Hid (RdAt w4 R a len cap (P3 + 1)) := R4
      have HO4 : Hid (OwnE w4 w.heap.size g n c L) := HO3'.out.gR g4 (by omega)
      have HG4 : Hid (w.grownBy w4 (some R)) := grown_trans HG3'.out g4
      have hs4 := g4.size
      have hg4 := HO4.out.lt
      clear x0 x1 x2 x3 x4 R4 g4 HR3 HO3' HG3' zX hq4
      have k5 : Below w4.heap.size w4 (w4.alloc (.cells #[.string s, .int .i64 q, .int .i64 d, .string t, .int .i64 nn] 30)) := (Below.refl _ _).alloc (Nat.le_refl _) _
      by_cases hS0 : S4 = 0
      · subst hS0
        have HRN : Hid (EntsAt (w4.alloc (.cells #[.string s, .int .i64 q, .int .i64 d, .string t, .int .i64 nn] 30)) (some ⟨w4.heap.size, 0, none⟩) 1 1 [(s, q, d, t, nn)]) := ents_one w4 _ _ _ _ _ (entF_w HE.out)
        go_wp2_with (at_builtin; refine wpList_append_own _ rfl _ _ 23 rfl w.heap.size 30 i0 _ 5 56 Tryz.underlying23 hi hz0 hz1 hz2 rfl (by decide) _ _ _ rfl (HO4.out.below k5).owns ⟨w4.heap.size, 0, none⟩ 1 1 (flatE [(s, q, d, t, nn)]) rfl rfl (ents_news HRN.out) (flatE_one _) (by unfold maxLen; omega) (by omega) (by have := k5.size; omega) ?_)
        intro v' w5 hown hgrow hnil
        obtain ⟨g5, c5, rfl⟩ : ∃ g cap, v' = .slice (some ⟨g, 0, none⟩) (n + 1) cap := by
          rcases hown.2 with ⟨hv, h0⟩ | ⟨g, cap, cur, hv, _⟩
          · omega
          · exact ⟨g, cap, hv⟩
        have hgrow' : (w4.alloc (.cells #[.string s, .int .i64 q, .int .i64 d, .string t, .int .i64 nn] 30)).grownBy w5 (some g) := hgrow
        have HO5 : Hid (OwnE w5 w.heap.size g5 (n + 1) c5 (L ++ [(s, q, d, t, nn)])) := ⟨by rw [flatE_append]; exact hown, by simp [HO4.out.len], allF_w (allF_app HF.out (allF_one HE.out))⟩
        have HR5 : Hid (RdAt w5 R a len cap (P3 + 1)) := (HR4.out.below k5).grown hgrow' HLOW.out (fun k e => by cases e; omega)
        have HG5 : Hid (w.grownBy w5 (some R)) := grown_old (grown_trans HG4.out (grown_below k5)) (by omega) hgrow'
        clear hown hgrow hgrow' hnil HRN k5
        go_wp2
        go_roundw
        case rel => exact ⟨i - 1, sq + 1 + S2, n + 1, g5, c5, P3 + 1, L ++ [(s, q, d, t, nn)], by congr 1; omega, by congr 1, rfl, by omega, by omega, by omega, HO5.out, allF_app HF.out (allF_one HE.out), HR5.out, HG5.out⟩
        case measure => simp [intOf]; omega
      · have hS0I : ¬ (S4 : Int) = 0 := by omega
        have hS0b : ((S4 : Int) == 0) = false := by simpa using hS0I
        have hrowN : OwnE (w4.alloc (.cells #[.string s, .int .i64 q, .int .i64 d, .string t, .int .i64 nn] 30)) w.heap.size w4.heap.size 1 1 [(s, q, d, t, nn)] := by
          have := World.ownsRow_lit (base := w.heap.size) (e := 30) (size := 5) w4 #[.string s, .int .i64 q, .int .i64 d, .string t, .int .i64 nn] 1 (by omega) (by unfold maxLen; omega) rfl
          exact ⟨by simpa [flatE, entCells] using this, rfl, allF_w (allF_one HE.out)⟩
        have HRW : Hid (OwnE (w4.alloc (.cells #[.string s, .int .i64 q, .int .i64 d, .string t, .int .i64 nn] 30)) w.heap.size w4.heap.size 1 1 [(s, q, d, t, nn)]) := hrowN
        clear hrowN
        go_wp2_with (at_builtin; refine wpList_append_own _ rfl _ _ 23 rfl w.heap.size 30 i0 _ 5 56 Tryz.underlying23 hi hz0 hz1 hz2 rfl (by decide) _ _ _ rfl HRW.out.owns ⟨g, 0, none⟩ n c (flatE L) rfl (by rw [flatE_len, HO4.out.len]) (ents_news (HO4.out.below k5).entsAt) (flatE_one _) (by unfold maxLen; omega) (by omega) (by have := k5.size; omega) ?_)
        intro v' w5 hown hgrow hnil
        obtain ⟨g5, c5, rfl⟩ : ∃ g cap, v' = .slice (some ⟨g, 0, none⟩) (1 + n) cap := by
          rcases hown.2 with ⟨hv, h0⟩ | ⟨g, cap, cur, hv, _⟩
          · omega
          · exact ⟨g, cap, hv⟩
        have hgrow' : (w4.alloc (.cells #[.string s, .int .i64 q, .int .i64 d, .string t, .int .i64 nn] 30)).grownBy w5 (some w4.heap.size) := hgrow
        have HO5 : Hid (OwnE w5 w.heap.size g5 (1 + n) c5 ([(s, q, d, t, nn)] ++ L)) := ⟨by rw [flatE_append]; exact hown, by simp [HO4.out.len]; omega, allF_w (allF_app (allF_one HE.out) HF.out)⟩
        have HR5 : Hid (RdAt w5 R a len cap (P3 + 1)) := (HR4.out.below k5).grown hgrow' HLOW.out (fun k e => by cases e; omega)
        have HG5 : Hid (w.grownBy w5 (some R)) := grown_old (grown_trans HG4.out (grown_below k5)) (by omega) hgrow'
        clear hown hgrow hgrow' hnil HRW k5
        go_wp2
        go_roundw
        case rel => exact ⟨i - 1, sq + 1 + S2, 1 + n, g5, c5, P3 + 1, [(s, q, d, t, nn)] ++ L, by congr 1; omega, by congr 1, rfl, by omega, by omega, by omega, HO5.out, allF_app (allF_one HE.out) HF.out, HR5.out, HG5.out⟩
        case measure => simp [intOf]; omega
end Go.Proofs.YthhiahjafhkbbaaGreat

namespace Go.Proofs.YthhiahjafhkbbaaGreat
open Go.RowKit

/-- A key that is drawn: it is not 'other'. -/
def KeyX (s : ByteArray) : Prop := Few s ∧ ¬ s.data.toList = [111, 116, 104, 101, 114]
/-- A small number. -/
def Sm (n : Int) : Prop := -1000 ≤ n ∧ n ≤ 1000
theorem Sm.wf {n : Int} (h : Sm n) : (Lit.int .i64 n).wf = true := WalkArith.wf_i64 (by unfold Sm at h; omega)
/-- An entry that may be drawn, all but its time. -/
def EntX (k t : ByteArray) (q d n : Int) : Prop := EntF k t q d n ∧ KeyX k ∧ Kd d ∧ (d = 2 → n = 0) ∧ Sm n ∧ (d ≠ 1 → t = ⟨#[]⟩) ∧ (keyB k = true ∧ t.size ≤ 60 ∧ -100 ≤ n ∧ n ≤ 100)
def KeyY (s : ByteArray) : Prop := KeyX s ∧ keyB s = true
def SmY (n : Int) : Prop := -100 ≤ n ∧ n ≤ 100
theorem SmY.sm {n : Int} (h : SmY n) : Sm n := by unfold SmY at h; unfold Sm; omega
def TxY (s : ByteArray) : Prop := Few s ∧ s.size ≤ 60
def EntRX (q0 : Int) (R : Nat) (a : Option Addr) (len cap P : Nat) (w : World) (e : Ending) (w' : World) : Prop :=
  ∃ k t q d n P', e = .returned (.agg #[.string k, .int .i64 q, .int .i64 d, .string t, .int .i64 n]) ∧ (EntX k t q d n ∧ q = q0) ∧ RdAt w' R a len cap P' ∧ P' ≤ P + 5 ∧ w.grownBy w' (some R)

set_option maxRecDepth 100000 in
set_option maxHeartbeats 400000 in
theorem l3Key_y (R P : Nat) (a : Option Addr) (len cap : Nat) (w : World) (h : RdAt w R a len cap P) (hP : P < 100000) :
    Calls Tryz.prog 140 #[.pointer (some ⟨R, 0, none⟩)] w fun e w' => ∃ z : ByteArray, e = .returned (.string z) ∧ KeyY z ∧ RdAt w' R a len cap (P + 1) ∧ w.grownBy w' (some R) := by
  go_enter Tryz.func140, Tryz.ntmps140
  go_wp2_with fail
  have hb0 : Below w.heap.size w (w.alloc (.cells (([⟨#[97]⟩, ⟨#[98]⟩, ⟨#[97, 98]⟩, ⟨#[98, 47, 97, 47, 49]⟩, ⟨#[98, 47, 97, 98, 47, 49]⟩, ⟨#[99]⟩] : List ByteArray).map Value.string).toArray 9)) := (Below.refl _ _).alloc (Nat.le_refl _) _
  refine (of_any KeyY R P a len cap w.heap.size 0 6 6 _ (h.below hb0) hP (by omega) (by omega) (by have := h.lt; omega) (by simp) (strs_new w 9 [⟨#[97]⟩, ⟨#[98]⟩, ⟨#[97, 98]⟩, ⟨#[98, 47, 97, 47, 49]⟩, ⟨#[98, 47, 97, 98, 47, 49]⟩, ⟨#[99]⟩] KeyY ?_)).mono ?_
  · intro s hs
    simp only [List.mem_cons, List.not_mem_nil, or_false] at hs
    rcases hs with rfl | rfl | rfl | rfl | rfl | rfl <;> (unfold KeyY KeyX Few; decide)
  rintro e w1 ⟨z, rfl, hz, hR1, hg1⟩
  go_wp2
  go_ret
  exact ⟨z, rfl, hz, hR1, grown_trans (grown_below hb0) hg1⟩

theorem l3Key_x (R P : Nat) (a : Option Addr) (len cap : Nat) (w : World) (h : RdAt w R a len cap P) (hP : P < 100000) :
    Calls Tryz.prog 140 #[.pointer (some ⟨R, 0, none⟩)] w fun e w' => ∃ z : ByteArray, e = .returned (.string z) ∧ KeyX z ∧ RdAt w' R a len cap (P + 1) ∧ w.grownBy w' (some R) := by
  refine (l3Key_y R P a len cap w h hP).mono ?_
  rintro e w1 ⟨z, rfl, hz, h1, h2⟩
  exact ⟨z, rfl, hz.1, h1, h2⟩

set_option maxRecDepth 100000 in
set_option maxHeartbeats 2000000 in
theorem l3Entry_x (R P : Nat) (a : Option Addr) (len cap : Nat) (q : Int) (w : World) (h : RdAt w R a len cap P) (hP : P < 99000) (hq : (Lit.int .i64 q).wf = true) :
    Calls Tryz.prog 113 #[.pointer (some ⟨R, 0, none⟩), .int .i64 q] w fun e w' => EntRX q R a len cap P w e w' := by
  have hRw := h.lt
  obtain ⟨X, hX⟩ : ∃ X, X = w.heap.size := ⟨_, rfl⟩
  have HFX : Hid (∀ b off, a = some ⟨b, off, none⟩ → 0 < len → b ≠ X) := h.far (by omega)
  have hXR : X ≠ R := by omega
  have HQ : Hid ((Lit.int .i64 q).wf = true) := hq
  have HR0 : Hid (RdAt w R a len cap P) := h
  clear h hq
  go_enter Tryz.func113, Tryz.ntmps113
  go_wp2_with fail
  obtain ⟨W0, hW0⟩ : ∃ W, W = w.alloc (.cells #[.string ⟨#[]⟩, .int .i64 0, .int .i64 0, .string ⟨#[]⟩, .int .i64 0] 30) := ⟨_, rfl⟩
  have k0 : Below w.heap.size w W0 := by rw [hW0]; exact (Below.refl _ _).alloc (Nat.le_refl _) _
  have B0 : Box5 W0 X (.string ⟨#[]⟩) (.int .i64 0) (.int .i64 0) (.string ⟨#[]⟩) (.int .i64 0) := by rw [hW0, hX]; exact Box5.new _ _ _ _ _ _ _
  have hXW : X < W0.heap.size := B0.lt
  rw [← hW0, ← hX]
  have HG0 : Hid (w.grownBy W0 (some R)) := grown_below k0
  have HXw : Hid (w.heap.size ≤ X) := by show w.heap.size ≤ X; omega
  refine (l3Key_y R P a len cap _ (HR0.out.below k0) (by omega)).mono ?_
  rintro e w1 ⟨kz, rfl, hkz, hR1, hg1⟩
  have B1 := B0.grown hg1 hXR
  have HG1 : Hid (w.grownBy w1 (some R)) := grown_trans HG0.out hg1
  have HKZ : Hid (KeyX kz) := hkz.1
  have HKY : Hid (keyB kz = true) := hkz.2
  clear hW0 hX k0 B0 hg1 HG0 HR0 hkz hXW
  go_wp2_with fail
  have ka : Below w1.heap.size w1 (w1.alloc (.cells (([1, 2, 3, 3, 3, 1] : List Int).map (Value.int .i64)).toArray 3)) := (Below.refl _ _).alloc (Nat.le_refl _) _
  refine (num_any Kd R (P + 1) a len cap w1.heap.size 0 6 6 _ (hR1.below ka) (by omega) (by omega) (by omega) (by have := hR1.lt; omega) (by simp) (ints_new w1 3 [1, 2, 3, 3, 3, 1] Kd ?_)).mono ?_
  · intro s hs
    simp only [List.mem_cons, List.not_mem_nil, or_false] at hs
    rcases hs with rfl | rfl | rfl | rfl | rfl | rfl <;> (unfold Kd; decide)
  rintro e w2 ⟨d, rfl, hd, hR2, hg2⟩
  have B2 := (B1.below ka).grown hg2 hXR
  have HG2 : Hid (w.grownBy w2 (some R)) := grown_trans (grown_trans HG1.out (grown_below ka)) hg2
  clear B1 ka hg2 HG1 hR1
  go_upto_region 2 with fail
  obtain ⟨Y, hY⟩ : ∃ Y, Y = w2.heap.size := ⟨_, rfl⟩
  obtain ⟨W2, hW2⟩ : ∃ W, W = w2.alloc (.cells #[.string kz, .int .i64 q, .int .i64 d, .string ⟨#[]⟩, .int .i64 0] 30) := ⟨_, rfl⟩
  have kb : Below w2.heap.size w2 W2 := by rw [hW2]; exact (Below.refl _ _).alloc (Nat.le_refl _) _
  have BY : Box5 W2 Y (.string kz) (.int .i64 q) (.int .i64 d) (.string ⟨#[]⟩) (.int .i64 0) := by rw [hW2, hY]; exact Box5.new _ _ _ _ _ _ _
  have BX := B2.below kb
  have hYR : Y ≠ R := by have := hR2.lt; omega
  have hYX : Y ≠ X := by have := B2.lt; omega
  have HFY : Hid (∀ b off, a = some ⟨b, off, none⟩ → 0 < len → b ≠ Y) := hR2.far (by omega)
  have HR2 : Hid (RdAt W2 R a len cap (P + 1 + 1)) := hR2.below kb
  have HG3 : Hid (w.grownBy W2 (some R)) := grown_trans HG2.out (grown_below kb)
  have hYw : w.heap.size ≤ Y := by have := HG2.out.size; omega
  clear kb B2 HG2 hR2
  rw [← hW2, ← hY]
  clear hW2 hY
  rcases hd with rfl | rfl | rfl
  · have hy2 := BY.c2
    have hlY := BY.lt
    go_wp2_with fail
    have kc1 : Below W2.heap.size W2 (W2.alloc (.cells ((([0, 1, 5, -3, 100, -7] : List Int).map (Value.int .i64)).toArray) 3)) := (Below.refl _ _).alloc (Nat.le_refl _) _
    refine (num_any SmY R (P + 1 + 1) a len cap W2.heap.size 0 6 6 _ (HR2.out.below kc1) (by omega) (by omega) (by omega) (by have := HR2.out.lt; omega) (by simp) (ints_new W2 3 [0, 1, 5, -3, 100, -7] SmY ?_)).mono ?_
    · intro s hs
      simp only [List.mem_cons, List.not_mem_nil, or_false] at hs
      rcases hs with rfl | rfl | rfl | rfl | rfl | rfl <;> (unfold SmY; decide)
    rintro e w3 ⟨n, rfl, hn, hR3, hg3⟩
    have BX3 := (BX.below kc1).grown hg3 hXR
    have BY3 := (BY.below kc1).grown hg3 hYR
    have HG4 : Hid (w.grownBy w3 (some R)) := grown_trans (grown_trans HG3.out (grown_below kc1)) hg3
    clear BX BY kc1 hg3 HG3 hy2 hlY
    obtain ⟨W3, hW3⟩ : ∃ W, W = w3.setCell ⟨Y, 4, none⟩ (.int .i64 n) := ⟨_, rfl⟩
    have BY4 : Box5 W3 Y (.string kz) (.int .i64 q) (.int .i64 1) (.string ⟨#[]⟩) (.int .i64 n) := by rw [hW3]; exact BY3.set4 _
    have BX4 : Box5 W3 X (.string ⟨#[]⟩) (.int .i64 0) (.int .i64 0) (.string ⟨#[]⟩) (.int .i64 0) := by rw [hW3]; exact BX3.other hYX.symm _ _
    have hR4 : RdAt W3 R a len cap (P + 1 + 1 + 1) := by rw [hW3]; exact hR3.other hYR HFY.out _ _
    have HG5 : Hid (w.grownBy W3 (some R)) := by show w.grownBy W3 (some R); rw [hW3]; exact grown_old HG4.out hYw (grown_put _ _ _ _)
    have y4 := BY3.c4
    have f4 := BY3.fr 4
    have lY := BY3.lt
    go_upto_region 4 with fail
    rw [← hW3]
    clear hW3 BX3 BY3 hR3 HG4 y4 f4 lY
    have hy2 := BY4.c2
    have hlY := BY4.lt
    go_wp2_with fail
    have kc2 : Below W3.heap.size W3 (W3.alloc (.cells ((([⟨#[]⟩, ⟨#[120]⟩, ⟨#[121, 121]⟩, ⟨#[122, 122, 122]⟩] : List ByteArray).map Value.string).toArray) 9)) := (Below.refl _ _).alloc (Nat.le_refl _) _
    refine (of_any TxY R (P + 1 + 1 + 1) a len cap W3.heap.size 0 4 4 _ (hR4.below kc2) (by omega) (by omega) (by omega) (by have := hR4.lt; omega) (by simp) (strs_new W3 9 [⟨#[]⟩, ⟨#[120]⟩, ⟨#[121, 121]⟩, ⟨#[122, 122, 122]⟩] TxY ?_)).mono ?_
    · intro s hs
      simp only [List.mem_cons, List.not_mem_nil, or_false] at hs
      rcases hs with rfl | rfl | rfl | rfl <;> (unfold TxY Few; decide)
    rintro e w5 ⟨t, rfl, ht, hR5, hg5⟩
    have BX5 := (BX4.below kc2).grown hg5 hXR
    have BY5 := (BY4.below kc2).grown hg5 hYR
    have HG6 : Hid (w.grownBy w5 (some R)) := grown_trans (grown_trans HG5.out (grown_below kc2)) hg5
    clear BX4 BY4 kc2 hg5 HG5 hy2 hlY
    obtain ⟨W5, hW5⟩ : ∃ W, W = w5.setCell ⟨Y, 3, none⟩ (.string t) := ⟨_, rfl⟩
    have BYv : Box5 W5 Y (.string kz) (.int .i64 q) (.int .i64 1) (.string t) (.int .i64 n) := by rw [hW5]; exact BY5.set3 _
    have BXv : Box5 W5 X (.string ⟨#[]⟩) (.int .i64 0) (.int .i64 0) (.string ⟨#[]⟩) (.int .i64 0) := by rw [hW5]; exact BX5.other hYX.symm _ _
    have hR6 : RdAt W5 R a len cap (P + 1 + 1 + 1 + 1) := by rw [hW5]; exact hR5.other hYR HFY.out _ _
    have HG7 : Hid (w.grownBy W5 (some R)) := by show w.grownBy W5 (some R); rw [hW5]; exact grown_old HG6.out hYw (grown_put _ _ _ _)
    have y3 := BY5.c3
    have f3 := BY5.fr 3
    have lY := BY5.lt
    go_upto_region 6 with fail
    rw [← hW5]
    clear hW5 BX5 BY5 hR5 HG6 y3 f3 lY
    have y0 := BYv.c0
    have y1 := BYv.c1
    have y2 := BYv.c2
    have y3 := BYv.c3
    have y4 := BYv.c4
    have x0 := BXv.c0
    have x1 := BXv.c1
    have x2 := BXv.c2
    have x3 := BXv.c3
    have x4 := BXv.c4
    have f0 := BXv.fr 0
    have f1 := BXv.fr 1
    have f2 := BXv.fr 2
    have f3 := BXv.fr 3
    have f4 := BXv.fr 4
    have lX := BXv.lt
    have lY := BYv.lt
    clear BYv
    go_wp2
    refine bodyPost_ret (v := .agg #[.string kz, .int .i64 q, .int .i64 1, .string t, .int .i64 n]) (by simp [results, Tryz.results113, go_sem, x0, x1, x2, x3, x4]) rfl ⟨kz, t, q, 1, n, P + 1 + 1 + 1 + 1, rfl, ⟨⟨⟨HKZ.out.1, ht.1, HQ.out, by decide, hn.sm.wf⟩, HKZ.out, Or.inl rfl, (fun h => by cases h), hn.sm, (fun h => absurd rfl h), HKY.out, ht.2, hn⟩, rfl⟩, ?_, by omega, ?_⟩
    · exact ((((hR6.other hXR HFX.out _ _).other hXR HFX.out _ _).other hXR HFX.out _ _).other hXR HFX.out _ _).other hXR HFX.out _ _
    · exact grown_old HG7.out HXw.out (grown_trans (grown_trans (grown_trans (grown_trans (grown_put _ _ _ _) (grown_put _ _ _ _)) (grown_put _ _ _ _)) (grown_put _ _ _ _)) (grown_put _ _ _ _))
  · have BYv := BY
    have BXv := BX
    have HR2' := HR2.out
    clear BY BX
    have y0 := BYv.c0
    have y1 := BYv.c1
    have y2 := BYv.c2
    have y3 := BYv.c3
    have y4 := BYv.c4
    have x0 := BXv.c0
    have x1 := BXv.c1
    have x2 := BXv.c2
    have x3 := BXv.c3
    have x4 := BXv.c4
    have f0 := BXv.fr 0
    have f1 := BXv.fr 1
    have f2 := BXv.fr 2
    have f3 := BXv.fr 3
    have f4 := BXv.fr 4
    have lX := BXv.lt
    have lY := BYv.lt
    clear BYv
    go_wp2
    refine bodyPost_ret (v := .agg #[.string kz, .int .i64 q, .int .i64 2, .string ⟨#[]⟩, .int .i64 0]) (by simp [results, Tryz.results113, go_sem, x0, x1, x2, x3, x4]) rfl ⟨kz, ⟨#[]⟩, q, 2, 0, P + 1 + 1, rfl, ⟨⟨⟨HKZ.out.1, (by unfold Few; decide), HQ.out, by decide, (by decide)⟩, HKZ.out, Or.inr (Or.inl rfl), (fun _ => rfl), (by unfold Sm; decide), (fun _ => rfl), HKY.out, (by decide), (by decide)⟩, rfl⟩, ?_, by omega, ?_⟩
    · exact ((((HR2'.other hXR HFX.out _ _).other hXR HFX.out _ _).other hXR HFX.out _ _).other hXR HFX.out _ _).other hXR HFX.out _ _
    · exact grown_old HG3.out HXw.out (grown_trans (grown_trans (grown_trans (grown_trans (grown_put _ _ _ _) (grown_put _ _ _ _)) (grown_put _ _ _ _)) (grown_put _ _ _ _)) (grown_put _ _ _ _))
  · have hy2 := BY.c2
    have hlY := BY.lt
    go_wp2_with fail
    have kc1 : Below W2.heap.size W2 (W2.alloc (.cells ((([0, 1, 5, -3, 100, -7] : List Int).map (Value.int .i64)).toArray) 3)) := (Below.refl _ _).alloc (Nat.le_refl _) _
    refine (num_any SmY R (P + 1 + 1) a len cap W2.heap.size 0 6 6 _ (HR2.out.below kc1) (by omega) (by omega) (by omega) (by have := HR2.out.lt; omega) (by simp) (ints_new W2 3 [0, 1, 5, -3, 100, -7] SmY ?_)).mono ?_
    · intro s hs
      simp only [List.mem_cons, List.not_mem_nil, or_false] at hs
      rcases hs with rfl | rfl | rfl | rfl | rfl | rfl <;> (unfold SmY; decide)
    rintro e w3 ⟨n, rfl, hn, hR3, hg3⟩
    have BX3 := (BX.below kc1).grown hg3 hXR
    have BY3 := (BY.below kc1).grown hg3 hYR
    have HG4 : Hid (w.grownBy w3 (some R)) := grown_trans (grown_trans HG3.out (grown_below kc1)) hg3
    clear BX BY kc1 hg3 HG3 hy2 hlY
    obtain ⟨W3, hW3⟩ : ∃ W, W = w3.setCell ⟨Y, 4, none⟩ (.int .i64 n) := ⟨_, rfl⟩
    have BY4 : Box5 W3 Y (.string kz) (.int .i64 q) (.int .i64 3) (.string ⟨#[]⟩) (.int .i64 n) := by rw [hW3]; exact BY3.set4 _
    have BX4 : Box5 W3 X (.string ⟨#[]⟩) (.int .i64 0) (.int .i64 0) (.string ⟨#[]⟩) (.int .i64 0) := by rw [hW3]; exact BX3.other hYX.symm _ _
    have hR4 : RdAt W3 R a len cap (P + 1 + 1 + 1) := by rw [hW3]; exact hR3.other hYR HFY.out _ _
    have HG5 : Hid (w.grownBy W3 (some R)) := by show w.grownBy W3 (some R); rw [hW3]; exact grown_old HG4.out hYw (grown_put _ _ _ _)
    have y4 := BY3.c4
    have f4 := BY3.fr 4
    have lY := BY3.lt
    go_upto_region 4 with fail
    rw [← hW3]
    clear hW3 BX3 BY3 hR3 HG4 y4 f4 lY
    have BYv := BY4
    have BXv := BX4
    clear BY4 BX4
    have y0 := BYv.c0
    have y1 := BYv.c1
    have y2 := BYv.c2
    have y3 := BYv.c3
    have y4 := BYv.c4
    have x0 := BXv.c0
    have x1 := BXv.c1
    have x2 := BXv.c2
    have x3 := BXv.c3
    have x4 := BXv.c4
    have f0 := BXv.fr 0
    have f1 := BXv.fr 1
    have f2 := BXv.fr 2
    have f3 := BXv.fr 3
    have f4 := BXv.fr 4
    have lX := BXv.lt
    have lY := BYv.lt
    clear BYv
    go_wp2
    refine bodyPost_ret (v := .agg #[.string kz, .int .i64 q, .int .i64 3, .string ⟨#[]⟩, .int .i64 n]) (by simp [results, Tryz.results113, go_sem, x0, x1, x2, x3, x4]) rfl ⟨kz, ⟨#[]⟩, q, 3, n, P + 1 + 1 + 1, rfl, ⟨⟨⟨HKZ.out.1, (by unfold Few; decide), HQ.out, by decide, hn.sm.wf⟩, HKZ.out, Or.inr (Or.inr rfl), (fun h => by cases h), hn.sm, (fun _ => rfl), HKY.out, (by decide), hn⟩, rfl⟩, ?_, by omega, ?_⟩
    · exact ((((hR4.other hXR HFX.out _ _).other hXR HFX.out _ _).other hXR HFX.out _ _).other hXR HFX.out _ _).other hXR HFX.out _ _
    · exact grown_old HG5.out HXw.out (grown_trans (grown_trans (grown_trans (grown_trans (grown_put _ _ _ _) (grown_put _ _ _ _)) (grown_put _ _ _ _)) (grown_put _ _ _ _)) (grown_put _ _ _ _))
end Go.Proofs.YthhiahjafhkbbaaGreat

namespace Go.Proofs.YthhiahjafhkbbaaGreat
open Go.RowKit

/-- Entries that may have been drawn, of unlike times from 1 to B. -/
def AllX (L : List EntD) (B : Nat) : Prop := (∀ e ∈ L, EntX e.1 e.2.2.2.1 e.2.1 e.2.2.1 e.2.2.2.2 ∧ 1 ≤ e.2.1 ∧ e.2.1 ≤ B) ∧ UnT L
theorem allX_nil : AllX [] 0 := ⟨(fun e he => by cases he), List.Pairwise.nil⟩
theorem AllX.allF {L : List EntD} {B : Nat} (h : AllX L B) : AllF L := fun e he => (h.1 e he).1.1
theorem AllX.mono {L : List EntD} {B B' : Nat} (h : AllX L B) (hb : B ≤ B') : AllX L B' := ⟨fun e he => ⟨(h.1 e he).1, (h.1 e he).2.1, by have := (h.1 e he).2.2; omega⟩, h.2⟩
theorem AllX.fit {L : List EntD} {B : Nat} (h : AllX L B) : ∀ e ∈ L, Fit e := fun e he => by
  obtain ⟨⟨_, _, hk, h2, hs, _⟩, h1, _⟩ := h.1 e he
  exact ⟨h1, hk, h2, hs⟩
theorem allX_snoc {L : List EntD} {B S : Nat} {k t : ByteArray} {q d n : Int} (h : AllX L B) (he : EntX k t q d n) (hq : q = (B : Int) + 1 + (S : Int)) : AllX (L ++ [(k, q, d, t, n)]) (B + 1 + S) := by
  refine ⟨fun e hm => ?_, ?_⟩
  · rcases List.mem_append.1 hm with h1 | h1
    · obtain ⟨h2, h3, h4⟩ := h.1 e h1
      exact ⟨h2, h3, by omega⟩
    · simp only [List.mem_singleton] at h1
      subst h1
      exact ⟨he, by simp only; omega, by simp only; omega⟩
  · unfold UnT
    rw [List.pairwise_append]
    refine ⟨h.2, List.pairwise_singleton _ _, fun x hx y hy => ?_⟩
    simp only [List.mem_singleton] at hy
    subst hy
    have := (h.1 x hx).2.2
    simp only
    omega
theorem allX_cons {L : List EntD} {B S : Nat} {k t : ByteArray} {q d n : Int} (h : AllX L B) (he : EntX k t q d n) (hq : q = (B : Int) + 1 + (S : Int)) : AllX ([(k, q, d, t, n)] ++ L) (B + 1 + S) := by
  have h1 := allX_snoc h he hq
  refine ⟨fun e hm => h1.1 e (by rw [List.mem_append] at hm ⊢; exact hm.symm), h1.2.perm List.perm_append_comm⟩
/-- Entries of unlike times that have been drawn, at most so many. -/
def ListRX (R : Nat) (a : Option Addr) (len cap P many : Nat) (w : World) (e : Ending) (w' : World) : Prop :=
  ∃ (g n c P' : Nat) (L : List EntD), e = .returned (.slice (some ⟨g, 0, none⟩) n c) ∧ OwnE w' w.heap.size g n c L ∧ n ≤ many ∧ AllX L (2 * many) ∧ RdAt w' R a len cap P' ∧ P' ≤ P + 1 + 8 * many ∧ w.grownBy w' (some R)

set_option maxRecDepth 100000 in
set_option maxHeartbeats 8000000 in
theorem l3List_x (R P many : Nat) (a : Option Addr) (len cap : Nat) (w : World) (h : RdAt w R a len cap P) (hlow : Low a len R) (hP : P < 80000) (hm : many ≤ 100) :
    Calls Tryz.prog 75 #[.pointer (some ⟨R, 0, none⟩), .int .i64 many] w (ListRX R a len cap P many w) := by
  obtain ⟨i0, hi, hz0, hz1, hz2⟩ := info_parts Tryz.infoEnt
  have hRw := h.lt
  have kt : Below w.heap.size w (w.alloc (.cells #[] 30)) := (Below.refl _ _).alloc (Nat.le_refl _) _
  have HO0 : Hid (OwnE (w.alloc (.cells #[] 30)) w.heap.size w.heap.size 0 0 []) := own_empty w _ (Nat.le_refl _)
  have R0 := h.below kt
  have G0 : w.grownBy (w.alloc (.cells #[] 30)) (some R) := grown_below kt
  have HLOW : Hid (Low a len R) := hlow
  clear kt h hlow
  go_enter Tryz.func75, Tryz.ntmps75
  go_wp2_with fail
  refine (pick_any R P a len cap _ _ R0 (by omega) (by omega)).mono ?_
  rintro e w1 ⟨q1, rfl, hq1, R1, g1⟩
  have hq0 := hq1.1
  have hqm : q1 ≤ many := by have := hq1.2 (by omega); omega
  obtain ⟨I0, hI0⟩ := Int.eq_ofNat_of_zero_le hq0
  subst hI0
  have HO1 : Hid (OwnE w1 w.heap.size w.heap.size 0 0 []) := HO0.out.gR g1 hRw
  have HG1 : Hid (w.grownBy w1 (some R)) := grown_trans G0 g1
  have HR1 : Hid (RdAt w1 R a len cap (P + 1)) := R1
  clear G0 g1 R0 R1 HO0 hq1 hq0
  go_wp2
  go_loopw [5, 6, 7] (fun ov sv iv wr => ∃ (i sq n g c P' : Nat) (L : List EntD), iv = .int .i64 i ∧ sv = .int .i64 sq ∧ ov = .slice (some ⟨g, 0, none⟩) n c ∧ i + n ≤ many ∧ sq ≤ 2 * n ∧ P' ≤ P + 1 + 8 * n ∧ OwnE wr w.heap.size g n c L ∧ AllX L sq ∧ RdAt wr R a len cap P' ∧ w.grownBy wr (some R)) (fun _ _ iv _ => (intOf iv).toNat)
  case atStart => exact ⟨I0, 0, 0, w.heap.size, 0, P + 1, [], rfl, rfl, rfl, by omega, by omega, by omega, HO1.out, allX_nil, HR1.out, HG1.out⟩
  case round =>
    obtain ⟨i, sq, n, g, c, P', L, rfl, rfl, rfl, hin, hsq, hP', hO, hF, hR, hG⟩ := hrel
    have HO : Hid (OwnE wr w.heap.size g n c L) := hO
    have HX : Hid (AllX L sq) := hF
    have HF : Hid (AllF L) := hF.allF
    have HR : Hid (RdAt wr R a len cap P') := hR
    have HG : Hid (w.grownBy wr (some R)) := hG
    have hgr := hO.lt
    have hwr := hG.size
    clear hO hF hR hG HO1 HG1 HR1
    by_cases hi0 : i = 0
    · subst hi0
      go_wp2
      go_ret
      exact ⟨g, n, c, P', L, rfl, HO.out, by omega, HX.out.mono (by omega), HR.out, by omega, HG.out⟩
    · have hip : (0 : Int) < (i : Int) := by omega
      have hipN : 0 < i := by omega
      go_wp2_with fail
      refine (pick_any R P' a len cap _ _ HR.out (by omega) (by omega)).mono ?_
      rintro e w2 ⟨q2, rfl, hq2, R2, g2⟩
      obtain ⟨S2, hS2⟩ := Int.eq_ofNat_of_zero_le hq2.1
      subst hS2
      have hS2 : S2 ≤ 1 := by have := hq2.2 (by omega); omega
      have HO2 : Hid (OwnE w2 w.heap.size g n c L) := HO.out.gR g2 (by omega)
      have HG2 : Hid (w.grownBy w2 (some R)) := grown_trans HG.out g2
      have HR2 : Hid (RdAt w2 R a len cap (P' + 1)) := R2
      have hs2 := g2.size
      clear R2 g2 hq2 HO HG HR
      go_wp2_with fail
      refine (l3Entry_x R (P' + 1) a len cap _ _ HR2.out (by omega) (WalkArith.wf_i64 (by omega))).mono ?_
      rintro e w3 ⟨s, t, q, d, nn, P3, rfl, hE, R3, hP3, g3⟩
      have HXE : Hid (EntX s t q d nn) := hE.1
      have HEQ : Hid (q = _) := hE.2
      have HE : Hid (EntF s t q d nn) := hE.1.1
      have HO3 : Hid (OwnE w3 w.heap.size g n c L) := HO2.out.gR g3 (by omega)
      have HG3 : Hid (w.grownBy w3 (some R)) := grown_trans HG2.out g3
      have hs3 := g3.size
      obtain ⟨X, hX⟩ : ∃ X, X = w3.heap.size := ⟨_, rfl⟩
      obtain ⟨W3, hW3⟩ : ∃ W3, W3 = w3.alloc (.cells #[.string s, .int .i64 q, .int .i64 d, .string t, .int .i64 nn] 30) := ⟨_, rfl⟩
      have k3 : Below w3.heap.size w3 W3 := by rw [hW3]; exact (Below.refl _ _).alloc (Nat.le_refl _) _
      have x0 : W3.cell? ⟨X, 0, none⟩ = some (.string s) := by rw [hW3, hX]; simp
      have x1 : W3.cell? ⟨X, 1, none⟩ = some (.int .i64 q) := by rw [hW3, hX]; simp
      have x2 : W3.cell? ⟨X, 2, none⟩ = some (.int .i64 d) := by rw [hW3, hX]; simp
      have x3 : W3.cell? ⟨X, 3, none⟩ = some (.string t) := by rw [hW3, hX]; simp
      have x4 : W3.cell? ⟨X, 4, none⟩ = some (.int .i64 nn) := by rw [hW3, hX]; simp
      have HR3 : Hid (RdAt W3 R a len cap P3) := R3.below k3
      have HO3' : Hid (OwnE W3 w.heap.size g n c L) := HO3.out.below k3
      have HG3' : Hid (w.grownBy W3 (some R)) := grown_trans HG3.out (grown_below k3)
      have hRX : R < X := by omega
      have hs3' := k3.size
      clear hE R3 g3 HO2 HG2 HR2 HO3 HG3 k3
      go_wp2_with fail
      rw [← hW3, ← hX]
      clear hW3 hX
      refine (pick_any R P3 a len cap _ _ HR3.out (by omega) (by omega)).mono ?_
      rintro e w4 ⟨q4, rfl, hq4, R4, g4⟩
      obtain ⟨S4, hS4⟩ := Int.eq_ofNat_of_zero_le hq4.1
      subst hS4
      have nXR : X ≠ R := by omega
      have zX := World.block_lt_of_cell? _ _ x0
      simp only at zX
      have y0 := (grown_cell g4 (x := ⟨X, 0, none⟩) zX nXR).trans x0
      have y1 := (grown_cell g4 (x := ⟨X, 1, none⟩) zX nXR).trans x1
      have y2 := (grown_cell g4 (x := ⟨X, 2, none⟩) zX nXR).trans x2
      have y3 := (grown_cell g4 (x := ⟨X, 3, none⟩) zX nXR).trans x3
      have y4 := (grown_cell g4 (x := ⟨X, 4, none⟩) zX nXR).trans x4
      have zX4 := World.block_lt_of_cell? _ _ y0
      simp only at zX4
      have HR4 : Hid (RdAt w4 R a len cap (P3 + 1)) := R4
      have HO4 : Hid (OwnE w4 w.heap.size g n c L) := HO3'.out.gR g4 (by omega)
      have HG4 : Hid (w.grownBy w4 (some R)) := grown_trans HG3'.out g4
      have hs4 := g4.size
      have hg4 := HO4.out.lt
      clear x0 x1 x2 x3 x4 R4 g4 HR3 HO3' HG3' zX hq4
      have k5 : Below w4.heap.size w4 (w4.alloc (.cells #[.string s, .int .i64 q, .int .i64 d, .string t, .int .i64 nn] 30)) := (Below.refl _ _).alloc (Nat.le_refl _) _
      by_cases hS0 : S4 = 0
      · subst hS0
        have HRN : Hid (EntsAt (w4.alloc (.cells #[.string s, .int .i64 q, .int .i64 d, .string t, .int .i64 nn] 30)) (some ⟨w4.heap.size, 0, none⟩) 1 1 [(s, q, d, t, nn)]) := ents_one w4 _ _ _ _ _ (entF_w HE.out)
        go_wp2_with (at_builtin; refine wpList_append_own _ rfl _ _ 23 rfl w.heap.size 30 i0 _ 5 56 Tryz.underlying23 hi hz0 hz1 hz2 rfl (by decide) _ _ _ rfl (HO4.out.below k5).owns ⟨w4.heap.size, 0, none⟩ 1 1 (flatE [(s, q, d, t, nn)]) rfl rfl (ents_news HRN.out) (flatE_one _) (by unfold maxLen; omega) (by omega) (by have := k5.size; omega) ?_)
        intro v' w5 hown hgrow hnil
        obtain ⟨g5, c5, rfl⟩ : ∃ g cap, v' = .slice (some ⟨g, 0, none⟩) (n + 1) cap := by
          rcases hown.2 with ⟨hv, h0⟩ | ⟨g, cap, cur, hv, _⟩
          · omega
          · exact ⟨g, cap, hv⟩
        have hgrow' : (w4.alloc (.cells #[.string s, .int .i64 q, .int .i64 d, .string t, .int .i64 nn] 30)).grownBy w5 (some g) := hgrow
        have HO5 : Hid (OwnE w5 w.heap.size g5 (n + 1) c5 (L ++ [(s, q, d, t, nn)])) := ⟨by rw [flatE_append]; exact hown, by simp [HO4.out.len], allF_w (allF_app HF.out (allF_one HE.out))⟩
        have HR5 : Hid (RdAt w5 R a len cap (P3 + 1)) := (HR4.out.below k5).grown hgrow' HLOW.out (fun k e => by cases e; omega)
        have HG5 : Hid (w.grownBy w5 (some R)) := grown_old (grown_trans HG4.out (grown_below k5)) (by omega) hgrow'
        clear hown hgrow hgrow' hnil HRN k5
        go_wp2
        go_roundw
        case rel => exact ⟨i - 1, sq + 1 + S2, n + 1, g5, c5, P3 + 1, L ++ [(s, q, d, t, nn)], by congr 1; omega, by congr 1, rfl, by omega, by omega, by omega, HO5.out, allX_snoc HX.out HXE.out (HEQ.out.trans (by omega)), HR5.out, HG5.out⟩
        case measure => simp [intOf]; omega
      · have hS0I : ¬ (S4 : Int) = 0 := by omega
        have hS0b : ((S4 : Int) == 0) = false := by simpa using hS0I
        have hrowN : OwnE (w4.alloc (.cells #[.string s, .int .i64 q, .int .i64 d, .string t, .int .i64 nn] 30)) w.heap.size w4.heap.size 1 1 [(s, q, d, t, nn)] := by
          have := World.ownsRow_lit (base := w.heap.size) (e := 30) (size := 5) w4 #[.string s, .int .i64 q, .int .i64 d, .string t, .int .i64 nn] 1 (by omega) (by unfold maxLen; omega) rfl
          exact ⟨by simpa [flatE, entCells] using this, rfl, allF_w (allF_one HE.out)⟩
        have HRW : Hid (OwnE (w4.alloc (.cells #[.string s, .int .i64 q, .int .i64 d, .string t, .int .i64 nn] 30)) w.heap.size w4.heap.size 1 1 [(s, q, d, t, nn)]) := hrowN
        clear hrowN
        go_wp2_with (at_builtin; refine wpList_append_own _ rfl _ _ 23 rfl w.heap.size 30 i0 _ 5 56 Tryz.underlying23 hi hz0 hz1 hz2 rfl (by decide) _ _ _ rfl HRW.out.owns ⟨g, 0, none⟩ n c (flatE L) rfl (by rw [flatE_len, HO4.out.len]) (ents_news (HO4.out.below k5).entsAt) (flatE_one _) (by unfold maxLen; omega) (by omega) (by have := k5.size; omega) ?_)
        intro v' w5 hown hgrow hnil
        obtain ⟨g5, c5, rfl⟩ : ∃ g cap, v' = .slice (some ⟨g, 0, none⟩) (1 + n) cap := by
          rcases hown.2 with ⟨hv, h0⟩ | ⟨g, cap, cur, hv, _⟩
          · omega
          · exact ⟨g, cap, hv⟩
        have hgrow' : (w4.alloc (.cells #[.string s, .int .i64 q, .int .i64 d, .string t, .int .i64 nn] 30)).grownBy w5 (some w4.heap.size) := hgrow
        have HO5 : Hid (OwnE w5 w.heap.size g5 (1 + n) c5 ([(s, q, d, t, nn)] ++ L)) := ⟨by rw [flatE_append]; exact hown, by simp [HO4.out.len]; omega, allF_w (allF_app (allF_one HE.out) HF.out)⟩
        have HR5 : Hid (RdAt w5 R a len cap (P3 + 1)) := (HR4.out.below k5).grown hgrow' HLOW.out (fun k e => by cases e; omega)
        have HG5 : Hid (w.grownBy w5 (some R)) := grown_old (grown_trans HG4.out (grown_below k5)) (by omega) hgrow'
        clear hown hgrow hgrow' hnil HRW k5
        go_wp2
        go_roundw
        case rel => exact ⟨i - 1, sq + 1 + S2, 1 + n, g5, c5, P3 + 1, [(s, q, d, t, nn)] ++ L, by congr 1; omega, by congr 1, rfl, by omega, by omega, by omega, HO5.out, allX_cons HX.out HXE.out (HEQ.out.trans (by omega)), HR5.out, HG5.out⟩
        case measure => simp [intOf]; omega
end Go.Proofs.YthhiahjafhkbbaaGreat
