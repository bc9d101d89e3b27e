/-
  The list of entries that a law draws, by a walk of its Go text: some entries in memory of their own.
-/
import Derived.Test.YthhiahjafhkbbaaPutE
import Derived.Test.YthhiahjafhkbbaaDrawEnt
import Derived.Test.YthhiahjafhkbbaaDrawB
namespace Go.Proofs.Ythhiahjafhkbbaa
open Go.RowKit

/-- All are entries that may have been drawn. -/
def AllF (L : List EntD) : Prop := ∀ e ∈ L, EntF e.1 e.2.2.2.1 e.2.1 e.2.2.1 e.2.2.2.2
theorem entF_w {k t : ByteArray} {q d n : Int} (h : EntF k t q d n) : EntW (k, q, d, t, n) := by
  obtain ⟨h1, h2, h3, h4, h5⟩ := h
  exact ⟨by unfold Few at h1; unfold maxLen; simp only; omega, h3, h4, by unfold Few at h2; unfold maxLen; simp only; omega, h5⟩
theorem allF_w {L : List EntD} (h : AllF L) : ∀ e ∈ L, EntW e := fun e he => entF_w (h e he)
theorem allF_app {A B : List EntD} (h : AllF A) (k : AllF B) : AllF (A ++ B) := fun e he => (List.mem_append.1 he).elim (h e) (k e)
theorem allF_one {k t : ByteArray} {q d n : Int} (h : EntF k t q d n) : AllF [(k, q, d, t, n)] := fun e he => by
  simp only [List.mem_singleton] at he
  subst he
  exact h
/-- Entries that have been drawn, at most so many. -/
def ListR (R : Nat) (a : Option Addr) (len cap P many : Nat) (w : World) (e : Ending) (w' : World) : Prop :=
  ∃ (g n c P' : Nat) (L : List EntD), e = .returned (.slice (some ⟨g, 0, none⟩) n c) ∧ OwnE w' w.heap.size g n c L ∧ n ≤ many ∧ AllF L ∧ RdAt w' R a len cap P' ∧ P' ≤ P + 1 + 8 * many ∧ w.grownBy w' (some R)
theorem OwnE.gR {w w' : World} {base g n c R : Nat} {L : List EntD} (h : OwnE w base g n c L) (hg : w.grownBy w' (some R)) (hR : R < g) : OwnE w' base g n c L := h.grown hg (fun e => by cases e; omega)

set_option maxRecDepth 100000 in
set_option maxHeartbeats 8000000 in
theorem l3List_any (R P many : Nat) (a : Option Addr) (len cap : Nat) (w : World) (h : RdAt w R a len cap P) (hlow : Low a len R) (hP : P < 80000) (hm : many ≤ 100) :
    Calls Try.prog 65 #[.pointer (some ⟨R, 0, none⟩), .int .i64 many] w (ListR R a len cap P many w) := by
  obtain ⟨i0, hi, hz0, hz1, hz2⟩ := info_parts Try.infoEnt
  have hRw := h.lt
  have kt : Below w.heap.size w (w.alloc (.cells #[] 54)) := (Below.refl _ _).alloc (Nat.le_refl _) _
  have HO0 : Hid (OwnE (w.alloc (.cells #[] 54)) w.heap.size w.heap.size 0 0 []) := own_empty w _ (Nat.le_refl _)
  have R0 := h.below kt
  have G0 : w.grownBy (w.alloc (.cells #[] 54)) (some R) := grown_below kt
  have HLOW : Hid (Low a len R) := hlow
  clear kt h hlow
  go_enter Try.func65, Try.ntmps65
  go_wp2_with fail
  refine (pick_any R P a len cap _ _ R0 (by omega) (by omega)).mono ?_
  rintro e w1 ⟨q1, rfl, hq1, R1, g1⟩
  have hq0 := hq1.1
  have hqm : q1 ≤ many := by have := hq1.2 (by omega); omega
  obtain ⟨I0, hI0⟩ := Int.eq_ofNat_of_zero_le hq0
  subst hI0
  have HO1 : Hid (OwnE w1 w.heap.size w.heap.size 0 0 []) := HO0.out.gR g1 hRw
  have HG1 : Hid (w.grownBy w1 (some R)) := grown_trans G0 g1
  have HR1 : Hid (RdAt w1 R a len cap (P + 1)) := R1
  clear G0 g1 R0 R1 HO0 hq1 hq0
  go_wp2
  go_loopw [5, 6, 7] (fun ov sv iv wr => ∃ (i sq n g c P' : Nat) (L : List EntD), iv = .int .i64 i ∧ sv = .int .i64 sq ∧ ov = .slice (some ⟨g, 0, none⟩) n c ∧ i + n ≤ many ∧ sq ≤ 2 * n ∧ P' ≤ P + 1 + 8 * n ∧ OwnE wr w.heap.size g n c L ∧ AllF L ∧ RdAt wr R a len cap P' ∧ w.grownBy wr (some R)) (fun _ _ iv _ => (intOf iv).toNat)
  case atStart => exact ⟨I0, 0, 0, w.heap.size, 0, P + 1, [], rfl, rfl, rfl, by omega, by omega, by omega, HO1.out, (fun e he => by cases he), HR1.out, HG1.out⟩
  case round =>
    obtain ⟨i, sq, n, g, c, P', L, rfl, rfl, rfl, hin, hsq, hP', hO, hF, hR, hG⟩ := hrel
    have HO : Hid (OwnE wr w.heap.size g n c L) := hO
    have HF : Hid (AllF L) := hF
    have HR : Hid (RdAt wr R a len cap P') := hR
    have HG : Hid (w.grownBy wr (some R)) := hG
    have hgr := hO.lt
    have hwr := hG.size
    clear hO hF hR hG HO1 HG1 HR1
    by_cases hi0 : i = 0
    · subst hi0
      go_wp2
      go_ret
      exact ⟨g, n, c, P', L, rfl, HO.out, by omega, HF.out, HR.out, by omega, HG.out⟩
    · have hip : (0 : Int) < (i : Int) := by omega
      have hipN : 0 < i := by omega
      go_wp2_with fail
      refine (pick_any R P' a len cap _ _ HR.out (by omega) (by omega)).mono ?_
      rintro e w2 ⟨q2, rfl, hq2, R2, g2⟩
      obtain ⟨S2, hS2⟩ := Int.eq_ofNat_of_zero_le hq2.1
      subst hS2
      have hS2 : S2 ≤ 1 := by have := hq2.2 (by omega); omega
      have HO2 : Hid (OwnE w2 w.heap.size g n c L) := HO.out.gR g2 (by omega)
      have HG2 : Hid (w.grownBy w2 (some R)) := grown_trans HG.out g2
      have HR2 : Hid (RdAt w2 R a len cap (P' + 1)) := R2
      have hs2 := g2.size
      clear R2 g2 hq2 HO HG HR
      go_wp2_with fail
      refine (l3Entry_any R (P' + 1) a len cap _ _ HR2.out (by omega) (WalkArith.wf_i64 (by omega))).mono ?_
      rintro e w3 ⟨s, t, q, d, nn, P3, rfl, hE, R3, hP3, g3⟩
      have HE : Hid (EntF s t q d nn) := hE
      have HO3 : Hid (OwnE w3 w.heap.size g n c L) := HO2.out.gR g3 (by omega)
      have HG3 : Hid (w.grownBy w3 (some R)) := grown_trans HG2.out g3
      have hs3 := g3.size
      obtain ⟨X, hX⟩ : ∃ X, X = w3.heap.size := ⟨_, rfl⟩
      obtain ⟨W3, hW3⟩ : ∃ W3, W3 = w3.alloc (.cells #[.string s, .int .i64 q, .int .i64 d, .string t, .int .i64 nn] 54) := ⟨_, rfl⟩
      have k3 : Below w3.heap.size w3 W3 := by rw [hW3]; exact (Below.refl _ _).alloc (Nat.le_refl _) _
      have x0 : W3.cell? ⟨X, 0, none⟩ = some (.string s) := by rw [hW3, hX]; simp
      have x1 : W3.cell? ⟨X, 1, none⟩ = some (.int .i64 q) := by rw [hW3, hX]; simp
      have x2 : W3.cell? ⟨X, 2, none⟩ = some (.int .i64 d) := by rw [hW3, hX]; simp
      have x3 : W3.cell? ⟨X, 3, none⟩ = some (.string t) := by rw [hW3, hX]; simp
      have x4 : W3.cell? ⟨X, 4, none⟩ = some (.int .i64 nn) := by rw [hW3, hX]; simp
      have HR3 : Hid (RdAt W3 R a len cap P3) := R3.below k3
      have HO3' : Hid (OwnE W3 w.heap.size g n c L) := HO3.out.below k3
      have HG3' : Hid (w.grownBy W3 (some R)) := grown_trans HG3.out (grown_below k3)
      have hRX : R < X := by omega
      have hs3' := k3.size
      clear hE R3 g3 HO2 HG2 HR2 HO3 HG3 k3
      go_wp2_with fail
      rw [← hW3, ← hX]
      clear hW3 hX
      refine (pick_any R P3 a len cap _ _ HR3.out (by omega) (by omega)).mono ?_
      rintro e w4 ⟨q4, rfl, hq4, R4, g4⟩
      obtain ⟨S4, hS4⟩ := Int.eq_ofNat_of_zero_le hq4.1
      subst hS4
      have nXR : X ≠ R := by omega
      have zX := World.block_lt_of_cell? _ _ x0
      simp only at zX
      have y0 := (grown_cell g4 (x := ⟨X, 0, none⟩) zX nXR).trans x0
      have y1 := (grown_cell g4 (x := ⟨X, 1, none⟩) zX nXR).trans x1
      have y2 := (grown_cell g4 (x := ⟨X, 2, none⟩) zX nXR).trans x2
      have y3 := (grown_cell g4 (x := ⟨X, 3, none⟩) zX nXR).trans x3
      have y4 := (grown_cell g4 (x := ⟨X, 4, none⟩) zX nXR).trans x4
      have zX4 := World.block_lt_of_cell? _ _ y0
      simp only at zX4
      have HR4 : Hid (RdAt w4 R a len cap (P3 + 1)) := R4
      have HO4 : Hid (OwnE w4 w.heap.size g n c L) := HO3'.out.gR g4 (by omega)
      have HG4 : Hid (w.grownBy w4 (some R)) := grown_trans HG3'.out g4
      have hs4 := g4.size
      have hg4 := HO4.out.lt
      clear x0 x1 x2 x3 x4 R4 g4 HR3 HO3' HG3' zX hq4
      have k5 : Below w4.heap.size w4 (w4.alloc (.cells #[.string s, .int .i64 q, .int .i64 d, .string t, .int .i64 nn] 54)) := (Below.refl _ _).alloc (Nat.le_refl _) _
      by_cases hS0 : S4 = 0
      · subst hS0
        have HRN : Hid (EntsAt (w4.alloc (.cells #[.string s, .int .i64 q, .int .i64 d, .string t, .int .i64 nn] 54)) (some ⟨w4.heap.size, 0, none⟩) 1 1 [(s, q, d, t, nn)]) := ents_one w4 _ _ _ _ _ (entF_w HE.out)
        go_wp2_with (at_builtin; refine wpList_append_own _ rfl _ _ 25 rfl w.heap.size 54 i0 _ 5 56 Try.underlying25 hi hz0 hz1 hz2 rfl (by decide) _ _ _ rfl (HO4.out.below k5).owns ⟨w4.heap.size, 0, none⟩ 1 1 (flatE [(s, q, d, t, nn)]) rfl rfl (ents_news HRN.out) (flatE_one _) (by unfold maxLen; omega) (by omega) (by have := k5.size; omega) ?_)
        intro v' w5 hown hgrow hnil
        obtain ⟨g5, c5, rfl⟩ : ∃ g cap, v' = .slice (some ⟨g, 0, none⟩) (n + 1) cap := by
          rcases hown.2 with ⟨hv, h0⟩ | ⟨g, cap, cur, hv, _⟩
          · omega
          · exact ⟨g, cap, hv⟩
        have hgrow' : (w4.alloc (.cells #[.string s, .int .i64 q, .int .i64 d, .string t, .int .i64 nn] 54)).grownBy w5 (some g) := hgrow
        have HO5 : Hid (OwnE w5 w.heap.size g5 (n + 1) c5 (L ++ [(s, q, d, t, nn)])) := ⟨by rw [flatE_append]; exact hown, by simp [HO4.out.len], allF_w (allF_app HF.out (allF_one HE.out))⟩
        have HR5 : Hid (RdAt w5 R a len cap (P3 + 1)) := (HR4.out.below k5).grown hgrow' HLOW.out (fun k e => by cases e; omega)
        have HG5 : Hid (w.grownBy w5 (some R)) := grown_old (grown_trans HG4.out (grown_below k5)) (by omega) hgrow'
        clear hown hgrow hgrow' hnil HRN k5
        go_wp2
        go_roundw
        case rel => exact ⟨i - 1, sq + 1 + S2, n + 1, g5, c5, P3 + 1, L ++ [(s, q, d, t, nn)], by congr 1; omega, by congr 1, rfl, by omega, by omega, by omega, HO5.out, allF_app HF.out (allF_one HE.out), HR5.out, HG5.out⟩
        case measure => simp [intOf]; omega
      · have hS0I : ¬ (S4 : Int) = 0 := by omega
        have hS0b : ((S4 : Int) == 0) = false := by simpa using hS0I
        have hrowN : OwnE (w4.alloc (.cells #[.string s, .int .i64 q, .int .i64 d, .string t, .int .i64 nn] 54)) w.heap.size w4.heap.size 1 1 [(s, q, d, t, nn)] := by
          have := World.ownsRow_lit (base := w.heap.size) (e := 54) (size := 5) w4 #[.string s, .int .i64 q, .int .i64 d, .string t, .int .i64 nn] 1 (by omega) (by unfold maxLen; omega) rfl
          exact ⟨by simpa [flatE, entCells] using this, rfl, allF_w (allF_one HE.out)⟩
        have HRW : Hid (OwnE (w4.alloc (.cells #[.string s, .int .i64 q, .int .i64 d, .string t, .int .i64 nn] 54)) w.heap.size w4.heap.size 1 1 [(s, q, d, t, nn)]) := hrowN
        clear hrowN
        go_wp2_with (at_builtin; refine wpList_append_own _ rfl _ _ 25 rfl w.heap.size 54 i0 _ 5 56 Try.underlying25 hi hz0 hz1 hz2 rfl (by decide) _ _ _ rfl HRW.out.owns ⟨g, 0, none⟩ n c (flatE L) rfl (by rw [flatE_len, HO4.out.len]) (ents_news (HO4.out.below k5).entsAt) (flatE_one _) (by unfold maxLen; omega) (by omega) (by have := k5.size; omega) ?_)
        intro v' w5 hown hgrow hnil
        obtain ⟨g5, c5, rfl⟩ : ∃ g cap, v' = .slice (some ⟨g, 0, none⟩) (1 + n) cap := by
          rcases hown.2 with ⟨hv, h0⟩ | ⟨g, cap, cur, hv, _⟩
          · omega
          · exact ⟨g, cap, hv⟩
        have hgrow' : (w4.alloc (.cells #[.string s, .int .i64 q, .int .i64 d, .string t, .int .i64 nn] 54)).grownBy w5 (some w4.heap.size) := hgrow
        have HO5 : Hid (OwnE w5 w.heap.size g5 (1 + n) c5 ([(s, q, d, t, nn)] ++ L)) := ⟨by rw [flatE_append]; exact hown, by simp [HO4.out.len]; omega, allF_w (allF_app (allF_one HE.out) HF.out)⟩
        have HR5 : Hid (RdAt w5 R a len cap (P3 + 1)) := (HR4.out.below k5).grown hgrow' HLOW.out (fun k e => by cases e; omega)
        have HG5 : Hid (w.grownBy w5 (some R)) := grown_old (grown_trans HG4.out (grown_below k5)) (by omega) hgrow'
        clear hown hgrow hgrow' hnil HRW k5
        go_wp2
        go_roundw
        case rel => exact ⟨i - 1, sq + 1 + S2, 1 + n, g5, c5, P3 + 1, [(s, q, d, t, nn)] ++ L, by congr 1; omega, by congr 1, rfl, by omega, by omega, by omega, HO5.out, allF_app (allF_one HE.out) HF.out, HR5.out, HG5.out⟩
        case measure => simp [intOf]; omega
end Go.Proofs.Ythhiahjafhkbbaa
